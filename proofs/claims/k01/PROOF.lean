import PyProof.Rows.All
import Wide.All
import OpenK.AllK
import Wide.FinOn
import HandS.ForMost
import HandS.IsInst
import HandS.Gcd
import HandS.Wide
import HandS.WideBits
import HandS.Defaults
import HandS.TupAny
import HandS.Conv
import HandS.Style
import HandS.EndBits
import PyProof.ReprRoads
import HandS.Flow
import HandS.Exc
import HandS.FStrTup
import PySem.Challenge.RW_hindprice_k01_what_any_value_is
set_option Elab.async false
set_option linter.all false
set_option maxRecDepth 100000
set_option maxHeartbeats 4000000
/-! Data: what values stand for, apart from addresses that may be written. -/
namespace DL
open PySem PySem.Spec PyProof.Rows L2

abbrev D := PyData
/-- a key as data -/
def kd : Key → D
  | .inl i => .int i
  | .inr x => .str x
mutual
/-- v stands for d, by objects that are none of O -/
inductive Dt (O : List Addr) (H : Hp) : V → D → Prop
  | non : Dt O H .non .none
  | bl (b : Bool) : Dt O H (.bl b) (.bool b)
  | int (i : Int) : Dt O H (.int i) (.int i)
  | str (x : Str) : Dt O H (.str x) (.str x)
  | lst {a : Addr} {xs : List V} {ds : List D} : a ∉ O → H a = some (.lst xs) → DtA O H xs ds → Dt O H (.ref a) (.list ds)
  | tup {a : Addr} {xs : List V} {ds : List D} : a ∉ O → H a = some (.tup xs) → DtA O H xs ds → Dt O H (.ref a) (.tuple ds)
  | dct {a : Addr} {kvs : List (Key × V)} {ds : List (D × D)} : a ∉ O → H a = some (.dK kvs) → DtK O H kvs ds → Dt O H (.ref a) (.dict ds)
inductive DtA (O : List Addr) (H : Hp) : List V → List D → Prop
  | nil : DtA O H [] []
  | cons {v : V} {vs : List V} {d : D} {ds : List D} : Dt O H v d → DtA O H vs ds → DtA O H (v :: vs) (d :: ds)
inductive DtK (O : List Addr) (H : Hp) : List (Key × V) → List (D × D) → Prop
  | nil : DtK O H [] []
  | cons {k : Key} {v : V} {d : D} {kvs : List (Key × V)} {ds : List (D × D)} : Dt O H v d → DtK O H kvs ds → DtK O H ((k, v) :: kvs) ((kd k, d) :: ds)
end
/-- all but the addresses of O stands as it was -/
def Le (O : List Addr) (H H' : Hp) : Prop := ∀ a o, a ∉ O → H a = some o → H' a = some o
theorem Le.refl (O : List Addr) (H : Hp) : Le O H H := fun _ _ _ h => h
theorem Le.trans {O : List Addr} {H H1 H2 : Hp} (x : Le O H H1) (y : Le O H1 H2) : Le O H H2 := fun a o n h => y a o n (x a o n h)
theorem Le.of {O : List Addr} {H H' : Hp} (s : Same H H') : Le O H H' := fun a o _ h => s a o h
theorem Same.upd {H : Hp} {p : Addr} {o : HO} (h : H p = none) : Same H (upd H p o) := fun a u e => by
  rw [upd_ne (ne_of_none e h)]; exact e
mutual
/-- what holds of the objects that a datum is made of carries it over -/
theorem Dt.mv {O O' : List Addr} {H H' : Hp} (k : ∀ a o, a ∉ O → H a = some o → a ∉ O' ∧ H' a = some o) : ∀ (d : D) (v : V), Dt O H v d → Dt O' H' v d
  | .none, _, h => by cases h; exact .non
  | .bool b, _, h => by cases h; exact .bl b
  | .int i, _, h => by cases h; exact .int i
  | .str x, _, h => by cases h; exact .str x
  | .list ds, _, h => by
    cases h with
    | lst n e r => exact .lst (k _ _ n e).1 (k _ _ n e).2 (DtA.mv k ds _ r)
  | .tuple ds, _, h => by
    cases h with
    | tup n e r => exact .tup (k _ _ n e).1 (k _ _ n e).2 (DtA.mv k ds _ r)
  | .dict ds, _, h => by
    cases h with
    | dct n e r => exact .dct (k _ _ n e).1 (k _ _ n e).2 (DtK.mv k ds _ r)
theorem DtA.mv {O O' : List Addr} {H H' : Hp} (k : ∀ a o, a ∉ O → H a = some o → a ∉ O' ∧ H' a = some o) : ∀ (ds : List D) (vs : List V), DtA O H vs ds → DtA O' H' vs ds
  | [], _, h => by cases h; exact .nil
  | d :: ds, _, h => by
    cases h with
    | cons a r => exact .cons (Dt.mv k d _ a) (DtA.mv k ds _ r)
theorem DtK.mv {O O' : List Addr} {H H' : Hp} (k : ∀ a o, a ∉ O → H a = some o → a ∉ O' ∧ H' a = some o) : ∀ (ds : List (D × D)) (vs : List (Key × V)), DtK O H vs ds → DtK O' H' vs ds
  | [], _, h => by cases h; exact .nil
  | (_, d) :: ds, _, h => by
    cases h with
    | cons a r => exact .cons (Dt.mv k d _ a) (DtK.mv k ds _ r)
end
section
variable {O O' : List Addr} {H H' : Hp} {v : V} {d : D} {vs : List V} {ds : List D} {p : Addr} {o : HO}
theorem Dt.le (h : Dt O H v d) (l : Le O H H') : Dt O H' v d := Dt.mv (fun a o n e => ⟨n, l a o n e⟩) d v h
theorem DtA.le (h : DtA O H vs ds) (l : Le O H H') : DtA O H' vs ds := DtA.mv (fun a o n e => ⟨n, l a o n e⟩) ds vs h
theorem Dt.anti (h : Dt O H v d) (s : ∀ a ∈ O', a ∈ O) : Dt O' H v d := Dt.mv (fun a o n e => ⟨fun z => n (s a z), e⟩) d v h
theorem DtA.anti (h : DtA O H vs ds) (s : ∀ a ∈ O', a ∈ O) : DtA O' H vs ds := DtA.mv (fun a o n e => ⟨fun z => n (s a z), e⟩) ds vs h
/-- a new address may be set apart -/
theorem Dt.new (h : Dt O H v d) (hp : H p = none) : Dt (p :: O) (upd H p o) v d := Dt.mv (fun a u n e => by
  have z : a ≠ p := ne_of_none e hp
  exact ⟨fun m => (List.mem_cons.mp m).elim z n, by rw [upd_ne z]; exact e⟩) d v h
theorem DtA.new (h : DtA O H vs ds) (hp : H p = none) : DtA (p :: O) (upd H p o) vs ds := DtA.mv (fun a u n e => by
  have z : a ≠ p := ne_of_none e hp
  exact ⟨fun m => (List.mem_cons.mp m).elim z n, by rw [upd_ne z]; exact e⟩) ds vs h
/-- an address of O is written -/
theorem Dt.put (h : Dt O H v d) (hp : p ∈ O) : Dt O (upd H p o) v d := Dt.mv (fun a u n e => ⟨n, by
  have z : a ≠ p := fun q => n (q ▸ hp)
  rw [upd_ne z]; exact e⟩) d v h
theorem DtA.put (h : DtA O H vs ds) (hp : p ∈ O) : DtA O (upd H p o) vs ds := DtA.mv (fun a u n e => ⟨n, by
  have z : a ≠ p := fun q => n (q ▸ hp)
  rw [upd_ne z]; exact e⟩) ds vs h
theorem DtA.len : ∀ {vs : List V} {ds : List D}, DtA O H vs ds → vs.length = ds.length
  | _, _, .nil => rfl
  | _, _, .cons _ r => congrArg (· + 1) r.len
theorem DtA.app : ∀ {vs ws : List V} {ds es : List D}, DtA O H vs ds → DtA O H ws es → DtA O H (vs ++ ws) (ds ++ es)
  | _, _, _, _, .nil, s => s
  | _, _, _, _, .cons a r, s => .cons a (r.app s)
theorem DtA.get : ∀ {vs : List V} {ds : List D} {i : Nat} {d : D}, DtA O H vs ds → ds[i]? = some d → ∃ v, vs[i]? = some v ∧ Dt O H v d
  | _, _, _, _, .nil, e => by simp at e
  | _, _, 0, _, .cons a _, e => by
    have z := Option.some.inj e
    subst z
    exact ⟨_, rfl, a⟩
  | _, _, i + 1, _, .cons _ r, e => r.get (i := i) e
theorem DtA.take : ∀ {vs : List V} {ds : List D} (n : Nat), DtA O H vs ds → DtA O H (vs.take n) (ds.take n)
  | _, _, 0, _ => .nil
  | _, _, _ + 1, .nil => .nil
  | _, _, n + 1, .cons r t => .cons r (DtA.take n t)
theorem DtA.drop : ∀ {vs : List V} {ds : List D} (n : Nat), DtA O H vs ds → DtA O H (vs.drop n) (ds.drop n)
  | _, _, 0, r => r
  | _, _, _ + 1, .nil => .nil
  | _, _, n + 1, .cons _ t => DtA.drop n t
end
/-! the data without dicts are the layer’s own -/
mutual
theorem Dt.dp {K : PySem.W.Frag} {O : List Addr} {H : Hp} : ∀ (d : D) (v : V), Dt O H v d → d.canLay0 = true → Dp K H v d
  | .none, _, h, _ => by cases h; exact .non
  | .bool b, _, h, _ => by cases h; exact .bl b
  | .int i, _, h, _ => by cases h; exact .int i
  | .str x, _, h, _ => by cases h; exact .str x
  | .list ds, _, h, c => by
    cases h with
    | lst n e r => exact .lst (.inl (.inl e)) (DtA.dp ds _ r (by simpa [PyData.canLay0] using c))
  | .tuple ds, _, h, c => by
    cases h with
    | tup n e r => exact .tup (.inl (.inl e)) (DtA.dp ds _ r (by simpa [PyData.canLay0] using c))
  | .dict ds, _, h, c => by simp [PyData.canLay0] at c
theorem DtA.dp {K : PySem.W.Frag} {O : List Addr} {H : Hp} : ∀ (ds : List D) (vs : List V), DtA O H vs ds → PyData.canLayAll0 ds = true → DpAll K H vs ds
  | [], _, h, _ => by cases h; exact .nil
  | d :: ds, _, h, c => by
    have c' : d.canLay0 = true ∧ PyData.canLayAll0 ds = true := by simpa [PyData.canLayAll0] using c
    cases h with
    | cons a r => exact .cons (Dt.dp d _ a c'.1) (DtA.dp ds _ r c'.2)
end
end DL

/-! The state by data, and what a reading comes to over it. -/
namespace DL
open PySem PySem.Spec PyProof.Rows L2
/-- a slot: forgotten; a datum; a list of one's own at p that is still written; a tray of draws at p with f draws left -/
inductive DV where
  | un | dat (d : D) | ls (b : Bool) (p : Addr) (ds : List D) | tray (b : Bool) (p : Addr) (f : Nat)
/-- a tray's data: the cells, the turn, what is left; f draws may come -/
def TrayD (f : Nat) (ds : List D) : Prop := ∃ (ns : List Int) (turn left : Int), ds = [.list (ns.map PyData.int), .int turn, .int left] ∧ ns.length ≤ 63 ∧ 0 ≤ turn ∧ turn + (f : Int) ≤ 1000000
def TrayAt (O : List Addr) (f : Nat) (H : Hp) (p : Addr) : Prop := ∃ (ds : List D) (xs : List V), TrayD f ds ∧ H p = some (.lst xs) ∧ DtA O H xs ds
/-- what a frame stands on: the heap at its entry, what may be written of it, what is set apart, lists under way -/
structure Fm where
  H0 : Hp
  M : List Addr
  O : List Addr
  ph : List (Addr × List D)
  tmp : List (V × D)
/-- a list of one's own: b tells whether it was made behind the entry -/
def LsAt (F : Fm) (H : Hp) (b : Bool) (p : Addr) (ds : List D) : Prop := p ∈ F.O ∧ (b = true → F.H0 p = none) ∧ (b = false → p ∈ F.M) ∧ ds.length ≤ 100000 ∧ ∃ xs, H p = some (.lst xs) ∧ DtA F.O H xs ds
def Sl (F : Fm) (H : Hp) : DV → Option V → Prop
  | .un, _ => True
  | .dat d, y => ∃ v, y = some v ∧ Dt F.O H v d
  | .ls b p ds, y => y = some (.ref p) ∧ LsAt F H b p ds
  | .tray b p f, y => y = some (.ref p) ∧ ∃ ds, TrayD f ds ∧ LsAt F H b p ds
/-- the addresses that slots own -/
def ownOf : DV → Option Addr
  | .ls _ p _ => some p
  | .tray _ p _ => some p
  | _ => none
structure Sx (F : Fm) (δ : List DV) (σ : L2.St) (H : Hp) : Prop where
  base : ∀ a o, a ∉ F.M → F.H0 a = some o → H a = some o
  trk : ∀ a ∈ F.O, ∃ o, H a = some o
  len : δ.length = σ.length
  sl : ∀ (i : Nat) (x : DV), δ[i]? = some x → ∃ y, σ[i]? = some y ∧ Sl F H x y
  own : ∀ (i j : Nat) (x y : DV) (p : Addr), δ[i]? = some x → δ[j]? = some y → ownOf x = some p → ownOf y = some p → i = j
  mo : ∀ a ∈ F.M, a ∈ F.O
  ph : ∀ q ∈ F.ph, LsAt F H true q.1 q.2
  phn : (F.ph.map (·.1)).Nodup
  pho : ∀ q ∈ F.ph, ∀ (i : Nat) (x : DV), δ[i]? = some x → ownOf x ≠ some q.1
  tmp : ∀ q ∈ F.tmp, Dt F.O H q.1 q.2
section
variable {F : Fm} {δ δ' : List DV} {σ : L2.St} {H H' : Hp} {p a : Addr} {o : HO}
theorem Sx.no0 (S : Sx F δ σ H) (h : H p = none) : F.H0 p = none := by
  cases q : F.H0 p with
  | none => rfl
  | some u =>
    by_cases m : p ∈ F.M
    · obtain ⟨o, e⟩ := S.trk p (S.mo p m)
      rw [h] at e; cases e
    · have := S.base p u m q
      rw [h] at this; cases this
theorem Sx.notO (S : Sx F δ σ H) (h : H p = none) : p ∉ F.O := fun m => by
  obtain ⟨o, e⟩ := S.trk p m
  rw [h] at e; cases e
theorem LsAt.le {b : Bool} {ds : List D} (h : LsAt F H b p ds) (s : Le F.O H H') (e : H' p = H p) : LsAt F H' b p ds := by
  obtain ⟨h1, h2, h3, h4, xs, e1, r⟩ := h
  exact ⟨h1, h2, h3, h4, xs, by rw [e]; exact e1, r.le s⟩
theorem LsAt.same {b : Bool} {ds : List D} (h : LsAt F H b p ds) (s : Same H H') : LsAt F H' b p ds := by
  obtain ⟨h1, h2, h3, h4, xs, e, r⟩ := h
  exact ⟨h1, h2, h3, h4, xs, s _ _ e, r.le (Le.of s)⟩
theorem Sl.same {x : DV} {y : Option V} (h : Sl F H x y) (s : Same H H') : Sl F H' x y := by
  cases x with
  | un => trivial
  | dat d =>
    obtain ⟨v, e, r⟩ := h
    exact ⟨v, e, r.le (Le.of s)⟩
  | ls b p ds => exact ⟨h.1, h.2.same s⟩
  | tray b p f =>
    obtain ⟨e, ds, t, l⟩ := h
    exact ⟨e, ds, t, l.same s⟩
theorem Sx.same (S : Sx F δ σ H) (s : Same H H') : Sx F δ σ H' where
  base := fun a o m e => s _ _ (S.base a o m e)
  trk := fun a m => let ⟨o, e⟩ := S.trk a m; ⟨o, s _ _ e⟩
  len := S.len
  sl := fun i x e => let ⟨y, e', r⟩ := S.sl i x e; ⟨y, e', r.same s⟩
  own := S.own
  mo := S.mo
  ph := fun q m => (S.ph q m).same s
  phn := S.phn
  pho := S.pho
  tmp := fun q m => (S.tmp q m).le (Le.of s)
end
/-- a reading of an expression, over the data δ, comes to a datum of P -/
def Rd (t : TE) (δ : List DV) (P : D → List DV → Prop) : Prop := ∀ (F : Fm) (σ : L2.St) (H : Hp), Sx F δ σ H → ∀ Q : VK, (∀ v H' d δ', P d δ' → Le F.O H H' → Sx F δ' σ H' → Dt F.O H' v d → Q v H') → t σ H Q
def RdT (t : TT) (δ : List DV) (P : Bool → List DV → Prop) : Prop := ∀ (F : Fm) (σ : L2.St) (H : Hp), Sx F δ σ H → ∀ Q : Bool → Hp → Prop, (∀ b H' δ', P b δ' → Le F.O H H' → Sx F δ' σ H' → Q b H') → t σ H Q
def RdA (t : TA) (δ : List DV) (P : List D → List DV → Prop) : Prop := ∀ (F : Fm) (σ : L2.St) (H : Hp), Sx F δ σ H → ∀ Q : List V → Hp → Prop, (∀ vs H' ds δ', P ds δ' → Le F.O H H' → Sx F δ' σ H' → DtA F.O H' vs ds → Q vs H') → t σ H Q
/-- an operator, a function, by data: it may make new objects and changes none -/
def OpD (r : R2) (R : D → D → (D → Prop) → Prop) : Prop := ∀ (O : List Addr) (H : Hp) (x y : V) (d e : D) (P : D → Prop) (Q : VK), (∀ a ∈ O, ∃ o, H a = some o) → Dt O H x d → Dt O H y e → R d e P → (∀ w H' z, P z → Same H H' → Dt O H' w z → Q w H') → r x y H Q
def CaD (r : List V → Hp → VK → Prop) (R : List D → (D → Prop) → Prop) : Prop := ∀ (O : List Addr) (H : Hp) (vs : List V) (ds : List D) (P : D → Prop) (Q : VK), (∀ a ∈ O, ∃ o, H a = some o) → DtA O H vs ds → R ds P → (∀ w H' z, P z → Same H H' → Dt O H' w z → Q w H') → r vs H Q
/-- the promise of a def over data -/
def SpD (n : Nat) (R : List D → (D → Prop) → Prop) : Sp := fun vs H Q _ => vs.length = n ∧ ∃ (O : List Addr) (ds : List D) (P : D → Prop), (∀ a ∈ O, ∃ o, H a = some o) ∧ DtA O H vs ds ∧ R ds P ∧ ∀ v H' d, P d → Same H H' → Dt O H' v d → Q v H'
/-- the promise of a def over a tray of draws and data, by at most c draws -/
def SpT (n c : Nat) (R : List D → (D → Prop) → Prop) : Sp := fun vs H Q _ => ∃ (t : Addr) (ws : List V), vs = .ref t :: ws ∧ ws.length = n ∧ ∃ (O : List Addr) (f : Nat) (ds : List D) (P : D → Prop), (∀ a ∈ O, ∃ o, H a = some o) ∧ t ∈ O ∧ TrayAt O f H t ∧ c ≤ f ∧ DtA O H ws ds ∧ R ds P ∧
  ∀ v H' d, P d → Le [t] H H' → TrayAt O (f - c) H' t → Dt O H' v d → Q v H'

section
variable {δ : List DV} {P : D → List DV → Prop} {ta tb te : TE} {i : Nat}
theorem rd_var {d : D} (h : δ[i]? = some (.dat d)) (p : P d δ) : Rd (tVar i) δ P := fun F σ H S Q k => by
  obtain ⟨y, ey, v, rfl, r⟩ := S.sl i _ h
  exact ⟨v, ey, k v H d δ p (Le.refl _ _) S r⟩
theorem rd_int {n : Int} (p : P (.int n) δ) : Rd (tC (.int n)) δ P := fun F σ H S Q k => k _ _ _ _ p (Le.refl _ _) S (.int n)
theorem rd_bl {b : Bool} (p : P (.bool b) δ) : Rd (tC (.bl b)) δ P := fun F σ H S Q k => k _ _ _ _ p (Le.refl _ _) S (.bl b)
theorem rd_str {x : Str} (p : P (.str x) δ) : Rd (tC (.str x)) δ P := fun F σ H S Q k => k _ _ _ _ p (Le.refl _ _) S (.str x)
theorem rd_non (p : P .none δ) : Rd (tC .non) δ P := fun F σ H S Q k => k _ _ _ _ p (Le.refl _ _) S .non
theorem rd_imp {P' : D → List DV → Prop} (h : Rd te δ P') (k : ∀ d δ', P' d δ' → P d δ') : Rd te δ P := fun F σ H S Q q => h F σ H S Q fun v H' d δ' p => q v H' d δ' (k d δ' p)
theorem rd_op {r : R2} {R : D → D → (D → Prop) → Prop} (hr : OpD r R) (h : Rd ta δ fun x δ1 => Rd tb δ1 fun y δ2 => R x y fun z => P z δ2) : Rd (tOp r ta tb) δ P := fun F σ H S Q k =>
  h F σ H S _ fun v H1 x δ1 hb l1 S1 r1 => hb F σ H1 S1 _ fun u H2 y δ2 hR l2 S2 r2 => hr F.O H2 v u x y _ Q S2.trk (r1.le l2) r2 hR fun w H' z p s r => k w H' z δ2 p ((l1.trans l2).trans (Le.of s)) (S2.same s) r
theorem rd_un {r : V → Hp → VK → Prop} {R : D → (D → Prop) → Prop} (hr : ∀ (O : List Addr) (H : Hp) (x : V) (d : D) (P : D → Prop) (Q : VK), (∀ a ∈ O, ∃ o, H a = some o) → Dt O H x d → R d P → (∀ w H' z, P z → Same H H' → Dt O H' w z → Q w H') → r x H Q)
    (h : Rd ta δ fun x δ1 => R x fun z => P z δ1) : Rd (tUn r ta) δ P := fun F σ H S Q k =>
  h F σ H S _ fun v H1 x δ1 hR l1 S1 r1 => hr F.O H1 v x _ Q S1.trk r1 hR fun w H' z p s r => k w H' z δ1 p (l1.trans (Le.of s)) (S1.same s) r
theorem rd_cb {r : List V → Hp → VK → Prop} {R : List D → (D → Prop) → Prop} {tr : TA} (hr : CaD r R) (h : RdA tr δ fun xs δ1 => R xs fun z => P z δ1) : Rd (tCB r tr) δ P := fun F σ H S Q k =>
  h F σ H S _ fun vs H1 xs δ1 hR l1 S1 r1 => hr F.O H1 vs xs _ Q S1.trk r1 hR fun w H' z p s r => k w H' z δ1 p (l1.trans (Le.of s)) (S1.same s) r
theorem ra_nil {P : List D → List DV → Prop} (p : P [] δ) : RdA tNil δ P := fun F σ H S Q k => k [] H [] δ p (Le.refl _ _) S .nil
theorem ra_cons {P : List D → List DV → Prop} {tr : TA} (h : Rd ta δ fun x δ1 => RdA tr δ1 fun xs δ2 => P (x :: xs) δ2) : RdA (tCons ta tr) δ P := fun F σ H S Q k =>
  h F σ H S _ fun v H1 x δ1 hr l1 S1 r1 => hr F σ H1 S1 _ fun vs H2 xs δ2 p l2 S2 r2 => k (v :: vs) H2 (x :: xs) δ2 p (l1.trans l2) S2 (.cons (r1.le l2) r2)
theorem rd_tup {tr : TA} (h : RdA tr δ fun xs δ1 => xs.length ≤ 100000 ∧ P (.tuple xs) δ1) : Rd (tTup tr) δ P := fun F σ H S Q k =>
  h F σ H S _ fun vs H1 xs δ1 ⟨hl, p⟩ l1 S1 r1 => ⟨Nat.le_trans (r1.len ▸ hl) (by rw [sizeLine_eq]; decide), fun q hq => by
    have s : Same H1 (upd H1 q (.tup vs)) := Same.upd hq
    exact k (.ref q) _ (.tuple xs) δ1 p (l1.trans (Le.of s)) (S1.same s) (.tup (S1.notO hq) upd_same (r1.le (Le.of s)))⟩
theorem rd_lst {tr : TA} (h : RdA tr δ fun xs δ1 => xs.length ≤ 100000 ∧ P (.list xs) δ1) : Rd (tLst tr) δ P := fun F σ H S Q k =>
  h F σ H S _ fun vs H1 xs δ1 ⟨hl, p⟩ l1 S1 r1 => ⟨Nat.le_trans (r1.len ▸ hl) (by rw [sizeLine_eq]; decide), fun q hq => by
    have s : Same H1 (upd H1 q (.lst vs)) := Same.upd hq
    exact k (.ref q) _ (.list xs) δ1 p (l1.trans (Le.of s)) (S1.same s) (.lst (S1.notO hq) upd_same (r1.le (Le.of s)))⟩
theorem rd_dnew (p : P (.dict []) δ) : Rd (fun _ H Q => ∀ d, H d = none → Q (.ref d) (upd H d (.dK []))) δ P := fun F σ H S Q k d hd => by
  have s : Same H (upd H d (.dK [])) := Same.upd hd
  exact k (.ref d) _ (.dict []) δ p (Le.of s) (S.same s) (.dct (S.notO hd) upd_same .nil)
theorem rd_call {n : Nat} {R : List D → (D → Prop) → Prop} {E : XK} {tr : TA} (h : RdA tr δ fun xs δ1 => xs.length = n ∧ R xs fun z => P z δ1) : Rd (tCall (SpD n R) [] E tr) δ P := fun F σ H S Q k =>
  h F σ H S _ fun vs H1 xs δ1 ⟨hl, hR⟩ l1 S1 r1 => by
    show SpD n R (vs ++ []) H1 Q E
    rw [List.append_nil]
    exact ⟨r1.len.trans hl, F.O, xs, _, S1.trk, r1, hR, fun v H' d p s r => k v H' d δ1 p (l1.trans (Le.of s)) (S1.same s) r⟩
end
end DL

/-! Calls by a tray, tests, operators, functions, statements. -/
namespace DL
open PySem PySem.Spec PyProof.Rows L2
section
variable {F : Fm} {δ : List DV} {P : D → List DV → Prop} {PT : Bool → List DV → Prop} {ta tb te : TE} {tt tu : TT} {i : Nat} {σ : L2.St} {H H' : Hp}
/-- the list at t, which the slot i owns, is written: behind that the slot has x' -/
theorem Sx.wrote {t : Addr} {x x' : DV} (S : Sx F δ σ H) (hi : δ[i]? = some x) (ox : ownOf x = some t) (ox' : ownOf x' = some t) (l : Le [t] H H') (T : ∀ y, Sl F H x y → Sl F H' x' y) : Sx F (δ.set i x') σ H' := by
  have at_t : ∃ (b : Bool) (ds : List D), LsAt F H b t ds := by
    obtain ⟨y, _, r⟩ := S.sl i _ hi
    cases x with
    | un => cases ox
    | dat d => cases ox
    | ls b p ds =>
      cases ox
      exact ⟨b, ds, r.2⟩
    | tray b p f =>
      cases ox
      obtain ⟨_, ds, _, r⟩ := r
      exact ⟨b, ds, r⟩
  obtain ⟨b, ds, tO, tn, tM, _, xs0, et, _⟩ := at_t
  have t0 : ∀ a o, a ∉ F.M → F.H0 a = some o → a ≠ t := fun a o m e z => by
    subst z
    cases b with
    | true => rw [tn rfl] at e; cases e
    | false => exact m (tM rfl)
  have k : ∀ a o, a ≠ t → H a = some o → H' a = some o := fun a o n e => l a o (by simpa using n) e
  have lO : Le F.O H H' := fun a o n e => k a o (fun z => n (z ▸ tO)) e
  have ls : ∀ b p ds, p ≠ t → LsAt F H b p ds → LsAt F H' b p ds := fun b p ds n ⟨h1, h2, h3, h4, xs, e, r⟩ => ⟨h1, h2, h3, h4, xs, k _ _ n e, r.le lO⟩
  have hl : i < δ.length := (List.getElem?_eq_some_iff.mp hi).1
  have get : ∀ j y p, (δ.set i x')[j]? = some y → ownOf y = some p → ∃ y', δ[j]? = some y' ∧ ownOf y' = some p := fun j y p e o => by
    by_cases z : i = j
    · subst z
      rw [List.getElem?_set_self hl] at e
      cases e
      rw [ox'] at o
      cases o
      exact ⟨_, hi, ox⟩
    · rw [List.getElem?_set_ne z] at e
      exact ⟨y, e, o⟩
  have th : ∃ o, H' t = some o := by
    obtain ⟨y, _, r⟩ := S.sl i _ hi
    have r' := T y r
    cases x' with
    | un => cases ox'
    | dat d => cases ox'
    | ls b p ds =>
      cases ox'
      obtain ⟨_, _, _, _, _, xs, e, _⟩ := r'
      exact ⟨_, e⟩
    | tray b p f =>
      cases ox'
      obtain ⟨_, ds, _, _, _, _, _, xs, e, _⟩ := r'
      exact ⟨_, e⟩
  refine ⟨fun a o m e => k _ _ (t0 a o m e) (S.base a o m e), fun a m => ?_, by rw [List.length_set]; exact S.len, fun j y e => ?_, fun j1 j2 y z p e1 e2 o1 o2 => ?_, S.mo, fun q m => ?_, S.phn, fun q m j y e o1 => ?_, fun q m => (S.tmp q m).le lO⟩
  · by_cases z : a = t
    · rw [z]; exact th
    · obtain ⟨o, e⟩ := S.trk a m
      exact ⟨o, k _ _ z e⟩
  · by_cases z : i = j
    · subst z
      rw [List.getElem?_set_self hl] at e
      cases e
      obtain ⟨y, ey, r⟩ := S.sl i _ hi
      exact ⟨y, ey, T y r⟩
    · rw [List.getElem?_set_ne z] at e
      obtain ⟨w, ew, r⟩ := S.sl j y e
      refine ⟨w, ew, ?_⟩
      have np : ∀ p, ownOf y = some p → p ≠ t := fun p o q => z (S.own i j _ _ t hi e ox (by rw [o, q]))
      cases y with
      | un => trivial
      | dat d =>
        obtain ⟨v, e1, r1⟩ := r
        exact ⟨v, e1, r1.le lO⟩
      | ls b p ds => exact ⟨r.1, ls b p ds (np p rfl) r.2⟩
      | tray b p g =>
        obtain ⟨e1, ds, t1, r1⟩ := r
        exact ⟨e1, ds, t1, ls b p ds (np p rfl) r1⟩
  · obtain ⟨y', e1', o1'⟩ := get j1 y p e1 o1
    obtain ⟨z', e2', o2'⟩ := get j2 z p e2 o2
    exact S.own j1 j2 y' z' p e1' e2' o1' o2'
  · exact ls _ _ _ (fun z => S.pho q m i _ hi (by rw [z]; exact ox)) (S.ph q m)
  · obtain ⟨y', e', o'⟩ := get j y q.1 e o1
    exact S.pho q m j y' e' o'
/-- a call has written the tray at t alone -/
theorem Sx.drawn {b : Bool} {t : Addr} {f f' : Nat} (S : Sx F δ σ H) (hi : δ[i]? = some (.tray b t f)) (l : Le [t] H H') (T : TrayAt F.O f' H' t) : Sx F (δ.set i (.tray b t f')) σ H' :=
  S.wrote hi rfl rfl l fun y ⟨e, ds, _, h1, h2, h3, h4, _⟩ => by
    obtain ⟨ds', xs', td, e', r'⟩ := T
    refine ⟨e, ds', td, h1, h2, h3, ?_, xs', e', r'⟩
    obtain ⟨ns, tn, lf, rfl, _⟩ := td
    exact (by decide : 3 ≤ 100000)
theorem rd_callT {n c : Nat} {R : List D → (D → Prop) → Prop} {E : XK} {tr : TA} {b : Bool} {p : Addr} {f0 : Nat} (hi : δ[i]? = some (.tray b p f0))
    (h : RdA tr δ fun xs δ1 => ∃ f, δ1[i]? = some (.tray b p f) ∧ c ≤ f ∧ xs.length = n ∧ R xs fun z => P z (δ1.set i (.tray b p (f - c)))) : Rd (fun σ H Q => (tCons (tVar i) tr) σ H fun vs H1 => SpT n c R vs H1 Q E) δ P := fun F σ H S Q k => by
  obtain ⟨y, ey, e1, ds0, td0, pO, _⟩ := S.sl i _ hi
  subst e1
  refine ⟨.ref p, ey, h F σ H S _ fun vs H1 xs δ1 ⟨f, h1, hc, hl, hR⟩ l1 S1 r1 => ?_⟩
  obtain ⟨y1, ey1, e2, ds1, td1, _, _, _, _, xs1, e3, r3⟩ := S1.sl i _ h1
  exact ⟨p, vs, rfl, r1.len.trans hl, F.O, f, xs, _, S1.trk, pO, ⟨ds1, xs1, td1, e3, r3⟩, hc, r1, hR, fun v H' d p' l T r =>
    k v H' d _ p' (l1.trans fun a o n e => l a o (fun (m : a ∈ [p]) => n (by rw [List.mem_singleton] at m; rw [m]; exact pO)) e) (S1.drawn h1 l T) r⟩
/-! ### tests -/
theorem rt_tt {te : TE} (h : Rd te δ fun x δ1 => ∃ b, x = .bool b ∧ PT b δ1) : RdT (tTest te) δ PT := fun F σ H S Q k => h F σ H S _ fun v H1 x δ1 ⟨b, e, p⟩ l1 S1 r1 => by
  subst e
  cases r1
  exact ⟨b, rfl, k b H1 δ1 p l1 S1⟩
theorem rt_B {te : TE} (h : Rd te δ fun x δ1 => ∃ b, x = .bool b ∧ PT b δ1) : RdT (tB te) δ PT := fun F σ H S Q k => h F σ H S _ fun v H1 x δ1 ⟨b, e, p⟩ l1 S1 r1 => by
  subst e
  cases r1
  exact ⟨b, rfl, k b H1 δ1 p l1 S1⟩
theorem rt_not (h : RdT tt δ fun b δ1 => PT (!b) δ1) : RdT (tNot tt) δ PT := fun F σ H S Q k => h F σ H S _ fun b H1 δ1 p l1 S1 => k (!b) H1 δ1 p l1 S1
theorem rt_and (h : RdT tt δ fun b δ1 => (b = true → RdT tu δ1 PT) ∧ (b = false → PT false δ1)) : RdT (tAnd tt tu) δ PT := fun F σ H S Q k => h F σ H S _ fun b H1 δ1 p l1 S1 => by
  cases b with
  | true => exact iteT (p.1 rfl F σ H1 S1 Q fun b H2 δ2 q l2 S2 => k b H2 δ2 q (l1.trans l2) S2)
  | false => exact iteF (k false H1 δ1 (p.2 rfl) l1 S1)
theorem rt_or (h : RdT tt δ fun b δ1 => (b = true → PT true δ1) ∧ (b = false → RdT tu δ1 PT)) : RdT (tOr tt tu) δ PT := fun F σ H S Q k => h F σ H S _ fun b H1 δ1 p l1 S1 => by
  cases b with
  | true => exact iteT (k true H1 δ1 (p.1 rfl) l1 S1)
  | false => exact iteF (p.2 rfl F σ H1 S1 Q fun b H2 δ2 q l2 S2 => k b H2 δ2 q (l1.trans l2) S2)
theorem rd_if (h : RdT tt δ fun b δ1 => (b = true → Rd ta δ1 P) ∧ (b = false → Rd tb δ1 P)) : Rd (tIf tt ta tb) δ P := fun F σ H S Q k => h F σ H S _ fun b H1 δ1 p l1 S1 => by
  cases b with
  | true => exact iteT (p.1 rfl F σ H1 S1 Q fun v H2 d δ2 q l2 S2 r => k v H2 d δ2 q (l1.trans l2) S2 r)
  | false => exact iteF (p.2 rfl F σ H1 S1 Q fun v H2 d δ2 q l2 S2 r => k v H2 d δ2 q (l1.trans l2) S2 r)
/-- a datum's truth -/
def truD : D → Bool
  | .none => false
  | .bool b => b
  | .int i => i != 0
  | .str y => (y.length : Int) != 0
  | .list ds => !ds.isEmpty
  | .tuple ds => !ds.isEmpty
  | .dict ds => !ds.isEmpty
def fitD : D → Prop
  | .str y => y.length ≤ 16777216
  | _ => True
theorem DtK.len {O : List Addr} {H : Hp} : ∀ {kvs : List (Key × V)} {ds : List (D × D)}, DtK O H kvs ds → kvs.isEmpty = ds.isEmpty
  | _, _, .nil => rfl
  | _, _, .cons _ _ => rfl
theorem tru_of {K : PySem.W.Frag} {O : List Addr} {v : V} {d : D} (r : Dt O H v d) (hf : fitD d) : TruV K v H (truD d) := by
  cases r with
  | non => rfl
  | bl b => rfl
  | int i => rfl
  | str x => exact ⟨by rw [sizeLine_eq]; exact hf, rfl⟩
  | @lst a xs ds n e q =>
    refine Or.inl ⟨xs, .inl (.inl e), ?_⟩
    cases q <;> rfl
  | @tup a xs ds n e q =>
    refine Or.inr (Or.inl ⟨xs, .inl (.inl e), ?_⟩)
    cases q <;> rfl
  | @dct a kvs ds n e q =>
    refine Or.inr (Or.inr ⟨kvs, e, ?_⟩)
    show (!ds.isEmpty) = !kvs.isEmpty
    rw [DtK.len q]
theorem rt_tru {K : PySem.W.Frag} {te : TE} (h : Rd te δ fun x δ1 => fitD x ∧ PT (truD x) δ1) : RdT (fun σ H Q => te σ H fun x H' => ∃ k, TruV K x H' k ∧ Q k H') δ PT := fun F σ H S Q k => h F σ H S _ fun v H1 x δ1 ⟨hf, p⟩ l1 S1 r1 =>
  ⟨truD x, tru_of r1 hf, k _ H1 δ1 p l1 S1⟩
theorem rd_andT {K : PySem.W.Frag} (h : Rd ta δ fun x δ1 => fitD x ∧ (truD x = true → Rd tb δ1 P) ∧ (truD x = false → P x δ1)) : Rd (tAndT K ta tb) δ P := fun F σ H S Q k => h F σ H S _ fun v H1 x δ1 ⟨hf, p1, p2⟩ l1 S1 r1 => by
  refine ⟨truD x, tru_of r1 hf, ?_⟩
  cases e : truD x with
  | true => exact iteT (p1 e F σ H1 S1 Q fun v H2 d δ2 q l2 S2 r => k v H2 d δ2 q (l1.trans l2) S2 r)
  | false => exact iteF (k v H1 x δ1 (p2 e) l1 S1 r1)
theorem rd_orT {K : PySem.W.Frag} (h : Rd ta δ fun x δ1 => fitD x ∧ (truD x = true → P x δ1) ∧ (truD x = false → Rd tb δ1 P)) : Rd (tOrT K ta tb) δ P := fun F σ H S Q k => h F σ H S _ fun v H1 x δ1 ⟨hf, p1, p2⟩ l1 S1 r1 => by
  refine ⟨truD x, tru_of r1 hf, ?_⟩
  cases e : truD x with
  | true => exact iteT (k v H1 x δ1 (p1 e) l1 S1 r1)
  | false => exact iteF (p2 e F σ H1 S1 Q fun v H2 d δ2 q l2 S2 r => k v H2 d δ2 q (l1.trans l2) S2 r)
theorem rd_notT {K : PySem.W.Frag} (h : Rd ta δ fun x δ1 => fitD x ∧ P (.bool (!truD x)) δ1) : Rd (tNotT K ta) δ P := fun F σ H S Q k => h F σ H S _ fun v H1 x δ1 ⟨hf, p⟩ l1 S1 r1 =>
  ⟨truD x, tru_of r1 hf, k _ H1 _ δ1 p l1 S1 (.bl _)⟩
end
end DL

/-! Operators and functions by data. -/
namespace DL
open PySem PySem.Spec PyProof.Rows L2
/-- two ints -/
def dI (C : Int → Int → Prop) (g : Int → Int → D) : D → D → (D → Prop) → Prop
  | .int i, .int j, P => C i j ∧ P (g i j)
  | _, _, _ => False
def dI0 (g : Int → Int → D) : D → D → (D → Prop) → Prop
  | .int i, .int j, P => P (g i j)
  | _, _, _ => False
theorem od_I {C : Int → Int → Prop} {g : Int → Int → Int} : OpD (rI C fun i j => .int (g i j)) (dI C fun i j => .int (g i j)) := fun O H x y d e P Q _ rx ry h k => by
  cases d <;> cases e <;> first | exact h.elim | skip
  cases rx
  cases ry
  exact ⟨_, _, rfl, rfl, h.1, k _ H _ h.2 (Same.refl H) (.int _)⟩
theorem od_I0 {g : Int → Int → Int} : OpD (rI0 fun i j => .int (g i j)) (dI0 fun i j => .int (g i j)) := fun O H x y d e P Q _ rx ry h k => by
  cases d <;> cases e <;> first | exact (show False from h).elim | skip
  cases rx
  cases ry
  exact ⟨_, _, rfl, rfl, k _ H _ h (Same.refl H) (.int _)⟩
theorem od_B0 {g : Int → Int → Bool} : OpD (rI0 fun i j => .bl (g i j)) (dI0 fun i j => .bool (g i j)) := fun O H x y d e P Q _ rx ry h k => by
  cases d <;> cases e <;> first | exact (show False from h).elim | skip
  cases rx
  cases ry
  exact ⟨_, _, rfl, rfl, k _ H _ h (Same.refl H) (.bl _)⟩
/-- == and != -/
def dEq : D → D → (D → Prop) → Prop := fun x y P => SeqAt.shaped x = true ∧ SeqAt.shaped y = true ∧ P (.bool (PyData.eqv x y))
def dNe : D → D → (D → Prop) → Prop := fun x y P => SeqAt.shaped x = true ∧ SeqAt.shaped y = true ∧ P (.bool (!PyData.eqv x y))
theorem od_eq {K : PySem.W.Frag} : OpD (rEqD K) dEq := fun O H x y d e P Q _ rx ry h k =>
  ⟨d, e, Dt.dp d x rx (SeqAt.canLay_of_shaped h.1), Dt.dp e y ry (SeqAt.canLay_of_shaped h.2.1), h.1, h.2.1, k _ H _ h.2.2 (Same.refl H) (.bl _)⟩
theorem od_ne {K : PySem.W.Frag} : OpD (rNeD K) dNe := fun O H x y d e P Q _ rx ry h k =>
  ⟨d, e, Dt.dp d x rx (SeqAt.canLay_of_shaped h.1), Dt.dp e y ry (SeqAt.canLay_of_shaped h.2.1), h.1, h.2.1, k _ H _ h.2.2 (Same.refl H) (.bl _)⟩
/-- is None -/
def isN : D → Bool
  | .none => true
  | _ => false
theorem isN_of {O : List Addr} {H : Hp} {v : V} {d : D} (r : Dt O H v d) : decide (v = .non) = isN d := by
  cases r <;> first | rfl | exact decide_eq_false (by intro z; cases z)
theorem od_isN : OpD (fun x y H Q => y = .non ∧ Q (.bl (decide (x = .non))) H) (fun x y P => y = .none ∧ P (.bool (isN x))) := fun O H x y d e P Q _ rx ry h k => by
  obtain ⟨rfl, p⟩ := h
  cases ry
  refine ⟨rfl, ?_⟩
  rw [isN_of rx]
  exact k _ H _ p (Same.refl H) (.bl _)
theorem od_notN : OpD (fun x y H Q => y = .non ∧ Q (.bl (!decide (x = .non))) H) (fun x y P => y = .none ∧ P (.bool (!isN x))) := fun O H x y d e P Q _ rx ry h k => by
  obtain ⟨rfl, p⟩ := h
  cases ry
  refine ⟨rfl, ?_⟩
  rw [isN_of rx]
  exact k _ H _ p (Same.refl H) (.bl _)
theorem od_isB : OpD rIsB (fun x y P => ∃ a b, x = .bool a ∧ y = .bool b ∧ P (.bool (decide (a = b)))) := fun O H x y d e P Q _ rx ry h k => by
  obtain ⟨a, b, rfl, rfl, p⟩ := h
  cases rx
  cases ry
  exact ⟨a, b, rfl, rfl, k _ H _ p (Same.refl H) (.bl _)⟩
/-- + of texts, of lists, of tuples -/
def dCat : D → D → (D → Prop) → Prop := fun x y P => ∃ xs ys, x = .list xs ∧ y = .list ys ∧ xs.length + ys.length ≤ 100000 ∧ P (.list (xs ++ ys))
theorem od_cat : OpD rCat dCat := fun O H x y d e P Q tr rx ry h k => by
  obtain ⟨xs, ys, rfl, rfl, hl, p⟩ := h
  cases rx with
  | lst n1 e1 r1 =>
    cases ry with
    | lst n2 e2 r2 =>
      refine ⟨_, _, _, _, rfl, rfl, e1, e2, ?_, fun q hq => ?_⟩
      · rw [r1.len, r2.len, sizeLine_eq]; omega
      · refine k (.ref q) _ _ p (Same.upd hq) (.lst (fun m => ?_) upd_same ((r1.app r2).le (Le.of (Same.upd hq))))
        obtain ⟨o, e⟩ := tr q m
        rw [hq] at e; cases e
/-- items -/
def dIx : D → D → (D → Prop) → Prop := fun x y P => ∃ xs i d, (x = .list xs ∨ x = .tuple xs) ∧ y = .int i ∧ atI xs i = some d ∧ P d
theorem at_dt {O : List Addr} {H : Hp} {vs : List V} {ds : List D} {i : Int} {d : D} (r : DtA O H vs ds) (h : atI ds i = some d) : ∃ v, atI vs i = some v ∧ Dt O H v d := by
  unfold atI at h ⊢
  rw [r.len]
  cases e : ixN ds.length i with
  | none =>
    rw [e] at h; cases h
  | some j =>
    rw [e] at h
    exact r.get h
theorem od_ix {K : PySem.W.Frag} : OpD (rIx K) dIx := fun O H x y d e P Q tr rx ry h k => by
  obtain ⟨xs, i, z, hx, rfl, ha, p⟩ := h
  cases ry
  rcases hx with rfl | rfl
  · cases rx with
    | lst n e r =>
      obtain ⟨v, hv, rv⟩ := at_dt r ha
      exact Or.inl ⟨_, _, i, v, rfl, rfl, .inl (.inl e), hv, k _ H _ p (Same.refl H) rv⟩
  · cases rx with
    | tup n e r =>
      obtain ⟨v, hv, rv⟩ := at_dt r ha
      exact Or.inr (Or.inl ⟨_, _, i, v, rfl, rfl, .inl (.inl e), hv, k _ H _ p (Same.refl H) rv⟩)
/-! ### functions -/
def dLen : List D → (D → Prop) → Prop := fun xs P => ∃ d n, xs = [d] ∧ ((∃ ds, (d = .list ds ∨ d = .tuple ds) ∧ n = ds.length) ∨ ∃ y, d = .str y ∧ y.length ≤ 16777216 ∧ n = y.length) ∧ P (.int (n : Nat))
theorem cd_len {K : PySem.W.Frag} : CaD (fun xs H Q => ∃ x n, xs = [x] ∧ LenV K x H n ∧ Q (.int (n : Nat)) H) dLen := fun O H vs ds P Q _ r h k => by
  obtain ⟨d, n, rfl, hd, p⟩ := h
  cases r with
  | cons a t =>
    cases t
    refine ⟨_, n, rfl, ?_, k _ H _ p (Same.refl H) (.int _)⟩
    rcases hd with ⟨ds, rfl | rfl, rfl⟩ | ⟨y, rfl, hy, rfl⟩
    · cases a with
      | lst m e q => exact Or.inl ⟨_, .inl (.inl e), q.len.symm⟩
    · cases a with
      | tup m e q => exact Or.inr ⟨_, .inl (.inl e), q.len.symm⟩
    · cases a
      exact ⟨by rw [sizeLine_eq]; exact hy, rfl⟩
def dAbs : List D → (D → Prop) → Prop := fun xs P => ∃ i, xs = [.int i] ∧ P (.int (if i < 0 then -i else i))
theorem cd_abs : CaD (fun xs H Q => ∃ i, xs = [.int i] ∧ Q (.int (if i < 0 then -i else i)) H) dAbs := fun O H vs ds P Q _ r h k => by
  obtain ⟨i, rfl, p⟩ := h
  cases r with
  | cons a t =>
    cases t
    cases a
    exact ⟨i, rfl, k _ H _ p (Same.refl H) (.int _)⟩
def dInt : List D → (D → Prop) → Prop := fun xs P => (∃ i, xs = [.int i] ∧ P (.int i)) ∨ ∃ b : Bool, xs = [.bool b] ∧ P (.int (if b then 1 else 0))
theorem cd_int : CaD (fun xs H Q => (∃ i, xs = [.int i] ∧ Q (.int i) H) ∨ ∃ k, xs = [.bl k] ∧ Q (.int (if k then 1 else 0)) H) dInt := fun O H vs ds P Q _ r h k => by
  rcases h with ⟨i, rfl, p⟩ | ⟨b, rfl, p⟩
  · cases r with
    | cons a t =>
      cases t
      cases a
      exact Or.inl ⟨i, rfl, k _ H _ p (Same.refl H) (.int _)⟩
  · cases r with
    | cons a t =>
      cases t
      cases a
      exact Or.inr ⟨b, rfl, k _ H _ p (Same.refl H) (.int _)⟩
def dGcd : List D → (D → Prop) → Prop := fun xs P => ∃ a b : Int, xs = [.int a, .int b] ∧ P (.int ((Nat.gcd a.natAbs b.natAbs : Nat) : Int))
theorem cd_gcd : CaD rGcd dGcd := fun O H vs ds P Q _ r h k => by
  obtain ⟨i, j, rfl, p⟩ := h
  cases r with
  | cons a t =>
    cases t with
    | cons b t =>
      cases t
      cases a
      cases b
      exact ⟨i, j, rfl, k _ H _ p (Same.refl H) (.int _)⟩
/-- all of a list of truths -/
def dAll : List D → (D → Prop) → Prop := fun xs P => ∃ bs : List Bool, xs = [.list (bs.map PyData.bool)] ∧ P (.bool (bs.all id))
theorem bools_of {O : List Addr} {H : Hp} : ∀ {bs : List Bool} {vs : List V}, DtA O H vs (bs.map PyData.bool) → vs = bs.map V.bl
  | [], _, h => by cases h; rfl
  | b :: bs, _, h => by
    cases h with
    | cons a t =>
      cases a
      rw [bools_of t, List.map_cons]
theorem ints_of {O : List Addr} {H : Hp} : ∀ {bs : List Int} {vs : List V}, DtA O H vs (bs.map PyData.int) → vs = bs.map V.int
  | [], _, h => by cases h; rfl
  | b :: bs, _, h => by
    cases h with
    | cons a t =>
      cases a
      rw [ints_of t, List.map_cons]
theorem of_ints {O : List Addr} {H : Hp} : ∀ (bs : List Int), DtA O H (bs.map V.int) (bs.map PyData.int)
  | [] => .nil
  | b :: bs => .cons (.int b) (of_ints bs)
theorem cd_all {K : PySem.W.Frag} : CaD (rAll K) dAll := fun O H vs ds P Q _ r h k => by
  obtain ⟨bs, rfl, p⟩ := h
  cases r with
  | cons a t =>
    cases t
    cases a with
    | lst n e q =>
      have z := bools_of q
      subst z
      exact ⟨_, bs, rfl, .inl (.inl e), k _ H _ p (Same.refl H) (.bl _)⟩
def dSum : List D → (D → Prop) → Prop := fun xs P => ∃ ns : List Int, xs = [.list (ns.map PyData.int)] ∧ P (.int ns.sum)
theorem cd_sum {K : PySem.W.Frag} : CaD (rSum K) dSum := fun O H vs ds P Q _ r h k => by
  obtain ⟨bs, rfl, p⟩ := h
  cases r with
  | cons a t =>
    cases t
    cases a with
    | lst n e q =>
      have z := ints_of q
      subst z
      exact ⟨_, bs, rfl, .inl (.inl e), k _ H _ p (Same.refl H) (.int _)⟩
/-- tuple(x), list(x) -/
def dTupOf : List D → (D → Prop) → Prop := fun xs P => ∃ ds, (xs = [.list ds] ∨ xs = [.tuple ds]) ∧ P (.tuple ds)
theorem cd_tup {K : PySem.W.Frag} : CaD (fun xs H Q => ∃ p ys, xs = [.ref p] ∧ ((SqL K H p ys ∧ ∀ l, H l = none → Q (.ref l) (upd H l (.tup ys))) ∨ (SqT K H p ys ∧ Q (.ref p) H))) dTupOf := fun O H vs ds P Q tr r h k => by
  obtain ⟨es, rfl | rfl, p⟩ := h
  · cases r with
    | cons a t =>
      cases t
      cases a with
      | lst n e q =>
        refine ⟨_, _, rfl, Or.inl ⟨.inl (.inl e), fun l hl => ?_⟩⟩
        refine k (.ref l) _ _ p (Same.upd hl) (.tup (fun m => ?_) upd_same (q.le (Le.of (Same.upd hl))))
        obtain ⟨o, e⟩ := tr l m
        rw [hl] at e; cases e
  · cases r with
    | cons a t =>
      cases t
      cases a with
      | tup n e q => exact ⟨_, _, rfl, Or.inr ⟨.inl (.inl e), k _ H _ p (Same.refl H) (.tup n e q)⟩⟩
/-- isinstance by one built-in class; by a tuple of some -/
def tyD : D → String
  | .none => "NoneType"
  | .bool _ => "bool"
  | .int _ => "int"
  | .str _ => "str"
  | .list _ => "list"
  | .tuple _ => "tuple"
  | .dict _ => "dict"
end DL

/-! Defs that are called where no repr is under way (so that repr of what they make is told). -/
namespace DL
open PySem PySem.Spec PyProof.Rows L2
/-- a def's promise, called where no repr is under way -/
structure FnG (P : Program) (w : World) (K : PySem.W.Frag) (mg : Str → Option Value) (base : Heap) (CX : CXT) (k : Nat) (f : Addr) (fd : FuncData) (ps : List Str) (sp : Sp) : Prop where
  len : ∀ vs H Q E, sp vs H Q E → vs.length = ps.length
  run : ∀ (A : Around) (outer : List Env) (s : Shared) (H : Hp) (args : Args) (us : List Value) (vs : List V) (Q : VK) (E : XK), Room k A → A.guards = some [] → Env0 P w K mg base A outer s H → BindsTo s fd args (ps.zip us) → Vals vs us → sp vs H Q E →
    codeAny (model P w) A (.call (.ref f) args) (CR CX outer P w H s Q E) s
section
variable {P : Program} {w : World} {K : PySem.W.Frag} {mg : Str → Option Value} {base : Heap} {CX : CXT} {k j : Nat} {f : Addr} {fd : FuncData} {ps N : List Str} {sp : Sp}
theorem FnG.mono (F : FnG P w K mg base CX j f fd ps sp) (h : j ≤ k) : FnG P w K mg base CX k f fd ps sp :=
  ⟨F.len, fun A o s H args us vs Q E r => F.run A o s H args us vs Q E (r.mono h)⟩
theorem fnG_ok (F : FnOk P w K mg base CX k f fd ps sp) : FnG P w K mg base CX k f fd ps sp :=
  ⟨F.len, fun A o s H args us vs Q E r _ => F.run A o s H args us vs Q E r⟩
/-- a def by its body -/
theorem fnG_body {x qual : Str} {st : Stmt} (F : Fun K x qual st f fd) (S : FnScope N ps (defScope st)) (len : ∀ vs H Q E, sp vs H Q E → vs.length = ps.length)
    (hbody : ∀ (cdv : Value) (A : Around) (outer : List Env) (s : Shared) (H : Hp) (vs : List V) (Q : VK) (E : XK), Room k (A.deeper (envOfC qual (defScope st) s.heap.objs.size f cdv)) → A.guards = some [] → sp vs H Q E →
      ∃ t, PSs (cxOf CX P w K mg base N qual (defScope st) f cdv A outer s H E) (defBody st) t ∧ t { nx := fun _ H' => Q .non H', rt := Q } (start N vs) H) : FnG P w K mg base CX (k + 1) f fd ps sp := by
  obtain ⟨oc, od, kV, doc, pm, an, cdv, ct, osl, rfl, lk, hcd⟩ := F.ex
  refine ⟨len, fun A outer s H args us vs Q E hr hg e0 hb r hsp => ?_⟩
  have KX : K.In s.heap := e0.mod.kin.keeps fun b o e => (e0.bs b o e).1
  refine codeAny_call_function hr.depth (KX _ _ lk) rfl S.co S.gen rfl (PySem.W.codeRec_of KX hcd) (hb _ _ _ _ ?_)
  have kinds : ∀ y ∈ ps.zip us, (defScope st).names.lookup y.1 = some .local ∨ ((defScope st).names.lookup y.1 = some .cell ∧ ((cellsFrom (s.heap.objs.size + 1) (defScope st).names []).lookup y.1).isSome = true) := by
    rintro ⟨n, v⟩ hy
    have hn := (List.of_mem_zip hy).1
    cases S.par n hn with
    | inl q => exact Or.inl q
    | inr q => exact Or.inr ⟨q, PySem.W.cellsFrom_some _ _ _ (Or.inl q)⟩
  refine wpAny_newFunctionEnv_cells S.kind kinds fun env he s1 ic => ?_
  cases he
  refine ⟨Heap.NoLimit.keeps (e0.mod.nolimit.keeps fun b o e => (e0.bs b o e).1) ic.toInCall.keep, codeAny_func ?_⟩
  obtain ⟨t, ht, hq⟩ := hbody cdv A outer s H vs Q E (hr.deeper _) hg hsp
  have I := inv_start (mg := mg) (base := base) (CX := CX) (P := P) (w := w) (E := E) S hr.hd e0 (len _ _ _ _ hsp) r ic
  refine wpAny_mono (ht.run [] s1 _ H _ I hq) (fun fl s' hs => ?_) fun _ _ z => z
  cases fl with
  | next =>
    obtain ⟨_, H', J, q⟩ := hs
    exact ⟨V.non, H', J.os, J.bare, J.base, J.hok, rfl, q⟩
  | ret u =>
    obtain ⟨v, _, H', J, rv, q⟩ := hs
    exact ⟨v, H', J.os, J.bare, J.base, J.hok, rv, q⟩
  | brk =>
    obtain ⟨_, _, _, q⟩ := hs
    exact q.elim
  | cont =>
    obtain ⟨_, _, _, q⟩ := hs
    exact q.elim
end
/-- the items at some places -/
def pick {α : Type} (ix : List Nat) (l : List α) : List α := ix.filterMap fun i => l[i]?
theorem Vals.pick {vs : List V} {us : List Value} (r : Vals vs us) : ∀ ix : List Nat, Vals (pick ix vs) (pick ix us)
  | [] => .nil
  | i :: ix => by
    have ih := Vals.pick r ix
    unfold DL.pick at ih ⊢
    cases e : vs[i]? with
    | none =>
      have e2 := r.none_of e
      simp only [List.filterMap_cons, e, e2]
      exact ih
    | some v =>
      obtain ⟨u, e2, rv⟩ := r.get e
      simp only [List.filterMap_cons, e, e2]
      exact .cons rv ih
theorem DtA.pick {O : List Addr} {H : Hp} {vs : List V} {us : List D} (r : DtA O H vs us) : ∀ ix : List Nat, DtA O H (pick ix vs) (pick ix us)
  | [] => .nil
  | i :: ix => by
    have ih := DtA.pick r ix
    unfold DL.pick at ih ⊢
    cases e : us[i]? with
    | none =>
      have e2 : vs[i]? = none := List.getElem?_eq_none_iff.mpr (by rw [r.len]; exact List.getElem?_eq_none_iff.mp e)
      simp only [List.filterMap_cons, e, e2]
      exact ih
    | some v =>
      obtain ⟨u, e2, rv⟩ := r.get e
      simp only [List.filterMap_cons, e, e2]
      exact .cons rv ih
/-- how n written arguments and keywords ks come to the parameters: the parameter i is the one at place ix[i] -/
def KBi (fd : FuncData) (ps : List Str) (n : Nat) (ks : List Str) (ix : List Nat) : Prop := ∀ (s : Shared) (us ws : List Value), us.length = n → ws.length = ks.length → BindsTo s fd ⟨us, ks.zip ws⟩ (ps.zip (pick ix (us ++ ws)))
theorem Fun.kbi {K : PySem.W.Frag} {x qual : Str} {st : Stmt} {f : Addr} {fd : FuncData} {ps ks : List Str} {n : Nat} {ix : List Nat} (F : Fun K x qual st f fd)
    (h : ∀ (kV doc pm : Value) (an : Option Addr) (cdv ct : Value) (us ws : List Value), us.length = n → ws.length = ks.length → bindArgs (PySem.W.fnOf x qual (defArgs st) (defBody st) (defScope st) .none kV doc pm an cdv ct) ⟨us, ks.zip ws⟩ = pure (ps.zip (pick ix (us ++ ws)))) : KBi fd ps n ks ix := by
  obtain ⟨oc, od, kV, doc, pm, an, cdv, ct, osl, rfl, lk, hcd⟩ := F.ex
  exact fun s us ws h1 h2 => .of_eq (h kV doc pm an cdv ct us ws h1 h2)
section
variable {X : Cx} {CX : CXT} {k n : Nat} {f : Addr} {fd : FuncData} {ps ks : List Str} {ix : List Nat} {sp : Sp} {E : XK} {x : Str} {p pos : Pos} {e : Expr} {es : List Expr} {kws : List Keyword} {t tk : TA}
theorem goG {pins : List (Addr × Obj)} {σ : L2.St} {H : Hp} {s : Shared} {Q : VK} {us ws : List Value} {vs zs : List V} (F : FnG X.prog X.w X.K X.mg X.base CX k f fd ps sp) (hr : Room k X.A) (hG : X.A.guards = some []) (hx : Passes CX X E) (hb : KBi fd ps n ks ix)
    (I : Inv X pins σ H s) (r : Vals vs us) (rz : Vals zs ws) (l1 : vs.length = n) (l2 : zs.length = ks.length) (h : sp (pick ix (vs ++ zs)) H Q E) : wpAny (model X.prog X.w) X.A (call (.ref f) us (ks.zip ws)) (EP X pins σ Q) X.xe s := by
  have b := hb s us ws (r.length ▸ l1) (rz.length ▸ l2)
  refine wpAny_call (codeAny_mono (F.run X.A X.stack s H _ _ _ Q E hr hG I.env0 b (DL.Vals.pick (r.append rz) ix) h) fun z s' hz => ?_)
  match z, hz with
  | .error e, hz => exact hx pins σ H s e s' I hz
  | .ok (.ret u), hz => exact I.after hz
  | .ok .next, hz => exact False.elim hz
  | .ok .brk, hz => exact False.elim hz
  | .ok .cont, hz => exact False.elim hz
/-- what a call asks: the written values, then the keywords' -/
def tGo (n m : Nat) (ix : List Nat) (sp : Sp) (E : XK) (t tk : TA) : TE := fun σ H Q => t σ H fun vs H1 => tk σ H1 fun zs H2 => vs.length = n ∧ zs.length = m ∧ sp (pick ix (vs ++ zs)) H2 Q E
/-- f(e, ..) -/
theorem pg_call (F : FnG X.prog X.w X.K X.mg X.base CX k f fd ps sp) (hr : Room k X.A) (hG : X.A.guards = some []) (hg : Gl X x) (hm : X.mg x = some (.ref f)) (hk : PySem.W.keepIn X.K (.ref f) = true) (hb : KBi fd ps n [] ix) (hx : Passes CX X E)
    (ha : PA X (e :: es) t) (hdb : (x == ("__debug__" : Str)) = false := by decide) (he : starEach (e :: es) X.env = (false, eval e X.env) :: starEach es X.env := by rfl) (hpl : (backTo pos (starEach es X.env)).any (·.1) = false := by rfl) :
    PE X (.Call (.Name x p) (e :: es) [] pos) (tGo n 0 ix sp E t tNil) :=
  ⟨fun pins s σ H Q I h => wpAny_Call_Name_kw (ld_glob I hg hm (PySem.W.callWith_K (h₀ := X.base) I.ok.mod.kin hk (thn (ha.run pos pins s σ H _ I h) fun us s1 ⟨vs, H1, I1, r, l1, l2, q⟩ =>
    ⟨I1.kIn, goG (ws := []) (zs := []) F hr hG hx hb I1 r .nil l1 rfl q⟩) he hpl) hdb)⟩
/-- f(k = e, ..) -/
theorem pg_callK0 (F : FnG X.prog X.w X.K X.mg X.base CX k f fd ps sp) (hr : Room k X.A) (hG : X.A.guards = some []) (hg : Gl X x) (hm : X.mg x = some (.ref f)) (hk : PySem.W.keepIn X.K (.ref f) = true) (hb : KBi fd ps 0 ks ix) (hx : Passes CX X E)
    (hkw : PK X kws tk) (hall : (backToKw pos (keywordEach kws X.env)).all (·.1.isSome) = true := by rfl) (hks : (backToKw pos (keywordEach kws X.env)).filterMap (·.1) = ks := by rfl)
    (hdb : (x == ("__debug__" : Str)) = false := by decide) (hpl : ((backTo pos (starEach [] X.env)).any (·.1) || (backToKw pos (keywordEach kws X.env)).any (·.1.isNone)) = false := by rfl) :
    PE X (.Call (.Name x p) [] kws pos) (tGo 0 ks.length ix sp E tNil tk) :=
  ⟨fun pins s σ H Q I h => wpAny_Call_Name_kw (ld_glob I hg hm (PySem.W.callWith_KW0 (h₀ := X.base) I.ok.mod.kin hk hall (thn (hkw.run pos pins s σ H _ I h) fun ws s1 ⟨zs, H1, I1, r, l1, l2, q⟩ =>
    ⟨I1.kIn, by rw [hks]; exact goG (us := []) (vs := []) F hr hG hx hb I1 .nil r rfl l2 q⟩) hpl) hdb)⟩
/-- f(e, .., k = e, ..) -/
theorem pg_callK (F : FnG X.prog X.w X.K X.mg X.base CX k f fd ps sp) (hr : Room k X.A) (hG : X.A.guards = some []) (hg : Gl X x) (hm : X.mg x = some (.ref f)) (hk : PySem.W.keepIn X.K (.ref f) = true) (hb : KBi fd ps n ks ix) (hx : Passes CX X E)
    (ha : PA X (e :: es) t) (hkw : PK X kws tk) (hall : (backToKw pos (keywordEach kws X.env)).all (·.1.isSome) = true := by rfl) (hks : (backToKw pos (keywordEach kws X.env)).filterMap (·.1) = ks := by rfl)
    (hdb : (x == ("__debug__" : Str)) = false := by decide) (he : starEach (e :: es) X.env = (false, eval e X.env) :: starEach es X.env := by rfl)
    (hpl : ((backTo pos (starEach (e :: es) X.env)).any (·.1) || (backToKw pos (keywordEach kws X.env)).any (·.1.isNone)) = false := by rfl) :
    PE X (.Call (.Name x p) (e :: es) kws pos) (tGo n ks.length ix sp E t tk) :=
  ⟨fun pins s σ H Q I h => wpAny_Call_Name_kw (ld_glob I hg hm (PySem.W.callWith_KW (h₀ := X.base) I.ok.mod.kin hk hall (thn (ha.run pos pins s σ H _ I h) fun us s1 ⟨vs, H1, I1, r, q⟩ =>
    thn (hkw.run pos pins s1 σ H1 _ I1 q) fun ws s2 ⟨zs, H2, I2, rz, l1, l2, q2⟩ => ⟨I2.kIn, by rw [hks]; exact goG F hr hG hx hb I2 r rz l1 l2 q2⟩) hpl he) hdb)⟩
/-! ### repr -/
/-- what repr shows as d: data without dicts, or the empty dict, or one of flat values -/
inductive RpV (O : List Addr) (H : Hp) : V → D → Prop
  | dp {v : V} {d : D} : Dt O H v d → d.canLay0 = true → RpV O H v d
  | nod {v : V} : Dt O H v (.dict []) → RpV O H v (.dict [])
def rRepr : List V → Hp → VK → Prop := fun xs H Q => ∃ (O : List Addr) (v : V) (d : D), xs = [v] ∧ RpV O H v d ∧ d.showable = true ∧ d.depth ≤ 10 ∧ d.shown.length ≤ 16777216 ∧ Q (.str d.shown) H
theorem Dt.reads {pins : List (Addr × Obj)} {σ : L2.St} {O : List Addr} {H : Hp} {s : Shared} {d : D} {v : V} {u : Value} (I : Inv X pins σ H s) (h : Dt O H v d) (c : d.canLay0 = true) (r : RelV v u) : ∃ as, Reads s.heap u d as :=
  Dp.reads I d v u (Dt.dp d v h c) r
theorem dict_reads {pins : List (Addr × Obj)} {σ : L2.St} {O : List Addr} {H : Hp} {s : Shared} {a : Addr} (I : Inv X pins σ H s) (h : Dt O H (.ref a) (.dict [])) : (a == sysModules) = false ∧ Reads s.heap (.ref a) (.dict []) [a] := by
  cases h with
  | dct n e r =>
    cases r
    obtain ⟨_, hs, vs, rv, o, es, ep, h1, h2, h3, _, h5, _⟩ := (show ObjOk X.prog X.w H s.heap a (.dK []) from I.hok a _ e)
    cases rv
    have e0 : es.toList = [] := by
      revert h5
      generalize es.toList = l
      intro h5
      cases h5
      rfl
    refine ⟨hs, ?_⟩
    have q := Reads.dict (h := s.heap) (a := a) (kvs := []) (as := []) (bs := []) h1 h2.1 h3 (by rw [e0]; exact .nil) (by rw [e0]; exact .nil)
    exact q
theorem call_repr {k : Nat} (hr : Room k X.A) (hG : X.A.guards = some []) : CallR X (.builtin "repr") rRepr := by
  intro pins s σ H xs us Q I r h
  obtain ⟨O, v, d, rfl, hd, hs, hp, hl, q⟩ := h
  obtain ⟨u, rfl, rv⟩ := vals1 r
  have hl' : d.shown.length ≤ sizeLine := by rw [sizeLine_eq]; exact hl
  have hu := hr.un
  cases v with
  | ref a =>
    obtain rfl : u = Value.ref a := rv
    have fin : ∀ as, Reads s.heap (.ref a) d as → (d.hasDict = true → sysModules ∉ as) → wpAny (model X.prog X.w) X.A (call (.builtin "repr") [.ref a]) (EP X pins σ Q) X.xe s := fun as R hm =>
      repr_of_reads' R hs hm hG (by omega) (fun _ _ e => e) (fun h' u tk kk => ⟨.str d.shown, H, I.kept (t' := tk) kk, ⟨u, rfl⟩, q⟩) hl'
    cases hd with
    | dp h c =>
      obtain ⟨as, R⟩ := Dt.reads I h c rfl
      exact fin as R fun z => by rw [PyData.hasDict_of_canLay d c] at z; cases z
    | nod h =>
      obtain ⟨hm, R⟩ := dict_reads I h
      exact fin _ R fun _ z => by
        rw [List.mem_singleton] at z
        rw [z] at hm
        simp at hm
  | non =>
    cases hd with
    | dp h c =>
      cases h
      cases rv
      exact PySem.P.repr_of_none ⟨.str _, H, I.tok _, ⟨_, rfl⟩, by simpa [PyData.shown] using q⟩
    | nod h => cases h
  | bl b =>
    cases hd with
    | dp h c =>
      cases h
      cases rv
      exact PySem.P.repr_of_bool ⟨.str _, H, I.tok _, ⟨_, rfl⟩, by simpa [PyData.shown] using q⟩
    | nod h => cases h
  | int i =>
    cases hd with
    | dp h c =>
      cases h
      obtain ⟨t, rfl⟩ := rv
      exact PySem.P.repr_of_int (by simpa [PyData.showable] using hs) ⟨.str _, H, I.tok _, ⟨_, rfl⟩, by simpa [PyData.shown] using q⟩
    | nod h => cases h
  | str x =>
    cases hd with
    | dp h c =>
      cases h
      obtain ⟨t, rfl⟩ := rv
      exact PySem.P.repr_of_str ⟨.str _, H, I.tok _, ⟨_, rfl⟩, by simpa [PyData.shown] using q⟩ (by simpa [PyData.shown] using hl')
    | nod h => cases h
  | _ => (cases hd with
    | dp h c => cases h
    | nod h => cases h)
end
/-- repr by data -/
def dRepr : List D → (D → Prop) → Prop := fun xs P => ∃ d, xs = [d] ∧ (d.canLay0 = true ∨ d = .dict []) ∧ d.showable = true ∧ d.depth ≤ 10 ∧ d.shown.length ≤ 16777216 ∧ P (.str d.shown)
theorem cd_repr : CaD rRepr dRepr := fun O H vs ds P Q _ r h k => by
  obtain ⟨d, rfl, hc, hs, hp, hl, p⟩ := h
  cases r with
  | cons a t =>
    cases t
    refine ⟨O, _, d, rfl, ?_, hs, hp, hl, k _ H _ p (Same.refl H) (.str _)⟩
    rcases hc with c | rfl
    · exact .dp a c
    · exact .nod a
/-! ### isinstance -/
theorem ty_of {K : PySem.W.Frag} {O : List Addr} {H : Hp} {v : V} {d : D} (r : Dt O H v d) : TyX K H v (.type (tyD d)) := by
  cases r with
  | non => exact .base .non
  | bl b => exact .base (.bl b)
  | int i => exact .base (.int i)
  | str x => exact .base (.str x)
  | lst n e q => exact .base (.lst e)
  | tup n e q => exact .base (.tup e)
  | dct n e q => exact .base (.dK e)
section
variable {δ : List DV} {P : D → List DV → Prop} {te : TE} {K : PySem.W.Frag}
theorem rd_isi {n : String} (g : D → Bool) (hg : ∀ d, kitB (tyD d) n = some (g d)) (h : Rd te δ fun x δ1 => P (.bool (g x)) δ1) : Rd (tCB (rIsi K) (tCons te (tCons (tC (.ty n)) tNil))) δ P := fun F σ H S Q k =>
  h F σ H S _ fun v H1 x δ1 p l1 S1 r1 => ⟨v, .ty n, .type (tyD x), .type n, g x, rfl, .ty n, ty_of r1, kit_ty (hg x), k _ H1 _ δ1 p l1 S1 (.bl _)⟩
theorem rd_isi2 {n m : String} (g1 g2 : D → Bool) (h1 : ∀ d, kitB (tyD d) n = some (g1 d)) (h2 : ∀ d, kitB (tyD d) m = some (g2 d)) (h : Rd te δ fun x δ1 => P (.bool (g1 x || g2 x)) δ1) :
    Rd (tCB (rIsiT K) (tCons te (tCons (tTup (tCons (tC (.ty n)) (tCons (tC (.ty m)) tNil))) tNil))) δ P := fun F σ H S Q k =>
  h F σ H S _ fun v H1 x δ1 p l1 S1 r1 => ⟨by show 2 ≤ sizeLine; decide, fun q hq => by
    have s : Same H1 (upd H1 q (.tup [.ty n, .ty m])) := Same.upd hq
    refine ⟨v, q, [.ty n, .ty m], .type (tyD x), [.type n, .type m], g1 x || g2 x, rfl, upd_same, .cons (.ty n) (.cons (.ty m) .nil), ty_of (r1.le (Le.of s)), ?_, k _ _ _ δ1 p (l1.trans (Le.of s)) (S1.same s) (.bl _)⟩
    refine kitAny_cons (kit_ty (h1 x)) (fun z => ?_) fun z => by rw [z]; rfl
    rw [z, Bool.false_or]
    exact kitAny_cons (kit_ty (h2 x)) (fun z => by rw [z]; exact kitAny_nil) fun z => z⟩
end
def isInt : D → Bool
  | .int _ => true
  | .bool _ => true
  | _ => false
def isBool : D → Bool
  | .bool _ => true
  | _ => false
def isLst : D → Bool
  | .list _ => true
  | _ => false
def isTup : D → Bool
  | .tuple _ => true
  | _ => false
theorem kt_int : ∀ d, kitB (tyD d) "int" = some (isInt d)
  | .none => (by decide +kernel : kitB "NoneType" "int" = some false)
  | .bool _ => (by decide +kernel : kitB "bool" "int" = some true)
  | .int _ => (by decide +kernel : kitB "int" "int" = some true)
  | .str _ => (by decide +kernel : kitB "str" "int" = some false)
  | .list _ => (by decide +kernel : kitB "list" "int" = some false)
  | .tuple _ => (by decide +kernel : kitB "tuple" "int" = some false)
  | .dict _ => (by decide +kernel : kitB "dict" "int" = some false)
theorem kt_bool : ∀ d, kitB (tyD d) "bool" = some (isBool d)
  | .none => (by decide +kernel : kitB "NoneType" "bool" = some false)
  | .bool _ => (by decide +kernel : kitB "bool" "bool" = some true)
  | .int _ => (by decide +kernel : kitB "int" "bool" = some false)
  | .str _ => (by decide +kernel : kitB "str" "bool" = some false)
  | .list _ => (by decide +kernel : kitB "list" "bool" = some false)
  | .tuple _ => (by decide +kernel : kitB "tuple" "bool" = some false)
  | .dict _ => (by decide +kernel : kitB "dict" "bool" = some false)
theorem kt_list : ∀ d, kitB (tyD d) "list" = some (isLst d)
  | .none => (by decide +kernel : kitB "NoneType" "list" = some false)
  | .bool _ => (by decide +kernel : kitB "bool" "list" = some false)
  | .int _ => (by decide +kernel : kitB "int" "list" = some false)
  | .str _ => (by decide +kernel : kitB "str" "list" = some false)
  | .list _ => (by decide +kernel : kitB "list" "list" = some true)
  | .tuple _ => (by decide +kernel : kitB "tuple" "list" = some false)
  | .dict _ => (by decide +kernel : kitB "dict" "list" = some false)
theorem kt_tuple : ∀ d, kitB (tyD d) "tuple" = some (isTup d)
  | .none => (by decide +kernel : kitB "NoneType" "tuple" = some false)
  | .bool _ => (by decide +kernel : kitB "bool" "tuple" = some false)
  | .int _ => (by decide +kernel : kitB "int" "tuple" = some false)
  | .str _ => (by decide +kernel : kitB "str" "tuple" = some false)
  | .list _ => (by decide +kernel : kitB "list" "tuple" = some false)
  | .tuple _ => (by decide +kernel : kitB "tuple" "tuple" = some true)
  | .dict _ => (by decide +kernel : kitB "dict" "tuple" = some false)
end DL

/-! Statements by data. -/
namespace DL
open PySem PySem.Spec PyProof.Rows L2
/-- what is wanted behind a statement, by data -/
structure KD where
  nx : List DV → Prop
  rt : D → List DV → Prop
  bk : List DV → Prop := fun _ => False
  ct : List DV → Prop := fun _ => False
/-- the ends of a def at work: what was set apart at the entry (O0) is none of what is handed back -/
structure EndsOk (H0 : Hp) (M O0 : List Addr) (tmp : List (V × D)) (K : KD) (E : Ends) : Prop where
  nx : ∀ O δ σ H, (∀ a ∈ O0, a ∈ O) → Sx ⟨H0, M, O, [], tmp⟩ δ σ H → K.nx δ → E.nx σ H
  bk : ∀ O δ σ H, (∀ a ∈ O0, a ∈ O) → Sx ⟨H0, M, O, [], tmp⟩ δ σ H → K.bk δ → E.bk σ H
  ct : ∀ O δ σ H, (∀ a ∈ O0, a ∈ O) → Sx ⟨H0, M, O, [], tmp⟩ δ σ H → K.ct δ → E.ct σ H
  rt : ∀ O δ σ H v d, (∀ a ∈ O0, a ∈ O) → Sx ⟨H0, M, O, [], tmp⟩ δ σ H → Dt O0 H v d → K.rt d δ → E.rt v H
def Rs (t : TS) (δ : List DV) (K : KD) : Prop := ∀ (H0 : Hp) (M O0 O : List Addr) (tmp : List (V × D)) (σ : L2.St) (H : Hp) (E : Ends), (∀ a ∈ O0, a ∈ O) → ((∀ a ∈ O0, ∃ o, H0 a = some o) ∧ ∀ a ∈ M, a ∈ O0) → Sx ⟨H0, M, O, [], tmp⟩ δ σ H → EndsOk H0 M O0 tmp K E → t E σ H
section
variable {F : Fm} {δ : List DV} {K : KD} {te : TE} {ta : TA} {tt : TT} {t u : TS} {i j : Nat} {σ : L2.St} {H H' : Hp} {p : Addr} {d : D}
/-- a slot is stored -/
theorem Sx.set {v : V} (S : Sx F δ σ H) (hi : i < δ.length) (r : Dt F.O H v d) : Sx F (δ.set i (.dat d)) (σ.set i (some v)) H := by
  have hs : i < σ.length := S.len ▸ hi
  have back : ∀ j x p, (δ.set i (.dat d))[j]? = some x → ownOf x = some p → δ[j]? = some x := fun j x p e o => by
    by_cases z : i = j
    · subst z
      rw [List.getElem?_set_self hi] at e
      cases e
      cases o
    · rw [List.getElem?_set_ne z] at e
      exact e
  refine ⟨S.base, S.trk, by rw [List.length_set, List.length_set]; exact S.len, fun j x e => ?_, fun j1 j2 x y p e1 e2 o1 o2 => S.own j1 j2 x y p (back _ _ _ e1 o1) (back _ _ _ e2 o2) o1 o2, S.mo, S.ph, S.phn, fun q m j x e o => S.pho q m j x (back _ _ _ e o) o, S.tmp⟩
  by_cases z : i = j
  · subst z
    rw [List.getElem?_set_self hi] at e
    cases e
    exact ⟨some v, List.getElem?_set_self hs, v, rfl, r⟩
  · rw [List.getElem?_set_ne z] at e
    obtain ⟨y, ey, q⟩ := S.sl j x e
    exact ⟨y, by rw [List.getElem?_set_ne z]; exact ey, q⟩
theorem rs_imp {K' : KD} (h : Rs t δ K') (n : ∀ δ', K'.nx δ' → K.nx δ') (r : ∀ d δ', K'.rt d δ' → K.rt d δ') (b : ∀ δ', K'.bk δ' → K.bk δ') (c : ∀ δ', K'.ct δ' → K.ct δ') : Rs t δ K := fun H0 M O0 O tmp σ H E s tr S EO =>
  h H0 M O0 O tmp σ H E s tr S ⟨fun O δ σ H s S k => EO.nx O δ σ H s S (n δ k), fun O δ σ H s S k => EO.bk O δ σ H s S (b δ k), fun O δ σ H s S k => EO.ct O δ σ H s S (c δ k), fun O δ σ H v d s S r' k => EO.rt O δ σ H v d s S r' (r d δ k)⟩
theorem rs_seq (h : Rs t δ { K with nx := fun δ' => Rs u δ' K }) : Rs (tSeq t u) δ K := fun H0 M O0 O tmp σ H E s tr S EO =>
  h H0 M O0 O tmp σ H { E with nx := u E } s tr S ⟨fun O' δ' σ' H' s' S' k => k H0 M O0 O' tmp σ' H' E s' tr S' EO, EO.bk, EO.ct, EO.rt⟩
theorem rs_next (h : K.nx δ) : Rs tNext δ K := fun H0 M O0 O tmp σ H E s tr S EO => EO.nx O δ σ H s S h
theorem rs_brk (h : K.bk δ) : Rs tBreak δ K := fun H0 M O0 O tmp σ H E s tr S EO => EO.bk O δ σ H s S h
theorem rs_cont (h : K.ct δ) : Rs tCont δ K := fun H0 M O0 O tmp σ H E s tr S EO => EO.ct O δ σ H s S h
theorem rs_drop (h : Rd te δ fun _ δ1 => K.nx δ1) : Rs (tDrop te) δ K := fun H0 M O0 O tmp σ H E s tr S EO => h _ σ H S _ fun v H1 d δ1 p l1 S1 r1 => EO.nx O δ1 σ H1 s S1 p
theorem rs_ret (h : Rd te δ fun d δ1 => K.rt d δ1) : Rs (tRet te) δ K := fun H0 M O0 O tmp σ H E s tr S EO => h _ σ H S _ fun v H1 d δ1 p l1 S1 r1 => EO.rt O δ1 σ H1 v d s S1 (r1.anti s) p
theorem rs_retN (h : K.rt .none δ) : Rs tRetN δ K := fun H0 M O0 O tmp σ H E s tr S EO => EO.rt O δ σ H .non .none s S .non h
theorem rs_if (h : RdT tt δ fun b δ1 => (b = true → Rs t δ1 K) ∧ (b = false → Rs u δ1 K)) : Rs (tIfS tt t u) δ K := fun H0 M O0 O tmp σ H E s tr S EO => h _ σ H S _ fun b H1 δ1 p l1 S1 => by
  cases b with
  | true => exact iteT (p.1 rfl H0 M O0 O tmp σ H1 E s tr S1 EO)
  | false => exact iteF (p.2 rfl H0 M O0 O tmp σ H1 E s tr S1 EO)
theorem rs_asg (h : Rd te δ fun d δ1 => i < δ1.length ∧ K.nx (δ1.set i (.dat d))) : Rs (tAsg te (gName i)) δ K := fun H0 M O0 O tmp σ H E s tr S EO => h _ σ H S _ fun v H1 d δ1 ⟨hi, p⟩ l1 S1 r1 =>
  EO.nx O _ _ H1 s (S1.set hi r1) p
theorem rs_par (h : RdA ta δ fun ds δ1 => ∃ x y, ds = [x, y] ∧ i < δ1.length ∧ j < δ1.length ∧ K.nx ((δ1.set i (.dat x)).set j (.dat y))) : Rs (tPar i j ta) δ K := fun H0 M O0 O tmp σ H E s tr S EO => h _ σ H S _ fun vs H1 ds δ1 ⟨x, y, e, hi, hj, p⟩ l1 S1 r1 => by
  subst e
  cases r1 with
  | cons a r =>
    cases r with
    | cons b r =>
      cases r
      exact ⟨_, _, rfl, EO.nx O _ _ H1 s ((S1.set hi a).set (by rw [List.length_set]; exact hj) b) p⟩
theorem rs_par3 {l : Nat} (h : RdA ta δ fun ds δ1 => ∃ x y z, ds = [x, y, z] ∧ i < δ1.length ∧ j < δ1.length ∧ l < δ1.length ∧ K.nx (((δ1.set i (.dat x)).set j (.dat y)).set l (.dat z))) : Rs (tPar3 i j l ta) δ K := fun H0 M O0 O tmp σ H E s tr S EO => h _ σ H S _ fun vs H1 ds δ1 ⟨x, y, z, e, hi, hj, hl, p⟩ l1 S1 r1 => by
  subst e
  cases r1 with
  | cons a r =>
    cases r with
    | cons b r =>
      cases r with
      | cons c r =>
        cases r
        exact ⟨_, _, _, rfl, EO.nx O _ _ H1 s (((S1.set hi a).set (by rw [List.length_set]; exact hj) b).set (by rw [List.length_set, List.length_set]; exact hl) c) p⟩
/-! ### targets -/
def Gd (g : TG) (sl : List Nat) (f : D → List DV → (List DV → Prop) → Prop) : Prop := ∀ (F : Fm) (δ : List DV) (σ : L2.St) (H : Hp) (v : V) (d : D) (N : List DV → Prop) (Q : L2.St → Hp → Prop), Sx F δ σ H → Dt F.O H v d → f d δ N →
  (∀ δ' σ', N δ' → Sx F δ' σ' H → ((∀ k, k ∉ sl → σ'[k]? = σ[k]?) ∧ σ'.length = σ.length) → Q σ' H) → g v σ H Q
def Gds (g : TGs) (sl : List Nat) (f : List D → List DV → (List DV → Prop) → Prop) : Prop := ∀ (F : Fm) (δ : List DV) (σ : L2.St) (H : Hp) (vs : List V) (ds : List D) (N : List DV → Prop) (Q : L2.St → Hp → Prop), Sx F δ σ H → DtA F.O H vs ds → f ds δ N →
  (∀ δ' σ', N δ' → Sx F δ' σ' H → ((∀ k, k ∉ sl → σ'[k]? = σ[k]?) ∧ σ'.length = σ.length) → Q σ' H) → g vs σ H Q
theorem gd_name : Gd (gName i) [i] fun d δ N => i < δ.length ∧ N (δ.set i (.dat d)) := fun F δ σ H v d N Q S r h k => k _ _ h.2 (S.set h.1 r) ⟨fun j hj => by
  rw [List.mem_singleton] at hj
  exact List.getElem?_set_ne (fun z => hj z.symm), List.length_set⟩
theorem gd_nil : Gds gNil [] fun ds δ N => ds = [] ∧ N δ := fun F δ σ H vs ds N Q S r h k => by
  obtain ⟨rfl, h⟩ := h
  cases r
  exact ⟨rfl, k _ _ h S ⟨fun _ _ => rfl, rfl⟩⟩
theorem gd_cons {g : TG} {gs : TGs} {s1 s2 : List Nat} {f : D → List DV → (List DV → Prop) → Prop} {fs : List D → List DV → (List DV → Prop) → Prop} (hg : Gd g s1 f) (hs : Gds gs s2 fs) : Gds (gCons g gs) (s1 ++ s2) fun ds δ N => ∃ d r, ds = d :: r ∧ f d δ fun δ1 => fs r δ1 N := fun F δ σ H vs ds N Q S r h k => by
  obtain ⟨d, es, rfl, h⟩ := h
  cases r with
  | cons a r => exact ⟨_, _, rfl, hg F δ σ H _ d _ _ S a h fun δ' σ' n S' w1 => hs F δ' σ' H _ es N Q S' r n fun δ2 σ2 n2 S2 w2 => k δ2 σ2 n2 S2 ⟨fun j hj =>
    (w2.1 j fun z => hj (List.mem_append_right _ z)).trans (w1.1 j fun z => hj (List.mem_append_left _ z)), w2.2.trans w1.2⟩⟩
theorem gd_tup {Kf : PySem.W.Frag} {n : Nat} {sl : List Nat} {gs : TGs} {fs : List D → List DV → (List DV → Prop) → Prop} (hs : Gds gs sl fs) : Gd (gTup Kf n gs) sl fun d δ N => ∃ ds, d = .tuple ds ∧ ds.length = n ∧ fs ds δ N := fun F δ σ H v d N Q S r h k => by
  obtain ⟨ds, rfl, hl, h⟩ := h
  cases r with
  | tup m e q => exact ⟨_, _, rfl, .inl (.inl e), q.len.trans hl, hs F δ σ H _ ds N Q S q h k⟩
theorem rs_asgG {g : TG} {sl : List Nat} {f : D → List DV → (List DV → Prop) → Prop} (hg : Gd g sl f) (h : Rd te δ fun d δ1 => f d δ1 K.nx) : Rs (tAsg te g) δ K := fun H0 M O0 O tmp σ H E s tr S EO => h _ σ H S _ fun v H1 d δ1 p l1 S1 r1 =>
  hg _ δ1 σ H1 v d _ _ S1 r1 p fun δ' σ' k S' _ => EO.nx O δ' σ' H1 s S' k
end
end DL

/-! Lists under way, loops, comprehensions. -/
namespace DL
open PySem PySem.Spec PyProof.Rows L2
section
variable {F : Fm} {δ δ' : List DV} {K : KD} {te tb' : TE} {ta tr : TA} {tt : TT} {t u : TS} {i j : Nat} {σ : L2.St} {H H' : Hp} {p : Addr} {d : D} {ds : List D} {P : D → List DV → Prop}
theorem Sl.new {x : DV} {y : Option V} {o : HO} {ph : List (Addr × List D)} {tmp : List (V × D)} (h : Sl F H x y) (hp : H p = none) : Sl ⟨F.H0, F.M, p :: F.O, ph, tmp⟩ (upd H p o) x y := by
  have ls : ∀ b q ds, LsAt F H b q ds → LsAt ⟨F.H0, F.M, p :: F.O, ph, tmp⟩ (upd H p o) b q ds := fun b q ds ⟨h1, h2, h3, h4, xs, e, r⟩ =>
    ⟨List.mem_cons_of_mem _ h1, h2, h3, h4, xs, by rw [upd_ne (ne_of_none e hp)]; exact e, r.new hp⟩
  cases x with
  | un => trivial
  | dat d =>
    obtain ⟨v, e, r⟩ := h
    exact ⟨v, e, r.new hp⟩
  | ls b q ds => exact ⟨h.1, ls b q ds h.2⟩
  | tray b q f =>
    obtain ⟨e, ds, td, l⟩ := h
    exact ⟨e, ds, td, ls b q ds l⟩
/-- a new list, under way -/
theorem Sx.addph {vs : List V} (S : Sx F δ σ H) (hp : H p = none) (r : DtA F.O H vs ds) (hl : ds.length ≤ 100000) : Sx ⟨F.H0, F.M, p :: F.O, (p, ds) :: F.ph, F.tmp⟩ δ σ (upd H p (.lst vs)) := by
  have sm : Same H (upd H p (.lst vs)) := Same.upd hp
  have nO := S.notO hp
  refine ⟨fun a o m e => sm _ _ (S.base a o m e), fun a m => ?_, S.len, fun i x e => ?_, S.own, fun a m => List.mem_cons_of_mem _ (S.mo a m), fun q m => ?_, ?_, fun q m i x e o => ?_, fun q m => (S.tmp q m).new hp⟩
  · rcases List.mem_cons.mp m with z | z
    · rw [z]; exact ⟨_, upd_same⟩
    · obtain ⟨o, e⟩ := S.trk a z
      exact ⟨o, sm _ _ e⟩
  · obtain ⟨y, ey, q⟩ := S.sl i x e
    exact ⟨y, ey, q.new hp⟩
  · rcases List.mem_cons.mp m with z | z
    · rw [z]
      exact ⟨List.mem_cons_self, fun _ => S.no0 hp, (fun z => nomatch z), hl, vs, upd_same, r.new hp⟩
    · obtain ⟨h1, h2, h3, h4, xs, e, q⟩ := S.ph q z
      exact ⟨List.mem_cons_of_mem _ h1, h2, h3, h4, xs, by rw [upd_ne (ne_of_none e hp)]; exact e, q.new hp⟩
  · refine List.nodup_cons.mpr ⟨fun z => ?_, S.phn⟩
    obtain ⟨q, hq, e⟩ := List.mem_map.mp z
    have e' : q.1 = p := e
    exact nO (by rw [← e']; exact (S.ph q hq).1)
  · rcases List.mem_cons.mp m with z | z
    · rw [z] at o
      obtain ⟨y, _, r⟩ := S.sl i x e
      cases x with
      | un => cases o
      | dat d => cases o
      | ls b q ds =>
        cases o
        exact nO r.2.1
      | tray b q f =>
        cases o
        obtain ⟨_, _, _, l⟩ := r
        exact nO l.1
    · exact S.pho q z i x e o
/-- the list under way comes into a slot -/
theorem Sx.phslot {H0 : Hp} {M O : List Addr} {ph : List (Addr × List D)} {tmp : List (V × D)} (S : Sx ⟨H0, M, O, (p, ds) :: ph, tmp⟩ δ σ H) (hi : i < δ.length) : Sx ⟨H0, M, O, ph, tmp⟩ (δ.set i (.ls true p ds)) (σ.set i (some (.ref p))) H := by
  have hs : i < σ.length := S.len ▸ hi
  have other : ∀ j y, i ≠ j → δ[j]? = some y → ownOf y ≠ some p := fun j y _ e o => S.pho _ List.mem_cons_self j y e o
  have hph := S.phn
  rw [List.map_cons, List.nodup_cons] at hph
  refine ⟨S.base, S.trk, by rw [List.length_set, List.length_set]; exact S.len, fun j x e => ?_, fun j1 j2 x y q e1 e2 o1 o2 => ?_, S.mo, fun q m => S.ph q (List.mem_cons_of_mem _ m), hph.2, fun q m j x e o => ?_, S.tmp⟩
  · by_cases z : i = j
    · subst z
      rw [List.getElem?_set_self hi] at e
      cases e
      exact ⟨_, List.getElem?_set_self hs, rfl, S.ph _ List.mem_cons_self⟩
    · rw [List.getElem?_set_ne z] at e
      obtain ⟨y, ey, q⟩ := S.sl j x e
      exact ⟨y, by rw [List.getElem?_set_ne z]; exact ey, q⟩
  · by_cases z1 : i = j1
    · by_cases z2 : i = j2
      · rw [← z1, ← z2]
      · rw [← z1, List.getElem?_set_self hi] at e1
        rw [List.getElem?_set_ne z2] at e2
        cases e1
        cases o1
        exact absurd o2 (other j2 y z2 e2)
    · by_cases z2 : i = j2
      · rw [← z2, List.getElem?_set_self hi] at e2
        rw [List.getElem?_set_ne z1] at e1
        cases e2
        cases o2
        exact absurd o1 (other j1 x z1 e1)
      · rw [List.getElem?_set_ne z1] at e1
        rw [List.getElem?_set_ne z2] at e2
        exact S.own j1 j2 x y q e1 e2 o1 o2
  · by_cases z : i = j
    · subst z
      rw [List.getElem?_set_self hi] at e
      cases e
      have o' : p = q.1 := Option.some.inj o
      exact hph.1 (List.mem_map.mpr ⟨q, m, o'.symm⟩)
    · rw [List.getElem?_set_ne z] at e
      exact S.pho q (List.mem_cons_of_mem _ m) j x e o
/-- an item comes to the list under way -/
theorem Sx.phapp {H0 : Hp} {M O : List Addr} {ph : List (Addr × List D)} {tmp : List (V × D)} {v : V} {xs : List V} (S : Sx ⟨H0, M, O, (p, ds) :: ph, tmp⟩ δ σ H) (hx : H p = some (.lst xs)) (r : Dt O H v d) (hl : ds.length < 100000) :
    Sx ⟨H0, M, O, (p, ds ++ [d]) :: ph, tmp⟩ δ σ (upd H p (.lst (xs ++ [v]))) := by
  obtain ⟨pO, pn, _, _, xs', e', rx⟩ := S.ph _ List.mem_cons_self
  rw [hx] at e'
  cases e'
  have k : ∀ a o, a ≠ p → H a = some o → upd H p (.lst (xs ++ [v])) a = some o := fun a o n e => by rw [upd_ne n]; exact e
  have lO : Le O H (upd H p (.lst (xs ++ [v]))) := fun a o n e => k a o (fun z => n (z ▸ pO)) e
  have hph := S.phn
  rw [List.map_cons, List.nodup_cons] at hph
  have ls : ∀ b q ds, q ≠ p → LsAt ⟨H0, M, O, (p, ds) :: ph, tmp⟩ H b q ds → LsAt ⟨H0, M, O, (p, ds) :: ph, tmp⟩ (upd H p (.lst (xs ++ [v]))) b q ds := fun b q ds n ⟨h1, h2, h3, h4, xs, e, r⟩ => ⟨h1, h2, h3, h4, xs, k _ _ n e, r.le lO⟩
  refine ⟨fun a o m e => k _ _ (fun z => ?_) (S.base a o m e), fun a m => ?_, S.len, fun i x e => ?_, S.own, S.mo, fun q m => ?_, S.phn, fun q m i x e o => ?_, fun q m => (S.tmp q m).le lO⟩
  · subst z
    have z2 : H0 a = none := pn rfl
    have e1 : H0 a = some o := e
    rw [z2] at e1; cases e1
  · by_cases z : a = p
    · rw [z]; exact ⟨_, upd_same⟩
    · obtain ⟨o, e⟩ := S.trk a m
      exact ⟨o, k _ _ z e⟩
  · obtain ⟨y, ey, q⟩ := S.sl i x e
    refine ⟨y, ey, ?_⟩
    have np : ∀ q, ownOf x = some q → q ≠ p := fun q o z => S.pho _ List.mem_cons_self i x e (by rw [o, z])
    cases x with
    | un => trivial
    | dat d =>
      obtain ⟨v, e1, r1⟩ := q
      exact ⟨v, e1, r1.le lO⟩
    | ls b q' ds => exact ⟨q.1, ls b q' ds (np q' rfl) q.2⟩
    | tray b q' g =>
      obtain ⟨e1, ds, t1, r1⟩ := q
      exact ⟨e1, ds, t1, ls b q' ds (np q' rfl) r1⟩
  · rcases List.mem_cons.mp m with z | z
    · rw [z]
      exact ⟨pO, pn, (fun z => nomatch z), by rw [List.length_append]; exact hl, _, upd_same, (rx.le lO).app (.cons (r.le lO) .nil)⟩
    · exact ls true q.1 q.2 (fun z2 => hph.1 (List.mem_map.mpr ⟨q, z, z2⟩)) (S.ph q (List.mem_cons_of_mem _ z))
  · rcases List.mem_cons.mp m with z | z
    · rw [z] at o
      exact S.pho _ List.mem_cons_self i x e o
    · exact S.pho q (List.mem_cons_of_mem _ z) i x e o
theorem Sl.anti {x : DV} {y : Option V} {H0 : Hp} {M O O' : List Addr} {ph ph' : List (Addr × List D)} {tmp tmp' : List (V × D)} (h : Sl ⟨H0, M, O, ph, tmp⟩ H x y) (s : ∀ a ∈ O', a ∈ O) (k : ∀ q, ownOf x = some q → q ∈ O') : Sl ⟨H0, M, O', ph', tmp'⟩ H x y := by
  have ls : ∀ b q ds, q ∈ O' → LsAt ⟨H0, M, O, ph, tmp⟩ H b q ds → LsAt ⟨H0, M, O', ph', tmp'⟩ H b q ds := fun b q ds m ⟨h1, h2, h3, h4, xs, e, r⟩ => ⟨m, h2, h3, h4, xs, e, r.anti s⟩
  cases x with
  | un => trivial
  | dat d =>
    obtain ⟨v, e, r⟩ := h
    exact ⟨v, e, r.anti s⟩
  | ls b q ds => exact ⟨h.1, ls b q ds (k q rfl) h.2⟩
  | tray b q f =>
    obtain ⟨e, ds, td, l⟩ := h
    exact ⟨e, ds, td, ls b q ds (k q rfl) l⟩
/-- the list under way is done: it is a datum -/
theorem Sx.phdone {H0 : Hp} {M O : List Addr} {ph : List (Addr × List D)} {tmp : List (V × D)} (S : Sx ⟨H0, M, p :: O, (p, ds) :: ph, tmp⟩ δ σ H) (nO : p ∉ O) (hm : ∀ a ∈ M, a ∈ O) : Sx ⟨H0, M, O, ph, tmp⟩ δ σ H ∧ Dt O H (.ref p) (.list ds) := by
  have sub : ∀ a ∈ O, a ∈ p :: O := fun a m => List.mem_cons_of_mem _ m
  have hph := S.phn
  rw [List.map_cons, List.nodup_cons] at hph
  obtain ⟨_, _, _, _, xs, e, r⟩ := S.ph _ List.mem_cons_self
  refine ⟨⟨S.base, fun a m => S.trk a (sub a m), S.len, fun i x e => ?_, S.own, hm, fun q m => ?_, hph.2, fun q m => S.pho q (List.mem_cons_of_mem _ m), fun q m => (S.tmp q m).anti sub⟩, .lst nO e (r.anti sub)⟩
  · obtain ⟨y, ey, q⟩ := S.sl i x e
    refine ⟨y, ey, q.anti sub fun q' o => ?_⟩
    have np : q' ≠ p := fun z => S.pho _ List.mem_cons_self i x e (by rw [o, z])
    have m : q' ∈ p :: O := by
      cases x with
      | un => cases o
      | dat d => cases o
      | ls b q2 ds =>
        cases o
        exact q.2.1
      | tray b q2 f =>
        cases o
        obtain ⟨_, _, _, l⟩ := q
        exact l.1
    exact (List.mem_cons.mp m).elim (fun z => absurd z np) id
  · obtain ⟨h1, h2, h3, h4, xs, e, q'⟩ := S.ph q (List.mem_cons_of_mem _ m)
    refine ⟨(List.mem_cons.mp h1).elim (fun z => ?_) id, h2, h3, h4, xs, e, q'.anti sub⟩
    exact absurd (List.mem_map.mpr ⟨q, m, z⟩) hph.1
/-- x = [..], a list that is written later -/
theorem rs_newls (h : RdA tr δ fun ds δ1 => ds.length ≤ 100000 ∧ i < δ1.length ∧ ∀ p, K.nx (δ1.set i (.ls true p ds))) : Rs (tAsg (tLst tr) (gName i)) δ K := fun H0 M O0 O tmp σ H E s tr S EO => h _ σ H S _ fun vs H1 ds δ1 ⟨hl, hi, k⟩ l1 S1 r1 =>
  ⟨Nat.le_trans (r1.len ▸ hl) (by rw [sizeLine_eq]; decide), fun q hq => EO.nx (q :: O) _ _ _ (fun a m => List.mem_cons_of_mem _ (s a m)) ((S1.addph hq r1 hl).phslot hi) (k q)⟩
/-- x, y = [], e: x a list that is written later -/
theorem rs_parNew (hij : i ≠ j) (h : Rd te δ fun y δ1 => i < δ1.length ∧ j < δ1.length ∧ ∀ p, K.nx ((δ1.set i (.ls true p [])).set j (.dat y))) : Rs (tPar i j (tCons (tLst tNil) (tCons te tNil))) δ K := fun H0 M O0 O tmp σ H E s tr S EO =>
  ⟨Nat.zero_le _, fun q hq => h _ σ _ (S.addph hq .nil (Nat.zero_le _)) _ fun v H1 d δ1 ⟨hi, hj, k⟩ l1 S1 r1 =>
    ⟨_, _, rfl, EO.nx (q :: O) _ _ _ (fun a m => List.mem_cons_of_mem _ (s a m)) (Sx.set (F := ⟨H0, M, q :: O, [], tmp⟩) (S1.phslot hi) (by rw [List.length_set]; exact hj) r1) (k q)⟩⟩
end
end DL

/-! Lists of one's own written and read; what is walked; loops; comprehensions. -/
namespace DL
open PySem PySem.Spec PyProof.Rows L2
section
variable {F : Fm} {δ δ' : List DV} {K : KD} {Kf : PySem.W.Frag} {te tl : TE} {ta tr : TA} {tt : TT} {t u tb : TS} {i j : Nat} {σ : L2.St} {H H' : Hp} {p : Addr} {b : Bool} {d : D} {ds : List D} {P : D → List DV → Prop}
theorem DtA.set {O : List Addr} {v : V} (r : Dt O H v d) : ∀ {xs : List V} {ds : List D} (j : Nat), DtA O H xs ds → DtA O H (xs.set j v) (ds.set j d)
  | _, _, _, .nil => .nil
  | _, _, 0, .cons _ t => .cons r t
  | _, _, j + 1, .cons a t => .cons a (DtA.set r j t)
/-- the own list at p is written -/
theorem Sx.lsput {xs : List V} {ds ds' : List D} (S : Sx F δ σ H) (hi : δ[i]? = some (.ls b p ds)) (hl : ds'.length ≤ 100000) (r : DtA F.O H xs ds') : Sx F (δ.set i (.ls b p ds')) σ (upd H p (.lst xs)) :=
  S.wrote hi rfl rfl (fun a o n e => by rw [upd_ne (by simpa using n)]; exact e) fun y ⟨e, h1, h2, h3, h4, _⟩ => ⟨e, h1, h2, h3, hl, xs, upd_same, r.put h1⟩
theorem Sx.lsget {ds : List D} (S : Sx F δ σ H) (hi : δ[i]? = some (.ls b p ds)) : σ[i]? = some (some (.ref p)) ∧ p ∈ F.O ∧ ds.length ≤ 100000 ∧ ∃ xs, H p = some (.lst xs) ∧ DtA F.O H xs ds := by
  obtain ⟨y, ey, e, h1, h2, h3, h4, h5⟩ := S.sl i _ hi
  subst e
  exact ⟨ey, h1, h4, h5⟩
/-- x.append(e) -/
theorem rs_app {ds0 : List D} (hi : δ[i]? = some (.ls b p ds0)) (h : Rd te δ fun d δ1 => ∃ ds, δ1[i]? = some (.ls b p ds) ∧ ds.length < 100000 ∧ K.nx (δ1.set i (.ls b p (ds ++ [d])))) : Rs (tDrop (tBM Kf "list" rAppend (tVar i) (tCons te tNil))) δ K := fun H0 M O0 O tmp σ H E s tr S EO => by
  obtain ⟨ey, pO, _, xs, hx, _⟩ := S.lsget hi
  refine ⟨_, ey, Or.inl ⟨rfl, xs, .inl (.inl hx)⟩, h _ σ H S _ fun v H1 d δ1 ⟨ds, h1, hl, k⟩ l1 S1 r1 => ?_⟩
  obtain ⟨_, _, _, xs1, hx1, rx1⟩ := S1.lsget h1
  exact ⟨p, xs1, v, rfl, rfl, hx1, by rw [rx1.len, sizeLine_eq]; omega, EO.nx O _ _ _ s (S1.lsput h1 (by rw [List.length_append]; exact hl) (rx1.app (.cons r1 .nil))) k⟩
/-- x[j] = e -/
theorem rs_setix {ds0 : List D} {n : Int} (hi : δ[i]? = some (.ls b p ds0)) (h : Rd te δ fun d δ1 => ∃ ds j, δ1[i]? = some (.ls b p ds) ∧ ixN ds.length n = some j ∧ K.nx (δ1.set i (.ls b p (ds.set j d)))) : Rs (tAsg te (gSub (tVar i) (tC (.int n)) rSetL)) δ K := fun H0 M O0 O tmp σ H E s tr S EO => by
  refine h _ σ H S _ fun v H1 d δ1 ⟨ds, j, h1, hj, k⟩ l1 S1 r1 => ?_
  obtain ⟨ey, _, hl, xs1, hx1, rx1⟩ := S1.lsget h1
  exact ⟨_, ey, p, xs1, n, j, rfl, rfl, hx1, by rw [rx1.len]; exact hj, EO.nx O _ _ _ s (S1.lsput h1 (by rw [List.length_set]; exact hl) (rx1.set r1 j)) k⟩
/-- x[e], x a list of one's own -/
theorem rd_ixls (hi : δ[i]? = some (.ls b p ds)) (h : Rd te δ fun y δ1 => ∃ ds n d, δ1[i]? = some (.ls b p ds) ∧ y = .int n ∧ atI ds n = some d ∧ P d δ1) : Rd (tOp (rIx Kf) (tVar i) te) δ P := fun F σ H S Q k => by
  obtain ⟨ey, _, _, xs, hx, _⟩ := S.lsget hi
  refine ⟨_, ey, h F σ H S _ fun v H1 y δ1 ⟨ds, n, d, h1, e, ha, q⟩ l1 S1 r1 => ?_⟩
  obtain ⟨_, _, _, xs1, hx1, rx1⟩ := S1.lsget h1
  subst e
  cases r1
  obtain ⟨w, hw, rw'⟩ := at_dt rx1 ha
  exact Or.inl ⟨_, _, n, w, rfl, rfl, .inl (.inl hx1), hw, k w H1 d δ1 q l1 S1 rw'⟩
/-- len(x), x a list of one's own -/
theorem rd_lenls (hi : δ[i]? = some (.ls b p ds)) (q : P (.int (ds.length : Nat)) δ) : Rd (tCB (fun xs H Q => ∃ x n, xs = [x] ∧ LenV Kf x H n ∧ Q (.int (n : Nat)) H) (tCons (tVar i) tNil)) δ P := fun F σ H S Q k => by
  obtain ⟨ey, _, _, xs, hx, rx⟩ := S.lsget hi
  exact ⟨_, ey, _, ds.length, rfl, Or.inl ⟨xs, .inl (.inl hx), rx.len.symm⟩, k _ H _ δ q (Le.refl _ _) S (.int _)⟩
/-- a list of one's own is written no more: it is a datum -/
theorem Sx.freeze {H0 : Hp} {M O : List Addr} {tmp : List (V × D)} (S : Sx ⟨H0, M, O, [], tmp⟩ δ σ H) (hi : δ[i]? = some (.ls true p ds)) (hM : ∀ a ∈ M, ∃ o, H0 a = some o) : Sx ⟨H0, M, O.filter (fun a => decide (a ≠ p)), [], tmp⟩ (δ.set i (.dat (.list ds))) σ H := by
  obtain ⟨y, ey, e, pO, pn, _, _, xs, hx, rx⟩ := S.sl i _ hi
  subst e
  have sub : ∀ a ∈ O.filter (fun a => decide (a ≠ p)), a ∈ O := fun a m => (List.mem_filter.mp m).1
  have hl : i < δ.length := (List.getElem?_eq_some_iff.mp hi).1
  have back : ∀ j x q, (δ.set i (.dat (.list ds)))[j]? = some x → ownOf x = some q → δ[j]? = some x ∧ i ≠ j := fun j x q e o => by
    by_cases z : i = j
    · subst z
      rw [List.getElem?_set_self hl] at e
      cases e
      cases o
    · rw [List.getElem?_set_ne z] at e
      exact ⟨e, z⟩
  refine ⟨S.base, fun a m => S.trk a (sub a m), by rw [List.length_set]; exact S.len, fun j x e => ?_, fun j1 j2 x y q e1 e2 o1 o2 => S.own j1 j2 x y q (back _ _ _ e1 o1).1 (back _ _ _ e2 o2).1 o1 o2, fun a m => List.mem_filter.mpr ⟨S.mo a m, decide_eq_true fun z => ?_⟩, fun q m => (nomatch m), List.nodup_nil, fun q m => (nomatch m), fun q m => (S.tmp q m).anti sub⟩
  · by_cases z : i = j
    · subst z
      rw [List.getElem?_set_self hl] at e
      cases e
      exact ⟨_, ey, _, rfl, .lst (fun m => by simpa using (List.mem_filter.mp m).2) hx (rx.anti sub)⟩
    · rw [List.getElem?_set_ne z] at e
      obtain ⟨y, ey, q⟩ := S.sl j x e
      refine ⟨y, ey, q.anti sub fun q' o => List.mem_filter.mpr ⟨?_, decide_eq_true fun z2 => ?_⟩⟩
      · cases x with
        | un => cases o
        | dat d => cases o
        | ls b q2 ds =>
          cases o
          exact q.2.1
        | tray b q2 f =>
          cases o
          obtain ⟨_, _, _, l⟩ := q
          exact l.1
      · exact z (S.own i j _ x p hi e rfl (by rw [o, z2]))
  · obtain ⟨o, e⟩ := hM a m
    rw [z] at e
    have pn' : H0 p = none := pn rfl
    rw [pn'] at e; cases e
end
end DL

/-! What is walked; loops; comprehensions. -/
namespace DL
open PySem PySem.Spec PyProof.Rows L2
section
variable {F : Fm} {δ δ' : List DV} {K : KD} {Kf : PySem.W.Frag} {te tl : TE} {ta tr : TA} {tt : TT} {t u tb : TS} {i j : Nat} {σ : L2.St} {H H' : Hp} {p : Addr} {b : Bool} {d : D} {ds : List D} {P : D → List DV → Prop}
theorem rs_freeze (hi : δ[i]? = some (.ls true p ds)) (h : Rs t (δ.set i (.dat (.list ds))) K) : Rs t δ K := fun H0 M O0 O tmp σ H E s tr S EO => by
  have pn : H0 p = none := by
    obtain ⟨_, _, _, _, z, _⟩ := S.sl i _ hi
    exact z rfl
  refine h H0 M O0 _ tmp σ H E (fun a m => ?_) tr (S.freeze hi fun a m => tr.1 a (tr.2 a m)) EO
  have ne : a ≠ p := fun z => by
    obtain ⟨o, e⟩ := tr.1 a m
    rw [z, pn] at e; cases e
  exact List.mem_filter.mpr ⟨s a m, by simpa using ne⟩
/-- less is known -/
def Wk (x x' : DV) : Prop := x' = .un ∨ x' = x ∨ ∃ b p f f', x = .tray b p f ∧ x' = .tray b p f' ∧ f' ≤ f
theorem Sx.weak (S : Sx F δ σ H) (hl : δ'.length = δ.length) (h : ∀ (k : Nat) x x', δ[k]? = some x → δ'[k]? = some x' → Wk x x') : Sx F δ' σ H := by
  have get : ∀ (k : Nat) x', δ'[k]? = some x' → ∃ x, δ[k]? = some x ∧ Wk x x' := fun k x' e => by
    have hk : k < δ'.length := (List.getElem?_eq_some_iff.mp e).1
    rw [hl] at hk
    exact ⟨_, List.getElem?_eq_getElem hk, h k _ x' (List.getElem?_eq_getElem hk) e⟩
  have ow : ∀ x x' q, Wk x x' → ownOf x' = some q → ownOf x = some q := fun x x' q w o => by
    rcases w with rfl | rfl | ⟨b, p, f, f', rfl, rfl, _⟩
    · cases o
    · exact o
    · exact o
  refine ⟨S.base, S.trk, by rw [hl]; exact S.len, fun k x' e => ?_, fun j1 j2 x y q e1 e2 o1 o2 => ?_, S.mo, S.ph, S.phn, fun q m k x' e o => ?_, S.tmp⟩
  · obtain ⟨x, ex, w⟩ := get k x' e
    obtain ⟨y, ey, r⟩ := S.sl k x ex
    refine ⟨y, ey, ?_⟩
    rcases w with rfl | rfl | ⟨b, p, f, f', rfl, rfl, hf⟩
    · trivial
    · exact r
    · obtain ⟨e1, ds, ⟨ns, tn, lf, h1, h2, h3, h4⟩, l⟩ := r
      exact ⟨e1, ds, ⟨ns, tn, lf, h1, h2, h3, by omega⟩, l⟩
  · obtain ⟨x1, ex1, w1⟩ := get j1 x e1
    obtain ⟨y1, ey1, w2⟩ := get j2 y e2
    exact S.own j1 j2 x1 y1 q ex1 ey1 (ow _ _ _ w1 o1) (ow _ _ _ w2 o2)
  · obtain ⟨x, ex, w⟩ := get k x' e
    exact S.pho q m k x ex (ow _ _ _ w o)
theorem rs_weak (hl : δ'.length = δ.length) (h : ∀ (k : Nat) x x', δ[k]? = some x → δ'[k]? = some x' → Wk x x') (q : Rs t δ' K) : Rs t δ K := fun H0 M O0 O tmp σ H E s tr S EO => q H0 M O0 O tmp σ H E s tr (S.weak hl h) EO
/-- a tray is opened: its cells, its turn, what is left -/
theorem rs_open {f : Nat} (hi : δ[i]? = some (.tray b p f)) (h : ∀ (ns : List Int) (turn left : Int), ns.length ≤ 63 → 0 ≤ turn → turn + (f : Int) ≤ 1000000 → Rs t (δ.set i (.ls b p [.list (ns.map PyData.int), .int turn, .int left])) K) : Rs t δ K := fun H0 M O0 O tmp σ H E s tr S EO => by
  obtain ⟨y, ey, e, ds, ⟨ns, tn, lf, rfl, h1, h2, h3⟩, l⟩ := S.sl i _ hi
  refine h ns tn lf h1 h2 h3 H0 M O0 O tmp σ H E s tr ?_ EO
  obtain ⟨pO, q1, q2, q3, xs, ex, rx⟩ := l
  exact S.wrote (x' := .ls b p [.list (ns.map PyData.int), .int tn, .int lf]) hi rfl rfl (Le.refl _ _) fun y' ⟨e', ds', td', l'⟩ => ⟨e', pO, q1, q2, (by show 3 ≤ 100000; decide), xs, ex, rx⟩
/-! ### what is walked -/
def SrcOk (J : It) (ds : List D) (q : List (V × D)) : Prop := ∀ (O : List Addr) (H : Hp), (∀ a ∈ O, ∃ o, H a = some o) → (∀ x ∈ q, Dt O H x.1 x.2) →
  (∀ i, i < ds.length → J.go i H ∧ ∀ x H', J.yld i H x H' → Same H H' ∧ ∃ d, ds[i]? = some d ∧ Dt O H' x d) ∧ ∀ i, ds.length ≤ i → J.stop i H
def RdI (wi : TI) (δ : List DV) (N : List D → List DV → Prop) : Prop := ∀ (F : Fm) (σ : L2.St) (H : Hp), Sx F δ σ H → ∀ R : It → Hp → Prop,
  (∀ J H' ds δ' q, N ds δ' → Le F.O H H' → Sx ⟨F.H0, F.M, F.O, F.ph, q ++ F.tmp⟩ δ' σ H' → SrcOk J ds q → R J H') → wi σ H R
theorem Sx.tmpadd {v : V} (S : Sx F δ σ H) (r : Dt F.O H v d) : Sx ⟨F.H0, F.M, F.O, F.ph, [(v, d)] ++ F.tmp⟩ δ σ H :=
  ⟨S.base, S.trk, S.len, S.sl, S.own, S.mo, S.ph, S.phn, S.pho, fun q m => (List.mem_cons.mp m).elim (fun z => by rw [z]; exact r) (S.tmp q)⟩
theorem Sx.tmpdrop {H0 : Hp} {M O : List Addr} {ph : List (Addr × List D)} {q tmp : List (V × D)} (S : Sx ⟨H0, M, O, ph, q ++ tmp⟩ δ σ H) : Sx ⟨H0, M, O, ph, tmp⟩ δ σ H :=
  ⟨S.base, S.trk, S.len, S.sl, S.own, S.mo, S.ph, S.phn, S.pho, fun x m => S.tmp x (List.mem_append_right _ m)⟩
theorem src_list {a : Addr} : SrcOk (Itl Kf a) ds [(.ref a, .list ds)] := fun O H _ hq => by
  have h := hq _ List.mem_cons_self
  cases h with
  | lst n e r =>
    refine ⟨fun i hi => ⟨?_, fun x H' hy => ?_⟩, fun i hi => ⟨_, .inl (.inl e), by rw [r.len]; exact hi⟩⟩
    · obtain ⟨v, hv, _⟩ := r.get (List.getElem?_eq_getElem hi)
      exact ⟨_, v, .inl (.inl e), hv⟩
    · obtain ⟨rfl, hx⟩ := hy
      have hx' := hx _ (.inl (.inl e))
      obtain ⟨v, hv, rv⟩ := r.get (List.getElem?_eq_getElem hi)
      rw [hx'] at hv
      cases hv
      exact ⟨Same.refl _, _, List.getElem?_eq_getElem hi, rv⟩
theorem src_tup {a : Addr} : SrcOk (Itt Kf a) ds [(.ref a, .tuple ds)] := fun O H _ hq => by
  have h := hq _ List.mem_cons_self
  cases h with
  | tup n e r =>
    refine ⟨fun i hi => ⟨?_, fun x H' hy => ?_⟩, fun i hi => ⟨_, .inl (.inl e), by rw [r.len]; exact hi⟩⟩
    · obtain ⟨v, hv, _⟩ := r.get (List.getElem?_eq_getElem hi)
      exact ⟨_, v, .inl (.inl e), hv⟩
    · obtain ⟨rfl, hx⟩ := hy
      have hx' := hx _ (.inl (.inl e))
      obtain ⟨v, hv, rv⟩ := r.get (List.getElem?_eq_getElem hi)
      rw [hx'] at hv
      cases hv
      exact ⟨Same.refl _, _, List.getElem?_eq_getElem hi, rv⟩
/-- lo, lo + 1, .. as data -/
def rngD (lo : Int) (n : Nat) : List D := (List.range n).map fun (k : Nat) => PyData.int (lo + (k : Int))
theorem rngD_len {lo : Int} {n : Nat} : (rngD lo n).length = n := by simp [rngD]
theorem rngD_get {lo : Int} {n k : Nat} (h : k < n) : (rngD lo n)[k]? = some (.int (lo + (k : Int))) := by
  unfold rngD
  rw [List.getElem?_map, List.getElem?_range h]
  rfl
theorem src_rng {lo : Int} {n : Nat} : SrcOk (Itr lo n) (rngD lo n) [] := fun O H _ _ => by
  refine ⟨fun i hi => ?_, fun i hi => ?_⟩
  · rw [rngD_len] at hi
    refine ⟨hi, fun x H' hy => ?_⟩
    obtain ⟨rfl, rfl⟩ := hy
    exact ⟨Same.refl _, _, rngD_get hi, .int _⟩
  · rw [rngD_len] at hi
    exact hi
theorem ri_list {N : List D → List DV → Prop} (h : Rd tl δ fun x δ1 => ∃ ds, x = .list ds ∧ N ds δ1) : RdI (iList Kf tl) δ N := fun F σ H S R k => h F σ H S _ fun v H1 x δ1 ⟨ds, e, n⟩ l1 S1 r1 => by
  subst e
  have S2 := S1.tmpadd r1
  cases r1 with
  | lst m e r => exact ⟨_, rfl, ⟨_, .inl (.inl e)⟩, k _ H1 ds δ1 _ n l1 S2 src_list⟩
theorem ri_tup {N : List D → List DV → Prop} (h : Rd tl δ fun x δ1 => ∃ ds, x = .tuple ds ∧ N ds δ1) : RdI (iTup Kf tl) δ N := fun F σ H S R k => h F σ H S _ fun v H1 x δ1 ⟨ds, e, n⟩ l1 S1 r1 => by
  subst e
  have S2 := S1.tmpadd r1
  cases r1 with
  | tup m e r => exact ⟨_, rfl, ⟨_, .inl (.inl e)⟩, k _ H1 ds δ1 _ n l1 S2 src_tup⟩
theorem ri_rng1 {N : List D → List DV → Prop} (h : RdA ta δ fun xs δ1 => ∃ n : Int, xs = [.int n] ∧ -(2 ^ 62) ≤ n ∧ n < 2 ^ 62 ∧ N (rngD 0 n.toNat) δ1) : RdI (iRng1 ta) δ N := fun F σ H S R k => h F σ H S _ fun vs H1 xs δ1 ⟨n, e, h1, h2, q⟩ l1 S1 r1 => by
  subst e
  cases r1 with
  | cons a r =>
    cases r
    cases a
    exact ⟨n, rfl, h1, h2, k _ H1 _ δ1 [] q l1 S1 src_rng⟩
theorem ri_rng2 {N : List D → List DV → Prop} (h : RdA ta δ fun xs δ1 => ∃ m n : Int, xs = [.int m, .int n] ∧ (-(2 ^ 62) ≤ m ∧ m < 2 ^ 62 ∧ -(2 ^ 62) ≤ n ∧ n < 2 ^ 62) ∧ N (rngD m (n - m).toNat) δ1) : RdI (iRng2 ta) δ N := fun F σ H S R k => h F σ H S _ fun vs H1 xs δ1 ⟨m, n, e, h1, q⟩ l1 S1 r1 => by
  subst e
  cases r1 with
  | cons a r =>
    cases r with
    | cons b r =>
      cases r
      cases a
      cases b
      exact ⟨m, n, rfl, h1, k _ H1 _ δ1 [] q l1 S1 src_rng⟩
/-- a list or a tuple -/
def iSeq (Kf : PySem.W.Frag) (tl : TE) : TI := fun σ H R => tl σ H fun x H1 => ∃ a, x = .ref a ∧ (((∃ xs, SqL Kf H1 a xs) ∧ R (Itl Kf a) H1) ∨ ((∃ xs, SqT Kf H1 a xs) ∧ R (Itt Kf a) H1))
theorem pi_seq {X : Cx} {tg l : Expr} {tl : TE} (hl : PE X l tl) : PI X tg l (iSeq X.K tl) := by
  have h1 := pi_list (tg := tg) hl
  have h2 := pi_tup (tg := tg) hl
  refine ⟨fun pins s σ H R I h => ?_⟩
  refine thn (hl.run pins s σ H _ I h) fun v s1 ⟨x, H1, I1, r1, a, e, q⟩ => ?_
  subst e
  cases r1
  rcases q with ⟨⟨xs, hq⟩, q⟩ | ⟨⟨xs, hq⟩, q⟩
  · obtain ⟨its, rv, p, hz⟩ := I1.list hq
    refine wpAny_pyIter_list p.isList ⟨_, [s1.heap.objs.size], _, _, H1, rfl, I1.kept (t' := s1.toks) fun b o e => Heap.get?_push_of_some _ e, turn_list a _, ⟨_, Heap.get?_push_size _ rfl, rfl, rfl⟩, fun b hb => ?_, q⟩
    rw [List.mem_singleton] at hb
    rw [hb]
    exact I1.fpOk (Nat.le_refl _) (I1.hok.fresh (Nat.le_refl _))
  · obtain ⟨its, rv, p, hz⟩ := I1.tuple hq
    refine wpAny_pyIter_tuple (show s1.heap.IsTuple a its.toArray from p) ⟨_, [s1.heap.objs.size], _, _, H1, rfl, I1.kept (t' := s1.toks) fun b o e => Heap.get?_push_of_some _ e, turn_tuple a _, ⟨_, Heap.get?_push_size _ rfl, rfl, rfl⟩, fun b hb => ?_, q⟩
    rw [List.mem_singleton] at hb
    rw [hb]
    exact I1.fpOk (Nat.le_refl _) (I1.hok.fresh (Nat.le_refl _))
theorem ri_seq {N : List D → List DV → Prop} (h : Rd tl δ fun x δ1 => ∃ ds, (x = .list ds ∨ x = .tuple ds) ∧ N ds δ1) : RdI (iSeq Kf tl) δ N := fun F σ H S R k => h F σ H S _ fun v H1 x δ1 ⟨ds, e, n⟩ l1 S1 r1 => by
  have S2 := S1.tmpadd r1
  rcases e with rfl | rfl
  · cases r1 with
    | lst m e r => exact ⟨_, rfl, Or.inl ⟨⟨_, .inl (.inl e)⟩, k _ H1 ds δ1 _ n l1 S2 src_list⟩⟩
  · cases r1 with
    | tup m e r => exact ⟨_, rfl, Or.inr ⟨⟨_, .inl (.inl e)⟩, k _ H1 ds δ1 _ n l1 S2 src_tup⟩⟩
/-! ### loops -/
theorem rs_for {wi : TI} {g : TG} {sl : List Nat} {f : D → List DV → (List DV → Prop) → Prop} (hg : Gd g sl f)
    (h : RdI wi δ fun ds δ1 => ∃ I : Nat → List DV → Prop, I 0 δ1 ∧ (∀ j d δ', ds[j]? = some d → I j δ' → f d δ' fun δ2 => Rs tb δ2 { nx := I (j + 1), ct := I (j + 1), bk := K.nx, rt := K.rt }) ∧ ∀ δ', I ds.length δ' → K.nx δ') : Rs (tFor wi g tb) δ K := fun H0 M O0 O tmp σ H E s tr S EO => by
  refine h _ σ H S _ fun J H1 ds δ1 q ⟨I, i0, turn, fin⟩ l1 S1 src => ?_
  refine ⟨fun k m σ' H' => m = ds.length - k ∧ k ≤ ds.length ∧ ∃ O' δ', (∀ a ∈ O0, a ∈ O') ∧ Sx ⟨H0, M, O', [], q ++ tmp⟩ δ' σ' H' ∧ I k δ', ⟨_, rfl, Nat.zero_le _, O, δ1, s, S1, i0⟩, ?_⟩
  rintro k m σ' H' ⟨rfl, hk, O', δ', s', S', Ik⟩
  obtain ⟨hgo, hst⟩ := src O' H' S'.trk fun x m => S'.tmp x (List.mem_append_left _ m)
  by_cases hk' : k < ds.length
  · refine Or.inr ⟨(hgo k hk').1, fun σ2 H2 => ∃ O2 δ2, (∀ a ∈ O0, a ∈ O2) ∧ Sx ⟨H0, M, O2, [], q ++ tmp⟩ δ2 σ2 H2 ∧ I (k + 1) δ2, fun σ2 H2 ⟨O2, δ2, z1, z2, z3⟩ => ⟨ds.length - (k + 1), by omega, rfl, hk', O2, δ2, z1, z2, z3⟩, fun x H2 hy => ?_⟩
    obtain ⟨sm, d, hd, rd⟩ := (hgo k hk').2 x H2 hy
    refine hg _ δ' σ' H2 x d _ _ (S'.same sm) rd (turn k d δ' hd Ik) fun δ2 σ2 hb S2 _ => ?_
    refine hb H0 M O0 O' (q ++ tmp) σ2 H2 _ s' tr S2 ⟨fun O3 δ3 σ3 H3 z1 z2 z3 => ⟨O3, δ3, z1, z2, z3⟩, fun O3 δ3 σ3 H3 z1 z2 z3 => EO.nx O3 δ3 σ3 H3 z1 z2.tmpdrop z3, fun O3 δ3 σ3 H3 z1 z2 z3 => ⟨O3, δ3, z1, z2, z3⟩, fun O3 δ3 σ3 H3 v d z1 z2 z3 z4 => EO.rt O3 δ3 σ3 H3 v d z1 z2.tmpdrop z3 z4⟩
  · have e : k = ds.length := by omega
    subst e
    exact Or.inl ⟨hst _ (Nat.le_refl _), EO.nx O' δ' σ' H' s' S'.tmpdrop (fin δ' Ik)⟩
end
end DL

/-! Comprehensions; defs by their data. -/
namespace DL
open PySem PySem.Spec PyProof.Rows L2
def wipeD (δ : List DV) : List Nat → List DV
  | [] => δ
  | v :: vs => (wipeD δ vs).set v .un
/-- the slots of vs as they were -/
def back (δ' δ : List DV) (vs : List Nat) : List DV := (List.range δ.length).map fun k => if k ∈ vs then δ'.getD k .un else δ.getD k .un
section
variable {F : Fm} {δ δ' : List DV} {K : KD} {Kf : PySem.W.Frag} {te tl : TE} {ta tr : TA} {tt : TT} {t u tb : TS} {i j : Nat} {σ σ2 : L2.St} {H H' : Hp} {p : Addr} {b : Bool} {d : D} {ds : List D} {P : D → List DV → Prop} {vs : List Nat}
theorem Sx.unset (S : Sx F δ σ H) : Sx F (δ.set i .un) (σ.set i none) H := by
  have back : ∀ j x p, (δ.set i .un)[j]? = some x → ownOf x = some p → δ[j]? = some x := fun j x p e o => by
    by_cases z : i = j
    · subst z
      by_cases hi : i < δ.length
      · rw [List.getElem?_set_self hi] at e
        cases e
        cases o
      · rw [List.getElem?_eq_none (by simpa using hi)] at e
        cases e
    · rw [List.getElem?_set_ne z] at e
      exact e
  refine ⟨S.base, S.trk, by rw [List.length_set, List.length_set]; exact S.len, fun j x e => ?_, fun j1 j2 x y p e1 e2 o1 o2 => S.own j1 j2 x y p (back _ _ _ e1 o1) (back _ _ _ e2 o2) o1 o2, S.mo, S.ph, S.phn, fun q m j x e o => S.pho q m j x (back _ _ _ e o) o, S.tmp⟩
  by_cases z : i = j
  · subst z
    by_cases hi : i < δ.length
    · rw [List.getElem?_set_self hi] at e
      cases e
      exact ⟨none, List.getElem?_set_self (S.len ▸ hi), trivial⟩
    · rw [List.getElem?_eq_none (by simpa using hi)] at e
      cases e
  · rw [List.getElem?_set_ne z] at e
    obtain ⟨y, ey, q⟩ := S.sl j x e
    exact ⟨y, by rw [List.getElem?_set_ne z]; exact ey, q⟩
theorem Sx.wiped (S : Sx F δ σ H) : ∀ vs : List Nat, Sx F (wipeD δ vs) (wipe σ vs) H
  | [] => S
  | _ :: vs => (S.wiped vs).unset
theorem wipe_get {k : Nat} : ∀ {vs : List Nat}, k ∉ vs → (wipe σ vs)[k]? = σ[k]?
  | [], _ => rfl
  | v :: vs, h => by
    show ((wipe σ vs).set v none)[k]? = _
    rw [List.getElem?_set_ne (fun z => h (by rw [← z]; exact List.mem_cons_self))]
    exact wipe_get fun z => h (List.mem_cons_of_mem _ z)
theorem wipe_in {k : Nat} : ∀ {vs : List Nat}, k ∈ vs → k < σ.length → (wipe σ vs)[k]? = some none
  | [], h, _ => by cases h
  | v :: vs, h, hl => by
    show ((wipe σ vs).set v none)[k]? = _
    by_cases z : v = k
    · subst z
      exact List.getElem?_set_self (by rw [wipe_length]; exact hl)
    · rw [List.getElem?_set_ne z]
      exact wipe_in ((List.mem_cons.mp h).elim (fun e => absurd e.symm z) id) hl
theorem wipe_ext (hl : σ2.length = σ.length) (h : ∀ k, k ∉ vs → σ2[k]? = σ[k]?) : wipe σ2 vs = wipe σ vs := by
  refine List.ext_getElem? fun k => ?_
  by_cases m : k ∈ vs
  · by_cases hk : k < σ.length
    · rw [wipe_in m hk, wipe_in m (by rw [hl]; exact hk)]
    · rw [List.getElem?_eq_none (by rw [wipe_length, hl]; omega), List.getElem?_eq_none (by rw [wipe_length]; omega)]
  · rw [wipe_get m, wipe_get m]
    exact h k m
theorem Sx.backed {F0 : Fm} (S : Sx F δ σ2 H') (S0 : Sx F0 δ' σ H) (hO : F0.O = F.O) (l : Le F.O H H') (hw : wipe σ2 vs = wipe σ vs) (hv : ∀ v ∈ vs, ∀ x, δ'[v]? = some x → ownOf x = none) : Sx F (back δ' δ vs) σ H' := by
  have hlen : σ2.length = σ.length := by
    have := congrArg List.length hw
    rw [wipe_length, wipe_length] at this
    exact this
  have bl : (back δ' δ vs).length = δ.length := by unfold back; rw [List.length_map, List.length_range]
  have get : ∀ k x, (back δ' δ vs)[k]? = some x → (k ∈ vs ∧ x = δ'.getD k .un) ∨ (k ∉ vs ∧ δ[k]? = some x) := fun k x e => by
    have hk : k < δ.length := by rw [← bl]; exact (List.getElem?_eq_some_iff.mp e).1
    unfold back at e
    rw [List.getElem?_map, List.getElem?_range hk] at e
    have e' : (if k ∈ vs then δ'.getD k .un else δ.getD k .un) = x := Option.some.inj e
    by_cases m : k ∈ vs
    · rw [if_pos m] at e'
      exact .inl ⟨m, e'.symm⟩
    · rw [if_neg m] at e'
      refine .inr ⟨m, ?_⟩
      rw [← e', List.getD_eq_getElem?_getD, List.getElem?_eq_getElem hk]
      rfl
  have ow : ∀ (k : Nat) x q, (back δ' δ vs)[k]? = some x → ownOf x = some q → δ[k]? = some x := fun k x q e o => by
    rcases get k x e with ⟨m, e'⟩ | ⟨_, e'⟩
    · rw [List.getD_eq_getElem?_getD] at e'
      cases z : δ'[k]? with
      | none =>
        rw [z] at e'
        rw [e'] at o
        cases o
      | some y =>
        rw [z] at e'
        have e2 : x = y := e'
        rw [e2, hv k m y z] at o
        cases o
    · exact e'
  refine ⟨S.base, S.trk, by rw [bl, S.len, hlen], fun k x e => ?_, fun j1 j2 x y q e1 e2 o1 o2 => S.own j1 j2 x y q (ow _ _ _ e1 o1) (ow _ _ _ e2 o2) o1 o2, S.mo, S.ph, S.phn, fun q m k x e o => S.pho q m k x (ow _ _ _ e o) o, S.tmp⟩
  have hk : k < σ.length := by rw [← hlen, ← S.len, ← bl]; exact (List.getElem?_eq_some_iff.mp e).1
  rcases get k x e with ⟨m, e'⟩ | ⟨m, e'⟩
  · rw [List.getD_eq_getElem?_getD] at e'
    cases z : δ'[k]? with
    | none =>
      rw [z] at e'
      have e2 : x = .un := e'
      rw [e2]
      exact ⟨σ[k], List.getElem?_eq_getElem hk, trivial⟩
    | some y =>
      rw [z] at e'
      have e2 : x = y := e'
      rw [e2]
      obtain ⟨w, ew, r⟩ := S0.sl k y z
      refine ⟨w, ew, ?_⟩
      have hn := hv k m y z
      cases y with
      | un => trivial
      | dat d =>
        obtain ⟨v, e3, r3⟩ := r
        exact ⟨v, e3, by rw [hO] at r3; exact r3.le l⟩
      | ls b p ds => cases hn
      | tray b p f => cases hn
  · obtain ⟨w, ew, r⟩ := S.sl k x e'
    refine ⟨w, ?_, r⟩
    rw [← wipe_get (σ := σ) m, ← hw, wipe_get m]
    exact ew
theorem rd_lc {wi : TI} {g : TG} {sl : List Nat} {f : D → List DV → (List DV → Prop) → Prop} (hg : Gd g sl f) (hsl : ∀ k ∈ sl, k ∈ vs)
    (h : RdI wi δ fun ds δ1 => ds.length ≤ 50000 ∧ ∃ I : Nat → List D → List DV → Prop, I 0 [] δ1 ∧ (∀ (k : Nat) d acc δ', ds[k]? = some d → I k acc δ' → (∀ v ∈ vs, ∀ x, δ'[v]? = some x → ownOf x = none) ∧
      f d (wipeD δ' vs) fun δ2 => RdT tt δ2 fun b δ3 => (b = true → Rd te δ3 fun y δ4 => I (k + 1) (acc ++ [y]) (back δ' δ4 vs)) ∧ (b = false → I (k + 1) acc (back δ' δ3 vs))) ∧
      ∀ acc δ', I ds.length acc δ' → P (.list acc) δ') : Rd (tLc wi g tt te vs) δ P := fun F σ H S Q k => by
  refine h F σ H S _ fun J H1 ds δ1 q ⟨hlen, I, i0, turn, fin⟩ l1 S1 src D hD => ?_
  have nO := S1.notO hD
  have S2 : Sx ⟨F.H0, F.M, D :: F.O, (D, []) :: F.ph, q ++ F.tmp⟩ δ1 σ (upd H1 D (.lst [])) := S1.addph hD .nil (Nat.zero_le _)
  refine ⟨fun n m H' => m = ds.length - n ∧ n ≤ ds.length ∧ Le (D :: F.O) (upd H1 D (.lst [])) H' ∧ ∃ acc δ', acc.length ≤ n ∧ Sx ⟨F.H0, F.M, D :: F.O, (D, acc) :: F.ph, q ++ F.tmp⟩ δ' σ H' ∧ I n acc δ', ⟨_, rfl, Nat.zero_le _, Le.refl _ _, [], δ1, Nat.le_refl _, S2, i0⟩, ?_⟩
  rintro n m H' ⟨rfl, hn, lh, acc, δ', ha, S', In⟩
  obtain ⟨hgo, hst⟩ := src (D :: F.O) H' S'.trk fun x m => S'.tmp x (List.mem_append_left _ m)
  by_cases hn' : n < ds.length
  · refine Or.inr ⟨(hgo n hn').1, fun H2 => n + 1 ≤ ds.length ∧ Le (D :: F.O) (upd H1 D (.lst [])) H2 ∧ ∃ acc δ', acc.length ≤ n + 1 ∧ Sx ⟨F.H0, F.M, D :: F.O, (D, acc) :: F.ph, q ++ F.tmp⟩ δ' σ H2 ∧ I (n + 1) acc δ', fun H2 z => ⟨ds.length - (n + 1), by omega, rfl, z⟩, fun x H2 hy => ?_⟩
    obtain ⟨sm, d, hd, rd⟩ := (hgo n hn').2 x H2 hy
    obtain ⟨hv, hf⟩ := turn n d acc δ' hd In
    have S3 := S'.same sm
    refine hg _ _ _ H2 x d _ _ (S3.wiped vs) rd hf fun δ2 σ2 hb S4 w => ?_
    have hw : wipe σ2 vs = wipe σ vs := wipe_ext (w.2.trans (wipe_length _ _)) fun k hk => (w.1 k fun z => hk (hsl k z)).trans (wipe_get hk)
    refine ⟨hw, hb _ σ2 H2 S4 _ fun b H3 δ3 hc l3 S5 => ?_⟩
    have lh3 : Le (D :: F.O) (upd H1 D (.lst [])) H3 := (lh.trans (Le.of sm)).trans l3
    have lt3 : Le (D :: F.O) H' H3 := (Le.of sm).trans l3
    cases b with
    | false => exact iteF ⟨hn', lh3, acc, _, Nat.le_succ_of_le ha, S5.backed S' rfl lt3 hw hv, hc.2 rfl⟩
    | true =>
      refine iteT (hc.1 rfl _ σ2 H3 S5 _ fun y H4 e δ4 hI l4 S6 re => ?_)
      obtain ⟨_, _, _, _, xs, ex, rx⟩ := S6.ph _ List.mem_cons_self
      refine ⟨xs, ex, by rw [rx.len, sizeLine_eq]; show acc.length < _; omega, hn', fun a o na e' => ?_, acc ++ [e], _, by rw [List.length_append]; exact Nat.succ_le_succ ha, (S6.backed S' rfl (lt3.trans l4) hw hv).phapp ex re (by omega), hI⟩
      have := (lh3.trans l4) a o na e'
      rw [upd_ne (fun z => na (by rw [z]; exact List.mem_cons_self))]
      exact this
  · have e : n = ds.length := by omega
    subst e
    obtain ⟨S4, r4⟩ := S'.phdone nO S1.mo
    refine Or.inl ⟨hst _ (Nat.le_refl _), k _ H' _ δ' (fin acc δ' In) (fun a o na e' => ?_) S4.tmpdrop r4⟩
    have e1 := l1 a o na e'
    have ne : a ≠ D := ne_of_none e1 hD
    exact lh a o (fun m => (List.mem_cons.mp m).elim ne na) (by rw [upd_ne ne]; exact e1)
end
end DL

/-! Defs by their data. -/
namespace DL
open PySem PySem.Spec PyProof.Rows L2
/-- the slots at a def's entry -/
def dvs0 (n : Nat) (ds : List D) : List DV := ds.map DV.dat ++ List.replicate (n - ds.length) DV.un
/-- a tray in slot 0 has g draws left -/
def TrayEnd (δ : List DV) (t : Addr) (g : Nat) : Prop := (∃ f, δ[0]? = some (.tray false t f) ∧ g ≤ f) ∨ ∃ ds, δ[0]? = some (.ls false t ds) ∧ TrayD g ds
theorem TrayD.mono {f g : Nat} {ds : List D} (h : TrayD f ds) (l : g ≤ f) : TrayD g ds := by
  obtain ⟨ns, tn, lf, e, h1, h2, h3⟩ := h
  exact ⟨ns, tn, lf, e, h1, h2, by omega⟩
theorem slots_at {O : List Addr} {H : Hp} {F : Fm} (hF : F.O = O) : ∀ {vs : List V} {ds : List D} (m : Nat), DtA O H vs ds → ∀ (i : Nat) (x : DV), (ds.map DV.dat ++ List.replicate m DV.un)[i]? = some x → ∃ y, (vs.map some ++ List.replicate m (none : Option V))[i]? = some y ∧ Sl F H x y
  | _, _, m, .nil, i, x, e => by
    have e' : (List.replicate m DV.un)[i]? = some x := e
    have hi : i < m := by
      have := (List.getElem?_eq_some_iff.mp e').1
      rwa [List.length_replicate] at this
    rw [List.getElem?_replicate, if_pos hi] at e'
    cases e'
    exact ⟨none, by show (List.replicate m none)[i]? = _; rw [List.getElem?_replicate, if_pos hi], trivial⟩
  | _, _, m, .cons a r, 0, x, e => by
    have e' := Option.some.inj e
    subst e'
    exact ⟨_, rfl, _, rfl, hF ▸ a⟩
  | _, _, m, .cons a r, i + 1, x, e => slots_at hF m r i x e
theorem noown {n : Nat} : ∀ {ds : List D} {i : Nat} {x : DV}, (ds.map DV.dat ++ List.replicate n DV.un)[i]? = some x → ownOf x = none
  | [], i, x, e => by
    have e' : (List.replicate n DV.un)[i]? = some x := e
    rw [List.getElem?_replicate] at e'
    split at e'
    · cases e'; rfl
    · cases e'
  | d :: ds, 0, x, e => by
    have e' := Option.some.inj e
    subst e'
    rfl
  | d :: ds, i + 1, x, e => noown (ds := ds) (i := i) e
section
variable {P : Program} {w : World} {K : PySem.W.Frag} {mg : Str → Option Value} {base : Heap} {CX : CXT} {k n c : Nat} {f : Addr} {fd : FuncData} {ps N : List Str} {x qual : Str} {st : Stmt} {R : List D → (D → Prop) → Prop}
/-- a def out of which nothing is raised, by its body -/
theorem fnG_body0 {sp : Sp} (F : Fun K x qual st f fd) (S : FnScope N ps (defScope st)) (len : ∀ vs H Q E, sp vs H Q E → vs.length = ps.length)
    (hbody : ∀ (cdv : Value) (A : Around) (outer : List Env) (s : Shared) (H : Hp) (vs : List V) (Q : VK) (E : XK), Room k (A.deeper (envOfC qual (defScope st) s.heap.objs.size f cdv)) → A.guards = some [] → sp vs H Q E →
      ∃ t, PSs (cxOf CX0 P w K mg base N qual (defScope st) f cdv A outer s H E).nox (defBody st) t ∧ t { nx := fun _ H' => Q .non H', rt := Q } (L2.start N vs) H) : FnG P w K mg base CX0 (k + 1) f fd ps sp :=
  fnG_body F S len fun cdv A outer s H vs Q E hr hg hsp => let ⟨t, h, q⟩ := hbody cdv A outer s H vs Q E hr hg hsp; ⟨t, h.nox, q⟩
/-- a def over data -/
theorem fnD (F : Fun K x qual st f fd) (S : FnScope N ps (defScope st)) (hn : ps.length = n)
    (hbody : ∀ (cdv : Value) (A : Around) (outer : List Env) (s : Shared) (H : Hp) (E : XK), Room k (A.deeper (envOfC qual (defScope st) s.heap.objs.size f cdv)) → A.guards = some [] →
      ∃ t, PSs (cxOf CX0 P w K mg base N qual (defScope st) f cdv A outer s H E).nox (defBody st) t ∧ ∀ (ds : List D) (Pd : D → Prop), ds.length = n → R ds Pd → Rs t (dvs0 N.length ds) { nx := fun _ => Pd .none, rt := fun d _ => Pd d }) :
    FnG P w K mg base CX0 (k + 1) f fd ps (SpD n R) := by
  refine fnG_body0 F S (fun vs H Q E h => h.1.trans hn.symm) fun cdv A outer s H vs Q E hr hg hsp => ?_
  obtain ⟨t, ht, q⟩ := hbody cdv A outer s H E hr hg
  obtain ⟨hl, O, ds, Pd, tr, r, hR, fin⟩ := hsp
  have hl' : ds.length = n := r.len.symm.trans hl
  refine ⟨t, ht, q ds Pd hl' hR H [] O O [] (L2.start N vs) H _ (fun a m => m) ⟨tr, fun a m => (nomatch m)⟩ ⟨fun a o _ e => e, tr, ?_, ?_, fun i j x y p e1 e2 o1 o2 => ?_, fun a m => (nomatch m), fun q m => (nomatch m), List.nodup_nil, fun q m => (nomatch m), fun q m => (nomatch m)⟩ ⟨fun O' δ' σ' H' s' S' h => ?_, fun _ _ _ _ _ _ h => h.elim, fun _ _ _ _ _ _ h => h.elim, fun O' δ' σ' H' v d s' S' rv h => ?_⟩⟩
  · unfold dvs0 L2.start
    rw [List.length_append, List.length_append, List.length_map, List.length_map, List.length_replicate, List.length_replicate, r.len]
  · unfold dvs0 L2.start
    rw [r.len]
    exact slots_at rfl _ r
  · rw [noown e1] at o1
    cases o1
  · exact fin .non H' .none h (fun a o e => S'.base a o (fun m => (nomatch m)) e) .non
  · exact fin v H' d h (fun a o e => S'.base a o (fun m => (nomatch m)) e) rv
/-- a def over a tray and data -/
theorem fnT (F : Fun K x qual st f fd) (S : FnScope N ps (defScope st)) (hn : ps.length = n + 1)
    (hbody : ∀ (cdv : Value) (A : Around) (outer : List Env) (s : Shared) (H : Hp) (E : XK), Room k (A.deeper (envOfC qual (defScope st) s.heap.objs.size f cdv)) → A.guards = some [] →
      ∃ t, PSs (cxOf CX0 P w K mg base N qual (defScope st) f cdv A outer s H E).nox (defBody st) t ∧ ∀ (p : Addr) (fu : Nat) (ds : List D) (Pd : D → Prop), c ≤ fu → ds.length = n → R ds Pd →
        Rs t (.tray false p fu :: dvs0 (N.length - 1) ds) { nx := fun δ => Pd .none ∧ TrayEnd δ p (fu - c), rt := fun d δ => Pd d ∧ TrayEnd δ p (fu - c) }) :
    FnG P w K mg base CX0 (k + 1) f fd ps (SpT n c R) := by
  refine fnG_body0 F S (fun vs H Q E h => ?_) fun cdv A outer s H vs Q E hr hg hsp => ?_
  · obtain ⟨t, ws, rfl, hl, _⟩ := h
    rw [hn, List.length_cons, hl]
  obtain ⟨t, ht, q⟩ := hbody cdv A outer s H E hr hg
  obtain ⟨p, ws, rfl, hl, O, fu, ds, Pd, tr, pO, T, hc, r, hR, fin⟩ := hsp
  have hl' : ds.length = n := r.len.symm.trans hl
  have hp : ps.length ≤ N.length := by
    have := congrArg List.length S.pre
    rw [List.length_take] at this
    omega
  have st0 : L2.start N (.ref p :: ws) = some (.ref p) :: (ws.map some ++ List.replicate (N.length - 1 - ws.length) none) := by
    unfold L2.start
    rw [List.map_cons, List.cons_append, List.length_cons]
    have e : N.length - (ws.length + 1) = N.length - 1 - ws.length := by omega
    rw [e]
  have tray_end : ∀ {O' : List Addr} {δ' : List DV} {σ' : L2.St} {H' : Hp}, (∀ a ∈ O, a ∈ O') → Sx ⟨H, [p], O', [], []⟩ δ' σ' H' → TrayEnd δ' p (fu - c) → TrayAt O (fu - c) H' p := fun {O' δ' σ' H'} s' S' te => by
    rcases te with ⟨f', e, hf⟩ | ⟨es, e, td⟩
    · obtain ⟨y, _, _, es, td, _, _, _, _, xs, ex, rx⟩ := S'.sl 0 _ e
      exact ⟨es, xs, td.mono hf, ex, rx.anti s'⟩
    · obtain ⟨y, _, _, _, _, _, _, xs, ex, rx⟩ := S'.sl 0 _ e
      exact ⟨es, xs, td, ex, rx.anti s'⟩
  refine ⟨t, ht, q p fu ds Pd hc hl' hR H [p] O O [] (L2.start N (.ref p :: ws)) H _ (fun a m => m) ⟨tr, fun a m => by rw [List.mem_singleton] at m; rw [m]; exact pO⟩ ⟨fun a o _ e => e, tr, ?_, ?_, ?_, fun a m => by rw [List.mem_singleton] at m; rw [m]; exact pO, fun q m => (nomatch m), List.nodup_nil, fun q m => (nomatch m), fun q m => (nomatch m)⟩ ⟨fun O' δ' σ' H' s' S' h => ?_, fun _ _ _ _ _ _ h => h.elim, fun _ _ _ _ _ _ h => h.elim, fun O' δ' σ' H' v d s' S' rv h => ?_⟩⟩
  · rw [st0]
    unfold dvs0
    rw [List.length_cons, List.length_cons, List.length_append, List.length_append, List.length_map, List.length_map, List.length_replicate, List.length_replicate, r.len]
  · rw [st0]
    intro i x e
    cases i with
    | zero =>
      have e' := Option.some.inj e
      subst e'
      obtain ⟨es, xs, td, ex, rx⟩ := T
      refine ⟨_, rfl, rfl, es, td, pO, (fun z => nomatch z), fun _ => List.mem_singleton.mpr rfl, ?_, xs, ex, rx⟩
      obtain ⟨_, _, _, rfl, _⟩ := td
      exact (by show 3 ≤ 100000; decide)
    | succ i =>
      unfold dvs0 at e
      rw [r.len]
      exact slots_at rfl _ r i x e
  · intro i j x y q e1 e2 o1 o2
    cases i with
    | zero =>
      cases j with
      | zero => rfl
      | succ j =>
        rw [noown (i := j) e2] at o2
        cases o2
    | succ i =>
      rw [noown (i := i) e1] at o1
      cases o1
  · exact fin .non H' .none h.1 (fun a o m e => S'.base a o m e) (tray_end s' S' h.2) .non
  · exact fin v H' d h.1 (fun a o m e => S'.base a o m e) (tray_end s' S' h.2) rv
end
/-- the promise of a def that makes a tray of the script -/
def SpTray (K : PySem.W.Frag) : Sp := fun vs H Q _ => ∃ (a : Addr) (ns : List Int), vs = [.ref a] ∧ SqL K H a (ns.map V.int) ∧ ns.length ≤ 63 ∧
  ∀ (p : Addr) (H' : Hp) (ds : List D) (xs : List V), H p = none → Same H H' → TrayD 1000000 ds → H' p = some (.lst xs) → DtA [p] H' xs ds → Q (.ref p) H'
theorem pick_range {α : Type} (l : List α) : pick (List.range l.length) l = l := by
  unfold pick
  refine List.ext_getElem? fun i => ?_
  have e : (List.range l.length).filterMap (fun i => l[i]?) = l := by
    induction l with
    | nil => rfl
    | cons a r ih =>
      rw [List.length_cons, List.range_succ_eq_map, List.filterMap_cons]
      show a :: List.filterMap (fun i => (a :: r)[i]?) (List.map Nat.succ (List.range r.length)) = a :: r
      rw [List.filterMap_map]
      exact congrArg _ ih
  rw [e]
section
variable {δ : List DV} {Pp : D → List DV → Prop} {E : XK} {t tk tr : TA} {n m c i : Nat} {ix : List Nat} {R : List D → (D → Prop) → Prop}
/-- a call of a def over data -/
theorem rd_go (h : RdA t δ fun xs δ1 => RdA tk δ1 fun ys δ2 => xs.length = n ∧ ys.length = m ∧ (pick ix (xs ++ ys)).length = c ∧ R (pick ix (xs ++ ys)) fun z => Pp z δ2) : Rd (tGo n m ix (SpD c R) E t tk) δ Pp := fun F σ H S Q k =>
  h F σ H S _ fun vs H1 xs δ1 h2 l1 S1 r1 => h2 F σ H1 S1 _ fun zs H2 ys δ2 ⟨e1, e2, e3, hR⟩ l2 S2 r2 =>
    have r3 := DtA.pick ((r1.le l2).app r2) ix
    ⟨r1.len.trans e1, r2.len.trans e2, r3.len.trans e3, F.O, _, _, S2.trk, r3, hR, fun v H' d p s r => k v H' d δ2 p ((l1.trans l2).trans (Le.of s)) (S2.same s) r⟩
/-- a call of a def over a tray and data -/
theorem rd_goT {b : Bool} {p : Addr} {f0 : Nat} (hi : δ[i]? = some (.tray b p f0)) (hx : ix = List.range (n + 1))
    (h : RdA tr δ fun xs δ1 => ∃ f, δ1[i]? = some (.tray b p f) ∧ c ≤ f ∧ xs.length = n ∧ R xs fun z => Pp z (δ1.set i (.tray b p (f - c)))) : Rd (tGo (n + 1) 0 ix (SpT n c R) E (tCons (tVar i) tr) tNil) δ Pp := fun F σ H S Q k => by
  obtain ⟨y, ey, e1, ds0, td0, pO, _⟩ := S.sl i _ hi
  subst e1
  refine ⟨.ref p, ey, h F σ H S _ fun vs H1 xs δ1 ⟨f, h1, hc, hl, hR⟩ l1 S1 r1 => ?_⟩
  obtain ⟨y1, ey1, e2, ds1, td1, _, _, _, _, xs1, e3, r3⟩ := S1.sl i _ h1
  have hvl : vs.length = n := r1.len.trans hl
  have e : pick ix (.ref p :: vs ++ []) = .ref p :: vs := by
    rw [List.append_nil, hx, ← hvl]
    exact pick_range (.ref p :: vs)
  refine ⟨by rw [List.length_cons, hvl], rfl, ?_⟩
  rw [e]
  exact ⟨p, vs, rfl, hvl, F.O, f, xs, _, S1.trk, pO, ⟨ds1, xs1, td1, e3, r3⟩, hc, r1, hR, fun v H' d p' l T r =>
    k v H' d _ p' (l1.trans fun a o n e => l a o (fun (m : a ∈ [p]) => n (by rw [List.mem_singleton] at m; rw [m]; exact pO)) e) (S1.drawn h1 l T) r⟩
end
end DL

/-! Comprehensions that draw nothing. -/
namespace DL
open PySem PySem.Spec PyProof.Rows L2
theorem dI0_mk {g : Int → Int → D} {i j : Int} {P : D → Prop} (h : P (g i j)) : dI0 g (.int i) (.int j) P := h
theorem at_nat {ds : List D} {k : Nat} {d : D} (h : ds[k]? = some d) : atI ds (k : Int) = some d := by
  have hk := (List.getElem?_eq_some_iff.mp h).1
  have e : ixN ds.length (k : Int) = some k := by
    unfold ixN
    rw [if_pos (by omega), if_pos (by omega)]
    all_goals rfl
  unfold atI
  rw [e]
  exact h
theorem dI_mk {C : Int → Int → Prop} {g : Int → Int → D} {i j : Int} {P : D → Prop} (c : C i j) (h : P (g i j)) : dI C g (.int i) (.int j) P := ⟨c, h⟩
section
variable {δ : List DV} {P : D → List DV → Prop} {te : TE} {tt : TT} {i : Nat} {wi : TI}
theorem rt_yes {PT : Bool → List DV → Prop} (p : PT true δ) : RdT tYes δ PT := fun F σ H S Q k => k true H δ p (Le.refl _ _) S
theorem back_set {d : D} {x : DV} (h : δ[i]? = some x) : back δ ((δ.set i .un).set i (.dat d)) [i] = δ := by
  have hl : ((δ.set i .un).set i (.dat d)).length = δ.length := by rw [List.length_set, List.length_set]
  unfold back
  rw [hl]
  refine List.ext_getElem? fun k => ?_
  rw [List.getElem?_map]
  by_cases hk : k < δ.length
  · rw [List.getElem?_range hk]
    show some (if k ∈ [i] then δ.getD k .un else ((δ.set i .un).set i (.dat d)).getD k .un) = δ[k]?
    by_cases e : k = i
    · subst e
      rw [if_pos (List.mem_singleton.mpr rfl), List.getD_eq_getElem?_getD, h]
      rfl
    · rw [if_neg (fun m => e (List.mem_singleton.mp m)), List.getD_eq_getElem?_getD, List.getElem?_set_ne (fun z => e z.symm), List.getElem?_set_ne (fun z => e z.symm), List.getElem?_eq_getElem hk]
      rfl
  · rw [List.getElem?_eq_none (by rw [List.length_range]; omega), List.getElem?_eq_none (by omega)]
    rfl
theorem rd_goT2 {R : List D → (D → Prop) → Prop} {E : XK} {tr : TA} {n m c : Nat} {ix : List Nat} {b : Bool} {p : Addr} {f0 : Nat} (hi : δ[i]? = some (.tray b p f0)) (hm : m = n + 1) (hx : ix = List.range (n + 1))
    (h : RdA tr δ fun xs δ1 => ∃ f, δ1[i]? = some (.tray b p f) ∧ c ≤ f ∧ xs.length = n ∧ R xs fun z => P z (δ1.set i (.tray b p (f - c)))) : Rd (tGo m 0 ix (SpT n c R) E (tCons (tVar i) tr) tNil) δ P := by
  subst hm
  exact rd_goT hi hx h
/-- [e for x in ..] -/
theorem rd_lcmap (f : D → D) (h : RdI wi δ fun ds δ1 => ds.length ≤ 50000 ∧ (∃ x, δ1[i]? = some x ∧ ownOf x = none) ∧ (∀ d ∈ ds, Rd te ((δ1.set i .un).set i (.dat d)) fun y δ4 => y = f d ∧ δ4 = (δ1.set i .un).set i (.dat d)) ∧ P (.list (ds.map f)) δ1) :
    Rd (tLc wi (gName i) tYes te [i]) δ P := by
  refine rd_lc gd_name (fun _ m => m) fun F σ H S R k => h F σ H S R fun J H' ds δ1 q ⟨hl, ⟨x, ex, ox⟩, ht, p⟩ l S1 src => k J H' ds δ1 q ⟨hl, fun n acc δ' => δ' = δ1 ∧ acc = (ds.take n).map f, ⟨rfl, by rw [List.take_zero]; rfl⟩, fun n d acc δ' hd hI => ?_, fun acc δ' hI => ?_⟩ l S1 src
  · obtain ⟨rfl, rfl⟩ := hI
    have hn : i < δ'.length := (List.getElem?_eq_some_iff.mp ex).1
    refine ⟨fun v hv y hy => ?_, by show i < (δ'.set i .un).length; rw [List.length_set]; exact hn, rt_yes ⟨fun _ => rd_imp (ht d (List.mem_of_getElem? hd)) fun y δ4 z => ?_, fun z => Bool.noConfusion z⟩⟩
    · rw [List.mem_singleton] at hv
      rw [hv, ex] at hy
      cases hy
      exact ox
    · obtain ⟨rfl, rfl⟩ := z
      refine ⟨back_set ex, ?_⟩
      rw [List.take_add_one, hd, List.map_append]
      rfl
  · obtain ⟨rfl, rfl⟩ := hI
    rw [List.take_length]
    exact p
/-- [e for x in .. if t] -/
theorem rd_lcif (g : D → Bool) (f : D → D) (h : RdI wi δ fun ds δ1 => ds.length ≤ 50000 ∧ (∃ x, δ1[i]? = some x ∧ ownOf x = none) ∧ (∀ d ∈ ds, RdT tt ((δ1.set i .un).set i (.dat d)) fun b δ3 => b = g d ∧ δ3 = (δ1.set i .un).set i (.dat d)) ∧
    (∀ d ∈ ds, g d = true → Rd te ((δ1.set i .un).set i (.dat d)) fun y δ4 => y = f d ∧ δ4 = (δ1.set i .un).set i (.dat d)) ∧ P (.list ((ds.filter g).map f)) δ1) :
    Rd (tLc wi (gName i) tt te [i]) δ P := by
  refine rd_lc gd_name (fun _ m => m) fun F σ H S R k => h F σ H S R fun J H' ds δ1 q ⟨hl, ⟨x, ex, ox⟩, h1, ht, p⟩ l S1 src => k J H' ds δ1 q ⟨hl, fun n acc δ' => δ' = δ1 ∧ acc = ((ds.take n).filter g).map f, ⟨rfl, by rw [List.take_zero]; rfl⟩, fun n d acc δ' hd hI => ?_, fun acc δ' hI => ?_⟩ l S1 src
  · obtain ⟨rfl, rfl⟩ := hI
    have hn : i < δ'.length := (List.getElem?_eq_some_iff.mp ex).1
    have hm := List.mem_of_getElem? hd
    refine ⟨fun v hv y hy => ?_, by show i < (δ'.set i .un).length; rw [List.length_set]; exact hn, fun F σ H S Q k => h1 d hm F σ H S Q fun b H' δ3 ⟨eb, e3⟩ l S' => k b H' δ3 ⟨fun z => ?_, fun z => ?_⟩ l S'⟩
    · rw [List.mem_singleton] at hv
      rw [hv, ex] at hy
      cases hy
      exact ox
    · subst e3
      refine rd_imp (ht d hm (eb ▸ z)) fun y δ4 w => ?_
      obtain ⟨rfl, rfl⟩ := w
      refine ⟨back_set ex, ?_⟩
      rw [List.take_add_one, hd, List.filter_append]
      show _ = (_ ++ [d].filter g).map f
      rw [List.filter_cons_of_pos (eb ▸ z), List.map_append]
      rfl
    · subst e3
      refine ⟨back_set ex, ?_⟩
      rw [List.take_add_one, hd, List.filter_append]
      show _ = (_ ++ [d].filter g).map f
      rw [List.filter_cons_of_neg (by rw [← eb, z]; exact Bool.false_ne_true), List.filter_nil, List.append_nil]
  · obtain ⟨rfl, rfl⟩ := hI
    rw [List.take_length]
    exact p
end
end DL

/-! The rules with the written part told (within comprehensions it must stand so). -/
namespace DL
open PySem PySem.Spec PyProof.Rows L2
section
variable {X : Cx} {K : PySem.W.Frag} {a b e l : Expr} {rest es : List Expr} {ta tb te : TE} {t : TA} {pos : Pos}
theorem ixK (h : X.K = K := by rfl) : IxR X (rIx K) := by subst h; exact ix_seq
theorem lenK (h : X.K = K := by rfl) : CallR X (.builtin "len") (fun xs H Q => ∃ x n, xs = [x] ∧ LenV K x H n ∧ Q (.int (n : Nat)) H) := by subst h; exact call_len
theorem isiK1 (h : X.K = K := by rfl) : CallR X (.builtin "isinstance") (rIsi K) := by subst h; exact call_isi
theorem isiK2 (h : X.K = K := by rfl) : CallR X (.builtin "isinstance") (rIsiT K) := by subst h; exact call_isiT
theorem allK (hc : X.calm = true) (h : X.K = K := by rfl) : CallR X (.builtin "all") (rAll K) := by subst h; exact cr_all hc
theorem anyK (hc : X.calm = true) (h : X.K = K := by rfl) : CallR X (.builtin "any") (rAny K) := by subst h; exact cr_any hc
theorem sumK (hc : X.calm = true) (h : X.K = K := by rfl) : CallR X (.builtin "sum") (rSum K) := by subst h; exact cr_sum hc
theorem eqK {k : Nat} (hr : Room k X.A) (h : X.K = K := by rfl) : OpR X (compareOp .Eq) (rEqD K) := by subst h; exact op_eqD (by have := hr.un; omega)
theorem neK {k : Nat} (hr : Room k X.A) (h : X.K = K := by rfl) : OpR X (compareOp .NotEq) (rNeD K) := by subst h; exact op_neD (by have := hr.un; omega)
theorem andK (ha : PE X a ta) (hb : PE X (.BoolOp .And (b :: rest) pos) tb) (h : X.K = K := by rfl) : PE X (.BoolOp .And (a :: b :: rest) pos) (tAndT K ta tb) := by subst h; exact pe_andT ha hb
theorem orK (ha : PE X a ta) (hb : PE X (.BoolOp .Or (b :: rest) pos) tb) (h : X.K = K := by rfl) : PE X (.BoolOp .Or (a :: b :: rest) pos) (tOrT K ta tb) := by subst h; exact pe_orT ha hb
theorem notK (ha : PE X a ta) (h : X.K = K := by rfl) : PE X (.UnaryOp .Not a pos) (tNotT K ta) := by subst h; exact pe_notT ha
theorem truK (ha : PE X a ta) (he : ∀ whole, isTrue a X.env whole = (do let v ← whole; standAt a.pos; holding [v] (truthy v)) := by intro _; rfl) (h : X.K = K := by rfl) : PT X a (fun σ H Q => ta σ H fun x H' => ∃ k, TruV K x H' k ∧ Q k H') := by subst h; exact pt_truth ha he
theorem piK {tg : Expr} (hl : PE X l ta) (h : X.K = K := by rfl) : PI X tg l (iSeq K ta) := by subst h; exact pi_seq hl
theorem slK (h : X.K = K := by rfl) : SlR X (rSlL K) := by subst h; exact sl_list
theorem tupK (h : X.K = K := by rfl) : CallR X (.type "tuple") (fun xs H Q => ∃ p ys, xs = [.ref p] ∧ ((SqL K H p ys ∧ ∀ l, H l = none → Q (.ref l) (upd H l (.tup ys))) ∨ (SqT K H p ys ∧ Q (.ref p) H))) := by subst h; exact call_tuple_of
theorem lstK (h : X.K = K := by rfl) : CallR X (.type "list") (fun xs H Q => ∃ p ys, xs = [.ref p] ∧ (SqL K H p ys ∨ SqT K H p ys) ∧ ∀ l, H l = none → Q (.ref l) (upd H l (.lst ys))) := by subst h; exact call_list_of
theorem gtK {es : List Expr} {k : Nat} {t : TGs} {n : Nat} (hc : X.calm = true) (h : PGs X es t) (hK : X.K = K := by rfl)
    (hn : (assignEach es X.env).length = n := by rfl) (hst : (assignEach es X.env).findIdx? (·.1) = none := by rfl) : PG X (.Tuple es k pos) (gTup K n t) := by subst hK; exact pg_tup hc h hn hst
theorem appK {o : Expr} {apos cpos : Pos} (ho : PE X o te) (ha : PA X (e :: es) t) (h : X.K = K := by rfl) (hbase : attributeBase o "append" X.env (eval o X.env) = eval o X.env := by rfl) : True := trivial
end
end DL

/-! How long a repr is at most. -/
namespace DL
open PySem PySem.Spec PyProof.Rows L2
mutual
def bw : D → Nat
  | .none => 4
  | .bool _ => 5
  | .int _ => 1925
  | .str x => (reprText x).length
  | .list ds => bwAll ds + 4
  | .tuple ds => bwAll ds + 4
  | .dict _ => 0
def bwAll : List D → Nat
  | [] => 0
  | d :: ds => bw d + 2 + bwAll ds
end
theorem two_le (k : Nat) : ((if k > 0 then ", " else "" : String) : Str).length ≤ 2 := by split <;> decide +kernel
theorem textFrom_le : ∀ (ts : List Str) (k : Nat) (acc : Str), (textFrom k acc ts).length ≤ acc.length + piled ts
  | [], k, acc => by
    show acc.length ≤ _
    exact Nat.le_add_right _ _
  | t :: r, k, acc => by
    have h := textFrom_le r (k + 1) (acc ++ (if k > 0 then ", " else "" : String) ++ t)
    rw [strLen_append, strLen_append] at h
    have h2 := two_le k
    rw [piled_cons]
    show (textFrom (k + 1) (acc ++ (if k > 0 then ", " else "" : String) ++ t) r).length ≤ _
    omega
theorem listText_le (ts : List Str) : (listText ts).length ≤ piled ts + 2 := by
  have h := textFrom_le ts 0 "["
  have e1 : (("[" : String) : Str).length = 1 := rfl
  have e2 : (("]" : String) : Str).length = 1 := rfl
  unfold listText
  rw [strLen_append, e2]
  rw [e1] at h
  omega
mutual
theorem shown_le : ∀ d : D, d.canLay0 = true → d.showable = true → d.shown.length ≤ bw d
  | .none, _, _ => by decide +kernel
  | .bool b, _, _ => by cases b <;> decide +kernel
  | .int i, _, h => by
    have h' : i.natAbs.log2 < 1920 := by simpa [PyData.showable] using h
    have := int_text_len_1921 h'
    show (PySem.Str.ofString (toString i)).length ≤ 1925
    omega
  | .str x, _, _ => Nat.le_refl _
  | .list ds, c, h => by
    have q := shownAll_le ds (by simpa [PyData.canLay0] using c) (by simpa [PyData.showable] using h)
    have := listText_le (PyData.shownAll ds)
    show (listText (PyData.shownAll ds)).length ≤ bwAll ds + 4
    omega
  | .tuple ds, c, h => by
    have q := shownAll_le ds (by simpa [PyData.canLay0] using c) (by simpa [PyData.showable] using h)
    have := fmt_text (PyData.shownAll ds)
    show (tupleText (PyData.shownAll ds)).length ≤ bwAll ds + 4
    omega
  | .dict _, c, _ => by simp [PyData.canLay0] at c
theorem shownAll_le : ∀ ds : List D, PyData.canLayAll0 ds = true → PyData.showableAll ds = true → piled (PyData.shownAll ds) ≤ bwAll ds
  | [], _, _ => Nat.le_refl _
  | d :: ds, c, h => by
    have c' : d.canLay0 = true ∧ PyData.canLayAll0 ds = true := by simpa [PyData.canLayAll0] using c
    have h' : d.showable = true ∧ PyData.showableAll ds = true := by simpa [PyData.showableAll] using h
    have h1 := shown_le d c'.1 h'.1
    have h2 := shownAll_le ds c'.2 h'.2
    show piled (PyData.shown d :: PyData.shownAll ds) ≤ bw d + 2 + bwAll ds
    rw [piled_cons]
    omega
end
/-- what may be shown -/
def Shw (d : D) : Prop := (d.canLay0 = true ∨ d = .dict []) ∧ d.showable = true ∧ d.depth ≤ 10 ∧ d.shown.length ≤ 16777216
theorem shw {d : D} (h1 : d.canLay0 = true := by rfl) (h2 : d.showable = true := by rfl) (h3 : d.depth ≤ 10 := by exact of_decide_eq_true rfl) (h4 : bw d ≤ 16777216 := by exact of_decide_eq_true rfl) : Shw d := ⟨.inl h1, h2, h3, Nat.le_trans (shown_le d h1 h2) h4⟩
theorem shw_dict : Shw (.dict []) := ⟨.inr rfl, rfl, by decide, by decide +kernel⟩
theorem dRepr_mk {d : D} {P : D → Prop} (h : Shw d) (p : P (.str d.shown)) : dRepr [d] P := ⟨d, rfl, h.1, h.2.1, h.2.2.1, h.2.2.2, p⟩
theorem log_lt {i : Int} (h : i.natAbs < 2 ^ 200) : decide (i.natAbs.log2 < 1920) = true := decide_eq_true (Nat.lt_of_lt_of_le (PySem.Flt.log2_lt_of (by decide) h) (by decide))
theorem rd_neg {ta : TE} {δ : List DV} {P : D → List DV → Prop} (h : Rd ta δ fun x δ1 => ∃ i, x = .int i ∧ P (.int (-i)) δ1) : Rd (tUn (rU fun i => .int (-i)) ta) δ P := fun F σ H S Q k => h F σ H S _ fun v H1 x δ1 ⟨i, e, p⟩ l1 S1 r1 => by
  subst e
  cases r1
  exact ⟨i, rfl, k _ H1 _ δ1 p l1 S1 (.int _)⟩
theorem dAbs_mk {i : Int} {P : D → Prop} (h : P (.int (i.natAbs : Int))) : dAbs [.int i] P := ⟨i, rfl, by
  have e : (if i < 0 then -i else i) = (i.natAbs : Int) := by split <;> omega
  rw [e]
  exact h⟩
/-- a law behind its first row: a tray stands in slot 1 -/
theorem law_go {N : List Str} {a t : Addr} {H H1 : Hp} {ds : List D} {xs : List V} {tt : TS} {Q : VK} (hN : 2 ≤ N.length) (ht : H t = none) (sm : Same H H1) (td : TrayD 1000000 ds) (ex : H1 t = some (.lst xs)) (rx : DtA [t] H1 xs ds) (q : ∀ H', Q (.bl true) H')
    (h : Rs tt (.un :: .tray true t 1000000 :: List.replicate (N.length - 2) .un) { nx := fun _ => False, rt := fun d _ => d = .bool true }) : tt { nx := fun _ H' => Q .non H', rt := Q } ((L2.start N [.ref a]).set 1 (some (.ref t))) H1 := by
  have sl : ((L2.start N [.ref a]).set 1 (some (.ref t))).length = N.length := by
    rw [List.length_set]
    unfold L2.start
    rw [List.length_append, List.length_map, List.length_replicate]
    show 1 + (N.length - 1) = N.length
    omega
  have dl : (DV.un :: DV.tray true t 1000000 :: List.replicate (N.length - 2) DV.un).length = N.length := by
    rw [List.length_cons, List.length_cons, List.length_replicate]
    omega
  have only : ∀ (i : Nat) (x : DV), (DV.un :: DV.tray true t 1000000 :: List.replicate (N.length - 2) DV.un)[i]? = some x → x = .un ∨ (i = 1 ∧ x = .tray true t 1000000) := fun i x e => by
    match i, e with
    | 0, e => exact .inl (Option.some.inj e).symm
    | 1, e => exact .inr ⟨rfl, (Option.some.inj e).symm⟩
    | i + 2, e =>
      have e' : (List.replicate (N.length - 2) DV.un)[i]? = some x := e
      rw [List.getElem?_replicate] at e'
      split at e'
      · exact .inl (Option.some.inj e').symm
      · cases e'
  have own1 : ∀ (i : Nat) (x : DV) (p : Addr), (DV.un :: DV.tray true t 1000000 :: List.replicate (N.length - 2) DV.un)[i]? = some x → ownOf x = some p → i = 1 := fun i x p e o => by
    rcases only i x e with rfl | ⟨h, _⟩
    · cases o
    · exact h
  refine h H [] [] [t] [] _ H1 _ (fun a m => (nomatch m)) ⟨fun a m => (nomatch m), fun a m => (nomatch m)⟩ ⟨fun a o _ e => sm a o e, fun a m => ?_, by rw [sl, dl], fun i x e => ?_, fun i j x y p e1 e2 o1 o2 => (own1 i x p e1 o1).trans (own1 j y p e2 o2).symm, fun a m => (nomatch m), fun q m => (nomatch m), List.nodup_nil, fun q m => (nomatch m), fun q m => (nomatch m)⟩
    ⟨fun _ _ _ _ _ _ h => h.elim, fun _ _ _ _ _ _ h => h.elim, fun _ _ _ _ _ _ h => h.elim, fun O δ σ H' v d _ S r e => ?_⟩
  · rw [List.mem_singleton] at m
    rw [m]
    exact ⟨_, ex⟩
  · have hi : i < ((L2.start N [.ref a]).set 1 (some (.ref t))).length := by
      rw [sl, ← dl]
      exact (List.getElem?_eq_some_iff.mp e).1
    rcases only i x e with rfl | ⟨rfl, rfl⟩
    · exact ⟨_, List.getElem?_eq_getElem hi, trivial⟩
    · refine ⟨_, List.getElem?_eq_getElem hi, ?_, ds, td, List.mem_singleton.mpr rfl, fun _ => ht, (fun z => nomatch z), ?_, xs, ex, rx⟩
      · exact List.getElem_set_self _
      · obtain ⟨_, _, _, rfl, _⟩ := td
        exact (by show 3 ≤ 100000; decide)
  · subst e
    cases r
    exact q H'
theorem law_start {K : PySem.W.Frag} {N : List Str} {a : Addr} {H : Hp} {ns : List Int} {E : XK} {tt : TS} {Q : VK} (hN : 2 ≤ N.length) (hS : SqL K H a (ns.map V.int)) (hl : ns.length ≤ 63) (q : ∀ H', Q (.bl true) H')
    (h : ∀ t, Rs tt (.un :: .tray true t 1000000 :: List.replicate (N.length - 2) .un) { nx := fun _ => False, rt := fun d _ => d = .bool true }) :
    tSeq (tAsg (tGo 1 0 [0] (SpTray K) E (tCons (tVar 0) tNil) tNil) (gName 1)) tt { nx := fun _ H' => Q .non H', rt := Q } (L2.start N [.ref a]) H :=
  ⟨.ref a, rfl, rfl, rfl, a, ns, rfl, hS, hl, fun t H1 ds xs ht sm td ex rx => law_go hN ht sm td ex rx q (h t)⟩
/-- {k: i} -/
theorem rd_disp_ii {k i : Int} {δ : List DV} {P : D → List DV → Prop} (q : P (.dict [(.int k, .int i)]) δ) : Rd (tDisp [(tC (.int k), tC (.int i))]) δ P := fun F σ H S Q kk p hp => by
  refine ⟨upd_same, [(Sum.inl k, .int i)], rfl, of_decide_eq_true rfl, ?_⟩
  have e : mergeK [] [(Sum.inl k, V.int i)] = [((Sum.inl k : Key), V.int i)] := rfl
  rw [e, upd_upd]
  have s : Same H (upd H p (.dK [((Sum.inl k : Key), V.int i)])) := Same.upd hp
  exact kk _ _ _ δ q (Le.of s) (S.same s) (.dct (S.notO hp) upd_same (.cons (.int i) .nil))
/-- == and != of texts -/
def dEqS : D → D → (D → Prop) → Prop := fun x y P => ∃ a b : Str, x = .str a ∧ y = .str b ∧ P (.bool (decide (a = b)))
def dNeS : D → D → (D → Prop) → Prop := fun x y P => ∃ a b : Str, x = .str a ∧ y = .str b ∧ P (.bool (!decide (a = b)))
theorem str_eq (a b : Str) : decide (V.str a = V.str b) = decide (a = b) := decide_eq_decide.mpr ⟨fun h => V.str.inj h, fun h => by rw [h]⟩
theorem od_eqS : OpD rEq dEqS := fun O H x y d e P Q _ rx ry h k => by
  obtain ⟨a, b, rfl, rfl, p⟩ := h
  cases rx
  cases ry
  refine ⟨rfl, ?_⟩
  rw [str_eq]
  exact k _ H _ p (Same.refl H) (.bl _)
theorem od_neS : OpD rNe dNeS := fun O H x y d e P Q _ rx ry h k => by
  obtain ⟨a, b, rfl, rfl, p⟩ := h
  cases rx
  cases ry
  refine ⟨rfl, ?_⟩
  rw [str_eq]
  exact k _ H _ p (Same.refl H) (.bl _)
theorem shapedInt {i : Int} : SeqAt.shaped (.int i) = true := rfl
theorem eqv_int {i j : Int} : PyData.eqv (.int i) (.int j) = decide (i = j) := rfl
end DL

/-! The end of a law whose def is told where no repr is under way. -/
namespace DL
open PySem PySem.Spec PyProof.Rows L2
/-- an abstract heap in which at most the script at a may be tracked -/
structure Scr (P : Program) (w : World) (K : PySem.W.Frag) (h : Heap) (a : Addr) (ns : List Int) (H : Hp) : Prop where
  only : Only H
  sq : SqL K H a (ns.map V.int)
  ok : HOk P w H h
  at_a : ∀ b u, H b = some u → b = a ∧ K.lookup a = none
theorem scr_ex {P : Program} {w : World} {K : PySem.W.Frag} {h : Heap} {a : Addr} {vs : List Value} {ns : List Int} (X : K.In h) (ha : h.get? a = some { cls := .type "list", data := .seq vs.toArray }) (hi : IntsAre vs ns) (hl : ns.length ≤ sizeLine) :
    ∃ H, Scr P w K h a ns H := by
  have rv := vals_ints hi
  cases hk : K.lookup a with
  | none =>
    let ob : Obj := { cls := .type "list", data := .seq vs.toArray }
    let u : HO := .frz ob (.lst (ns.map V.int))
    have atA : ∀ b z, (if b = a then some u else none) = some z → b = a ∧ z = u := fun b z e => by
      by_cases q : b = a
      · rw [if_pos q] at e
        exact ⟨q, (Option.some.inj e).symm⟩
      · rw [if_neg q] at e
        cases e
    refine ⟨fun b => if b = a then some u else none, ⟨fun b => ?_, Or.inl (Or.inr ⟨ob, if_pos rfl⟩), fun b z e => ?_, fun b z e => ⟨(atA b z e).1, hk⟩⟩⟩
    · by_cases q : b = a
      · exact Or.inr ⟨ob, _, if_pos q⟩
      · exact Or.inl (if_neg q)
    · obtain ⟨rfl, rfl⟩ := atA b z e
      exact ⟨ha, by rw [List.length_map]; exact hl, vs, _, rv, ha⟩
  | some o =>
    have e := X a o hk
    rw [ha] at e
    have e' := Option.some.inj e
    subst e'
    exact ⟨fun _ => none, ⟨fun _ => Or.inl rfl, Or.inr ⟨_, vs.toArray, _, hk, rfl, rfl, rfl, by rw [List.size_toArray, hi.length]; exact hl, by simpa using rv⟩, (fun _ _ z => nomatch z), (fun _ _ z => nomatch z)⟩⟩
/-- the law's def at the heap behind the top -/
theorem law_callG {P : Program} {w : World} {K : PySem.W.Frag} {mg mb : Str → Option Value} {CX : CXT} {k : Nat} {fa a : Addr} {fd : FuncData} {x : Str} {sp : Sp} {s : Shared} {vs : List Value} {ns : List Int}
    (X : K.In s.heap) (hm : s.heap.Ns mainGlobals mg) (hB : s.heap.Ns builtinsNs mb) (hbb : ∀ y : Str, y ≠ "__name__" → mb y = bootBuiltins y) (lim : s.heap.NoLimit) (hg : s.gens = #[])
    (ha : s.heap.get? a = some { cls := .type "list", data := .seq vs.toArray }) (hi : IntsAre vs ns) (hl : ns.length ≤ sizeLine) (hr : Room k callerA)
    (F : ∀ base : Heap, K.In base → base.Ns mainGlobals mg → FnG P w K mg base CX k fa fd [x] sp) (hb : ∀ (s : Shared) (u : Value), BindsTo s fd ⟨[u], []⟩ [(x, u)])
    (hsp : ∀ H : Hp, Only H → SqL K H a (ns.map V.int) → sp [.ref a] H (fun v _ => v = .bl true) fun _ _ _ => False)
    (hCX : ∀ H e s', CX [] H s (fun _ _ _ => False) e s' → False) :
    codeAny (model P w) callerA (.call (.ref fa) ⟨[.ref a], []⟩) (fun r s' => r = .ok (.ret (.bool true)) ∧ OldK s.heap s'.heap ∧ s'.os = s.os ∧ AllBare s'.gens) s := by
  obtain ⟨H, T⟩ := scr_ex (P := P) (w := w) X ha hi hl
  -- what is no list stays in sight where the script is hidden
  have free : ∀ {b : Addr} {o : Obj}, s.heap.get? b = some o → (∀ vs n, o.data ≠ .seq vs n) → H b = none := fun {b o} e d => by
    cases q : H b with
    | none => rfl
    | some u =>
      obtain ⟨rfl, _⟩ := T.at_a b u q
      rw [ha] at e
      cases e
      exact absurd rfl (d _ _)
  have ns_in : ∀ {b : Addr} {m : Str → Option Value}, s.heap.Ns b m → (hidT s.heap H).Ns b m := fun {b m} h => by
    obtain ⟨o, es, ep, e, d, r⟩ := h
    exact ⟨o, es, ep, hidT_get e (free e fun vs n z => by rw [d] at z; cases z), d, r⟩
  have Kb : K.In (hidT s.heap H) := fun b o e => by
    refine hidT_get (X b o e) ?_
    cases q : H b with
    | none => rfl
    | some u =>
      obtain ⟨rfl, n⟩ := T.at_a b u q
      rw [n] at e
      cases e
  obtain ⟨mc, l1, l2⟩ := lim
  have M : Mod K mg (hidT s.heap H) := ⟨Kb, ns_in hm, ⟨mb, ns_in hB, hbb⟩, ⟨mc, ns_in l1, l2⟩⟩
  have E0 : Env0 P w K mg (hidT s.heap H) callerA [] s H :=
    { frames := rfl, mod := M, bs := fun b o e => of_hidT e, bsz := Nat.le_of_eq (hidT_size _ _), funs := trivial, frf := (fun b (z : b ∈ ([] : List Addr)) => absurd z List.not_mem_nil), hok := T.ok, bare := .of_eq hg }
  have run := (F _ Kb (ns_in hm)).run callerA [] s H ⟨[.ref a], []⟩ [.ref a] [.ref a] _ _ hr rfl E0 (hb s (.ref a)) (.cons rfl .nil) (hsp H T.only T.sq)
  refine codeAny_mono run fun r s' h => ?_
  match r, h with
  | .error e, h => exact (hCX H e s' h).elim
  | .ok .next, h => exact h.elim
  | .ok .brk, h => exact h.elim
  | .ok .cont, h => exact h.elim
  | .ok (.ret u), h =>
    obtain ⟨v, H', os, bare, un, ok', rv, q⟩ := h
    have q' : v = .bl true := q
    rw [q'] at rv
    have eu : u = Value.bool true := rv
    rw [eu]
    refine ⟨rfl, OldK.of_keep fun b o e => ?_, os, bare⟩
    rcases T.only b with z | ⟨ob, xs, z⟩
    · exact un.keep b o e z (fun (m : b ∈ ([] : List Addr)) => absurd m List.not_mem_nil) (fun m => absurd m List.not_mem_nil)
    · have k1 := (T.ok b _ z).1
      have k2 := (ok' b _ (un.frzs b ob _ z)).1
      rw [e] at k1
      rw [Option.some.inj k1]
      exact k2
theorem walk_ofG {l : PySem.W.OpenLaw} {n k : Nat} {q : Program} {loose : List Str} {XP : (Str → Option Value) → Heap → Prop} {YP : World → Heap → Prop} {d : DefRec} {K : Params → PySem.W.Frag} {sp : PySem.W.Frag → Sp} {x : Str}
    (hn : l.most = some n) (hn2 : n ≤ sizeLine) (hdf : d.params.defaults = []) (hr : Room k callerA) (hY : ∀ (w : World) (h : Heap), YP w h → (K w.params).In h)
    (F : ∀ (w : World) (mg : Str → Option Value) (fa : Addr) (h : Heap), (K w.params).In h → h.Ns mainGlobals mg → mg d.name = some (.ref fa) →
      ∃ fd : FuncData, (∀ (s : Shared) (u : Value), BindsTo s fd ⟨[u], []⟩ [(x, u)]) ∧ ∀ base : Heap, (K w.params).In base → base.Ns mainGlobals mg → FnG l.prog w (K w.params) mg base CX0 k fa fd [x] (sp (K w.params)))
    (hsp : ∀ (K : PySem.W.Frag) (H : Hp) (a : Addr) (ns : List Int), ns.length ≤ n → Only H → SqL K H a (ns.map V.int) → sp K [.ref a] H (fun v _ => v = .bl true) fun _ _ _ => False) :
    PySem.W.WalkO q loose XP YP l.row.toRowW d [] (fun f vs => PySem.call f vs) := by
  refine Att.attach_call hn hdf fun w s₀ s mg mb fa o pm cd doc a vs ns G Y _ _ _ hmg hobj hints hlen hg => ?_
  have KX := hY w _ Y
  obtain ⟨fd, hb, hF⟩ := F w mg fa _ KX G.T.g hmg
  exact law_callG KX G.T.g G.T.b G.T.builtins G.T.nolimit hg hobj hints (Nat.le_trans hlen hn2) hr hF hb (fun H hO hS => hsp _ H a ns hlen hO hS) fun _ _ _ z => z
end DL

namespace Kx
open PySem PySem.Spec PyProof.Rows L2 DL
theorem hu64 {k : Nat} {A : Around} (hr : Room k A) : A.units + 64 < cLine := by
  have := hr.un
  omega

def top (i : Nat) : Stmt := PySem.Challenge.pw_hindprice_k01_what_any_value_is.main.body.getD i (.Pass ⟨0, 0, 0, 0⟩)
abbrev s_is_integer : Stmt := top 2
theorem sc_is_integer : FnScope ["value"] ["value"] (defScope s_is_integer) := ⟨rfl, rfl, rfl, by decide +kernel, rfl, by decide +kernel, by decide +kernel⟩
theorem i_is_integer_0_value {K : PySem.W.Frag} {f : Addr} {fd : FuncData} (F : Fun K "is_integer" "is_integer" s_is_integer f fd) : KBi fd ["value"] 0 ["value"] [0] := DL.Fun.kbi F fun _ _ _ _ _ _ us ws h1 h2 => match us, ws, h1, h2 with | [], [_], _, _ => rfl
theorem i_is_integer {K : PySem.W.Frag} {f : Addr} {fd : FuncData} (F : Fun K "is_integer" "is_integer" s_is_integer f fd) : KBi fd ["value"] 1 [] [0] := DL.Fun.kbi F fun _ _ _ _ _ _ us ws h1 h2 => match us, ws, h1, h2 with | [_], [], _, _ => rfl
abbrev s_is_within : Stmt := top 3
theorem sc_is_within : FnScope ["value", "least", "most"] ["value", "least", "most"] (defScope s_is_within) := ⟨rfl, rfl, rfl, by decide +kernel, rfl, by decide +kernel, by decide +kernel⟩
theorem i_is_within_0_most_value_least {K : PySem.W.Frag} {f : Addr} {fd : FuncData} (F : Fun K "is_within" "is_within" s_is_within f fd) : KBi fd ["value", "least", "most"] 0 ["most", "value", "least"] [1, 2, 0] := DL.Fun.kbi F fun _ _ _ _ _ _ us ws h1 h2 => match us, ws, h1, h2 with | [], [_, _, _], _, _ => rfl
theorem i_is_within {K : PySem.W.Frag} {f : Addr} {fd : FuncData} (F : Fun K "is_within" "is_within" s_is_within f fd) : KBi fd ["value", "least", "most"] 3 [] [0, 1, 2] := DL.Fun.kbi F fun _ _ _ _ _ _ us ws h1 h2 => match us, ws, h1, h2 with | [_, _, _], [], _, _ => rfl
abbrev s_is_list : Stmt := top 4
theorem sc_is_list : FnScope ["value"] ["value"] (defScope s_is_list) := ⟨rfl, rfl, rfl, by decide +kernel, rfl, by decide +kernel, by decide +kernel⟩
theorem i_is_list {K : PySem.W.Frag} {f : Addr} {fd : FuncData} (F : Fun K "is_list" "is_list" s_is_list f fd) : KBi fd ["value"] 1 [] [0] := DL.Fun.kbi F fun _ _ _ _ _ _ us ws h1 h2 => match us, ws, h1, h2 with | [_], [], _, _ => rfl
abbrev s_is_number : Stmt := top 5
theorem sc_is_number : FnScope ["value"] ["value"] (defScope s_is_number) := ⟨rfl, rfl, rfl, by decide +kernel, rfl, by decide +kernel, by decide +kernel⟩
theorem i_is_number_0_value {K : PySem.W.Frag} {f : Addr} {fd : FuncData} (F : Fun K "is_number" "is_number" s_is_number f fd) : KBi fd ["value"] 0 ["value"] [0] := DL.Fun.kbi F fun _ _ _ _ _ _ us ws h1 h2 => match us, ws, h1, h2 with | [], [_], _, _ => rfl
theorem i_is_number {K : PySem.W.Frag} {f : Addr} {fd : FuncData} (F : Fun K "is_number" "is_number" s_is_number f fd) : KBi fd ["value"] 1 [] [0] := DL.Fun.kbi F fun _ _ _ _ _ _ us ws h1 h2 => match us, ws, h1, h2 with | [_], [], _, _ => rfl
abbrev s_is_from_0 : Stmt := top 6
theorem sc_is_from_0 : FnScope ["value"] ["value"] (defScope s_is_from_0) := ⟨rfl, rfl, rfl, by decide +kernel, rfl, by decide +kernel, by decide +kernel⟩
theorem i_is_from_0 {K : PySem.W.Frag} {f : Addr} {fd : FuncData} (F : Fun K "is_from_0" "is_from_0" s_is_from_0 f fd) : KBi fd ["value"] 1 [] [0] := DL.Fun.kbi F fun _ _ _ _ _ _ us ws h1 h2 => match us, ws, h1, h2 with | [_], [], _, _ => rfl
abbrev s_is_row : Stmt := top 7
theorem sc_is_row : FnScope ["value", "many", "item"] ["value", "many"] (defScope s_is_row) := ⟨rfl, rfl, rfl, by decide +kernel, rfl, by decide +kernel, by decide +kernel⟩
theorem i_is_row_0_many_value {K : PySem.W.Frag} {f : Addr} {fd : FuncData} (F : Fun K "is_row" "is_row" s_is_row f fd) : KBi fd ["value", "many"] 0 ["many", "value"] [1, 0] := DL.Fun.kbi F fun _ _ _ _ _ _ us ws h1 h2 => match us, ws, h1, h2 with | [], [_, _], _, _ => rfl
theorem i_is_row {K : PySem.W.Frag} {f : Addr} {fd : FuncData} (F : Fun K "is_row" "is_row" s_is_row f fd) : KBi fd ["value", "many"] 2 [] [0, 1] := DL.Fun.kbi F fun _ _ _ _ _ _ us ws h1 h2 => match us, ws, h1, h2 with | [_, _], [], _, _ => rfl
abbrev s__law_tray : Stmt := top 9
theorem sc__law_tray : FnScope ["script", "cell"] ["script"] (defScope s__law_tray) := ⟨rfl, rfl, rfl, by decide +kernel, rfl, by decide +kernel, by decide +kernel⟩
theorem i__law_tray {K : PySem.W.Frag} {f : Addr} {fd : FuncData} (F : Fun K "_law_tray" "_law_tray" s__law_tray f fd) : KBi fd ["script"] 1 [] [0] := DL.Fun.kbi F fun _ _ _ _ _ _ us ws h1 h2 => match us, ws, h1, h2 with | [_], [], _, _ => rfl
abbrev s__law_lift : Stmt := top 10
theorem sc__law_lift : FnScope ["tray", "many", "left", "turn", "cell", "mixed"] ["tray", "many"] (defScope s__law_lift) := ⟨rfl, rfl, rfl, by decide +kernel, rfl, by decide +kernel, by decide +kernel⟩
theorem i__law_lift {K : PySem.W.Frag} {f : Addr} {fd : FuncData} (F : Fun K "_law_lift" "_law_lift" s__law_lift f fd) : KBi fd ["tray", "many"] 2 [] [0, 1] := DL.Fun.kbi F fun _ _ _ _ _ _ us ws h1 h2 => match us, ws, h1, h2 with | [_, _], [], _, _ => rfl
abbrev s__law_pick : Stmt := top 11
theorem sc__law_pick : FnScope ["tray", "some"] ["tray", "some"] (defScope s__law_pick) := ⟨rfl, rfl, rfl, by decide +kernel, rfl, by decide +kernel, by decide +kernel⟩
theorem i__law_pick {K : PySem.W.Frag} {f : Addr} {fd : FuncData} (F : Fun K "_law_pick" "_law_pick" s__law_pick f fd) : KBi fd ["tray", "some"] 2 [] [0, 1] := DL.Fun.kbi F fun _ _ _ _ _ _ us ws h1 h2 => match us, ws, h1, h2 with | [_, _], [], _, _ => rfl
abbrev s__law_is_pair : Stmt := top 12
theorem sc__law_is_pair : FnScope ["above", "below", "part"] ["above", "below"] (defScope s__law_is_pair) := ⟨rfl, rfl, rfl, by decide +kernel, rfl, by decide +kernel, by decide +kernel⟩
theorem i__law_is_pair {K : PySem.W.Frag} {f : Addr} {fd : FuncData} (F : Fun K "_law_is_pair" "_law_is_pair" s__law_is_pair f fd) : KBi fd ["above", "below"] 2 [] [0, 1] := DL.Fun.kbi F fun _ _ _ _ _ _ us ws h1 h2 => match us, ws, h1, h2 with | [_, _], [], _, _ => rfl
abbrev s__law_drawn : Stmt := top 13
theorem sc__law_drawn : FnScope ["tray", "way", "above", "below", "times", "pair"] ["tray"] (defScope s__law_drawn) := ⟨rfl, rfl, rfl, by decide +kernel, rfl, by decide +kernel, by decide +kernel⟩
theorem i__law_drawn {K : PySem.W.Frag} {f : Addr} {fd : FuncData} (F : Fun K "_law_drawn" "_law_drawn" s__law_drawn f fd) : KBi fd ["tray"] 1 [] [0] := DL.Fun.kbi F fun _ _ _ _ _ _ us ws h1 h2 => match us, ws, h1, h2 with | [_], [], _, _ => rfl
abbrev s__law_within_right : Stmt := top 14
theorem sc__law_within_right : FnScope ["tray", "value", "is_whole", "least", "most", "due"] ["tray", "value", "is_whole"] (defScope s__law_within_right) := ⟨rfl, rfl, rfl, by decide +kernel, rfl, by decide +kernel, by decide +kernel⟩
theorem i__law_within_right {K : PySem.W.Frag} {f : Addr} {fd : FuncData} (F : Fun K "_law_within_right" "_law_within_right" s__law_within_right f fd) : KBi fd ["tray", "value", "is_whole"] 3 [] [0, 1, 2] := DL.Fun.kbi F fun _ _ _ _ _ _ us ws h1 h2 => match us, ws, h1, h2 with | [_, _, _], [], _, _ => rfl
abbrev s__law_row_right : Stmt := top 15
theorem sc__law_row_right : FnScope ["tray", "row", "is_right", "turn", "value", "is_whole", "is_told", "many", "given", "due", "odd"] ["tray"] (defScope s__law_row_right) := ⟨rfl, rfl, rfl, by decide +kernel, rfl, by decide +kernel, by decide +kernel⟩
theorem i__law_row_right {K : PySem.W.Frag} {f : Addr} {fd : FuncData} (F : Fun K "_law_row_right" "_law_row_right" s__law_row_right f fd) : KBi fd ["tray"] 1 [] [0] := DL.Fun.kbi F fun _ _ _ _ _ _ us ws h1 h2 => match us, ws, h1, h2 with | [_], [], _, _ => rfl
abbrev s_law : Stmt := top 16
theorem sc_law : FnScope ["script", "tray", "turn", "value", "is_whole", "is_told", "kept"] ["script"] (defScope s_law) := ⟨rfl, rfl, rfl, by decide +kernel, rfl, by decide +kernel, by decide +kernel⟩
/-- what the top has written -/
structure Txt (K : PySem.W.Frag) (mg : Str → Option Value) (ad : Nat → Addr) (fd : Nat → FuncData) : Prop where
  F_is_integer : Fun K "is_integer" "is_integer" s_is_integer (ad 0) (fd 0)
  g_is_integer : mg "is_integer" = some (.ref (ad 0))
  F_is_within : Fun K "is_within" "is_within" s_is_within (ad 1) (fd 1)
  g_is_within : mg "is_within" = some (.ref (ad 1))
  F_is_list : Fun K "is_list" "is_list" s_is_list (ad 2) (fd 2)
  g_is_list : mg "is_list" = some (.ref (ad 2))
  F_is_number : Fun K "is_number" "is_number" s_is_number (ad 3) (fd 3)
  g_is_number : mg "is_number" = some (.ref (ad 3))
  F_is_from_0 : Fun K "is_from_0" "is_from_0" s_is_from_0 (ad 4) (fd 4)
  g_is_from_0 : mg "is_from_0" = some (.ref (ad 4))
  F_is_row : Fun K "is_row" "is_row" s_is_row (ad 5) (fd 5)
  g_is_row : mg "is_row" = some (.ref (ad 5))
  F__law_tray : Fun K "_law_tray" "_law_tray" s__law_tray (ad 6) (fd 6)
  g__law_tray : mg "_law_tray" = some (.ref (ad 6))
  F__law_lift : Fun K "_law_lift" "_law_lift" s__law_lift (ad 7) (fd 7)
  g__law_lift : mg "_law_lift" = some (.ref (ad 7))
  F__law_pick : Fun K "_law_pick" "_law_pick" s__law_pick (ad 8) (fd 8)
  g__law_pick : mg "_law_pick" = some (.ref (ad 8))
  F__law_is_pair : Fun K "_law_is_pair" "_law_is_pair" s__law_is_pair (ad 9) (fd 9)
  g__law_is_pair : mg "_law_is_pair" = some (.ref (ad 9))
  F__law_drawn : Fun K "_law_drawn" "_law_drawn" s__law_drawn (ad 10) (fd 10)
  g__law_drawn : mg "_law_drawn" = some (.ref (ad 10))
  F__law_within_right : Fun K "_law_within_right" "_law_within_right" s__law_within_right (ad 11) (fd 11)
  g__law_within_right : mg "_law_within_right" = some (.ref (ad 11))
  F__law_row_right : Fun K "_law_row_right" "_law_row_right" s__law_row_right (ad 12) (fd 12)
  g__law_row_right : mg "_law_row_right" = some (.ref (ad 12))
  F_law : Fun K "law" "law" s_law (ad 13) (fd 13)
  g_law : mg "law" = some (.ref (ad 13))
  b_abs : mg "abs" = none
  b_all : mg "all" = none
  b_bool : mg "bool" = none
  b_int : mg "int" = none
  b_isinstance : mg "isinstance" = none
  b_len : mg "len" = none
  b_list : mg "list" = none
  b_range : mg "range" = none
  b_repr : mg "repr" = none
  b_tuple : mg "tuple" = none
  b_gcd : mg "gcd" = some (.builtin "math.gcd")
def isInteger : D → Bool
  | .int _ => true
  | _ => false
theorem isInteger_eq (d : D) : (isInt d && !isBool d) = isInteger d := by cases d <;> rfl

/-- one more step of a reading -/
local macro_rules | `(tactic| k_offL) => `(tactic| first
  | with_reducible refine rs_seq ?_
  | (with_reducible show Rd (tVar _) _ _); refine rd_var rfl ?_
  | with_reducible refine rd_int ?_
  | with_reducible refine rd_bl ?_
  | with_reducible refine rd_str ?_
  | with_reducible refine rd_non ?_
  | with_reducible refine ra_cons ?_
  | with_reducible refine ra_nil ?_
  | with_reducible refine rs_ret ?_
  | with_reducible refine rs_if ?_
  | with_reducible refine rs_next ?_
  | with_reducible refine dI0_mk ?_
  | with_reducible refine rd_andT ?_
  | with_reducible refine rd_orT ?_
  | with_reducible refine rd_notT ?_
  | with_reducible refine rd_isi isInt kt_int ?_
  | with_reducible refine rd_isi isBool kt_bool ?_
  | with_reducible refine rd_isi2 isLst isTup kt_list kt_tuple ?_
  | (with_reducible show Rd (tGo _ _ _ (SpT _ _ _) _ (tCons (tVar _) _) _) _ _); refine rd_goT2 rfl rfl rfl ?_
  | with_reducible refine rd_go ?_
  | (with_reducible show Rd tDNewK _ _); refine rd_dnew ?_
  | with_reducible refine rd_disp_ii ?_
  | with_reducible refine rd_neg ?_
  | with_reducible refine rd_op od_I0 ?_
  | with_reducible refine rd_op od_B0 ?_
  | with_reducible refine rd_op od_isN ?_
  | with_reducible refine rd_op od_notN ?_
  | with_reducible refine rd_op od_isB ?_
  | with_reducible refine rd_op od_eq ?_
  | with_reducible refine rd_op od_ne ?_
  | with_reducible refine rd_op od_eqS ?_
  | with_reducible refine rd_op od_neS ?_
  | (with_reducible show Rd (tOp (rIx _) (tVar _) _) _ _); refine rd_ixls rfl ?_
  | with_reducible refine rd_op od_ix ?_
  | (with_reducible show List.length _ ≤ 100000 ∧ _); refine ⟨of_decide_eq_true rfl, ?_⟩
  | (with_reducible show _ < List.length _ ∧ _); refine ⟨of_decide_eq_true rfl, ?_⟩
  | (with_reducible show _ < List.length _ ∧ _ < List.length _ ∧ _); refine ⟨of_decide_eq_true rfl, of_decide_eq_true rfl, ?_⟩
  | (with_reducible show ∃ _ _ _, _ ∧ _ = PyData.int _ ∧ atI _ _ = some _ ∧ _); refine ⟨_, _, _, rfl, rfl, rfl, ?_⟩
  | (with_reducible show Rs (tAsg _ (gSub (tVar _) (tC _) rSetL)) _ _); refine rs_setix rfl ?_
  | (with_reducible show ∃ _ _, _ ∧ ixN _ _ = some _ ∧ _); refine ⟨_, _, rfl, rfl, ?_⟩
  | with_reducible refine rd_op od_I ?_
  | with_reducible refine rd_cb cd_len ?_
  | with_reducible refine rd_cb cd_gcd ?_
  | with_reducible refine rd_cb cd_abs ?_
  | with_reducible refine rd_cb cd_int ?_
  | with_reducible refine rd_cb cd_all ?_
  | with_reducible refine rd_cb cd_repr ?_
  | with_reducible refine rd_cb cd_tup ?_
  | with_reducible refine rd_tup ?_
  | with_reducible refine rd_lst ?_
  | with_reducible refine rt_tru ?_
  | with_reducible refine rt_tt ?_
  | with_reducible refine rt_not ?_
  | with_reducible refine rt_and ?_
  | with_reducible refine rt_or ?_
  | with_reducible refine rd_if ?_
  | with_reducible refine rs_asg ?_
  | with_reducible refine rs_par ?_
  | with_reducible refine rs_par3 ?_
  | (with_reducible show Rs (tDrop (tBM _ _ rAppend (tVar _) (tCons _ tNil))) _ _); refine rs_app rfl ?_
  | with_reducible refine rs_drop ?_
  | (with_reducible show (true = true → _) ∧ (true = false → _)); refine ⟨fun _ => ?_, fun h => Bool.noConfusion h⟩
  | (with_reducible show (false = true → _) ∧ (false = false → _)); refine ⟨fun h => Bool.noConfusion h, fun _ => ?_⟩
  | (with_reducible show _ = _ ∧ _ = _ ∧ _ = _ ∧ _); refine ⟨rfl, rfl, rfl, ?_⟩)

section
variable {P : Program} {w : World} {K : PySem.W.Frag} {mg : Str → Option Value} {base : Heap} {ad : Nat → Addr} {fd : Nat → FuncData}
def r_is_integer : List D → (D → Prop) → Prop := fun xs P => ∃ d, xs = [d] ∧ P (.bool (isInteger d))
theorem ok_is_integer (T : Txt K mg ad fd) : FnG P w K mg base CX0 1 (ad 0) (fd 0) ["value"] (SpD 1 r_is_integer) := by
  refine fnD T.F_is_integer sc_is_integer rfl fun cdv A outer s H E hr hG => ⟨_, (pss_one (ps_ret (andK (pe_callB isiK1 rfl T.b_isinstance (by decide +kernel) (pa_cons (pv 0) (pa_cons (pe_bltn (v := .ty "int") rfl T.b_int (by decide +kernel) rfl) pa_nil))) (pe_one (notK (pe_callB isiK1 rfl T.b_isinstance (by decide +kernel) (pa_cons (pv 0) (pa_cons (pe_bltn (v := .ty "bool") rfl T.b_bool (by decide +kernel) rfl) pa_nil)))))))), fun ds Pd hl hR => ?_⟩
  obtain ⟨d, rfl, p⟩ := hR
  repeat k_offL
  refine ⟨trivial, fun z => ?_, fun z => ?_⟩
  · repeat k_offL
    refine ⟨trivial, ?_⟩
    rw [← isInteger_eq, show isInt d = true from z] at p
    exact p
  · rw [← isInteger_eq, show isInt d = false from z] at p
    rw [show isInt d = false from z]
    exact p
/-- None, or an integer -/
def bnd : D → Prop
  | .none => True
  | .int _ => True
  | _ => False
def notLess (i : Int) : D → Bool
  | .int a => decide (a ≤ i)
  | _ => true
def notMore (i : Int) : D → Bool
  | .int a => decide (i ≤ a)
  | _ => true
def within : D → D → D → Bool
  | .int i, l, m => notLess i l && notMore i m
  | _, _, _ => false
theorem within_no {v l m : D} (h : isInteger v = false) : within v l m = false := by cases v <;> first | rfl | cases h
def r_is_within : List D → (D → Prop) → Prop := fun xs P => ∃ v l m, xs = [v, l, m] ∧ bnd l ∧ bnd m ∧ P (.bool (within v l m))
theorem int_of {v : D} (h : isInteger v = true) : ∃ i, v = .int i := by cases v <;> first | exact ⟨_, rfl⟩ | cases h
theorem ok_is_within (T : Txt K mg ad fd) : FnG P w K mg base CX0 2 (ad 1) (fd 1) ["value", "least", "most"] (SpD 3 r_is_within) := by
  refine fnD T.F_is_within sc_is_within rfl fun cdv A outer s H E hr hG => ⟨_, (pss_cons (ps_if (pt_not (truK (pg_call (ok_is_integer T) (hr.mono (by decide)) hG rfl T.g_is_integer T.F_is_integer.kp (i_is_integer T.F_is_integer) pass0 (pa_cons (pv 0) pa_nil)))) (pss_one (ps_ret pe_bl)) pss_nil)
      (pss_one (ps_ret (andK (orK (pe_cmpR op_isN (pv 1) pe_non (by rfl)) (pe_one (pe_cmpR op_ge (pv 0) (pv 1) (by rfl)))) (pe_one (orK (pe_cmpR op_isN (pv 2) pe_non (by rfl)) (pe_one (pe_cmpR op_le (pv 0) (pv 2) (by rfl))))))))), fun ds Pd hl hR => ?_⟩
  obtain ⟨v, l, m, rfl, hb1, hb2, p⟩ := hR
  repeat k_offL
  refine ⟨v, rfl, trivial, fun z => ?_, fun z => ?_⟩
  · have z' : isInteger v = false := by simpa [truD] using z
    rw [within_no z'] at p
    repeat k_offL
    exact p
  · have z' : isInteger v = true := by simpa [truD] using z
    obtain ⟨i, rfl⟩ := int_of z'
    have low : ∀ (δ : List DV) (Q : D → List DV → Prop), δ = dvs0 3 [.int i, l, m] → Q (.bool (notMore i m)) δ → Rd (tOrT K (tOp (fun x y H Q => y = .non ∧ Q (.bl (decide (x = .non))) H) (tVar 2) (tC .non)) (tOp (rI0 fun i j => .bl (decide (i ≤ j))) (tVar 0) (tVar 2))) δ Q := fun δ Q e q => by
      subst e
      repeat k_offL
      refine ⟨rfl, trivial, fun y => ?_, fun y => ?_⟩
      · cases m <;> first | exact q | cases y
      · cases m <;> first | exact hb2.elim | cases y | skip
        repeat k_offL
        exact q
    repeat k_offL
    refine ⟨rfl, trivial, fun y => ?_, fun y => ?_⟩
    · have e : notLess i l = true := by cases l <;> first | rfl | cases y
      refine ⟨trivial, fun y2 => ?_, fun y2 => ?_⟩
      · refine low _ _ rfl ?_
        rw [show within (.int i) l m = notMore i m by show (notLess i l && notMore i m) = _; rw [e, Bool.true_and]] at p
        exact p
      · exact absurd (y.symm.trans y2) (by decide)
    · cases l <;> first | exact hb1.elim | cases y | skip
      rename_i a
      repeat k_offL
      refine ⟨trivial, fun y => ?_, fun y => ?_⟩
      · have y' : decide (a ≤ i) = true := y
        refine low _ _ rfl ?_
        rw [show within (.int i) (.int a) m = notMore i m by show (decide (a ≤ i) && notMore i m) = _; rw [y', Bool.true_and]] at p
        exact p
      · have y' : decide (a ≤ i) = false := y
        rw [show within (.int i) (.int a) m = decide (a ≤ i) by show (decide (a ≤ i) && notMore i m) = _; rw [y', Bool.false_and]] at p
        exact p
def isList (d : D) : Bool := isLst d || isTup d
def r_is_list : List D → (D → Prop) → Prop := fun xs P => ∃ d, xs = [d] ∧ P (.bool (isList d))
theorem ok_is_list (T : Txt K mg ad fd) : FnG P w K mg base CX0 1 (ad 2) (fd 2) ["value"] (SpD 1 r_is_list) := by
  refine fnD T.F_is_list sc_is_list rfl fun cdv A outer s H E hr hG => ⟨_, (pss_one (ps_ret (pe_callB isiK2 rfl T.b_isinstance (by decide +kernel) (pa_cons (pv 0) (pa_cons (pe_tup (pa_cons (pe_bltn (v := .ty "list") rfl T.b_list (by decide +kernel) rfl) (pa_cons (pe_bltn (v := .ty "tuple") rfl T.b_tuple (by decide +kernel) rfl) pa_nil))) pa_nil))))), fun ds Pd hl hR => ?_⟩
  obtain ⟨d, rfl, p⟩ := hR
  repeat k_offL
  exact p
/-- what is asked of a pair -/
def pairNumber : D → D → Bool
  | .int a, .int b => decide (2 ≤ b) && decide (Nat.gcd a.natAbs b.natAbs = 1)
  | _, _ => false
def pairOk : List D → Bool
  | [x, y] => pairNumber x y
  | _ => false
/-- a number in its one form -/
def isNumber : D → Bool
  | .int _ => true
  | .list ds => pairOk ds
  | .tuple ds => pairOk ds
  | _ => false
def r_is_number : List D → (D → Prop) → Prop := fun xs P => ∃ d, xs = [d] ∧ P (.bool (isNumber d))
theorem pairOk_no : ∀ {ds : List D}, ds.length ≠ 2 → pairOk ds = false
  | [], _ => rfl
  | [_], _ => rfl
  | _ :: _ :: _ :: _, _ => rfl
  | [_, _], h => absurd rfl h
theorem isNumber_no {d : D} (h1 : isInteger d = false) (h2 : isList d = false) : isNumber d = false := by
  cases d <;> first | rfl | (cases h1; done) | (cases h2; done)
theorem ok_is_number (T : Txt K mg ad fd) : FnG P w K mg base CX0 3 (ad 3) (fd 3) ["value"] (SpD 1 r_is_number) := by
  refine fnD T.F_is_number sc_is_number rfl fun cdv A outer s H E hr hG => ⟨_, (pss_cons (ps_if (truK (pg_call (ok_is_integer T) (hr.mono (by decide)) hG rfl T.g_is_integer T.F_is_integer.kp (i_is_integer T.F_is_integer) pass0 (pa_cons (pv 0) pa_nil))) (pss_one (ps_ret pe_bl)) pss_nil)
      (pss_cons (ps_if (PW.pt (pw_or (pt_not (truK (pg_call (ok_is_list T) (hr.mono (by decide)) hG rfl T.g_is_list T.F_is_list.kp (i_is_list T.F_is_list) pass0 (pa_cons (pv 0) pa_nil)))) (pw_or1 (pt_cmpR (neK hr) (pe_callB lenK rfl T.b_len (by decide +kernel) (pa_cons (pv 0) pa_nil)) pe_int (by rfl))))) (pss_one (ps_ret pe_bl)) pss_nil)
      (pss_one (ps_ret (andK (pg_call (ok_is_integer T) (hr.mono (by decide)) hG rfl T.g_is_integer T.F_is_integer.kp (i_is_integer T.F_is_integer) pass0 (pa_cons (pe_ix ixK (pv 0) pe_int (fun _ _ => rfl)) pa_nil)) (andK (pg_call (ok_is_within T) (hr.mono (by decide)) hG rfl T.g_is_within T.F_is_within.kp (i_is_within T.F_is_within) pass0 (pa_cons (pe_ix ixK (pv 0) pe_int (fun _ _ => rfl)) (pa_cons pe_int (pa_cons pe_non pa_nil)))) (pe_one (pe_cmpR (eqK hr) (pe_callBfun cr_gcd rfl T.b_gcd (pa_cons (pe_ix ixK (pv 0) pe_int (fun _ _ => rfl)) (pa_cons (pe_ix ixK (pv 0) pe_int (fun _ _ => rfl)) pa_nil))) pe_int (by rfl))))))))), fun ds Pd hl hR => ?_⟩
  obtain ⟨d, rfl, p⟩ := hR
  repeat k_offL
  refine ⟨d, rfl, trivial, fun z => ?_, fun z => ?_⟩
  · repeat k_offL
    obtain ⟨i, rfl⟩ := int_of z
    exact p
  have z' : isInteger d = false := z
  repeat k_offL
  refine ⟨d, rfl, trivial, fun y => ?_, fun y => ?_⟩
  · have y' : isList d = false := by simpa [truD] using y
    repeat k_offL
    rw [isNumber_no z' y'] at p
    exact p
  have y' : isList d = true := by simpa [truD] using y
  obtain ⟨ds, hd⟩ : ∃ ds, d = .list ds ∨ d = .tuple ds := by
    cases d <;> first | exact ⟨_, .inl rfl⟩ | exact ⟨_, .inr rfl⟩ | cases y'
  have e0 : isNumber d = pairOk ds := by rcases hd with rfl | rfl <;> rfl
  rw [e0] at p
  repeat k_offL
  refine ⟨d, ds.length, rfl, .inl ⟨ds, hd, rfl⟩, ?_⟩
  repeat k_offL
  refine ⟨shapedInt, shapedInt, _, rfl, fun y2 => ?_, fun y2 => ?_⟩
  · repeat k_offL
    have ne : ds.length ≠ 2 := by
      intro e
      rw [e] at y2
      cases y2
    rw [pairOk_no ne] at p
    exact p
  have h2 : ds.length = 2 := by
    have q : (((ds.length : Nat) : Int) == 2) = true := by simpa [PyData.eqv] using y2
    have := eq_of_beq q
    omega
  obtain ⟨x, w, rfl⟩ : ∃ x w, ds = [x, w] := by
    match ds, h2 with
    | [x, w], _ => exact ⟨x, w, rfl⟩
  replace p : Pd (.bool (pairNumber x w)) := p
  repeat k_offL
  refine ⟨[x, w], 0, x, hd, rfl, rfl, ?_⟩
  repeat k_offL
  refine ⟨x, rfl, trivial, fun a => ?_, fun a => ?_⟩
  · obtain ⟨i, rfl⟩ := int_of a
    repeat k_offL
    refine ⟨[.int i, w], 1, w, hd, rfl, rfl, ?_⟩
    repeat k_offL
    refine ⟨w, .int 2, .none, rfl, trivial, trivial, trivial, fun b => ?_, fun b => ?_⟩
    · have b' : within w (.int 2) .none = true := b
      cases w <;> first | (cases b'; done) | skip
      rename_i j
      have hj : 2 ≤ j := by simpa [within, notLess, notMore] using b'
      repeat k_offL
      refine ⟨[.int i, .int j], 0, .int i, hd, rfl, rfl, ?_⟩
      repeat k_offL
      refine ⟨[.int i, .int j], 1, .int j, hd, rfl, rfl, ?_⟩
      repeat k_offL
      refine ⟨i, j, rfl, ?_⟩
      repeat k_offL
      refine ⟨shapedInt, shapedInt, ?_⟩
      have e : PyData.eqv (.int ((Nat.gcd i.natAbs j.natAbs : Nat) : Int)) (.int 1) = pairNumber (.int i) (.int j) := by
        show (((Nat.gcd i.natAbs j.natAbs : Nat) : Int) == 1) = (decide (2 ≤ j) && decide (Nat.gcd i.natAbs j.natAbs = 1))
        rw [decide_eq_true hj, Bool.true_and]
        by_cases g : Nat.gcd i.natAbs j.natAbs = 1
        · rw [decide_eq_true g]
          exact beq_iff_eq.mpr (by rw [g]; rfl)
        · rw [decide_eq_false g]
          exact beq_eq_false_iff_ne.mpr (by omega)
      rw [e]
      exact p
    · have b' : within w (.int 2) .none = false := b
      have e : pairNumber (.int i) w = false := by
        cases w <;> first | rfl | skip
        rename_i j
        have hj : ¬ 2 ≤ j := by simpa [within, notLess, notMore] using b'
        show (decide (2 ≤ j) && _) = false
        rw [decide_eq_false hj, Bool.false_and]
      rw [e] at p
      rw [b']
      exact p
  · have a' : isInteger x = false := a
    have e : pairNumber x w = false := by cases x <;> first | rfl | cases a'
    rw [e] at p
    rw [a']
    exact p
/-- the first item is an integer from 0 on -/
def first0 : List D → Bool
  | .int a :: _ => decide (0 ≤ a)
  | _ => false
def isFrom0 : D → Bool
  | .int i => decide (0 ≤ i)
  | .list ds => isNumber (.list ds) && first0 ds
  | .tuple ds => isNumber (.tuple ds) && first0 ds
  | _ => false
def r_is_from_0 : List D → (D → Prop) → Prop := fun xs P => ∃ d, xs = [d] ∧ P (.bool (isFrom0 d))
theorem isNumber_inv {d : D} (h1 : isInteger d = false) (h2 : isNumber d = true) : ∃ a b, (d = .list [.int a, .int b] ∨ d = .tuple [.int a, .int b]) ∧ 2 ≤ b ∧ Nat.gcd a.natAbs b.natAbs = 1 := by
  have go : ∀ ds, pairOk ds = true → ∃ a b, ds = [.int a, .int b] ∧ 2 ≤ b ∧ Nat.gcd a.natAbs b.natAbs = 1 := fun ds h => by
    match ds, h with
    | [], h => cases h
    | [_], h => cases h
    | _ :: _ :: _ :: _, h => cases h
    | [x, y], h =>
      have h' : pairNumber x y = true := h
      cases x <;> cases y <;> first | (cases h'; done) | skip
      rename_i a b
      have h2 : (decide (2 ≤ b) && decide (Nat.gcd a.natAbs b.natAbs = 1)) = true := h'
      rw [Bool.and_eq_true, decide_eq_true_eq, decide_eq_true_eq] at h2
      exact ⟨a, b, rfl, h2.1, h2.2⟩
  cases d <;> first | (cases h1; done) | (cases h2; done) | skip
  · obtain ⟨a, b, rfl, h⟩ := go _ h2
    exact ⟨a, b, .inl rfl, h⟩
  · obtain ⟨a, b, rfl, h⟩ := go _ h2
    exact ⟨a, b, .inr rfl, h⟩
theorem ok_is_from_0 (T : Txt K mg ad fd) : FnG P w K mg base CX0 4 (ad 4) (fd 4) ["value"] (SpD 1 r_is_from_0) := by
  refine fnD T.F_is_from_0 sc_is_from_0 rfl fun cdv A outer s H E hr hG => ⟨_, (pss_cons (ps_if (truK (pg_call (ok_is_integer T) (hr.mono (by decide)) hG rfl T.g_is_integer T.F_is_integer.kp (i_is_integer T.F_is_integer) pass0 (pa_cons (pv 0) pa_nil))) (pss_one (ps_ret (pe_cmpR op_ge (pv 0) pe_int (by rfl)))) pss_nil)
      (pss_one (ps_ret (andK (pg_call (ok_is_number T) (hr.mono (by decide)) hG rfl T.g_is_number T.F_is_number.kp (i_is_number T.F_is_number) pass0 (pa_cons (pv 0) pa_nil)) (pe_one (pe_cmpR op_ge (pe_ix ixK (pv 0) pe_int (fun _ _ => rfl)) pe_int (by rfl))))))), fun ds Pd hl hR => ?_⟩
  obtain ⟨d, rfl, p⟩ := hR
  repeat k_offL
  refine ⟨d, rfl, trivial, fun z => ?_, fun z => ?_⟩
  · obtain ⟨i, rfl⟩ := int_of z
    repeat k_offL
    exact p
  have z' : isInteger d = false := z
  repeat k_offL
  refine ⟨d, rfl, trivial, fun y => ?_, fun y => ?_⟩
  · obtain ⟨a, b, hd, _⟩ := isNumber_inv z' y
    have e : isFrom0 d = decide (0 ≤ a) := by
      have y' : isNumber d = true := y
      rcases hd with rfl | rfl
      · show (isNumber _ && decide (0 ≤ a)) = _
        rw [y', Bool.true_and]
      · show (isNumber _ && decide (0 ≤ a)) = _
        rw [y', Bool.true_and]
    rw [e] at p
    repeat k_offL
    refine ⟨_, 0, .int a, hd, rfl, rfl, ?_⟩
    repeat k_offL
    exact p
  · have y' : isNumber d = false := y
    have e : isFrom0 d = false := by
      cases d <;> first | rfl | (cases z'; done) | skip
      · show (isNumber _ && _) = false
        rw [y', Bool.false_and]
      · show (isNumber _ && _) = false
        rw [y', Bool.false_and]
    rw [e] at p
    rw [y']
    exact p
/-- a row of so many numbers from 0 on -/
def isRow : D → D → Bool
  | .list ds, .int n => decide ((ds.length : Int) = n) && ds.all isFrom0
  | .tuple ds, .int n => decide ((ds.length : Int) = n) && ds.all isFrom0
  | _, _ => false
/-- the items of a list or a tuple -/
def itemsOf : D → List D
  | .list ds => ds
  | .tuple ds => ds
  | _ => []
def r_is_row : List D → (D → Prop) → Prop := fun xs P => ∃ v n, xs = [v, n] ∧ (itemsOf v).length ≤ 50000 ∧ P (.bool (isRow v n))
theorem ok_is_row (T : Txt K mg ad fd) : FnG P w K mg base CX0 5 (ad 5) (fd 5) ["value", "many"] (SpD 2 r_is_row) := by
  refine fnD T.F_is_row sc_is_row rfl fun cdv A outer s H E hr hG => ⟨_, (pss_cons (ps_if (PW.pt (pw_or (pt_not (truK (pg_call (ok_is_list T) (hr.mono (by decide)) hG rfl T.g_is_list T.F_is_list.kp (i_is_list T.F_is_list) pass0 (pa_cons (pv 0) pa_nil)))) (pw_or (pt_not (truK (pg_call (ok_is_integer T) (hr.mono (by decide)) hG rfl T.g_is_integer T.F_is_integer.kp (i_is_integer T.F_is_integer) pass0 (pa_cons (pv 1) pa_nil)))) (pw_or1 (pt_cmpR (neK hr) (pe_callB lenK rfl T.b_len (by decide +kernel) (pa_cons (pv 0) pa_nil)) (pv 1) (by rfl)))))) (pss_one (ps_ret pe_bl)) pss_nil)
      (pss_one (ps_ret (pe_callB (allK rfl) rfl T.b_all (by decide +kernel) (pa_cons (pe_lc (own := [("item", 2)]) rfl sc_is_row.nd (piK (pv 0)) (blkOk_by (N := ["value", "many", "item"]) (sc := defScope s_is_row) (by decide +kernel)) (fun _ _ _ _ _ => (pg_name (i := 2) sc_is_row.nd rfl (Or.inl rfl))) (fun _ _ _ _ _ => pts_nil) (fun _ _ _ _ _ => (pg_call (ok_is_from_0 T) (hr.mono (by decide)) hG rfl T.g_is_from_0 T.F_is_from_0.kp (i_is_from_0 T.F_is_from_0) pass0 (pa_cons (pv 2) pa_nil)))) pa_nil))))), fun ds Pd hl hR => ?_⟩
  obtain ⟨v, n, rfl, hz, p⟩ := hR
  repeat k_offL
  refine ⟨v, rfl, trivial, fun y => ?_, fun y => ?_⟩
  · have y' : isList v = false := by simpa [truD] using y
    have e : isRow v n = false := by cases v <;> first | rfl | (cases y'; done)
    rw [e] at p
    repeat k_offL
    exact p
  have y' : isList v = true := by simpa [truD] using y
  obtain ⟨ds, hd⟩ : ∃ ds, v = .list ds ∨ v = .tuple ds := by
    cases v <;> first | exact ⟨_, .inl rfl⟩ | exact ⟨_, .inr rfl⟩ | (cases y'; done)
  repeat k_offL
  refine ⟨n, rfl, trivial, fun z => ?_, fun z => ?_⟩
  · have z' : isInteger n = false := by simpa [truD] using z
    have e : isRow v n = false := by rcases hd with rfl | rfl <;> cases n <;> first | rfl | (cases z'; done)
    rw [e] at p
    repeat k_offL
    exact p
  have z' : isInteger n = true := by simpa [truD] using z
  obtain ⟨k, rfl⟩ := int_of z'
  have e0 : isRow v (.int k) = (decide ((ds.length : Int) = k) && ds.all isFrom0) := by rcases hd with rfl | rfl <;> rfl
  rw [e0] at p
  have hz' : ds.length ≤ 50000 := by rcases hd with rfl | rfl <;> exact hz
  repeat k_offL
  refine ⟨v, ds.length, rfl, .inl ⟨ds, hd, rfl⟩, ?_⟩
  repeat k_offL
  refine ⟨shapedInt, shapedInt, _, rfl, fun x => ?_, fun x => ?_⟩
  · have ne : ¬ (ds.length : Int) = k := by
      intro e
      have x' : (!((ds.length : Int) == k)) = true := x
      rw [e] at x'
      simp at x'
    rw [decide_eq_false ne, Bool.false_and] at p
    repeat k_offL
    exact p
  have eq : (ds.length : Int) = k := by
    have x' : (!((ds.length : Int) == k)) = false := x
    simpa using x'
  rw [decide_eq_true eq, Bool.true_and] at p
  repeat k_offL
  refine rd_lcmap (fun d => .bool (isFrom0 d)) (ri_seq ?_)
  repeat k_offL
  refine ⟨ds, hd, hz', ⟨_, rfl, rfl⟩, fun d _ => ?_, ?_⟩
  · repeat k_offL
    exact ⟨d, rfl, rfl, rfl⟩
  · repeat k_offL
    refine ⟨ds.map isFrom0, by rw [List.map_map]; rfl, ?_⟩
    rw [List.all_map]
    exact p
theorem cut_ints (ns : List Int) (lo hi : Option Int) : ∃ ms : List Int, cutV (ns.map V.int) lo hi = ms.map V.int ∧ ms.length ≤ ns.length := by
  unfold cutV
  refine ⟨_, by rw [← List.map_drop, ← List.map_take], ?_⟩
  rw [List.length_take, List.length_drop]
  omega
theorem ok__law_tray (T : Txt K mg ad fd) : FnG P w K mg base CX0 1 (ad 6) (fd 6) ["script"] (SpTray K) := by
  refine fnG_body0 T.F__law_tray sc__law_tray (fun vs H Q E h => ?_) fun cdv A outer s H vs Q E hr hG h => ?_
  · obtain ⟨a, ns, rfl, _⟩ := h
    rfl
  obtain ⟨a, ns, rfl, hS, hlen, k⟩ := h
  refine ⟨_, (pss_one (ps_ret (pe_lst (pa_cons (pe_lc (own := [("cell", 1)]) rfl sc__law_tray.nd (piK (pe_slice slK (pv 0) po_none (po_some pe_int))) (blkOk_by (N := ["script", "cell"]) (sc := defScope s__law_tray) (by decide +kernel)) (fun _ _ _ _ _ => (pg_name (i := 1) sc__law_tray.nd rfl (Or.inl rfl))) (fun _ _ _ _ _ => pts_nil) (fun _ _ _ _ _ => (pe_callTy call_int1 rfl T.b_int (by decide +kernel) (pa_cons (pv 1) pa_nil)))) (pa_cons pe_int (pa_cons pe_int pa_nil)))))), ?_⟩
  obtain ⟨ms, em, hm⟩ := cut_ints ns none (some 52)
  refine ⟨_, rfl, _, rfl, a, ns.map V.int, rfl, hS, fun p hp => ⟨p, rfl, Or.inl ⟨⟨_, .inl (.inl upd_same)⟩, fun D hD => ?_⟩⟩⟩
  rw [em] at hD ⊢
  have nDp : p ≠ D := fun z => by rw [z, upd_same] at hD; cases hD
  have hD0 : H D = none := by rw [upd_ne nDp.symm] at hD; exact hD
  refine lc_list (K := K) (a := p) (xs := ms.map V.int) (fun i H' => Same (upd H p (.lst (ms.map V.int))) H' ∧ H' D = some (.lst ((ms.take i).map V.int))) ⟨Same.upd hD, by rw [List.take_zero]; exact upd_same⟩ (fun i H' _ q => .inl (.inl (q.1 _ _ upd_same))) ?_ ?_
  · rintro i x H' hi ⟨sm, hd⟩
    have hi' : i < ms.length := by
      have := (List.getElem?_eq_some_iff.mp hi).1
      rwa [List.length_map] at this
    rw [List.getElem?_map, List.getElem?_eq_getElem hi'] at hi
    have hx := Option.some.inj hi
    subst hx
    refine ⟨rfl, ?_⟩
    refine Exists.intro (V.int ms[i]) ⟨rfl, Or.inl ⟨_, rfl, _, hd, ?_, fun b o e => ?_, ?_⟩⟩
    · rw [List.length_map, List.length_take]
      exact Nat.lt_of_le_of_lt (Nat.le_trans (Nat.min_le_left _ _) (Nat.le_trans (Nat.le_of_lt hi') (Nat.le_trans hm hlen))) (by rw [sizeLine_eq]; decide)
    · have nb : b ≠ D := fun z => by
        rw [z, hD] at e
        cases e
      rw [upd_ne nb]
      exact sm b o e
    · rw [upd_same, List.take_add_one, List.getElem?_eq_getElem hi', List.map_append]
      rfl
  · rintro H' ⟨sm, hd⟩
    rw [List.length_map, List.take_length] at hd
    refine ⟨(by show 3 ≤ sizeLine; decide), fun q hq => ?_⟩
    have s1 : Same H H' := fun b o e => sm b o ((Same.upd hp) b o e)
    have s2 : Same H' (upd H' q (.lst [.ref D, .int 0, .int 0])) := Same.upd hq
    have nDq : D ≠ q := fun z => by rw [z, hq] at hd; cases hd
    refine k q _ [.list (ms.map PyData.int), .int 0, .int 0] _ (s1.free hq) (s1.trans s2) ⟨ms, 0, 0, rfl, Nat.le_trans hm hlen, Int.le_refl _, by decide⟩ upd_same (.cons (.lst (by simpa using nDq) (s2 _ _ hd) (of_ints ms)) (.cons (.int 0) (.cons (.int 0) .nil)))
/-- a draw: any number from 0 on below m -/
def r__law_lift : List D → (D → Prop) → Prop := fun xs P => ∃ m : Int, xs = [.int m] ∧ 0 < m ∧ m.natAbs < 2 ^ 200 ∧ ∀ r : Int, 0 ≤ r → r < m → P (.int r)
theorem shaped_ints (ns : List Int) : SeqAt.shaped (.list (ns.map PyData.int)) = true := by
  have c : PyData.canLayAll0 (ns.map PyData.int) = true := by
    induction ns with
    | nil => rfl
    | cons a r ih =>
      rw [List.map_cons]
      show (PyData.canLay0 (.int a) && _) = true
      rw [ih]
      rfl
  have d : PyData.depthAll (ns.map PyData.int) = 0 := by
    clear c
    induction ns with
    | nil => rfl
    | cons a r ih =>
      rw [List.map_cons]
      show max (PyData.depth (.int a)) _ = 0
      rw [ih]
      rfl
  show (PyData.canLayAll0 (ns.map PyData.int) && decide (PyData.depthAll (ns.map PyData.int) + 1 ≤ 64)) = true
  rw [c, d]
  rfl
theorem eqv_nil (ns : List Int) : PyData.eqv (.list (ns.map PyData.int)) (.list []) = ns.isEmpty := by
  cases ns <;> rfl
theorem divs {m : Int} (h : 0 < m) (hb : m.natAbs < 2 ^ 200) (x : Int) : CDivW x m := wide_div h hb (by decide) (by decide)
/-- a rest, whatever it is -/
theorem dMod_mk {i j : Int} {P : D → Prop} (hj : 0 < j) (h : ∀ x : Int, 0 ≤ x → x < j → P (.int x)) : dI (fun _ j => 0 < j) (fun i j => .int (i % j)) (.int i) (.int j) P :=
  ⟨hj, h _ (Int.emod_nonneg _ (by omega)) (Int.emod_lt_of_pos _ hj)⟩
theorem draw_pow {x t : Int} {a b c d : Int} (h0 : 0 ≤ x) (h1 : x < 2147483648) (t0 : 0 ≤ t) (t1 : t ≤ 1000000) (ha : 0 ≤ a ∧ a ≤ 100) (hb : 0 ≤ b ∧ b ≤ 100000) (hc : 0 ≤ c ∧ c ≤ 200000) (hd : 0 ≤ d ∧ d ≤ 200000) : (x * (a * t + b) + c * t * t + d).natAbs < 2 ^ 64 := by
  have e1 : a * t ≤ 100 * 1000000 := Int.mul_le_mul ha.2 t1 t0 (by decide)
  have e1' : 0 ≤ a * t := Int.mul_nonneg ha.1 t0
  have e2 : x * (a * t + b) ≤ 2147483648 * (100 * 1000000 + 100000) := Int.mul_le_mul (by omega) (by omega) (by omega) (by decide)
  have e2' : 0 ≤ x * (a * t + b) := Int.mul_nonneg h0 (by omega)
  have e3 : c * t ≤ 200000 * 1000000 := Int.mul_le_mul hc.2 t1 t0 (by decide)
  have e3' : 0 ≤ c * t := Int.mul_nonneg hc.1 t0
  have e4 : c * t * t ≤ 200000 * 1000000 * 1000000 := Int.mul_le_mul e3 t1 t0 (by decide)
  have e4' : 0 ≤ c * t * t := Int.mul_nonneg e3' t0
  generalize x * (a * t + b) = u at e2 e2' ⊢
  generalize c * t * t = v at e4 e4' ⊢
  omega
/-- where it ends: a rest by m, the tray a draw further at most -/
theorem lift_end {Pd : D → Prop} {m x turn left : Int} {ns : List Int} {p : Addr} {fu : Nat} {δ : List DV} (hm : 0 < m) (q : ∀ r : Int, 0 ≤ r → r < m → Pd (.int r)) (h1 : ns.length ≤ 63) (h2 : 0 ≤ turn) (h3 : turn + ((fu - 1 : Nat) : Int) ≤ 1000000)
    (e : δ[0]? = some (.ls false p [.list (ns.map PyData.int), .int turn, .int left])) : Pd (.int (x % m)) ∧ TrayEnd δ p (fu - 1) :=
  ⟨q _ (Int.emod_nonneg _ (by omega)) (Int.emod_lt_of_pos _ hm), Or.inr ⟨_, e, ns, turn, left, rfl, h1, h2, h3⟩⟩
theorem ok__law_lift (T : Txt K mg ad fd) : FnG P w K mg base CX0 1 (ad 7) (fd 7) ["tray", "many"] (SpT 1 1 r__law_lift) := by
  refine fnT T.F__law_lift sc__law_lift rfl fun cdv A outer s H E hr hG => ⟨_, (pss_cons (ps_if (pt_cmpR op_gt (pe_ix ixK (pv 0) pe_int (fun _ _ => rfl)) pe_int (by rfl)) (pss_cons (ps_set (i := 2) sc__law_lift.nd rfl (Or.inl rfl) (pe_ix ixK (pv 0) pe_int (fun _ _ => rfl)))
      (pss_cons (ps_asg (pe_op op_fdivW (pe_callTy call_int1 rfl T.b_int (by decide +kernel) (pa_cons (pv 2) pa_nil)) (pv 1)) (pg_sub (pv 0) pe_int set_list))
      (pss_one (ps_ret (pe_op op_mod (pe_callTy call_int1 rfl T.b_int (by decide +kernel) (pa_cons (pv 2) pa_nil)) (pv 1)))))) pss_nil)
      (pss_cons (ps_set (i := 3) sc__law_lift.nd rfl (Or.inl rfl) (pe_ix ixK (pv 0) pe_int (fun _ _ => rfl)))
      (pss_cons (ps_asg (pe_op op_add (pv 3) pe_int) (pg_sub (pv 0) pe_int set_list))
      (pss_cons (ps_set (i := 4) sc__law_lift.nd rfl (Or.inl rfl) (pe_op op_add (pe_op op_mul pe_int (pv 3)) pe_int))
      (pss_cons (ps_if (pt_cmpR (neK hr) (pe_ix ixK (pv 0) pe_int (fun _ _ => rfl)) (pe_lst pa_nil) (by rfl)) (pss_one (ps_set (i := 4) sc__law_lift.nd rfl (Or.inl rfl) (pe_ix ixK (pe_ix ixK (pv 0) pe_int (fun _ _ => rfl)) (pe_op op_mod (pe_callTy call_int1 rfl T.b_int (by decide +kernel) (pa_cons (pv 3) pa_nil)) (pe_callB lenK rfl T.b_len (by decide +kernel) (pa_cons (pe_ix ixK (pv 0) pe_int (fun _ _ => rfl)) pa_nil))) (fun _ _ => rfl)))) pss_nil)
      (pss_cons (ps_if (PW.pt (pw_and (pt_cmpR op_lt (pv 3) (pe_callB lenK rfl T.b_len (by decide +kernel) (pa_cons (pe_ix ixK (pv 0) pe_int (fun _ _ => rfl)) pa_nil)) (by rfl)) (pw_and1 (pt_cmpR op_ge (pe_callB call_abs rfl T.b_abs (by decide +kernel) (pa_cons (pv 4) pa_nil)) (pe_op op_pow pe_int pe_int) (by rfl))))) (pss_cons (ps_set (i := 2) sc__law_lift.nd rfl (Or.inl rfl) (pe_op op_add (pe_op op_mul pe_int (pe_op op_sub (pe_callB call_abs rfl T.b_abs (by decide +kernel) (pa_cons (pv 4) pa_nil)) (pe_op op_pow pe_int pe_int))) (pe_callTy call_int1 rfl T.b_int (by decide +kernel) (pa_cons (pe_cmpR op_lt (pv 4) pe_int (by rfl)) pa_nil))))
      (pss_cons (ps_asg (pe_op op_fdivW (pe_callTy call_int1 rfl T.b_int (by decide +kernel) (pa_cons (pv 2) pa_nil)) (pv 1)) (pg_sub (pv 0) pe_int set_list))
      (pss_one (ps_ret (pe_op op_mod (pe_callTy call_int1 rfl T.b_int (by decide +kernel) (pa_cons (pv 2) pa_nil)) (pv 1)))))) pss_nil)
      (pss_cons (ps_set (i := 5) sc__law_lift.nd rfl (Or.inl rfl) (pe_op op_mod (pe_callTy call_int1 rfl T.b_int (by decide +kernel) (pa_cons (pe_op op_pow (pe_op op_add (pe_op op_add (pe_op op_mod (pe_callTy call_int1 rfl T.b_int (by decide +kernel) (pa_cons (pv 4) pa_nil)) pe_int) (pe_op op_mul pe_int (pv 3))) pe_int) pe_int) pa_nil)) pe_int))
      (pss_cons (ps_set (i := 5) sc__law_lift.nd rfl (Or.inl rfl) (pe_op op_mod (pe_callTy call_int1 rfl T.b_int (by decide +kernel) (pa_cons (pe_op op_pow (pe_op op_add (pe_op op_add (pe_op op_mul (pv 5) (pe_op op_add (pe_op op_mul pe_int (pv 3)) pe_int)) (pe_op op_mul (pe_op op_mul pe_int (pv 3)) (pv 3))) pe_int) pe_int) pa_nil)) pe_int))
      (pss_one (ps_ret (pe_op op_mod (pe_callTy call_int1 rfl T.b_int (by decide +kernel) (pa_cons (pe_op op_fdivW (pv 5) pe_int) pa_nil)) (pv 1)))))))))))), fun p fu ds Pd hc hl hR => ?_⟩
  obtain ⟨m, rfl, hm, hb, q⟩ := hR
  refine rs_open (i := 0) rfl fun ns turn left h1 h2 h3 => ?_
  repeat k_offL
  refine ⟨_, rfl, fun z => ?_, fun z => ?_⟩
  · repeat k_offL
    refine Or.inl ⟨_, rfl, ?_⟩
    repeat k_offL
    refine ⟨divs hm hb _, ?_⟩
    repeat k_offL
    refine Or.inl ⟨_, rfl, ?_⟩
    repeat k_offL
    exact ⟨hm, lift_end hm q h1 h2 (by omega) rfl⟩
  repeat k_offL
  refine ⟨.inl (by decide), ?_⟩
  repeat k_offL
  refine ⟨shaped_ints ns, rfl, _, rfl, fun z => ?a, fun z => ?b⟩
  case' a =>
    have ne : ns ≠ [] := by
      intro e
      rw [eqv_nil, e] at z
      cases z
    have h0 : (0 : Int) < ((ns.length : Nat) : Int) := by
      have := List.length_pos_iff.mpr ne
      omega
    repeat k_offL
    refine Or.inl ⟨_, rfl, ?_⟩
    repeat k_offL
    refine ⟨.list (ns.map PyData.int), ns.length, rfl, .inl ⟨_, .inl rfl, (List.length_map _).symm⟩, ?_⟩
    refine dI_mk h0 ?_
    have hk := Int.emod_nonneg turn (by omega : ((ns.length : Nat) : Int) ≠ 0)
    have hk2 := Int.emod_lt_of_pos turn h0
    obtain ⟨k, ek⟩ : ∃ k : Nat, turn % ((ns.length : Nat) : Int) = (k : Int) := ⟨_, (Int.toNat_of_nonneg hk).symm⟩
    rw [ek] at hk2 ⊢
    have hk3 : k < ns.length := by omega
    refine ⟨ns.map PyData.int, (k : Int), .int ns[k], .inl rfl, rfl, at_nat (by rw [List.getElem?_map, List.getElem?_eq_getElem hk3]; rfl), ?_⟩
    repeat k_offL
    generalize ns[k] = c
  case' b =>
    repeat k_offL
    generalize (72921 : Int) * turn + 5557 = c
  all_goals
    refine ⟨.list (ns.map PyData.int), ns.length, rfl, .inl ⟨_, .inl rfl, (List.length_map _).symm⟩, ?_⟩
    repeat k_offL
    refine ⟨_, rfl, fun y => ?_, fun y => ?_⟩
    focus
      repeat k_offL
      refine ⟨_, rfl, ?_⟩
      repeat k_offL
      refine dI_mk ⟨by decide, by decide, by decide⟩ ?_
      repeat k_offL
      refine ⟨_, rfl, fun w => ?_, fun w => ?_⟩
      focus
        repeat k_offL
        refine ⟨_, rfl, ?_⟩
        repeat k_offL
        refine dI_mk ⟨by decide, by decide, by decide⟩ ?_
        repeat k_offL
        refine dI_mk (.inl (by decide)) ?_
        repeat k_offL
        refine Or.inr ⟨_, rfl, ?_⟩
        repeat k_offL
        refine Or.inl ⟨_, rfl, ?_⟩
        repeat k_offL
        refine dI_mk (divs hm hb _) ?_
        repeat k_offL
        refine Or.inl ⟨_, rfl, ?_⟩
        repeat k_offL
        exact ⟨hm, lift_end hm q h1 (by omega) (by omega) rfl⟩
    all_goals
      repeat k_offL
      refine Or.inl ⟨_, rfl, ?_⟩
      repeat k_offL
      refine dI_mk (by decide) ?_
      repeat k_offL
      refine dI_mk (.inl (by decide)) ?_
      repeat k_offL
      refine dI_mk ⟨by decide, by decide, by omega⟩ ?_
      repeat k_offL
      refine Or.inl ⟨_, rfl, ?_⟩
      repeat k_offL
      refine dMod_mk (by decide) fun x hx0 hx1 => ?_
      repeat k_offL
      refine dI_mk (.inl (by decide)) ?_
      repeat k_offL
      refine dI_mk (.inl (by omega)) ?_
      repeat k_offL
      refine dI_mk (.inl (by decide)) ?_
      repeat k_offL
      refine dI_mk (.inl (by omega)) ?_
      repeat k_offL
      refine dI_mk ⟨by decide, by decide, draw_pow hx0 (by omega) h2 (by omega) (by decide) (by decide) (by decide) (by decide)⟩ ?_
      repeat k_offL
      refine Or.inl ⟨_, rfl, ?_⟩
      repeat k_offL
      refine dI_mk (by decide) ?_
      repeat k_offL
      refine dI_mk (wide_div (b := 8) (by decide) (by decide) (by decide) (by decide)) ?_
      repeat k_offL
      refine Or.inl ⟨_, rfl, ?_⟩
      repeat k_offL
      exact ⟨hm, lift_end hm q h1 (by omega) (by omega) rfl⟩
/-- one of some -/
def r__law_pick : List D → (D → Prop) → Prop := fun xs P => ∃ ds, (xs = [.list ds] ∨ xs = [.tuple ds]) ∧ 0 < ds.length ∧ ds.length ≤ 1000 ∧ ∀ d ∈ ds, P d
theorem ok__law_pick (T : Txt K mg ad fd) : FnG P w K mg base CX0 2 (ad 8) (fd 8) ["tray", "some"] (SpT 1 1 r__law_pick) := by
  refine fnT T.F__law_pick sc__law_pick rfl fun cdv A outer s H E hr hG => ⟨_, (pss_one (ps_ret (pe_ix ixK (pv 1) (pg_call (ok__law_lift T) (hr.mono (by decide)) hG rfl T.g__law_lift T.F__law_lift.kp (i__law_lift T.F__law_lift) pass0 (pa_cons (pv 0) (pa_cons (pe_callB lenK rfl T.b_len (by decide +kernel) (pa_cons (pv 1) pa_nil)) pa_nil))) (fun _ _ => rfl)))), fun p fu ds Pd hc hl hR => ?_⟩
  obtain ⟨es, he, h0, h1, q⟩ := hR
  obtain ⟨x, rfl, hx⟩ : ∃ x, ds = [x] ∧ (x = .list es ∨ x = .tuple es) := by
    rcases he with rfl | rfl
    · exact ⟨_, rfl, .inl rfl⟩
    · exact ⟨_, rfl, .inr rfl⟩
  repeat k_offL
  refine ⟨x, es.length, rfl, .inl ⟨es, hx, rfl⟩, ?_⟩
  repeat k_offL
  refine ⟨fu, rfl, hc, rfl, _, rfl, by omega, by omega, fun r r0 r1 => ?_⟩
  obtain ⟨k, rfl⟩ : ∃ k : Nat, r = (k : Int) := ⟨_, (Int.toNat_of_nonneg r0).symm⟩
  have hk : k < es.length := by omega
  refine ⟨es, (k : Int), es[k], hx, rfl, at_nat (List.getElem?_eq_getElem hk), ?_⟩
  exact ⟨q _ (List.getElem_mem hk), Or.inl ⟨_, rfl, Nat.le_refl _⟩⟩
/-- whether no integer above 1 divides both, below from 2 on -/
def isPair (a b : Int) : Bool := decide (1 < b) && decide (Nat.gcd a.natAbs b.natAbs = 1)
def r__law_is_pair : List D → (D → Prop) → Prop := fun xs P => ∃ a b, xs = [.int a, .int b] ∧ b ≤ 40000 ∧ P (.bool (isPair a b))
/-- what divides both, among 2 .. b -/
def both (a b : Int) : List Int := ((List.range (b + 1 - 2).toNat).map fun (k : Nat) => 2 + (k : Int)).filter fun x => decide (b % x = 0) && decide (a % x = 0)
theorem both_nil {a b : Int} (h : 1 < b) : both a b = [] ↔ Nat.gcd a.natAbs b.natAbs = 1 := by
  unfold both
  rw [List.filter_eq_nil_iff]
  constructor
  · intro q
    have hg : 0 < Nat.gcd a.natAbs b.natAbs := Nat.gcd_pos_of_pos_right _ (by omega)
    have hd2 : Nat.gcd a.natAbs b.natAbs ∣ b.natAbs := Nat.gcd_dvd_right _ _
    have hd1 : Nat.gcd a.natAbs b.natAbs ∣ a.natAbs := Nat.gcd_dvd_left _ _
    have hle : Nat.gcd a.natAbs b.natAbs ≤ b.natAbs := Nat.le_of_dvd (by omega) hd2
    generalize Nat.gcd a.natAbs b.natAbs = g at hg hd1 hd2 hle ⊢
    by_cases e : g = 1
    · exact e
    · have m : (2 : Int) + ((g - 2 : Nat) : Int) ∈ (List.range (b + 1 - 2).toNat).map fun (k : Nat) => 2 + (k : Int) := List.mem_map.mpr ⟨g - 2, List.mem_range.mpr (by omega), rfl⟩
      have e2 : (2 : Int) + ((g - 2 : Nat) : Int) = (g : Int) := by omega
      rw [e2] at m
      have z := q _ m
      have x1 : b % (g : Int) = 0 := Int.emod_eq_zero_of_dvd (Int.ofNat_dvd_left.mpr hd2)
      have x2 : a % (g : Int) = 0 := Int.emod_eq_zero_of_dvd (Int.ofNat_dvd_left.mpr hd1)
      rw [x1, x2] at z
      simp at z
  · intro g x hx
    obtain ⟨k, _, rfl⟩ := List.mem_map.mp hx
    intro z
    rw [Bool.and_eq_true, decide_eq_true_eq, decide_eq_true_eq] at z
    have d1 : ((2 + k : Nat) : Int) ∣ b := by
      have := Int.dvd_of_emod_eq_zero z.1
      rwa [show ((2 + k : Nat) : Int) = 2 + (k : Int) by omega]
    have d2 : ((2 + k : Nat) : Int) ∣ a := by
      have := Int.dvd_of_emod_eq_zero z.2
      rwa [show ((2 + k : Nat) : Int) = 2 + (k : Int) by omega]
    have := Nat.dvd_gcd (Int.ofNat_dvd_left.mp d2) (Int.ofNat_dvd_left.mp d1)
    rw [g] at this
    have := Nat.le_of_dvd (by decide) this
    omega
theorem ok__law_is_pair (T : Txt K mg ad fd) : FnG P w K mg base CX0 1 (ad 9) (fd 9) ["above", "below"] (SpD 2 r__law_is_pair) := by
  refine fnD T.F__law_is_pair sc__law_is_pair rfl fun cdv A outer s H E hr hG => ⟨_, (pss_one (ps_ret (andK (pe_cmpR op_gt (pv 1) pe_int (by rfl)) (pe_one (pe_cmpR (eqK hr) (pe_lc (own := [("part", 2)]) rfl sc__law_is_pair.nd (pi_range2 rfl T.b_range (pa_cons pe_int (pa_cons (pe_op op_add (pv 1) pe_int) pa_nil))) (blkOk_by (N := ["above", "below", "part"]) (sc := defScope s__law_is_pair) (by decide +kernel)) (fun _ _ _ _ _ => (pg_name (i := 2) sc__law_is_pair.nd rfl (Or.inl rfl))) (fun _ _ _ _ _ => (pts_one (PW.pt (pw_and (pt_cmpR (eqK hr) (pe_op op_mod (pe_callTy call_int1 rfl T.b_int (by decide +kernel) (pa_cons (pv 1) pa_nil)) (pv 2)) pe_int (by rfl)) (pw_and1 (pt_cmpR (eqK hr) (pe_op op_mod (pe_callTy call_int1 rfl T.b_int (by decide +kernel) (pa_cons (pv 0) pa_nil)) (pv 2)) pe_int (by rfl))))))) (fun _ _ _ _ _ => (pv 2))) (pe_lst pa_nil) (by rfl)))))), fun ds Pd hl hR => ?_⟩
  obtain ⟨a, b, rfl, hb, q⟩ := hR
  repeat k_offL
  refine ⟨trivial, fun z => ?_, fun z => ?_⟩
  · have hb1 : 1 < b := by simpa [truD] using z
    repeat k_offL
    refine rd_lcif (fun d => match d with | .int x => decide (b % x = 0) && decide (a % x = 0) | _ => false) (fun d => d) (ri_rng2 ?_)
    repeat k_offL
    refine ⟨2, b + 1, rfl, ⟨by decide, by decide, by omega, by omega⟩, by rw [rngD_len]; omega, ⟨_, rfl, rfl⟩, fun d hd => ?_, fun d _ _ => ?_, ?_⟩
    · obtain ⟨k, _, rfl⟩ := List.mem_map.mp hd
      repeat k_offL
      refine Or.inl ⟨_, rfl, ?_⟩
      repeat k_offL
      refine dI_mk (by omega) ?_
      repeat k_offL
      refine ⟨shapedInt, shapedInt, _, rfl, fun u => ?_, fun u => ?_⟩
      · have u' : decide (b % (2 + (k : Int)) = 0) = true := u
        repeat k_offL
        refine Or.inl ⟨_, rfl, ?_⟩
        repeat k_offL
        refine dI_mk (by omega) ?_
        repeat k_offL
        refine ⟨shapedInt, shapedInt, _, rfl, ?_, rfl⟩
        show decide (a % (2 + (k : Int)) = 0) = (decide (b % (2 + (k : Int)) = 0) && decide (a % (2 + (k : Int)) = 0))
        rw [u', Bool.true_and]
      · have u' : decide (b % (2 + (k : Int)) = 0) = false := u
        refine ⟨?_, rfl⟩
        show false = (decide (b % (2 + (k : Int)) = 0) && decide (a % (2 + (k : Int)) = 0))
        rw [u', Bool.false_and]
    · repeat k_offL
      exact ⟨rfl, rfl⟩
    · have e1 : ((rngD 2 (b + 1 - 2).toNat).filter fun d => match d with | .int x => decide (b % x = 0) && decide (a % x = 0) | _ => false).map (fun d => d) = (both a b).map PyData.int := by
        unfold both rngD
        rw [List.map_id', List.filter_map, List.filter_map, List.map_map]
        rfl
      rw [e1]
      repeat k_offL
      refine ⟨shaped_ints _, rfl, ?_⟩
      rw [eqv_nil]
      have e2 : isPair a b = (both a b).isEmpty := by
        unfold isPair
        rw [decide_eq_true hb1, Bool.true_and]
        by_cases g : Nat.gcd a.natAbs b.natAbs = 1
        · rw [decide_eq_true g, (both_nil hb1).mpr g]
          rfl
        · rw [decide_eq_false g]
          cases h : both a b with
          | nil => exact absurd ((both_nil hb1).mp h) g
          | cons x r => rfl
      rw [e2] at q
      exact q
  · have e : isPair a b = false := by
      have z' : decide (1 < b) = false := z
      unfold isPair
      rw [z', Bool.false_and]
    rw [e] at q
    have z' : decide (1 < b) = false := z
    rw [z']
    exact q
/-- what is drawn may be shown -/
def goodV (d : D) : Prop := Shw d ∧ (itemsOf d).length ≤ 50
/-- any value, and what is told of it -/
def r__law_drawn : List D → (D → Prop) → Prop := fun xs P => xs = [] ∧ ∀ d, goodV d → P (.tuple [d, .bool (isInteger d), .bool (isNumber d)])
theorem isNumber_pair (a b : Int) : pairNumber (.int a) (.int b) = isPair a b := by
  show (decide (2 ≤ b) && _) = (decide (1 < b) && _)
  rw [show decide (2 ≤ b) = decide (1 < b) from decide_eq_decide.mpr (by omega)]
theorem not_pair {a b t : Int} (h : 2 ≤ t) : pairNumber (.int (a * t)) (.int (b * t)) = false := by
  show (decide (2 ≤ b * t) && decide (Nat.gcd (a * t).natAbs (b * t).natAbs = 1)) = false
  have ne : ¬ Nat.gcd (a * t).natAbs (b * t).natAbs = 1 := by
    rw [Int.natAbs_mul, Int.natAbs_mul, Nat.gcd_mul_right]
    intro e
    have := Nat.eq_one_of_mul_eq_one_left e
    omega
  rw [decide_eq_false ne, Bool.and_false]
theorem ok__law_drawn (T : Txt K mg ad fd) : FnG P w K mg base CX0 3 (ad 10) (fd 10) ["tray"] (SpT 0 4 r__law_drawn) := by
  refine fnT T.F__law_drawn sc__law_drawn rfl fun cdv A outer s H E hr hG => ⟨_, (pss_cons (ps_par3 (i := 1) (j := 2) (l := 3) rfl sc__law_drawn.nd rfl rfl rfl (by decide) (by decide) (by decide) rfl rfl rfl (pa_cons (pg_call (ok__law_lift T) (hr.mono (by decide)) hG rfl T.g__law_lift T.F__law_lift.kp (i__law_lift T.F__law_lift) pass0 (pa_cons (pv 0) (pa_cons pe_int pa_nil))) (pa_cons (pe_op op_sub (pg_call (ok__law_lift T) (hr.mono (by decide)) hG rfl T.g__law_lift T.F__law_lift.kp (i__law_lift T.F__law_lift) pass0 (pa_cons (pv 0) (pa_cons pe_int pa_nil))) pe_int) (pa_cons (pe_op op_sub (pg_call (ok__law_lift T) (hr.mono (by decide)) hG rfl T.g__law_lift T.F__law_lift.kp (i__law_lift T.F__law_lift) pass0 (pa_cons (pv 0) (pa_cons pe_int pa_nil))) pe_int) pa_nil))) (by rfl))
      (pss_cons (ps_if (pt_cmpR (eqK hr) (pv 1) pe_int (by rfl)) (pss_one (ps_ret (pe_tup (pa_cons (pg_call (ok__law_pick T) (hr.mono (by decide)) hG rfl T.g__law_pick T.F__law_pick.kp (i__law_pick T.F__law_pick) pass0 (pa_cons (pv 0) (pa_cons (pe_lst (pa_cons (pv 2) (pa_cons pe_int (pa_cons (pe_op op_pow pe_int pe_int) (pa_cons (pe_un un_neg (pe_op op_pow pe_int pe_int)) pa_nil))))) pa_nil))) (pa_cons pe_bl (pa_cons pe_bl pa_nil)))))) pss_nil)
      (pss_cons (ps_if (pt_cmpR (eqK hr) (pv 1) pe_int (by rfl)) (pss_one (ps_ret (pe_tup (pa_cons (pg_call (ok__law_pick T) (hr.mono (by decide)) hG rfl T.g__law_pick T.F__law_pick.kp (i__law_pick T.F__law_pick) pass0 (pa_cons (pv 0) (pa_cons (pe_lst (pa_cons pe_bl (pa_cons pe_bl (pa_cons pe_non (pa_cons pe_str (pa_cons pe_str (pa_cons pe_str (pa_cons pe_dnewK (pa_cons (pe_cmpR (eqK hr) (pe_op op_pow pe_int pe_int) pe_int (by rfl)) (pa_cons (pe_lst pa_nil) (pa_cons (pe_tup pa_nil) (pa_cons (pe_tup (pa_cons pe_int pa_nil)) (pa_cons (pe_lst (pa_cons pe_int (pa_cons pe_int (pa_cons pe_int pa_nil)))) pa_nil))))))))))))) pa_nil))) (pa_cons pe_bl (pa_cons pe_bl pa_nil)))))) pss_nil)
      (pss_cons (ps_if (pt_cmpR (eqK hr) (pv 1) pe_int (by rfl)) (pss_one (ps_ret (pe_tup (pa_cons (pg_call (ok__law_pick T) (hr.mono (by decide)) hG rfl T.g__law_pick T.F__law_pick.kp (i__law_pick T.F__law_pick) pass0 (pa_cons (pv 0) (pa_cons (pe_lst (pa_cons (pe_tup (pa_cons pe_bl (pa_cons pe_int pa_nil))) (pa_cons (pe_tup (pa_cons pe_int (pa_cons pe_bl pa_nil))) (pa_cons (pe_tup (pa_cons pe_int (pa_cons pe_str pa_nil))) (pa_cons (pe_tup (pa_cons pe_non (pa_cons pe_int pa_nil))) (pa_cons (pe_tup (pa_cons (pe_tup (pa_cons pe_int (pa_cons pe_int pa_nil))) (pa_cons pe_int pa_nil))) (pa_cons (pe_tup (pa_cons pe_int (pa_cons (pe_tup (pa_cons pe_int (pa_cons pe_int pa_nil))) pa_nil))) (pa_cons (pe_lst (pa_cons pe_int (pa_cons pe_int (pa_cons pe_int pa_nil)))) (pa_cons (pe_tup (pa_cons pe_int (pa_cons pe_non pa_nil))) pa_nil))))))))) pa_nil))) (pa_cons pe_bl (pa_cons pe_bl pa_nil)))))) pss_nil)
      (pss_cons (ps_if (pt_cmpR (eqK hr) (pv 1) pe_int (by rfl)) (pss_cons (ps_set (i := 4) sc__law_drawn.nd rfl (Or.inl rfl) (pe_op op_add pe_int (pg_call (ok__law_lift T) (hr.mono (by decide)) hG rfl T.g__law_lift T.F__law_lift.kp (i__law_lift T.F__law_lift) pass0 (pa_cons (pv 0) (pa_cons pe_int pa_nil)))))
      (pss_one (ps_ret (pe_tup (pa_cons (pe_tup (pa_cons (pe_op op_mul (pv 2) (pv 4)) (pa_cons (pe_op op_mul (pe_op op_add (pe_callB call_abs rfl T.b_abs (by decide +kernel) (pa_cons (pv 3) pa_nil)) pe_int) (pv 4)) pa_nil))) (pa_cons pe_bl (pa_cons pe_bl pa_nil))))))) pss_nil)
      (pss_cons (ps_set (i := 5) sc__law_drawn.nd rfl (Or.inl rfl) (pe_ifExp (pt_cmpR op_lt (pv 1) pe_int (by rfl)) (pe_lst (pa_cons (pv 2) (pa_cons (pv 3) pa_nil))) (pe_tup (pa_cons (pv 2) (pa_cons (pv 3) pa_nil)))))
      (pss_one (ps_ret (pe_tup (pa_cons (pv 5) (pa_cons pe_bl (pa_cons (pg_call (ok__law_is_pair T) (hr.mono (by decide)) hG rfl T.g__law_is_pair T.F__law_is_pair.kp (i__law_is_pair T.F__law_is_pair) pass0 (pa_cons (pv 2) (pa_cons (pv 3) pa_nil))) pa_nil)))))))))))), fun p fu ds Pd hc hl hR => ?_⟩
  obtain ⟨rfl, q⟩ : ds = [] ∧ _ := hR
  repeat k_offL
  refine ⟨fu, rfl, by omega, rfl, 8, rfl, by decide, by decide, fun w w0 w1 => ?_⟩
  repeat k_offL
  refine ⟨_, rfl, by omega, rfl, 61, rfl, by decide, by decide, fun a0 a1 a2 => ?_⟩
  repeat k_offL
  refine ⟨_, rfl, by omega, rfl, 26, rfl, by decide, by decide, fun b0 b1 b2 => ?_⟩
  repeat k_offL
  refine ⟨_, _, _, rfl, of_decide_eq_true rfl, of_decide_eq_true rfl, of_decide_eq_true rfl, ?_⟩
  generalize ea : a0 - 30 = a
  generalize eb : b0 - 3 = b
  have la : a.natAbs < 2 ^ 200 := Nat.lt_of_lt_of_le (by omega : a.natAbs < 2 ^ 10) (by decide)
  have lb : b.natAbs < 2 ^ 200 := Nat.lt_of_lt_of_le (by omega : b.natAbs < 2 ^ 10) (by decide)
  have big : Shw (.int (10 ^ (40 : Int).toNat)) := shw (h2 := by decide +kernel)
  have big2 : Shw (.int (-10 ^ (40 : Int).toNat)) := shw (h2 := by decide +kernel)
  have shA : Shw (.int a) := shw (h2 := log_lt la)
  repeat k_offL
  refine ⟨shapedInt, shapedInt, _, rfl, fun z => ?_, fun z => ?_⟩
  · repeat k_offL
    refine dI_mk ⟨by decide, by decide, by decide⟩ ?_
    repeat k_offL
    refine dI_mk ⟨by decide, by decide, by decide⟩ ?_
    repeat k_offL
    refine ⟨_, rfl, ?_⟩
    repeat k_offL
    refine ⟨_, rfl, by omega, rfl, _, .inl rfl, of_decide_eq_true rfl, of_decide_eq_true rfl, fun d hd => ?_⟩
    have g : isInteger d = true ∧ isNumber d = true ∧ goodV d := by
      simp only [List.mem_cons, List.not_mem_nil, or_false] at hd
      rcases hd with rfl | rfl | rfl | rfl
      · exact ⟨rfl, rfl, shA, Nat.zero_le _⟩
      · exact ⟨rfl, rfl, shw, Nat.zero_le _⟩
      · exact ⟨rfl, rfl, big, Nat.zero_le _⟩
      · exact ⟨rfl, rfl, big2, Nat.zero_le _⟩
    have qd := q d g.2.2
    rw [g.1, g.2.1] at qd
    repeat k_offL
    exact ⟨qd, Or.inl ⟨_, rfl, by omega⟩⟩
  have odd : ∀ d, isNumber d = false → isInteger d = false → goodV d → Pd (.tuple [d, .bool false, .bool false]) := fun d h1 h2 h3 => by
    have := q d h3
    rwa [h1, h2] at this
  repeat k_offL
  refine ⟨shapedInt, shapedInt, _, rfl, fun z => ?_, fun z => ?_⟩
  · repeat k_offL
    refine dI_mk ⟨by decide, by decide, by decide⟩ ?_
    repeat k_offL
    refine ⟨shapedInt, shapedInt, ?_⟩
    repeat k_offL
    refine ⟨_, rfl, by omega, rfl, _, .inl rfl, of_decide_eq_true rfl, of_decide_eq_true rfl, fun d hd => ?_⟩
    have g : isNumber d = false ∧ isInteger d = false ∧ goodV d := by
      simp only [List.mem_cons, List.not_mem_nil, or_false] at hd
      rcases hd with rfl | rfl | rfl | rfl | rfl | rfl | rfl | rfl | rfl | rfl | rfl | rfl
      all_goals first | exact ⟨rfl, rfl, shw, of_decide_eq_true rfl⟩ | exact ⟨rfl, rfl, shw_dict, Nat.zero_le _⟩ | exact ⟨rfl, rfl, shw (h1 := by decide +kernel) (h4 := by decide +kernel), of_decide_eq_true rfl⟩
    have qd := odd d g.1 g.2.1 g.2.2
    repeat k_offL
    exact ⟨qd, Or.inl ⟨_, rfl, by omega⟩⟩
  repeat k_offL
  refine ⟨shapedInt, shapedInt, _, rfl, fun z => ?_, fun z => ?_⟩
  · repeat k_offL
    refine ⟨_, rfl, by omega, rfl, _, .inl rfl, of_decide_eq_true rfl, of_decide_eq_true rfl, fun d hd => ?_⟩
    have g : isNumber d = false ∧ isInteger d = false ∧ goodV d := by
      simp only [List.mem_cons, List.not_mem_nil, or_false] at hd
      rcases hd with rfl | rfl | rfl | rfl | rfl | rfl | rfl | rfl
      all_goals first | exact ⟨rfl, rfl, shw, of_decide_eq_true rfl⟩ | exact ⟨rfl, rfl, shw (h1 := by decide +kernel) (h4 := by decide +kernel), of_decide_eq_true rfl⟩
    have qd := odd d g.1 g.2.1 g.2.2
    repeat k_offL
    exact ⟨qd, Or.inl ⟨_, rfl, by omega⟩⟩
  repeat k_offL
  refine ⟨shapedInt, shapedInt, _, rfl, fun z => ?_, fun z => ?_⟩
  · repeat k_offL
    refine ⟨_, rfl, by omega, rfl, 9, rfl, by decide, by decide, fun t0 t1 t2 => ?_⟩
    repeat k_offL
    generalize et : (2 : Int) + t0 = t
    have lt : t.natAbs < 2 ^ 200 := Nat.lt_of_lt_of_le (by omega : t.natAbs < 2 ^ 10) (by decide)
    refine dI_mk (.inl ⟨by omega, by omega⟩) ?_
    repeat k_offL
    refine dAbs_mk ?_
    repeat k_offL
    refine dI_mk (.inl ⟨by omega, by omega⟩) ?_
    repeat k_offL
    have n1 : ∀ x y : Int, x.natAbs < 2 ^ 10 → y.natAbs < 2 ^ 10 → (x * y).natAbs < 2 ^ 200 := fun x y hx hy => by
      rw [Int.natAbs_mul]
      exact Nat.lt_of_lt_of_le (Nat.mul_lt_mul'' hx hy) (by decide)
    have k1 := n1 a t (by omega) (by omega)
    have k2 := n1 ((b.natAbs : Int) + 1) t (by omega) (by omega)
    refine ⟨odd _ (not_pair (by omega)) rfl ⟨shw (h2 := ?_), of_decide_eq_true rfl⟩, Or.inl ⟨_, rfl, by omega⟩⟩
    show (PyData.showable (.int _) && (PyData.showable (.int _) && true)) = true
    rw [show PyData.showable (.int (a * t)) = true from log_lt k1, show PyData.showable (.int (((b.natAbs : Int) + 1) * t)) = true from log_lt k2]
    rfl
  have shP : (PyData.showable (.int a) && (PyData.showable (.int b) && true)) = true := by
    rw [show PyData.showable (.int a) = true from log_lt la, show PyData.showable (.int b) = true from log_lt lb]
    rfl
  repeat k_offL
  refine ⟨_, rfl, fun y => ?_, fun y => ?_⟩
  · repeat k_offL
    refine ⟨a, b, rfl, by omega, ?_⟩
    repeat k_offL
    have := q (.list [.int a, .int b]) ⟨shw (h2 := shP), of_decide_eq_true rfl⟩
    rw [show isNumber (.list [.int a, .int b]) = isPair a b from isNumber_pair a b] at this
    exact ⟨this, Or.inl ⟨_, rfl, by omega⟩⟩
  · repeat k_offL
    refine ⟨a, b, rfl, by omega, ?_⟩
    repeat k_offL
    have := q (.tuple [.int a, .int b]) ⟨shw (h2 := shP), of_decide_eq_true rfl⟩
    rw [show isNumber (.tuple [.int a, .int b]) = isPair a b from isNumber_pair a b] at this
    exact ⟨this, Or.inl ⟨_, rfl, by omega⟩⟩
def r__law_within_right : List D → (D → Prop) → Prop := fun xs P => ∃ d, xs = [d, .bool (isInteger d)] ∧ P (.bool true)
theorem low_ok {K : PySem.W.Frag} {δ : List DV} {P : D → List DV → Prop} {iv il : Nat} {i : Int} {l : D} (hv : δ[iv]? = some (.dat (.int i))) (hl : δ[il]? = some (.dat l)) (hb : bnd l) (p : P (.bool (notLess i l)) δ) :
    DL.Rd (tOrT K (tOp (fun x y H Q => y = V.non ∧ Q (.bl (decide (x = V.non))) H) (tVar il) (tC V.non)) (tOp (rI0 fun i j => V.bl (decide (j ≤ i))) (tVar iv) (tVar il))) δ P := by
  refine rd_orT (rd_op od_isN (rd_var hl (rd_non ⟨rfl, trivial, fun y => ?_, fun y => ?_⟩)))
  · cases l <;> first | exact p | (cases y; done)
  · cases l <;> first | exact hb.elim | (cases y; done) | exact rd_op od_B0 (rd_var hv (rd_var hl p))
theorem high_ok {K : PySem.W.Frag} {δ : List DV} {P : D → List DV → Prop} {iv il : Nat} {i : Int} {l : D} (hv : δ[iv]? = some (.dat (.int i))) (hl : δ[il]? = some (.dat l)) (hb : bnd l) (p : P (.bool (notMore i l)) δ) :
    DL.Rd (tOrT K (tOp (fun x y H Q => y = V.non ∧ Q (.bl (decide (x = V.non))) H) (tVar il) (tC V.non)) (tOp (rI0 fun i j => V.bl (decide (i ≤ j))) (tVar iv) (tVar il))) δ P := by
  refine rd_orT (rd_op od_isN (rd_var hl (rd_non ⟨rfl, trivial, fun y => ?_, fun y => ?_⟩)))
  · cases l <;> first | exact p | (cases y; done)
  · cases l <;> first | exact hb.elim | (cases y; done) | exact rd_op od_B0 (rd_var hv (rd_var hl p))
theorem bnd_of {x : Int} {d : D} (h : d ∈ [PyData.none, PyData.int x]) : bnd d := by
  simp only [List.mem_cons, List.not_mem_nil, or_false] at h
  rcases h with rfl | rfl <;> trivial
theorem ok__law_within_right (T : Txt K mg ad fd) : FnG P w K mg base CX0 3 (ad 11) (fd 11) ["tray", "value", "is_whole"] (SpT 2 4 r__law_within_right) := by
  refine fnT T.F__law_within_right sc__law_within_right rfl fun cdv A outer s H E hr hG => ⟨_, (pss_cons (ps_par (i := 3) (j := 4) rfl sc__law_within_right.nd rfl rfl (by decide) rfl rfl (pa_cons (pg_call (ok__law_pick T) (hr.mono (by decide)) hG rfl T.g__law_pick T.F__law_pick.kp (i__law_pick T.F__law_pick) pass0 (pa_cons (pv 0) (pa_cons (pe_lst (pa_cons pe_non (pa_cons (pe_op op_sub (pg_call (ok__law_lift T) (hr.mono (by decide)) hG rfl T.g__law_lift T.F__law_lift.kp (i__law_lift T.F__law_lift) pass0 (pa_cons (pv 0) (pa_cons pe_int pa_nil))) pe_int) pa_nil))) pa_nil))) (pa_cons (pg_call (ok__law_pick T) (hr.mono (by decide)) hG rfl T.g__law_pick T.F__law_pick.kp (i__law_pick T.F__law_pick) pass0 (pa_cons (pv 0) (pa_cons (pe_lst (pa_cons pe_non (pa_cons (pe_op op_sub (pg_call (ok__law_lift T) (hr.mono (by decide)) hG rfl T.g__law_lift T.F__law_lift.kp (i__law_lift T.F__law_lift) pass0 (pa_cons (pv 0) (pa_cons pe_int pa_nil))) pe_int) pa_nil))) pa_nil))) pa_nil)) (by rfl))
      (pss_cons (ps_set (i := 5) sc__law_within_right.nd rfl (Or.inl rfl) (andK (pv 2) (andK (orK (pe_cmpR op_isN (pv 3) pe_non (by rfl)) (pe_one (pe_cmpR op_ge (pv 1) (pv 3) (by rfl)))) (pe_one (orK (pe_cmpR op_isN (pv 4) pe_non (by rfl)) (pe_one (pe_cmpR op_le (pv 1) (pv 4) (by rfl))))))))
      (pss_one (ps_ret (pe_cmpR op_eq (pe_callB (call_repr hr hG) rfl T.b_repr (by decide +kernel) (pa_cons (pe_lst (pa_cons (pg_call (ok_is_within T) (hr.mono (by decide)) hG rfl T.g_is_within T.F_is_within.kp (i_is_within T.F_is_within) pass0 (pa_cons (pv 1) (pa_cons (pv 3) (pa_cons (pv 4) pa_nil)))) (pa_cons (pg_callK0 (ok_is_within T) (hr.mono (by decide)) hG rfl T.g_is_within T.F_is_within.kp (i_is_within_0_most_value_least T.F_is_within) pass0 (pk_cons (pv 4) (pk_cons (pv 1) (pk_cons (pv 3) pk_nil)))) pa_nil))) pa_nil)) (pe_callB (call_repr hr hG) rfl T.b_repr (by decide +kernel) (pa_cons (pe_lst (pa_cons (pv 5) (pa_cons (pv 5) pa_nil))) pa_nil)) (by rfl)))))), fun p fu ds Pd hc hl hR => ?_⟩
  obtain ⟨d, rfl, q⟩ := hR
  repeat k_offL
  refine ⟨_, rfl, by omega, rfl, 40, rfl, by decide, by decide, fun a a1 a2 => ?_⟩
  repeat k_offL
  refine ⟨_, rfl, by omega, rfl, _, .inl rfl, of_decide_eq_true rfl, of_decide_eq_true rfl, fun l hl => ?_⟩
  have bl := bnd_of hl
  clear hl
  repeat k_offL
  refine ⟨_, rfl, by omega, rfl, 40, rfl, by decide, by decide, fun b b1 b2 => ?_⟩
  repeat k_offL
  refine ⟨_, rfl, by omega, rfl, _, .inl rfl, of_decide_eq_true rfl, of_decide_eq_true rfl, fun m hm => ?_⟩
  have bm := bnd_of hm
  clear hm
  repeat k_offL
  refine ⟨_, _, rfl, of_decide_eq_true rfl, of_decide_eq_true rfl, ?_⟩
  repeat k_offL
  have fin : ∀ δ : List DV, δ[0]? = some (.tray false p (fu - 4)) → δ[1]? = some (.dat d) → δ[3]? = some (.dat l) → δ[4]? = some (.dat m) → δ[5]? = some (.dat (.bool (within d l m))) →
      DL.Rd (tOp rEq (tCB rRepr (tCons (tLst (tCons (tGo 3 0 [0, 1, 2] (SpD 3 r_is_within) E0 (tCons (tVar 1) (tCons (tVar 3) (tCons (tVar 4) tNil))) tNil) (tCons (tGo 0 3 [1, 2, 0] (SpD 3 r_is_within) E0 tNil (tCons (tVar 4) (tCons (tVar 1) (tCons (tVar 3) tNil)))) tNil))) tNil))
        (tCB rRepr (tCons (tLst (tCons (tVar 5) (tCons (tVar 5) tNil))) tNil))) δ fun x δ' => Pd x ∧ TrayEnd δ' p (fu - 4) := fun δ e0 e1 e3 e4 e5 => by
    refine rd_op od_eqS (rd_cb cd_repr (ra_cons (rd_lst (ra_cons (rd_go (ra_cons (rd_var e1 (ra_cons (rd_var e3 (ra_cons (rd_var e4 (ra_nil (ra_nil ?_))))))))))))) 
    refine ⟨rfl, rfl, rfl, d, l, m, rfl, bl, bm, ra_cons (rd_go (ra_nil (ra_cons (rd_var e4 (ra_cons (rd_var e1 (ra_cons (rd_var e3 (ra_nil ?_))))))))) ⟩
    refine ⟨rfl, rfl, rfl, d, l, m, rfl, bl, bm, ra_nil ⟨of_decide_eq_true rfl, ra_nil (dRepr_mk shw ?_)⟩⟩
    refine rd_cb cd_repr (ra_cons (rd_lst (ra_cons (rd_var e5 (ra_cons (rd_var e5 (ra_nil ⟨of_decide_eq_true rfl, ra_nil (dRepr_mk shw ⟨_, _, rfl, rfl, ?_⟩)⟩)))))))
    rw [decide_eq_true rfl]
    exact ⟨q, Or.inl ⟨_, e0, Nat.le_refl _⟩⟩
  refine ⟨trivial, fun z => ?_, fun z => ?_⟩
  · have z' : isInteger d = true := z
    obtain ⟨i, rfl⟩ := int_of z'
    refine rd_andT ?_
    refine low_ok (by rfl) (by rfl) bl ?_
    refine ⟨trivial, fun y => ?_, fun y => ?_⟩
    · have e : within (.int i) l m = notMore i m := by
        show (notLess i l && notMore i m) = _
        rw [show notLess i l = true from y, Bool.true_and]
      refine high_ok (by rfl) (by rfl) bm ?_
      rw [← e]
      refine ⟨of_decide_eq_true rfl, ?_⟩
      refine rs_ret ?_
      exact fin _ (by rfl) (by rfl) (by rfl) (by rfl) (by rfl)
    · have e : within (.int i) l m = notLess i l := by
        show (notLess i l && notMore i m) = _
        rw [show notLess i l = false from y, Bool.false_and]
      rw [← e]
      refine ⟨of_decide_eq_true rfl, ?_⟩
      refine rs_ret ?_
      exact fin _ (by rfl) (by rfl) (by rfl) (by rfl) (by rfl)
  · have z' : isInteger d = false := z
    have e : isInteger d = within d l m := by rw [z', within_no z']
    rw [e]
    refine ⟨of_decide_eq_true rfl, ?_⟩
    refine rs_ret ?_
    exact fin _ (by rfl) (by rfl) (by rfl) (by rfl) (by rfl)
def r__law_row_right : List D → (D → Prop) → Prop := fun xs P => xs = [] ∧ P (.bool true)
theorem isFrom0_no {v : D} (h : isNumber v = false) : isFrom0 v = false := by
  cases v <;> first | rfl | (cases h; done) | skip
  · show (isNumber _ && _) = false
    rw [h, Bool.false_and]
  · show (isNumber _ && _) = false
    rw [h, Bool.false_and]
theorem isFrom0_pair {v : D} {a b : Int} (h : isNumber v = true) (e : v = .list [.int a, .int b] ∨ v = .tuple [.int a, .int b]) : isFrom0 v = decide (0 ≤ a) := by
  rcases e with rfl | rfl
  · show (isNumber _ && decide (0 ≤ a)) = _
    rw [h, Bool.true_and]
  · show (isNumber _ && decide (0 ≤ a)) = _
    rw [h, Bool.true_and]
/-- is_right and is_told and (value if is_whole else value[0]) >= 0 -/
theorem right_ok {K : PySem.W.Frag} {δ : List DV} {P : D → List DV → Prop} {v : D} {r : Bool} (h2 : δ[2]? = some (.dat (.bool r))) (h4 : δ[4]? = some (.dat v)) (h5 : δ[5]? = some (.dat (.bool (isInteger v)))) (h6 : δ[6]? = some (.dat (.bool (isNumber v))))
    (p : P (.bool (r && isFrom0 v)) δ) : DL.Rd (tAndT K (tVar 2) (tAndT K (tVar 6) (tOp (rI0 fun i j => V.bl (decide (j ≤ i))) (tIf (fun σ H Q => tVar 5 σ H fun x H' => ∃ k, TruV K x H' k ∧ Q k H') (tVar 4) (tOp (rIx K) (tVar 4) (tC (V.int 0)))) (tC (V.int 0))))) δ P := by
  refine rd_andT (rd_var h2 ⟨trivial, fun z => ?_, fun z => ?_⟩)
  · have z' : r = true := z
    rw [z', Bool.true_and] at p
    refine rd_andT (rd_var h6 ⟨trivial, fun y => ?_, fun y => ?_⟩)
    · have y' : isNumber v = true := y
      refine rd_op od_B0 (rd_if (rt_tru (rd_var h5 ⟨trivial, fun w => ?_, fun w => ?_⟩)))
      · obtain ⟨i, rfl⟩ := int_of w
        exact rd_var h4 (rd_int (dI0_mk p))
      · obtain ⟨a, b, e, _⟩ := isNumber_inv w y'
        rw [isFrom0_pair y' e] at p
        exact rd_op od_ix (rd_var h4 (rd_int ⟨_, 0, .int a, e, rfl, rfl, rd_int (dI0_mk p)⟩))
    · have y' : isNumber v = false := y
      rw [isFrom0_no y'] at p
      rw [y']
      exact p
  · have z' : r = false := z
    rw [z', Bool.false_and] at p
    rw [z']
    exact p
theorem all_snoc (vs : List D) (v : D) : (vs ++ [v]).all isFrom0 = (vs.all isFrom0 && isFrom0 v) := by
  rw [List.all_append, List.all_cons, List.all_nil, Bool.and_true]
theorem ok__law_row_right (T : Txt K mg ad fd) : FnG P w K mg base CX0 6 (ad 12) (fd 12) ["tray"] (SpT 0 40 r__law_row_right) := by
  refine fnT T.F__law_row_right sc__law_row_right rfl fun cdv A outer s H E hr hG => ⟨_, (pss_cons (ps_par (i := 1) (j := 2) rfl sc__law_row_right.nd rfl rfl (by decide) rfl rfl (pa_cons (pe_lst pa_nil) (pa_cons pe_bl pa_nil)) (by rfl))
      (pss_cons (ps_for PassesOwn.never rfl (pi_range1 rfl T.b_range (pa_cons (pg_call (ok__law_lift T) (hr.mono (by decide)) hG rfl T.g__law_lift T.F__law_lift.kp (i__law_lift T.F__law_lift) pass0 (pa_cons (pv 0) (pa_cons pe_int pa_nil))) pa_nil)) (pg_name (i := 3) sc__law_row_right.nd rfl (Or.inl rfl)) (pss_cons (ps_asg (pg_call (ok__law_drawn T) (hr.mono (by decide)) hG rfl T.g__law_drawn T.F__law_drawn.kp (i__law_drawn T.F__law_drawn) pass0 (pa_cons (pv 0) pa_nil)) (gtK (n := 3) rfl (pgs_cons (pg_name (i := 4) sc__law_row_right.nd rfl (Or.inl rfl)) (pgs_cons (pg_name (i := 5) sc__law_row_right.nd rfl (Or.inl rfl)) (pgs_cons (pg_name (i := 6) sc__law_row_right.nd rfl (Or.inl rfl)) pgs_nil)))))
      (pss_cons (ps_if (pt_cmpR op_gt (pg_call (ok__law_lift T) (hr.mono (by decide)) hG rfl T.g__law_lift T.F__law_lift.kp (i__law_lift T.F__law_lift) pass0 (pa_cons (pv 0) (pa_cons pe_int pa_nil))) pe_int (by rfl)) (pss_one (ps_asg (pg_call (ok__law_pick T) (hr.mono (by decide)) hG rfl T.g__law_pick T.F__law_pick.kp (i__law_pick T.F__law_pick) pass0 (pa_cons (pv 0) (pa_cons (pe_lst (pa_cons (pe_tup (pa_cons (pg_call (ok__law_lift T) (hr.mono (by decide)) hG rfl T.g__law_lift T.F__law_lift.kp (i__law_lift T.F__law_lift) pass0 (pa_cons (pv 0) (pa_cons pe_int pa_nil))) (pa_cons pe_bl (pa_cons pe_bl pa_nil)))) (pa_cons (pe_tup (pa_cons (pe_tup (pa_cons pe_int (pa_cons pe_int pa_nil))) (pa_cons pe_bl (pa_cons pe_bl pa_nil)))) (pa_cons (pe_tup (pa_cons (pe_lst (pa_cons pe_int (pa_cons pe_int pa_nil))) (pa_cons pe_bl (pa_cons pe_bl pa_nil)))) pa_nil)))) pa_nil))) (gtK (n := 3) rfl (pgs_cons (pg_name (i := 4) sc__law_row_right.nd rfl (Or.inl rfl)) (pgs_cons (pg_name (i := 5) sc__law_row_right.nd rfl (Or.inl rfl)) (pgs_cons (pg_name (i := 6) sc__law_row_right.nd rfl (Or.inl rfl)) pgs_nil)))))) pss_nil)
      (pss_cons (ps_expr (pe_bm PySem.F.plainAttrs_list PySem.F.slot_list_append PySem.F.type_list_append mt_append (pv 1) (pa_cons (pv 4) pa_nil)))
      (pss_one (ps_set (i := 2) sc__law_row_right.nd rfl (Or.inl rfl) (andK (pv 2) (andK (pv 6) (pe_one (pe_cmpR op_ge (pe_ifExp (truK (pv 5)) (pv 4) (pe_ix ixK (pv 4) pe_int (fun _ _ => rfl))) pe_int (by rfl)))))))))))
      (pss_cons (ps_par (i := 7) (j := 8) rfl sc__law_row_right.nd rfl rfl (by decide) rfl rfl (pa_cons (pg_call (ok__law_pick T) (hr.mono (by decide)) hG rfl T.g__law_pick T.F__law_pick.kp (i__law_pick T.F__law_pick) pass0 (pa_cons (pv 0) (pa_cons (pe_lst (pa_cons (pe_callB lenK rfl T.b_len (by decide +kernel) (pa_cons (pv 1) pa_nil)) (pa_cons (pe_callB lenK rfl T.b_len (by decide +kernel) (pa_cons (pv 1) pa_nil)) (pa_cons (pe_op op_add (pe_callB lenK rfl T.b_len (by decide +kernel) (pa_cons (pv 1) pa_nil)) pe_int) (pa_cons pe_int pa_nil))))) pa_nil))) (pa_cons (pg_call (ok__law_pick T) (hr.mono (by decide)) hG rfl T.g__law_pick T.F__law_pick.kp (i__law_pick T.F__law_pick) pass0 (pa_cons (pv 0) (pa_cons (pe_lst (pa_cons (pv 1) (pa_cons (pe_callTy tupK rfl T.b_tuple (by decide +kernel) (pa_cons (pv 1) pa_nil)) pa_nil))) pa_nil))) pa_nil)) (by rfl))
      (pss_cons (ps_set (i := 9) sc__law_row_right.nd rfl (Or.inl rfl) (andK (pv 2) (pe_one (pe_cmpR (eqK hr) (pv 7) (pe_callB lenK rfl T.b_len (by decide +kernel) (pa_cons (pv 1) pa_nil)) (by rfl)))))
      (pss_cons (ps_set (i := 10) sc__law_row_right.nd rfl (Or.inl rfl) (pg_call (ok__law_pick T) (hr.mono (by decide)) hG rfl T.g__law_pick T.F__law_pick.kp (i__law_pick T.F__law_pick) pass0 (pa_cons (pv 0) (pa_cons (pe_lst (pa_cons pe_non (pa_cons pe_int (pa_cons pe_str (pa_cons (pe_disp (pps_cons pe_int pe_int pps_nil) rfl rfl (by intro z; cases z) (by decide)) (pa_cons pe_bl pa_nil)))))) pa_nil))))
      (pss_one (ps_ret (pe_cmpR op_eq (pe_callB (call_repr hr hG) rfl T.b_repr (by decide +kernel) (pa_cons (pe_lst (pa_cons (pg_call (ok_is_row T) (hr.mono (by decide)) hG rfl T.g_is_row T.F_is_row.kp (i_is_row T.F_is_row) pass0 (pa_cons (pv 8) (pa_cons (pv 7) pa_nil))) (pa_cons (pg_callK0 (ok_is_row T) (hr.mono (by decide)) hG rfl T.g_is_row T.F_is_row.kp (i_is_row_0_many_value T.F_is_row) pass0 (pk_cons (pv 7) (pk_cons (pv 8) pk_nil))) (pa_cons (pg_call (ok_is_row T) (hr.mono (by decide)) hG rfl T.g_is_row T.F_is_row.kp (i_is_row T.F_is_row) pass0 (pa_cons (pv 10) (pa_cons (pe_callB lenK rfl T.b_len (by decide +kernel) (pa_cons (pv 1) pa_nil)) pa_nil))) pa_nil)))) pa_nil)) (pe_callB (call_repr hr hG) rfl T.b_repr (by decide +kernel) (pa_cons (pe_lst (pa_cons (pv 9) (pa_cons (pv 9) (pa_cons pe_bl pa_nil)))) pa_nil)) (by rfl))))))))), fun p fu ds Pd hc hl hR => ?_⟩
  obtain ⟨rfl, q⟩ : ds = [] ∧ _ := hR
  refine rs_seq ?_
  refine rs_parNew (by decide) ?_
  refine rd_bl ⟨of_decide_eq_true rfl, of_decide_eq_true rfl, fun pr => ?_⟩
  refine rs_seq ?_
  refine rs_for gd_name (ri_rng1 ?_)
  repeat k_offL
  refine ⟨fu, rfl, by omega, rfl, 5, rfl, by decide, by decide, fun n n0 n1 => ?_⟩
  repeat k_offL
  refine ⟨n, rfl, by omega, by omega, fun j δ => ∃ (f : Nat) (vs : List D) (x3 x4 x5 x6 : DV), δ = [.tray false p f, .ls true pr vs, .dat (.bool (vs.all isFrom0)), x3, x4, x5, x6, .un, .un, .un, .un] ∧ fu ≤ f + 1 + 7 * j ∧ vs.length = j ∧ j ≤ 4, ?_, ?_, ?_⟩
  · exact ⟨fu - 1, [], .un, .un, .un, .un, rfl, by omega, rfl, by decide⟩
  · rintro j d δ hd ⟨f, vs, x3, x4, x5, x6, rfl, hf, hv, hj⟩
    have hj4 : j < 4 := by
      have := (List.getElem?_eq_some_iff.mp hd).1
      rw [rngD_len] at this
      omega
    refine ⟨of_decide_eq_true rfl, ?_⟩
    repeat k_offL
    refine rs_asgG (gd_tup (gd_cons gd_name (gd_cons gd_name (gd_cons gd_name gd_nil)))) ?_
    repeat k_offL
    refine ⟨f, rfl, by omega, rfl, rfl, fun v gv => ?_⟩
    refine ⟨_, rfl, rfl, _, _, rfl, of_decide_eq_true rfl, _, _, rfl, of_decide_eq_true rfl, _, _, rfl, of_decide_eq_true rfl, rfl, ?_⟩
    repeat k_offL
    refine ⟨_, rfl, by omega, rfl, 3, rfl, by decide, by decide, fun w w0 w1 => ?_⟩
    repeat k_offL
    refine ⟨_, rfl, fun z => ?_, fun z => ?_⟩
    focus
      refine rs_asgG (gd_tup (gd_cons gd_name (gd_cons gd_name (gd_cons gd_name gd_nil)))) ?_
      repeat k_offL
      refine ⟨_, rfl, by omega, rfl, 9, rfl, by decide, by decide, fun a a0 a1 => ?_⟩
      repeat k_offL
      refine ⟨_, rfl, by omega, rfl, _, .inl rfl, of_decide_eq_true rfl, of_decide_eq_true rfl, fun t ht => ?_⟩
      obtain ⟨y, rfl⟩ : ∃ y, t = .tuple [y, .bool (isInteger y), .bool (isNumber y)] := by
        simp only [List.mem_cons, List.not_mem_nil, or_false] at ht
        rcases ht with rfl | rfl | rfl <;> exact ⟨_, rfl⟩
      clear ht
      refine ⟨_, rfl, rfl, _, _, rfl, of_decide_eq_true rfl, _, _, rfl, of_decide_eq_true rfl, _, _, rfl, of_decide_eq_true rfl, rfl, ?_⟩
    all_goals
      repeat k_offL
      refine ⟨vs, rfl, by omega, ?_⟩
      refine rs_asg (right_ok (by rfl) (by rfl) (by rfl) (by rfl) ⟨of_decide_eq_true rfl, ?_⟩)
      rw [← all_snoc]
      exact ⟨_, _, _, _, _, _, rfl, by omega, by rw [List.length_append, hv]; rfl, by omega⟩
  rintro δ ⟨f, vs, x3, x4, x5, x6, rfl, hf, hv, hj⟩
  refine rs_freeze (i := 1) rfl ?_
  repeat k_offL
  have lenR : ∀ P : D → Prop, P (.int ((vs.length : Nat) : Int)) → dLen [.list vs] P := fun P h => ⟨_, vs.length, rfl, .inl ⟨vs, .inl rfl, rfl⟩, h⟩
  refine lenR _ ?_
  repeat k_offL
  refine lenR _ ?_
  repeat k_offL
  refine lenR _ ?_
  repeat k_offL
  refine ⟨f, rfl, by omega, rfl, _, .inl rfl, of_decide_eq_true rfl, of_decide_eq_true rfl, fun m hm => ?_⟩
  obtain ⟨k, rfl⟩ : ∃ k : Int, m = .int k := by
    simp only [List.mem_cons, List.not_mem_nil, or_false] at hm
    rcases hm with rfl | rfl | rfl | rfl <;> exact ⟨_, rfl⟩
  clear hm
  repeat k_offL
  refine ⟨vs, .inl rfl, ?_⟩
  repeat k_offL
  refine ⟨_, rfl, by omega, rfl, _, .inl rfl, of_decide_eq_true rfl, of_decide_eq_true rfl, fun g hg => ?_⟩
  have gs : g = .list vs ∨ g = .tuple vs := by
    simp only [List.mem_cons, List.not_mem_nil, or_false] at hg
    exact hg
  have eg : isRow g (.int k) = (decide ((vs.length : Int) = k) && vs.all isFrom0) := by rcases gs with rfl | rfl <;> rfl
  have ig : (itemsOf g).length ≤ 50000 := by rcases gs with rfl | rfl <;> (show vs.length ≤ 50000; omega)
  clear hg
  repeat k_offL
  refine ⟨_, _, rfl, of_decide_eq_true rfl, of_decide_eq_true rfl, ?_⟩
  repeat k_offL
  refine ⟨trivial, fun z => ?_, fun z => ?_⟩
  focus
    have z' : vs.all isFrom0 = true := z
    have e9 : PyData.eqv (.int k) (.int ((vs.length : Nat) : Int)) = isRow g (.int k) := by
      rw [eg, z', Bool.and_true]
      show decide (k = _) = _
      exact decide_eq_decide.mpr eq_comm
    repeat k_offL
    refine lenR _ ?_
    refine ⟨shapedInt, shapedInt, ?_⟩
    rw [e9]
  rotate_left
  focus
    have z' : vs.all isFrom0 = false := z
    have e9 : vs.all isFrom0 = isRow g (.int k) := by rw [eg, z', Bool.and_false]
    rw [e9]
  all_goals
    refine ⟨of_decide_eq_true rfl, ?_⟩
    repeat k_offL
    refine ⟨_, rfl, by omega, rfl, _, .inl rfl, of_decide_eq_true rfl, of_decide_eq_true rfl, fun o ho => ?_⟩
    have eo : (∀ x, isRow o x = false) ∧ (itemsOf o).length ≤ 50000 := by
      simp only [List.mem_cons, List.not_mem_nil, or_false] at ho
      rcases ho with rfl | rfl | rfl | rfl | rfl <;> exact ⟨fun _ => rfl, Nat.zero_le _⟩
    clear ho
    repeat k_offL
    refine ⟨g, .int k, rfl, ig, ?_⟩
    repeat k_offL
    refine ⟨g, .int k, rfl, ig, ?_⟩
    repeat k_offL
    refine lenR _ ?_
    repeat k_offL
    refine ⟨o, _, rfl, eo.2, ?_⟩
    rw [eo.1]
    repeat k_offL
    refine dRepr_mk shw ?_
    repeat k_offL
    refine dRepr_mk shw ⟨_, _, rfl, rfl, ?_⟩
    rw [decide_eq_true rfl]
    exact ⟨q, Or.inl ⟨_, rfl, by omega⟩⟩
def spLaw (K : PySem.W.Frag) : Sp := fun vs H Q _ => ∃ (a : Addr) (ns : List Int), vs = [.ref a] ∧ SqL K H a (ns.map V.int) ∧ ns.length ≤ 63 ∧ ∀ H', Q (.bl true) H'
theorem ok_law (T : Txt K mg ad fd) : FnG P w K mg base CX0 7 (ad 13) (fd 13) ["script"] (spLaw K) := by
  refine fnG_body0 T.F_law sc_law (fun vs H Q E h => ?_) fun cdv A outer s H vs Q E hr hG h => ?_
  · obtain ⟨a, ns, rfl, _⟩ := h
    rfl
  obtain ⟨a, ns, rfl, hS, hlen, q⟩ := h
  refine ⟨_, (pss_cons (ps_set (i := 1) sc_law.nd rfl (Or.inl rfl) (pg_call (ok__law_tray T) (hr.mono (by decide)) hG rfl T.g__law_tray T.F__law_tray.kp (i__law_tray T.F__law_tray) pass0 (pa_cons (pv 0) pa_nil)))
      (pss_cons (ps_for PassesOwn.never rfl (pi_range1 rfl T.b_range (pa_cons pe_int pa_nil)) (pg_name (i := 2) sc_law.nd rfl (Or.inl rfl)) (pss_cons (ps_asg (pg_call (ok__law_drawn T) (hr.mono (by decide)) hG rfl T.g__law_drawn T.F__law_drawn.kp (i__law_drawn T.F__law_drawn) pass0 (pa_cons (pv 1) pa_nil)) (gtK (n := 3) rfl (pgs_cons (pg_name (i := 3) sc_law.nd rfl (Or.inl rfl)) (pgs_cons (pg_name (i := 4) sc_law.nd rfl (Or.inl rfl)) (pgs_cons (pg_name (i := 5) sc_law.nd rfl (Or.inl rfl)) pgs_nil)))))
      (pss_cons (ps_set (i := 6) sc_law.nd rfl (Or.inl rfl) (pe_callB (call_repr hr hG) rfl T.b_repr (by decide +kernel) (pa_cons (pv 3) pa_nil)))
      (pss_cons (ps_if (pt_cmpR op_ne (pe_callB (call_repr hr hG) rfl T.b_repr (by decide +kernel) (pa_cons (pe_lst (pa_cons (pg_call (ok_is_integer T) (hr.mono (by decide)) hG rfl T.g_is_integer T.F_is_integer.kp (i_is_integer T.F_is_integer) pass0 (pa_cons (pv 3) pa_nil)) (pa_cons (pg_callK0 (ok_is_integer T) (hr.mono (by decide)) hG rfl T.g_is_integer T.F_is_integer.kp (i_is_integer_0_value T.F_is_integer) pass0 (pk_cons (pv 3) pk_nil)) (pa_cons (pg_call (ok_is_number T) (hr.mono (by decide)) hG rfl T.g_is_number T.F_is_number.kp (i_is_number T.F_is_number) pass0 (pa_cons (pv 3) pa_nil)) (pa_cons (pg_callK0 (ok_is_number T) (hr.mono (by decide)) hG rfl T.g_is_number T.F_is_number.kp (i_is_number_0_value T.F_is_number) pass0 (pk_cons (pv 3) pk_nil)) pa_nil))))) pa_nil)) (pe_callB (call_repr hr hG) rfl T.b_repr (by decide +kernel) (pa_cons (pe_lst (pa_cons (pv 4) (pa_cons (pv 4) (pa_cons (pv 5) (pa_cons (pv 5) pa_nil))))) pa_nil)) (by rfl)) (pss_one (ps_ret pe_bl)) pss_nil)
      (pss_one (ps_if (PW.pt (pw_or (pt_not (truK (pg_call (ok__law_within_right T) (hr.mono (by decide)) hG rfl T.g__law_within_right T.F__law_within_right.kp (i__law_within_right T.F__law_within_right) pass0 (pa_cons (pv 1) (pa_cons (pv 3) (pa_cons (pv 4) pa_nil)))))) (pw_or (pt_not (truK (pg_call (ok__law_row_right T) (hr.mono (by decide)) hG rfl T.g__law_row_right T.F__law_row_right.kp (i__law_row_right T.F__law_row_right) pass0 (pa_cons (pv 1) pa_nil)))) (pw_or1 (pt_cmpR op_ne (pe_callB (call_repr hr hG) rfl T.b_repr (by decide +kernel) (pa_cons (pv 3) pa_nil)) (pv 6) (by rfl)))))) (pss_one (ps_ret pe_bl)) pss_nil))))))
      (pss_one (ps_ret (andK (pe_cmpR op_isBl (pg_call (ok_is_number T) (hr.mono (by decide)) hG rfl T.g_is_number T.F_is_number.kp (i_is_number T.F_is_number) pass0 (pa_cons (pe_tup (pa_cons pe_int (pa_cons pe_int pa_nil))) pa_nil)) pe_bl (by rfl)) (andK (pe_cmpR op_isBl (pg_call (ok_is_number T) (hr.mono (by decide)) hG rfl T.g_is_number T.F_is_number.kp (i_is_number T.F_is_number) pass0 (pa_cons (pe_tup (pa_cons pe_int (pa_cons pe_int pa_nil))) pa_nil)) pe_bl (by rfl)) (pe_one (pe_cmpR op_isBl (pg_call (ok_is_number T) (hr.mono (by decide)) hG rfl T.g_is_number T.F_is_number.kp (i_is_number T.F_is_number) pass0 (pa_cons (pe_tup (pa_cons (pe_op op_pow pe_int pe_int) (pa_cons pe_int pa_nil))) pa_nil)) pe_bl (by rfl))))))))), ?_⟩
  refine law_start (by decide) hS hlen q fun t => ?_
  refine rs_seq ?_
  refine rs_for gd_name (ri_rng1 ?_)
  repeat k_offL
  refine ⟨8, rfl, by decide, by decide, fun j δ => ∃ (f : Nat) (x2 x3 x4 x5 x6 : DV), δ = [.un, .tray true t f, x2, x3, x4, x5, x6] ∧ 1000000 ≤ f + 50 * j ∧ j ≤ 8, ?_, ?_, ?_⟩
  · exact ⟨1000000, .un, .un, .un, .un, .un, rfl, by omega, by decide⟩
  · rintro j d δ hd ⟨f, x2, x3, x4, x5, x6, rfl, hf, hj⟩
    have hj8 : j < 8 := by
      have := (List.getElem?_eq_some_iff.mp hd).1
      rw [rngD_len] at this
      exact this
    refine ⟨of_decide_eq_true rfl, ?_⟩
    repeat k_offL
    refine rs_asgG (gd_tup (gd_cons gd_name (gd_cons gd_name (gd_cons gd_name gd_nil)))) ?_
    repeat k_offL
    refine ⟨f, rfl, by omega, rfl, rfl, fun v gv => ?_⟩
    refine ⟨_, rfl, rfl, _, _, rfl, of_decide_eq_true rfl, _, _, rfl, of_decide_eq_true rfl, _, _, rfl, of_decide_eq_true rfl, rfl, ?_⟩
    repeat k_offL
    refine dRepr_mk gv.1 ?_
    repeat k_offL
    refine ⟨v, rfl, ?_⟩
    repeat k_offL
    refine ⟨v, rfl, ?_⟩
    repeat k_offL
    refine ⟨v, rfl, ?_⟩
    repeat k_offL
    refine ⟨v, rfl, ?_⟩
    repeat k_offL
    refine dRepr_mk shw ?_
    repeat k_offL
    refine dRepr_mk shw ⟨_, _, rfl, rfl, _, rfl, fun z => ?_, fun z => ?_⟩
    · rw [decide_eq_true rfl] at z
      cases z
    repeat k_offL
    refine ⟨_, rfl, by omega, rfl, v, rfl, trivial, (fun h => by cases h), fun _ => ?_⟩
    repeat k_offL
    refine ⟨_, rfl, by omega, rfl, rfl, trivial, (fun h => by cases h), fun _ => ?_⟩
    repeat k_offL
    refine dRepr_mk gv.1 ?_
    repeat k_offL
    refine ⟨_, _, rfl, rfl, _, rfl, fun z => ?_, fun z => ?_⟩
    · rw [decide_eq_true rfl] at z
      cases z
    repeat k_offL
    exact ⟨_, _, _, _, _, _, rfl, by omega, by omega⟩
  rintro δ ⟨f, x2, x3, x4, x5, x6, rfl, hf, hj⟩
  repeat k_offL
  refine ⟨_, rfl, ?_⟩
  repeat k_offL
  refine ⟨_, _, rfl, rfl, trivial, fun _ => ?_, fun h => absurd h (by decide +kernel)⟩
  repeat k_offL
  refine ⟨_, rfl, ?_⟩
  repeat k_offL
  refine ⟨_, _, rfl, rfl, trivial, fun _ => ?_, fun h => absurd h (by decide +kernel)⟩
  repeat k_offL
  refine dI_mk ⟨by decide, by decide, by decide⟩ ?_
  repeat k_offL
  refine ⟨_, rfl, ?_⟩
  repeat k_offL
  exact ⟨_, _, rfl, rfl, congrArg PyData.bool (by decide +kernel)⟩
end
theorem all_mk {P : Program} {w : World} {K : PySem.W.Frag} {h : Heap} {mg : Str → Option Value} {fa : Addr} (X : K.In h) (G : h.Ns mainGlobals mg) (hfa : mg "law" = some (.ref fa))
    {f0 f1 f2 f3 f4 f5 f6 f7 f8 f9 f10 f11 f12 f13 : Addr} {od0 an0 od1 an1 od2 an2 od3 an3 od4 an4 od5 an5 od6 an6 od7 an7 od8 an8 od9 an9 od10 an10 od11 an11 od12 an12 od13 an13 : Option Addr} {sl0 sl1 sl2 sl3 sl4 sl5 sl6 sl7 sl8 sl9 sl10 sl11 sl12 sl13 : Array (Option Value)}
    {oc0 kV0 dc0 pm0 cd0 ct0 oc1 kV1 dc1 pm1 cd1 ct1 oc2 kV2 dc2 pm2 cd2 ct2 oc3 kV3 dc3 pm3 cd3 ct3 oc4 kV4 dc4 pm4 cd4 ct4 oc5 kV5 dc5 pm5 cd5 ct5 oc6 kV6 dc6 pm6 cd6 ct6 oc7 kV7 dc7 pm7 cd7 ct7 oc8 kV8 dc8 pm8 cd8 ct8 oc9 kV9 dc9 pm9 cd9 ct9 oc10 kV10 dc10 pm10 cd10 ct10 oc11 kV11 dc11 pm11 cd11 ct11 oc12 kV12 dc12 pm12 cd12 ct12 oc13 kV13 dc13 pm13 cd13 ct13 : Value}
    (a0 : PySem.W.nsIn K mainGlobals "is_integer" = some (some (.ref f0))) (l0 : K.lookup f0 = some ⟨oc0, od0, .func (PySem.W.fnOf "is_integer" "is_integer" (defArgs s_is_integer) (defBody s_is_integer) (defScope s_is_integer) .none kV0 dc0 pm0 an0 cd0 ct0), sl0⟩)
    (c0 : PySem.W.codeIn K cd0 "is_integer" = true) (k0 : PySem.W.keepIn K (.ref f0) = true)
    (a1 : PySem.W.nsIn K mainGlobals "is_within" = some (some (.ref f1))) (l1 : K.lookup f1 = some ⟨oc1, od1, .func (PySem.W.fnOf "is_within" "is_within" (defArgs s_is_within) (defBody s_is_within) (defScope s_is_within) .none kV1 dc1 pm1 an1 cd1 ct1), sl1⟩)
    (c1 : PySem.W.codeIn K cd1 "is_within" = true) (k1 : PySem.W.keepIn K (.ref f1) = true)
    (a2 : PySem.W.nsIn K mainGlobals "is_list" = some (some (.ref f2))) (l2 : K.lookup f2 = some ⟨oc2, od2, .func (PySem.W.fnOf "is_list" "is_list" (defArgs s_is_list) (defBody s_is_list) (defScope s_is_list) .none kV2 dc2 pm2 an2 cd2 ct2), sl2⟩)
    (c2 : PySem.W.codeIn K cd2 "is_list" = true) (k2 : PySem.W.keepIn K (.ref f2) = true)
    (a3 : PySem.W.nsIn K mainGlobals "is_number" = some (some (.ref f3))) (l3 : K.lookup f3 = some ⟨oc3, od3, .func (PySem.W.fnOf "is_number" "is_number" (defArgs s_is_number) (defBody s_is_number) (defScope s_is_number) .none kV3 dc3 pm3 an3 cd3 ct3), sl3⟩)
    (c3 : PySem.W.codeIn K cd3 "is_number" = true) (k3 : PySem.W.keepIn K (.ref f3) = true)
    (a4 : PySem.W.nsIn K mainGlobals "is_from_0" = some (some (.ref f4))) (l4 : K.lookup f4 = some ⟨oc4, od4, .func (PySem.W.fnOf "is_from_0" "is_from_0" (defArgs s_is_from_0) (defBody s_is_from_0) (defScope s_is_from_0) .none kV4 dc4 pm4 an4 cd4 ct4), sl4⟩)
    (c4 : PySem.W.codeIn K cd4 "is_from_0" = true) (k4 : PySem.W.keepIn K (.ref f4) = true)
    (a5 : PySem.W.nsIn K mainGlobals "is_row" = some (some (.ref f5))) (l5 : K.lookup f5 = some ⟨oc5, od5, .func (PySem.W.fnOf "is_row" "is_row" (defArgs s_is_row) (defBody s_is_row) (defScope s_is_row) .none kV5 dc5 pm5 an5 cd5 ct5), sl5⟩)
    (c5 : PySem.W.codeIn K cd5 "is_row" = true) (k5 : PySem.W.keepIn K (.ref f5) = true)
    (a6 : PySem.W.nsIn K mainGlobals "_law_tray" = some (some (.ref f6))) (l6 : K.lookup f6 = some ⟨oc6, od6, .func (PySem.W.fnOf "_law_tray" "_law_tray" (defArgs s__law_tray) (defBody s__law_tray) (defScope s__law_tray) .none kV6 dc6 pm6 an6 cd6 ct6), sl6⟩)
    (c6 : PySem.W.codeIn K cd6 "_law_tray" = true) (k6 : PySem.W.keepIn K (.ref f6) = true)
    (a7 : PySem.W.nsIn K mainGlobals "_law_lift" = some (some (.ref f7))) (l7 : K.lookup f7 = some ⟨oc7, od7, .func (PySem.W.fnOf "_law_lift" "_law_lift" (defArgs s__law_lift) (defBody s__law_lift) (defScope s__law_lift) .none kV7 dc7 pm7 an7 cd7 ct7), sl7⟩)
    (c7 : PySem.W.codeIn K cd7 "_law_lift" = true) (k7 : PySem.W.keepIn K (.ref f7) = true)
    (a8 : PySem.W.nsIn K mainGlobals "_law_pick" = some (some (.ref f8))) (l8 : K.lookup f8 = some ⟨oc8, od8, .func (PySem.W.fnOf "_law_pick" "_law_pick" (defArgs s__law_pick) (defBody s__law_pick) (defScope s__law_pick) .none kV8 dc8 pm8 an8 cd8 ct8), sl8⟩)
    (c8 : PySem.W.codeIn K cd8 "_law_pick" = true) (k8 : PySem.W.keepIn K (.ref f8) = true)
    (a9 : PySem.W.nsIn K mainGlobals "_law_is_pair" = some (some (.ref f9))) (l9 : K.lookup f9 = some ⟨oc9, od9, .func (PySem.W.fnOf "_law_is_pair" "_law_is_pair" (defArgs s__law_is_pair) (defBody s__law_is_pair) (defScope s__law_is_pair) .none kV9 dc9 pm9 an9 cd9 ct9), sl9⟩)
    (c9 : PySem.W.codeIn K cd9 "_law_is_pair" = true) (k9 : PySem.W.keepIn K (.ref f9) = true)
    (a10 : PySem.W.nsIn K mainGlobals "_law_drawn" = some (some (.ref f10))) (l10 : K.lookup f10 = some ⟨oc10, od10, .func (PySem.W.fnOf "_law_drawn" "_law_drawn" (defArgs s__law_drawn) (defBody s__law_drawn) (defScope s__law_drawn) .none kV10 dc10 pm10 an10 cd10 ct10), sl10⟩)
    (c10 : PySem.W.codeIn K cd10 "_law_drawn" = true) (k10 : PySem.W.keepIn K (.ref f10) = true)
    (a11 : PySem.W.nsIn K mainGlobals "_law_within_right" = some (some (.ref f11))) (l11 : K.lookup f11 = some ⟨oc11, od11, .func (PySem.W.fnOf "_law_within_right" "_law_within_right" (defArgs s__law_within_right) (defBody s__law_within_right) (defScope s__law_within_right) .none kV11 dc11 pm11 an11 cd11 ct11), sl11⟩)
    (c11 : PySem.W.codeIn K cd11 "_law_within_right" = true) (k11 : PySem.W.keepIn K (.ref f11) = true)
    (a12 : PySem.W.nsIn K mainGlobals "_law_row_right" = some (some (.ref f12))) (l12 : K.lookup f12 = some ⟨oc12, od12, .func (PySem.W.fnOf "_law_row_right" "_law_row_right" (defArgs s__law_row_right) (defBody s__law_row_right) (defScope s__law_row_right) .none kV12 dc12 pm12 an12 cd12 ct12), sl12⟩)
    (c12 : PySem.W.codeIn K cd12 "_law_row_right" = true) (k12 : PySem.W.keepIn K (.ref f12) = true)
    (a13 : PySem.W.nsIn K mainGlobals "law" = some (some (.ref f13))) (l13 : K.lookup f13 = some ⟨oc13, od13, .func (PySem.W.fnOf "law" "law" (defArgs s_law) (defBody s_law) (defScope s_law) .none kV13 dc13 pm13 an13 cd13 ct13), sl13⟩)
    (c13 : PySem.W.codeIn K cd13 "law" = true) (k13 : PySem.W.keepIn K (.ref f13) = true)
    (z_abs : PySem.W.nsIn K mainGlobals "abs" = some none)
    (z_all : PySem.W.nsIn K mainGlobals "all" = some none)
    (z_bool : PySem.W.nsIn K mainGlobals "bool" = some none)
    (z_int : PySem.W.nsIn K mainGlobals "int" = some none)
    (z_isinstance : PySem.W.nsIn K mainGlobals "isinstance" = some none)
    (z_len : PySem.W.nsIn K mainGlobals "len" = some none)
    (z_list : PySem.W.nsIn K mainGlobals "list" = some none)
    (z_range : PySem.W.nsIn K mainGlobals "range" = some none)
    (z_repr : PySem.W.nsIn K mainGlobals "repr" = some none)
    (z_tuple : PySem.W.nsIn K mainGlobals "tuple" = some none)
    (z_gcd : PySem.W.nsIn K mainGlobals "gcd" = some (some (.builtin "math.gcd")))
    : ∃ fd : FuncData, (∀ (s : Shared) (v : Value), BindsTo s fd ⟨[v], []⟩ [("script", v)]) ∧ ∀ base : Heap, K.In base → base.Ns mainGlobals mg → FnG P w K mg base CX0 7 fa fd ["script"] (spLaw K) := by
  have e := hfa.symm.trans (PySem.W.mg_of X G a13)
  cases e
  let ad : Nat → Addr := fun i => match i with | 0 => f0 | 1 => f1 | 2 => f2 | 3 => f3 | 4 => f4 | 5 => f5 | 6 => f6 | 7 => f7 | 8 => f8 | 9 => f9 | 10 => f10 | 11 => f11 | 12 => f12 | 13 => fa | _ => fa
  let fd : Nat → FuncData := fun i => match i with | 0 => PySem.W.fnOf "is_integer" "is_integer" (defArgs s_is_integer) (defBody s_is_integer) (defScope s_is_integer) .none kV0 dc0 pm0 an0 cd0 ct0 | 1 => PySem.W.fnOf "is_within" "is_within" (defArgs s_is_within) (defBody s_is_within) (defScope s_is_within) .none kV1 dc1 pm1 an1 cd1 ct1 | 2 => PySem.W.fnOf "is_list" "is_list" (defArgs s_is_list) (defBody s_is_list) (defScope s_is_list) .none kV2 dc2 pm2 an2 cd2 ct2 | 3 => PySem.W.fnOf "is_number" "is_number" (defArgs s_is_number) (defBody s_is_number) (defScope s_is_number) .none kV3 dc3 pm3 an3 cd3 ct3 | 4 => PySem.W.fnOf "is_from_0" "is_from_0" (defArgs s_is_from_0) (defBody s_is_from_0) (defScope s_is_from_0) .none kV4 dc4 pm4 an4 cd4 ct4 | 5 => PySem.W.fnOf "is_row" "is_row" (defArgs s_is_row) (defBody s_is_row) (defScope s_is_row) .none kV5 dc5 pm5 an5 cd5 ct5 | 6 => PySem.W.fnOf "_law_tray" "_law_tray" (defArgs s__law_tray) (defBody s__law_tray) (defScope s__law_tray) .none kV6 dc6 pm6 an6 cd6 ct6 | 7 => PySem.W.fnOf "_law_lift" "_law_lift" (defArgs s__law_lift) (defBody s__law_lift) (defScope s__law_lift) .none kV7 dc7 pm7 an7 cd7 ct7 | 8 => PySem.W.fnOf "_law_pick" "_law_pick" (defArgs s__law_pick) (defBody s__law_pick) (defScope s__law_pick) .none kV8 dc8 pm8 an8 cd8 ct8 | 9 => PySem.W.fnOf "_law_is_pair" "_law_is_pair" (defArgs s__law_is_pair) (defBody s__law_is_pair) (defScope s__law_is_pair) .none kV9 dc9 pm9 an9 cd9 ct9 | 10 => PySem.W.fnOf "_law_drawn" "_law_drawn" (defArgs s__law_drawn) (defBody s__law_drawn) (defScope s__law_drawn) .none kV10 dc10 pm10 an10 cd10 ct10 | 11 => PySem.W.fnOf "_law_within_right" "_law_within_right" (defArgs s__law_within_right) (defBody s__law_within_right) (defScope s__law_within_right) .none kV11 dc11 pm11 an11 cd11 ct11 | 12 => PySem.W.fnOf "_law_row_right" "_law_row_right" (defArgs s__law_row_right) (defBody s__law_row_right) (defScope s__law_row_right) .none kV12 dc12 pm12 an12 cd12 ct12 | 13 => PySem.W.fnOf "law" "law" (defArgs s_law) (defBody s_law) (defScope s_law) .none kV13 dc13 pm13 an13 cd13 ct13 | _ => PySem.W.fnOf "law" "law" (defArgs s_law) (defBody s_law) (defScope s_law) .none kV13 dc13 pm13 an13 cd13 ct13
  have T : Txt K mg ad fd := {
    F_is_integer := fun_mk (st := s_is_integer) l0 c0 k0, g_is_integer := PySem.W.mg_of X G a0,
    F_is_within := fun_mk (st := s_is_within) l1 c1 k1, g_is_within := PySem.W.mg_of X G a1,
    F_is_list := fun_mk (st := s_is_list) l2 c2 k2, g_is_list := PySem.W.mg_of X G a2,
    F_is_number := fun_mk (st := s_is_number) l3 c3 k3, g_is_number := PySem.W.mg_of X G a3,
    F_is_from_0 := fun_mk (st := s_is_from_0) l4 c4 k4, g_is_from_0 := PySem.W.mg_of X G a4,
    F_is_row := fun_mk (st := s_is_row) l5 c5 k5, g_is_row := PySem.W.mg_of X G a5,
    F__law_tray := fun_mk (st := s__law_tray) l6 c6 k6, g__law_tray := PySem.W.mg_of X G a6,
    F__law_lift := fun_mk (st := s__law_lift) l7 c7 k7, g__law_lift := PySem.W.mg_of X G a7,
    F__law_pick := fun_mk (st := s__law_pick) l8 c8 k8, g__law_pick := PySem.W.mg_of X G a8,
    F__law_is_pair := fun_mk (st := s__law_is_pair) l9 c9 k9, g__law_is_pair := PySem.W.mg_of X G a9,
    F__law_drawn := fun_mk (st := s__law_drawn) l10 c10 k10, g__law_drawn := PySem.W.mg_of X G a10,
    F__law_within_right := fun_mk (st := s__law_within_right) l11 c11 k11, g__law_within_right := PySem.W.mg_of X G a11,
    F__law_row_right := fun_mk (st := s__law_row_right) l12 c12 k12, g__law_row_right := PySem.W.mg_of X G a12,
    F_law := fun_mk (st := s_law) l13 c13 k13, g_law := PySem.W.mg_of X G a13,
    b_abs := PySem.W.mg_none_of X G z_abs, b_all := PySem.W.mg_none_of X G z_all, b_bool := PySem.W.mg_none_of X G z_bool, b_int := PySem.W.mg_none_of X G z_int, b_isinstance := PySem.W.mg_none_of X G z_isinstance, b_len := PySem.W.mg_none_of X G z_len, b_list := PySem.W.mg_none_of X G z_list, b_range := PySem.W.mg_none_of X G z_range, b_repr := PySem.W.mg_none_of X G z_repr, b_tuple := PySem.W.mg_none_of X G z_tuple, b_gcd := PySem.W.mg_of X G z_gcd }
  exact ⟨fd 13, fun s v => .of_eq rfl, fun base _ _ => ok_law T⟩
end Kx
open PySem PySem.W PyProof.Rows in
set_option maxRecDepth 100000 in
set_option maxHeartbeats 0 in
theorem PySem.Challenge.cw_hindprice_k01_what_any_value_is_holds : PySem.Challenge.rw_hindprice_k01_what_any_value_is.Holds := by
  w_on; o_law; k_head; (case hw => w_witness2)
  k_fill
  refine DL.walk_ofG (x := "script") (k := 7) (l := PySem.Challenge.rw_hindprice_k01_what_any_value_is) (sp := Kx.spLaw) rfl (by decide) rfl ⟨rfl, by decide, by decide⟩ (fun w h Y => PySem.W.kIn_of Y) ?F (fun K H a ns hl _ hS => ⟨a, ns, rfl, hS, hl, fun _ => rfl⟩)
  case F =>
    intro w mg fa h KX G hmg
    refine' Kx.all_mk KX G hmg ?a0 ?l0 ?c0 ?k0 ?a1 ?l1 ?c1 ?k1 ?a2 ?l2 ?c2 ?k2 ?a3 ?l3 ?c3 ?k3 ?a4 ?l4 ?c4 ?k4 ?a5 ?l5 ?c5 ?k5 ?a6 ?l6 ?c6 ?k6 ?a7 ?l7 ?c7 ?k7 ?a8 ?l8 ?c8 ?k8 ?a9 ?l9 ?c9 ?k9 ?a10 ?l10 ?c10 ?k10 ?a11 ?l11 ?c11 ?k11 ?a12 ?l12 ?c12 ?k12 ?a13 ?l13 ?c13 ?k13 ?z_abs ?z_all ?z_bool ?z_int ?z_isinstance ?z_len ?z_list ?z_range ?z_repr ?z_tuple ?z_gcd
    (case a0 => k_is)
    (case l0 => k_is)
    (case c0 => k_is)
    (case k0 => k_is)
    (case a1 => k_is)
    (case l1 => k_is)
    (case c1 => k_is)
    (case k1 => k_is)
    (case a2 => k_is)
    (case l2 => k_is)
    (case c2 => k_is)
    (case k2 => k_is)
    (case a3 => k_is)
    (case l3 => k_is)
    (case c3 => k_is)
    (case k3 => k_is)
    (case a4 => k_is)
    (case l4 => k_is)
    (case c4 => k_is)
    (case k4 => k_is)
    (case a5 => k_is)
    (case l5 => k_is)
    (case c5 => k_is)
    (case k5 => k_is)
    (case a6 => k_is)
    (case l6 => k_is)
    (case c6 => k_is)
    (case k6 => k_is)
    (case a7 => k_is)
    (case l7 => k_is)
    (case c7 => k_is)
    (case k7 => k_is)
    (case a8 => k_is)
    (case l8 => k_is)
    (case c8 => k_is)
    (case k8 => k_is)
    (case a9 => k_is)
    (case l9 => k_is)
    (case c9 => k_is)
    (case k9 => k_is)
    (case a10 => k_is)
    (case l10 => k_is)
    (case c10 => k_is)
    (case k10 => k_is)
    (case a11 => k_is)
    (case l11 => k_is)
    (case c11 => k_is)
    (case k11 => k_is)
    (case a12 => k_is)
    (case l12 => k_is)
    (case c12 => k_is)
    (case k12 => k_is)
    (case a13 => k_is)
    (case l13 => k_is)
    (case c13 => k_is)
    (case k13 => k_is)
    (case z_abs => k_is)
    (case z_all => k_is)
    (case z_bool => k_is)
    (case z_int => k_is)
    (case z_isinstance => k_is)
    (case z_len => k_is)
    (case z_list => k_is)
    (case z_range => k_is)
    (case z_repr => k_is)
    (case z_tuple => k_is)
    (case z_gcd => k_is)

