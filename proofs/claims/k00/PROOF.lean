import PyProof.Rows.All
import Wide.All
import OpenK.AllK
import Wide.FinOn
import HandS.ForMost
import HandS.IsInst
import HandS.Gcd
import HandS.Wide
import HandS.WideBits
import HandS.Defaults
import HandS.TupAny
import HandS.Conv
import HandS.Style
import HandS.EndBits
import HandS.Exc
import HandS.ExcIs
import HandS.ExcField
import HandS.ExcInit
import KE.KExcIs
import PyProof.ReprRoads
import HandS.Flow
import HandS.FStrTup
import HandS.More
import PySem.Challenge.RW_hindprice_k00_errors_keep_their_fields
set_option Elab.async false
set_option linter.all false
set_option maxRecDepth 100000
set_option maxHeartbeats 4000000
/-! Data: what values stand for, apart from addresses that may be written. -/
namespace DL
open PySem PySem.Spec PyProof.Rows L2

abbrev D := PyData
/-- a key as data -/
def kd : Key → D
  | .inl i => .int i
  | .inr x => .str x
/-- an error that is kept at a: its class, its dict -/
def ExT (cls : Value) (d : Option Addr) (a : Addr) : HO := .ext fun h => ∃ (oe : Obj) (vs : Array Value), h.get? a = some oe ∧ Zc cls d oe ∧ oe.data = .fields vs
/-- the object at a, whatever it is -/
def dOp (a : Addr) : D := .dict [(.list [], .int (a : Int))]
/-- an error of the class at C with fields ns -/
def dEx (C : Addr) (ns : List Str) (ds : List D) : D := .dict [(.list (.int (C : Int) :: ns.map PyData.str), .list ds)]
mutual
/-- v stands for d, by objects that are none of O -/
inductive Dt (O : List Addr) (H : Hp) : V → D → Prop
  | non : Dt O H .non .none
  | bl (b : Bool) : Dt O H (.bl b) (.bool b)
  | int (i : Int) : Dt O H (.int i) (.int i)
  | str (x : Str) : Dt O H (.str x) (.str x)
  | lst {a : Addr} {xs : List V} {ds : List D} : a ∉ O → H a = some (.lst xs) → DtA O H xs ds → Dt O H (.ref a) (.list ds)
  | tup {a : Addr} {xs : List V} {ds : List D} : a ∉ O → H a = some (.tup xs) → DtA O H xs ds → Dt O H (.ref a) (.tuple ds)
  | dct {a : Addr} {kvs : List (Key × V)} {ds : List (D × D)} : a ∉ O → H a = some (.dK kvs) → DtK O H kvs ds → Dt O H (.ref a) (.dict ds)
  | opq {a : Addr} {o : HO} : a ∉ O → H a = some o → Dt O H (.ref a) (dOp a)
  | exn {a dd C : Addr} {ns : List Str} {vs : List V} {ds : List D} : a ∉ O → H a = some (ExT (.ref C) (some dd) a) → dd ∉ O → H dd = some (.xd (ns.zip vs)) → ns.length = vs.length → DtA O H vs ds → Dt O H (.ref a) (dEx C ns ds)
inductive DtA (O : List Addr) (H : Hp) : List V → List D → Prop
  | nil : DtA O H [] []
  | cons {v : V} {vs : List V} {d : D} {ds : List D} : Dt O H v d → DtA O H vs ds → DtA O H (v :: vs) (d :: ds)
inductive DtK (O : List Addr) (H : Hp) : List (Key × V) → List (D × D) → Prop
  | nil : DtK O H [] []
  | cons {k : Key} {v : V} {d : D} {kvs : List (Key × V)} {ds : List (D × D)} : Dt O H v d → DtK O H kvs ds → DtK O H ((k, v) :: kvs) ((kd k, d) :: ds)
end
/-- all but the addresses of O stands as it was -/
def Le (O : List Addr) (H H' : Hp) : Prop := ∀ a o, a ∉ O → H a = some o → H' a = some o
theorem Le.refl (O : List Addr) (H : Hp) : Le O H H := fun _ _ _ h => h
theorem Le.trans {O : List Addr} {H H1 H2 : Hp} (x : Le O H H1) (y : Le O H1 H2) : Le O H H2 := fun a o n h => y a o n (x a o n h)
theorem Le.of {O : List Addr} {H H' : Hp} (s : Same H H') : Le O H H' := fun a o _ h => s a o h
theorem Same.upd {H : Hp} {p : Addr} {o : HO} (h : H p = none) : Same H (upd H p o) := fun a u e => by
  rw [upd_ne (ne_of_none e h)]; exact e
section
variable {O O' : List Addr} {H H' : Hp} (k : ∀ a o, a ∉ O → H a = some o → a ∉ O' ∧ H' a = some o)
include k
mutual
/-- what holds of the objects that a datum is made of carries it over -/
theorem Dt.mv1 : ∀ {v : V} {d : D}, Dt O H v d → Dt O' H' v d
  | _, _, .non => .non
  | _, _, .bl b => .bl b
  | _, _, .int i => .int i
  | _, _, .str x => .str x
  | _, _, .lst n e r => .lst (k _ _ n e).1 (k _ _ n e).2 (DtA.mv1 r)
  | _, _, .tup n e r => .tup (k _ _ n e).1 (k _ _ n e).2 (DtA.mv1 r)
  | _, _, .dct n e r => .dct (k _ _ n e).1 (k _ _ n e).2 (DtK.mv1 r)
  | _, _, .opq n e => .opq (k _ _ n e).1 (k _ _ n e).2
  | _, _, .exn n e n2 e2 l r => .exn (k _ _ n e).1 (k _ _ n e).2 (k _ _ n2 e2).1 (k _ _ n2 e2).2 l (DtA.mv1 r)
theorem DtA.mv1 : ∀ {vs : List V} {ds : List D}, DtA O H vs ds → DtA O' H' vs ds
  | _, _, .nil => .nil
  | _, _, .cons a r => .cons (Dt.mv1 a) (DtA.mv1 r)
theorem DtK.mv1 : ∀ {vs : List (Key × V)} {ds : List (D × D)}, DtK O H vs ds → DtK O' H' vs ds
  | _, _, .nil => .nil
  | _, _, .cons a r => .cons (Dt.mv1 a) (DtK.mv1 r)
end
end
theorem Dt.mv {O O' : List Addr} {H H' : Hp} (k : ∀ a o, a ∉ O → H a = some o → a ∉ O' ∧ H' a = some o) (d : D) (v : V) (h : Dt O H v d) : Dt O' H' v d := Dt.mv1 k h
theorem DtA.mv {O O' : List Addr} {H H' : Hp} (k : ∀ a o, a ∉ O → H a = some o → a ∉ O' ∧ H' a = some o) (ds : List D) (vs : List V) (h : DtA O H vs ds) : DtA O' H' vs ds := DtA.mv1 k h
section
variable {O O' : List Addr} {H H' : Hp} {v : V} {d : D} {vs : List V} {ds : List D} {p : Addr} {o : HO}
theorem Dt.le (h : Dt O H v d) (l : Le O H H') : Dt O H' v d := Dt.mv (fun a o n e => ⟨n, l a o n e⟩) d v h
theorem DtA.le (h : DtA O H vs ds) (l : Le O H H') : DtA O H' vs ds := DtA.mv (fun a o n e => ⟨n, l a o n e⟩) ds vs h
theorem Dt.anti (h : Dt O H v d) (s : ∀ a ∈ O', a ∈ O) : Dt O' H v d := Dt.mv (fun a o n e => ⟨fun z => n (s a z), e⟩) d v h
theorem DtA.anti (h : DtA O H vs ds) (s : ∀ a ∈ O', a ∈ O) : DtA O' H vs ds := DtA.mv (fun a o n e => ⟨fun z => n (s a z), e⟩) ds vs h
/-- a new address may be set apart -/
theorem Dt.new (h : Dt O H v d) (hp : H p = none) : Dt (p :: O) (upd H p o) v d := Dt.mv (fun a u n e => by
  have z : a ≠ p := ne_of_none e hp
  exact ⟨fun m => (List.mem_cons.mp m).elim z n, by rw [upd_ne z]; exact e⟩) d v h
theorem DtA.new (h : DtA O H vs ds) (hp : H p = none) : DtA (p :: O) (upd H p o) vs ds := DtA.mv (fun a u n e => by
  have z : a ≠ p := ne_of_none e hp
  exact ⟨fun m => (List.mem_cons.mp m).elim z n, by rw [upd_ne z]; exact e⟩) ds vs h
/-- an address of O is written -/
theorem Dt.put (h : Dt O H v d) (hp : p ∈ O) : Dt O (upd H p o) v d := Dt.mv (fun a u n e => ⟨n, by
  have z : a ≠ p := fun q => n (q ▸ hp)
  rw [upd_ne z]; exact e⟩) d v h
theorem DtA.put (h : DtA O H vs ds) (hp : p ∈ O) : DtA O (upd H p o) vs ds := DtA.mv (fun a u n e => ⟨n, by
  have z : a ≠ p := fun q => n (q ▸ hp)
  rw [upd_ne z]; exact e⟩) ds vs h
theorem DtA.len : ∀ {vs : List V} {ds : List D}, DtA O H vs ds → vs.length = ds.length
  | _, _, .nil => rfl
  | _, _, .cons _ r => congrArg (· + 1) r.len
theorem DtA.app : ∀ {vs ws : List V} {ds es : List D}, DtA O H vs ds → DtA O H ws es → DtA O H (vs ++ ws) (ds ++ es)
  | _, _, _, _, .nil, s => s
  | _, _, _, _, .cons a r, s => .cons a (r.app s)
theorem DtA.get : ∀ {vs : List V} {ds : List D} {i : Nat} {d : D}, DtA O H vs ds → ds[i]? = some d → ∃ v, vs[i]? = some v ∧ Dt O H v d
  | _, _, _, _, .nil, e => by simp at e
  | _, _, 0, _, .cons a _, e => by
    have z := Option.some.inj e
    subst z
    exact ⟨_, rfl, a⟩
  | _, _, i + 1, _, .cons _ r, e => r.get (i := i) e
theorem DtA.take : ∀ {vs : List V} {ds : List D} (n : Nat), DtA O H vs ds → DtA O H (vs.take n) (ds.take n)
  | _, _, 0, _ => .nil
  | _, _, _ + 1, .nil => .nil
  | _, _, n + 1, .cons r t => .cons r (DtA.take n t)
theorem DtA.drop : ∀ {vs : List V} {ds : List D} (n : Nat), DtA O H vs ds → DtA O H (vs.drop n) (ds.drop n)
  | _, _, 0, r => r
  | _, _, _ + 1, .nil => .nil
  | _, _, n + 1, .cons _ t => DtA.drop n t
end
/-! the data without dicts are the layer’s own -/
mutual
theorem Dt.dp {K : PySem.W.Frag} {O : List Addr} {H : Hp} : ∀ (d : D) (v : V), Dt O H v d → d.canLay0 = true → Dp K H v d
  | .none, _, h, _ => by cases h; exact .non
  | .bool b, _, h, _ => by cases h; exact .bl b
  | .int i, _, h, _ => by cases h; exact .int i
  | .str x, _, h, _ => by cases h; exact .str x
  | .list ds, _, h, c => by
    cases h with
    | lst n e r => exact .lst (.inl (.inl e)) (DtA.dp ds _ r (by simpa [PyData.canLay0] using c))
  | .tuple ds, _, h, c => by
    cases h with
    | tup n e r => exact .tup (.inl (.inl e)) (DtA.dp ds _ r (by simpa [PyData.canLay0] using c))
  | .dict ds, _, h, c => by simp [PyData.canLay0] at c
theorem DtA.dp {K : PySem.W.Frag} {O : List Addr} {H : Hp} : ∀ (ds : List D) (vs : List V), DtA O H vs ds → PyData.canLayAll0 ds = true → DpAll K H vs ds
  | [], _, h, _ => by cases h; exact .nil
  | d :: ds, _, h, c => by
    have c' : d.canLay0 = true ∧ PyData.canLayAll0 ds = true := by simpa [PyData.canLayAll0] using c
    cases h with
    | cons a r => exact .cons (Dt.dp d _ a c'.1) (DtA.dp ds _ r c'.2)
end
end DL

/-! The state by data, and what a reading comes to over it. -/
namespace DL
open PySem PySem.Spec PyProof.Rows L2
/-- a slot: forgotten; a datum; a list of one's own at p that is still written; a tray of draws at p with f draws left -/
inductive DV where
  | un | dat (d : D) | ls (b : Bool) (p : Addr) (ds : List D) | tray (b : Bool) (p : Addr) (f : Nat)
/-- a tray's data: the cells, the turn, what is left; f draws may come -/
def TrayD (f : Nat) (ds : List D) : Prop := ∃ (ns : List Int) (turn left : Int), ds = [.list (ns.map PyData.int), .int turn, .int left] ∧ ns.length ≤ 63 ∧ 0 ≤ turn ∧ turn + (f : Int) ≤ 1000000
def TrayAt (O : List Addr) (f : Nat) (H : Hp) (p : Addr) : Prop := ∃ (ds : List D) (xs : List V), TrayD f ds ∧ H p = some (.lst xs) ∧ DtA O H xs ds
/-- what a frame stands on: the heap at its entry, what may be written of it, what is set apart, lists under way -/
structure Fm where
  H0 : Hp
  M : List Addr
  O : List Addr
  ph : List (Addr × List D)
  tmp : List (V × D)
/-- a list of one's own: b tells whether it was made behind the entry -/
def LsAt (F : Fm) (H : Hp) (b : Bool) (p : Addr) (ds : List D) : Prop := p ∈ F.O ∧ (b = true → F.H0 p = none) ∧ (b = false → p ∈ F.M) ∧ ds.length ≤ 100000 ∧ ∃ xs, H p = some (.lst xs) ∧ DtA F.O H xs ds
def Sl (F : Fm) (H : Hp) : DV → Option V → Prop
  | .un, _ => True
  | .dat d, y => ∃ v, y = some v ∧ Dt F.O H v d
  | .ls b p ds, y => y = some (.ref p) ∧ LsAt F H b p ds
  | .tray b p f, y => y = some (.ref p) ∧ ∃ ds, TrayD f ds ∧ LsAt F H b p ds
/-- the addresses that slots own -/
def ownOf : DV → Option Addr
  | .ls _ p _ => some p
  | .tray _ p _ => some p
  | _ => none
structure Sx (F : Fm) (δ : List DV) (σ : L2.St) (H : Hp) : Prop where
  base : ∀ a o, a ∉ F.M → F.H0 a = some o → H a = some o
  trk : ∀ a ∈ F.O, ∃ o, H a = some o
  len : δ.length = σ.length
  sl : ∀ (i : Nat) (x : DV), δ[i]? = some x → ∃ y, σ[i]? = some y ∧ Sl F H x y
  own : ∀ (i j : Nat) (x y : DV) (p : Addr), δ[i]? = some x → δ[j]? = some y → ownOf x = some p → ownOf y = some p → i = j
  mo : ∀ a ∈ F.M, a ∈ F.O
  ph : ∀ q ∈ F.ph, LsAt F H true q.1 q.2
  phn : (F.ph.map (·.1)).Nodup
  pho : ∀ q ∈ F.ph, ∀ (i : Nat) (x : DV), δ[i]? = some x → ownOf x ≠ some q.1
  tmp : ∀ q ∈ F.tmp, Dt F.O H q.1 q.2
section
variable {F : Fm} {δ δ' : List DV} {σ : L2.St} {H H' : Hp} {p a : Addr} {o : HO}
theorem Sx.no0 (S : Sx F δ σ H) (h : H p = none) : F.H0 p = none := by
  cases q : F.H0 p with
  | none => rfl
  | some u =>
    by_cases m : p ∈ F.M
    · obtain ⟨o, e⟩ := S.trk p (S.mo p m)
      rw [h] at e; cases e
    · have := S.base p u m q
      rw [h] at this; cases this
theorem Sx.notO (S : Sx F δ σ H) (h : H p = none) : p ∉ F.O := fun m => by
  obtain ⟨o, e⟩ := S.trk p m
  rw [h] at e; cases e
theorem LsAt.le {b : Bool} {ds : List D} (h : LsAt F H b p ds) (s : Le F.O H H') (e : H' p = H p) : LsAt F H' b p ds := by
  obtain ⟨h1, h2, h3, h4, xs, e1, r⟩ := h
  exact ⟨h1, h2, h3, h4, xs, by rw [e]; exact e1, r.le s⟩
theorem LsAt.same {b : Bool} {ds : List D} (h : LsAt F H b p ds) (s : Same H H') : LsAt F H' b p ds := by
  obtain ⟨h1, h2, h3, h4, xs, e, r⟩ := h
  exact ⟨h1, h2, h3, h4, xs, s _ _ e, r.le (Le.of s)⟩
theorem Sl.same {x : DV} {y : Option V} (h : Sl F H x y) (s : Same H H') : Sl F H' x y := by
  cases x with
  | un => trivial
  | dat d =>
    obtain ⟨v, e, r⟩ := h
    exact ⟨v, e, r.le (Le.of s)⟩
  | ls b p ds => exact ⟨h.1, h.2.same s⟩
  | tray b p f =>
    obtain ⟨e, ds, t, l⟩ := h
    exact ⟨e, ds, t, l.same s⟩
theorem Sx.same (S : Sx F δ σ H) (s : Same H H') : Sx F δ σ H' where
  base := fun a o m e => s _ _ (S.base a o m e)
  trk := fun a m => let ⟨o, e⟩ := S.trk a m; ⟨o, s _ _ e⟩
  len := S.len
  sl := fun i x e => let ⟨y, e', r⟩ := S.sl i x e; ⟨y, e', r.same s⟩
  own := S.own
  mo := S.mo
  ph := fun q m => (S.ph q m).same s
  phn := S.phn
  pho := S.pho
  tmp := fun q m => (S.tmp q m).le (Le.of s)
end
/-- a reading of an expression, over the data δ, comes to a datum of P -/
def Rd (t : TE) (δ : List DV) (P : D → List DV → Prop) : Prop := ∀ (F : Fm) (σ : L2.St) (H : Hp), Sx F δ σ H → ∀ Q : VK, (∀ v H' d δ', P d δ' → Le F.O H H' → Sx F δ' σ H' → Dt F.O H' v d → Q v H') → t σ H Q
def RdT (t : TT) (δ : List DV) (P : Bool → List DV → Prop) : Prop := ∀ (F : Fm) (σ : L2.St) (H : Hp), Sx F δ σ H → ∀ Q : Bool → Hp → Prop, (∀ b H' δ', P b δ' → Le F.O H H' → Sx F δ' σ H' → Q b H') → t σ H Q
def RdA (t : TA) (δ : List DV) (P : List D → List DV → Prop) : Prop := ∀ (F : Fm) (σ : L2.St) (H : Hp), Sx F δ σ H → ∀ Q : List V → Hp → Prop, (∀ vs H' ds δ', P ds δ' → Le F.O H H' → Sx F δ' σ H' → DtA F.O H' vs ds → Q vs H') → t σ H Q
/-- an operator, a function, by data: it may make new objects and changes none -/
def OpD (r : R2) (R : D → D → (D → Prop) → Prop) : Prop := ∀ (O : List Addr) (H : Hp) (x y : V) (d e : D) (P : D → Prop) (Q : VK), (∀ a ∈ O, ∃ o, H a = some o) → Dt O H x d → Dt O H y e → R d e P → (∀ w H' z, P z → Same H H' → Dt O H' w z → Q w H') → r x y H Q
def CaD (r : List V → Hp → VK → Prop) (R : List D → (D → Prop) → Prop) : Prop := ∀ (O : List Addr) (H : Hp) (vs : List V) (ds : List D) (P : D → Prop) (Q : VK), (∀ a ∈ O, ∃ o, H a = some o) → DtA O H vs ds → R ds P → (∀ w H' z, P z → Same H H' → Dt O H' w z → Q w H') → r vs H Q
/-- the promise of a def over data -/
def SpD (n : Nat) (R : List D → (D → Prop) → Prop) : Sp := fun vs H Q _ => vs.length = n ∧ ∃ (O : List Addr) (ds : List D) (P : D → Prop), (∀ a ∈ O, ∃ o, H a = some o) ∧ DtA O H vs ds ∧ R ds P ∧ ∀ v H' d, P d → Same H H' → Dt O H' v d → Q v H'
/-- the promise of a def over a tray of draws and data, by at most c draws -/
def SpT (n c : Nat) (R : List D → (D → Prop) → Prop) : Sp := fun vs H Q _ => ∃ (t : Addr) (ws : List V), vs = .ref t :: ws ∧ ws.length = n ∧ ∃ (O : List Addr) (f : Nat) (ds : List D) (P : D → Prop), (∀ a ∈ O, ∃ o, H a = some o) ∧ t ∈ O ∧ TrayAt O f H t ∧ c ≤ f ∧ DtA O H ws ds ∧ R ds P ∧
  ∀ v H' d, P d → Le [t] H H' → TrayAt O (f - c) H' t → Dt O H' v d → Q v H'

section
variable {δ : List DV} {P : D → List DV → Prop} {ta tb te : TE} {i : Nat}
theorem rd_var {d : D} (h : δ[i]? = some (.dat d)) (p : P d δ) : Rd (tVar i) δ P := fun F σ H S Q k => by
  obtain ⟨y, ey, v, rfl, r⟩ := S.sl i _ h
  exact ⟨v, ey, k v H d δ p (Le.refl _ _) S r⟩
theorem rd_int {n : Int} (p : P (.int n) δ) : Rd (tC (.int n)) δ P := fun F σ H S Q k => k _ _ _ _ p (Le.refl _ _) S (.int n)
theorem rd_bl {b : Bool} (p : P (.bool b) δ) : Rd (tC (.bl b)) δ P := fun F σ H S Q k => k _ _ _ _ p (Le.refl _ _) S (.bl b)
theorem rd_str {x : Str} (p : P (.str x) δ) : Rd (tC (.str x)) δ P := fun F σ H S Q k => k _ _ _ _ p (Le.refl _ _) S (.str x)
theorem rd_non (p : P .none δ) : Rd (tC .non) δ P := fun F σ H S Q k => k _ _ _ _ p (Le.refl _ _) S .non
theorem rd_imp {P' : D → List DV → Prop} (h : Rd te δ P') (k : ∀ d δ', P' d δ' → P d δ') : Rd te δ P := fun F σ H S Q q => h F σ H S Q fun v H' d δ' p => q v H' d δ' (k d δ' p)
theorem rd_op {r : R2} {R : D → D → (D → Prop) → Prop} (hr : OpD r R) (h : Rd ta δ fun x δ1 => Rd tb δ1 fun y δ2 => R x y fun z => P z δ2) : Rd (tOp r ta tb) δ P := fun F σ H S Q k =>
  h F σ H S _ fun v H1 x δ1 hb l1 S1 r1 => hb F σ H1 S1 _ fun u H2 y δ2 hR l2 S2 r2 => hr F.O H2 v u x y _ Q S2.trk (r1.le l2) r2 hR fun w H' z p s r => k w H' z δ2 p ((l1.trans l2).trans (Le.of s)) (S2.same s) r
theorem rd_un {r : V → Hp → VK → Prop} {R : D → (D → Prop) → Prop} (hr : ∀ (O : List Addr) (H : Hp) (x : V) (d : D) (P : D → Prop) (Q : VK), (∀ a ∈ O, ∃ o, H a = some o) → Dt O H x d → R d P → (∀ w H' z, P z → Same H H' → Dt O H' w z → Q w H') → r x H Q)
    (h : Rd ta δ fun x δ1 => R x fun z => P z δ1) : Rd (tUn r ta) δ P := fun F σ H S Q k =>
  h F σ H S _ fun v H1 x δ1 hR l1 S1 r1 => hr F.O H1 v x _ Q S1.trk r1 hR fun w H' z p s r => k w H' z δ1 p (l1.trans (Le.of s)) (S1.same s) r
theorem rd_cb {r : List V → Hp → VK → Prop} {R : List D → (D → Prop) → Prop} {tr : TA} (hr : CaD r R) (h : RdA tr δ fun xs δ1 => R xs fun z => P z δ1) : Rd (tCB r tr) δ P := fun F σ H S Q k =>
  h F σ H S _ fun vs H1 xs δ1 hR l1 S1 r1 => hr F.O H1 vs xs _ Q S1.trk r1 hR fun w H' z p s r => k w H' z δ1 p (l1.trans (Le.of s)) (S1.same s) r
theorem ra_nil {P : List D → List DV → Prop} (p : P [] δ) : RdA tNil δ P := fun F σ H S Q k => k [] H [] δ p (Le.refl _ _) S .nil
theorem ra_cons {P : List D → List DV → Prop} {tr : TA} (h : Rd ta δ fun x δ1 => RdA tr δ1 fun xs δ2 => P (x :: xs) δ2) : RdA (tCons ta tr) δ P := fun F σ H S Q k =>
  h F σ H S _ fun v H1 x δ1 hr l1 S1 r1 => hr F σ H1 S1 _ fun vs H2 xs δ2 p l2 S2 r2 => k (v :: vs) H2 (x :: xs) δ2 p (l1.trans l2) S2 (.cons (r1.le l2) r2)
theorem rd_tup {tr : TA} (h : RdA tr δ fun xs δ1 => xs.length ≤ 100000 ∧ P (.tuple xs) δ1) : Rd (tTup tr) δ P := fun F σ H S Q k =>
  h F σ H S _ fun vs H1 xs δ1 ⟨hl, p⟩ l1 S1 r1 => ⟨Nat.le_trans (r1.len ▸ hl) (by rw [sizeLine_eq]; decide), fun q hq => by
    have s : Same H1 (upd H1 q (.tup vs)) := Same.upd hq
    exact k (.ref q) _ (.tuple xs) δ1 p (l1.trans (Le.of s)) (S1.same s) (.tup (S1.notO hq) upd_same (r1.le (Le.of s)))⟩
theorem rd_lst {tr : TA} (h : RdA tr δ fun xs δ1 => xs.length ≤ 100000 ∧ P (.list xs) δ1) : Rd (tLst tr) δ P := fun F σ H S Q k =>
  h F σ H S _ fun vs H1 xs δ1 ⟨hl, p⟩ l1 S1 r1 => ⟨Nat.le_trans (r1.len ▸ hl) (by rw [sizeLine_eq]; decide), fun q hq => by
    have s : Same H1 (upd H1 q (.lst vs)) := Same.upd hq
    exact k (.ref q) _ (.list xs) δ1 p (l1.trans (Le.of s)) (S1.same s) (.lst (S1.notO hq) upd_same (r1.le (Le.of s)))⟩
theorem rd_dnew (p : P (.dict []) δ) : Rd (fun _ H Q => ∀ d, H d = none → Q (.ref d) (upd H d (.dK []))) δ P := fun F σ H S Q k d hd => by
  have s : Same H (upd H d (.dK [])) := Same.upd hd
  exact k (.ref d) _ (.dict []) δ p (Le.of s) (S.same s) (.dct (S.notO hd) upd_same .nil)
theorem rd_call {n : Nat} {R : List D → (D → Prop) → Prop} {E : XK} {tr : TA} (h : RdA tr δ fun xs δ1 => xs.length = n ∧ R xs fun z => P z δ1) : Rd (tCall (SpD n R) [] E tr) δ P := fun F σ H S Q k =>
  h F σ H S _ fun vs H1 xs δ1 ⟨hl, hR⟩ l1 S1 r1 => by
    show SpD n R (vs ++ []) H1 Q E
    rw [List.append_nil]
    exact ⟨r1.len.trans hl, F.O, xs, _, S1.trk, r1, hR, fun v H' d p s r => k v H' d δ1 p (l1.trans (Le.of s)) (S1.same s) r⟩
end
end DL

/-! Calls by a tray, tests, operators, functions, statements. -/
namespace DL
open PySem PySem.Spec PyProof.Rows L2
section
variable {F : Fm} {δ : List DV} {P : D → List DV → Prop} {PT : Bool → List DV → Prop} {ta tb te : TE} {tt tu : TT} {i : Nat} {σ : L2.St} {H H' : Hp}
/-- the list at t, which the slot i owns, is written: behind that the slot has x' -/
theorem Sx.wrote {t : Addr} {x x' : DV} (S : Sx F δ σ H) (hi : δ[i]? = some x) (ox : ownOf x = some t) (ox' : ownOf x' = some t) (l : Le [t] H H') (T : ∀ y, Sl F H x y → Sl F H' x' y) : Sx F (δ.set i x') σ H' := by
  have at_t : ∃ (b : Bool) (ds : List D), LsAt F H b t ds := by
    obtain ⟨y, _, r⟩ := S.sl i _ hi
    cases x with
    | un => cases ox
    | dat d => cases ox
    | ls b p ds =>
      cases ox
      exact ⟨b, ds, r.2⟩
    | tray b p f =>
      cases ox
      obtain ⟨_, ds, _, r⟩ := r
      exact ⟨b, ds, r⟩
  obtain ⟨b, ds, tO, tn, tM, _, xs0, et, _⟩ := at_t
  have t0 : ∀ a o, a ∉ F.M → F.H0 a = some o → a ≠ t := fun a o m e z => by
    subst z
    cases b with
    | true => rw [tn rfl] at e; cases e
    | false => exact m (tM rfl)
  have k : ∀ a o, a ≠ t → H a = some o → H' a = some o := fun a o n e => l a o (by simpa using n) e
  have lO : Le F.O H H' := fun a o n e => k a o (fun z => n (z ▸ tO)) e
  have ls : ∀ b p ds, p ≠ t → LsAt F H b p ds → LsAt F H' b p ds := fun b p ds n ⟨h1, h2, h3, h4, xs, e, r⟩ => ⟨h1, h2, h3, h4, xs, k _ _ n e, r.le lO⟩
  have hl : i < δ.length := (List.getElem?_eq_some_iff.mp hi).1
  have get : ∀ j y p, (δ.set i x')[j]? = some y → ownOf y = some p → ∃ y', δ[j]? = some y' ∧ ownOf y' = some p := fun j y p e o => by
    by_cases z : i = j
    · subst z
      rw [List.getElem?_set_self hl] at e
      cases e
      rw [ox'] at o
      cases o
      exact ⟨_, hi, ox⟩
    · rw [List.getElem?_set_ne z] at e
      exact ⟨y, e, o⟩
  have th : ∃ o, H' t = some o := by
    obtain ⟨y, _, r⟩ := S.sl i _ hi
    have r' := T y r
    cases x' with
    | un => cases ox'
    | dat d => cases ox'
    | ls b p ds =>
      cases ox'
      obtain ⟨_, _, _, _, _, xs, e, _⟩ := r'
      exact ⟨_, e⟩
    | tray b p f =>
      cases ox'
      obtain ⟨_, ds, _, _, _, _, _, xs, e, _⟩ := r'
      exact ⟨_, e⟩
  refine ⟨fun a o m e => k _ _ (t0 a o m e) (S.base a o m e), fun a m => ?_, by rw [List.length_set]; exact S.len, fun j y e => ?_, fun j1 j2 y z p e1 e2 o1 o2 => ?_, S.mo, fun q m => ?_, S.phn, fun q m j y e o1 => ?_, fun q m => (S.tmp q m).le lO⟩
  · by_cases z : a = t
    · rw [z]; exact th
    · obtain ⟨o, e⟩ := S.trk a m
      exact ⟨o, k _ _ z e⟩
  · by_cases z : i = j
    · subst z
      rw [List.getElem?_set_self hl] at e
      cases e
      obtain ⟨y, ey, r⟩ := S.sl i _ hi
      exact ⟨y, ey, T y r⟩
    · rw [List.getElem?_set_ne z] at e
      obtain ⟨w, ew, r⟩ := S.sl j y e
      refine ⟨w, ew, ?_⟩
      have np : ∀ p, ownOf y = some p → p ≠ t := fun p o q => z (S.own i j _ _ t hi e ox (by rw [o, q]))
      cases y with
      | un => trivial
      | dat d =>
        obtain ⟨v, e1, r1⟩ := r
        exact ⟨v, e1, r1.le lO⟩
      | ls b p ds => exact ⟨r.1, ls b p ds (np p rfl) r.2⟩
      | tray b p g =>
        obtain ⟨e1, ds, t1, r1⟩ := r
        exact ⟨e1, ds, t1, ls b p ds (np p rfl) r1⟩
  · obtain ⟨y', e1', o1'⟩ := get j1 y p e1 o1
    obtain ⟨z', e2', o2'⟩ := get j2 z p e2 o2
    exact S.own j1 j2 y' z' p e1' e2' o1' o2'
  · exact ls _ _ _ (fun z => S.pho q m i _ hi (by rw [z]; exact ox)) (S.ph q m)
  · obtain ⟨y', e', o'⟩ := get j y q.1 e o1
    exact S.pho q m j y' e' o'
/-- a call has written the tray at t alone -/
theorem Sx.drawn {b : Bool} {t : Addr} {f f' : Nat} (S : Sx F δ σ H) (hi : δ[i]? = some (.tray b t f)) (l : Le [t] H H') (T : TrayAt F.O f' H' t) : Sx F (δ.set i (.tray b t f')) σ H' :=
  S.wrote hi rfl rfl l fun y ⟨e, ds, _, h1, h2, h3, h4, _⟩ => by
    obtain ⟨ds', xs', td, e', r'⟩ := T
    refine ⟨e, ds', td, h1, h2, h3, ?_, xs', e', r'⟩
    obtain ⟨ns, tn, lf, rfl, _⟩ := td
    exact (by decide : 3 ≤ 100000)
theorem rd_callT {n c : Nat} {R : List D → (D → Prop) → Prop} {E : XK} {tr : TA} {b : Bool} {p : Addr} {f0 : Nat} (hi : δ[i]? = some (.tray b p f0))
    (h : RdA tr δ fun xs δ1 => ∃ f, δ1[i]? = some (.tray b p f) ∧ c ≤ f ∧ xs.length = n ∧ R xs fun z => P z (δ1.set i (.tray b p (f - c)))) : Rd (fun σ H Q => (tCons (tVar i) tr) σ H fun vs H1 => SpT n c R vs H1 Q E) δ P := fun F σ H S Q k => by
  obtain ⟨y, ey, e1, ds0, td0, pO, _⟩ := S.sl i _ hi
  subst e1
  refine ⟨.ref p, ey, h F σ H S _ fun vs H1 xs δ1 ⟨f, h1, hc, hl, hR⟩ l1 S1 r1 => ?_⟩
  obtain ⟨y1, ey1, e2, ds1, td1, _, _, _, _, xs1, e3, r3⟩ := S1.sl i _ h1
  exact ⟨p, vs, rfl, r1.len.trans hl, F.O, f, xs, _, S1.trk, pO, ⟨ds1, xs1, td1, e3, r3⟩, hc, r1, hR, fun v H' d p' l T r =>
    k v H' d _ p' (l1.trans fun a o n e => l a o (fun (m : a ∈ [p]) => n (by rw [List.mem_singleton] at m; rw [m]; exact pO)) e) (S1.drawn h1 l T) r⟩
/-! ### tests -/
theorem rt_tt {te : TE} (h : Rd te δ fun x δ1 => ∃ b, x = .bool b ∧ PT b δ1) : RdT (tTest te) δ PT := fun F σ H S Q k => h F σ H S _ fun v H1 x δ1 ⟨b, e, p⟩ l1 S1 r1 => by
  subst e
  cases r1
  exact ⟨b, rfl, k b H1 δ1 p l1 S1⟩
theorem rt_B {te : TE} (h : Rd te δ fun x δ1 => ∃ b, x = .bool b ∧ PT b δ1) : RdT (tB te) δ PT := fun F σ H S Q k => h F σ H S _ fun v H1 x δ1 ⟨b, e, p⟩ l1 S1 r1 => by
  subst e
  cases r1
  exact ⟨b, rfl, k b H1 δ1 p l1 S1⟩
theorem rt_not (h : RdT tt δ fun b δ1 => PT (!b) δ1) : RdT (tNot tt) δ PT := fun F σ H S Q k => h F σ H S _ fun b H1 δ1 p l1 S1 => k (!b) H1 δ1 p l1 S1
theorem rt_and (h : RdT tt δ fun b δ1 => (b = true → RdT tu δ1 PT) ∧ (b = false → PT false δ1)) : RdT (tAnd tt tu) δ PT := fun F σ H S Q k => h F σ H S _ fun b H1 δ1 p l1 S1 => by
  cases b with
  | true => exact iteT (p.1 rfl F σ H1 S1 Q fun b H2 δ2 q l2 S2 => k b H2 δ2 q (l1.trans l2) S2)
  | false => exact iteF (k false H1 δ1 (p.2 rfl) l1 S1)
theorem rt_or (h : RdT tt δ fun b δ1 => (b = true → PT true δ1) ∧ (b = false → RdT tu δ1 PT)) : RdT (tOr tt tu) δ PT := fun F σ H S Q k => h F σ H S _ fun b H1 δ1 p l1 S1 => by
  cases b with
  | true => exact iteT (k true H1 δ1 (p.1 rfl) l1 S1)
  | false => exact iteF (p.2 rfl F σ H1 S1 Q fun b H2 δ2 q l2 S2 => k b H2 δ2 q (l1.trans l2) S2)
theorem rd_if (h : RdT tt δ fun b δ1 => (b = true → Rd ta δ1 P) ∧ (b = false → Rd tb δ1 P)) : Rd (tIf tt ta tb) δ P := fun F σ H S Q k => h F σ H S _ fun b H1 δ1 p l1 S1 => by
  cases b with
  | true => exact iteT (p.1 rfl F σ H1 S1 Q fun v H2 d δ2 q l2 S2 r => k v H2 d δ2 q (l1.trans l2) S2 r)
  | false => exact iteF (p.2 rfl F σ H1 S1 Q fun v H2 d δ2 q l2 S2 r => k v H2 d δ2 q (l1.trans l2) S2 r)
/-- a datum's truth -/
def truD : D → Bool
  | .none => false
  | .bool b => b
  | .int i => i != 0
  | .str y => (y.length : Int) != 0
  | .list ds => !ds.isEmpty
  | .tuple ds => !ds.isEmpty
  | .dict ds => !ds.isEmpty
/-- plain at the top: neither an object of its own kind nor an error -/
def topP : D → Bool
  | .dict ((.list _, _) :: _) => false
  | _ => true
def fitD : D → Prop
  | .str y => y.length ≤ 16777216
  | .dict ((.list _, _) :: _) => False
  | _ => True
theorem DtK.len {O : List Addr} {H : Hp} : ∀ {kvs : List (Key × V)} {ds : List (D × D)}, DtK O H kvs ds → kvs.isEmpty = ds.isEmpty
  | _, _, .nil => rfl
  | _, _, .cons _ _ => rfl
theorem tru_of {K : PySem.W.Frag} {O : List Addr} {v : V} {d : D} (r : Dt O H v d) (hf : fitD d) : TruV K v H (truD d) := by
  cases r with
  | non => rfl
  | bl b => rfl
  | int i => rfl
  | str x => exact ⟨by rw [sizeLine_eq]; exact hf, rfl⟩
  | @lst a xs ds n e q =>
    refine Or.inl ⟨xs, .inl (.inl e), ?_⟩
    cases q <;> rfl
  | @tup a xs ds n e q =>
    refine Or.inr (Or.inl ⟨xs, .inl (.inl e), ?_⟩)
    cases q <;> rfl
  | @dct a kvs ds n e q =>
    refine Or.inr (Or.inr ⟨kvs, e, ?_⟩)
    show (!ds.isEmpty) = !kvs.isEmpty
    rw [DtK.len q]
  | opq n e => exact (show False from hf).elim
  | exn => exact (show False from hf).elim
theorem rt_tru {K : PySem.W.Frag} {te : TE} (h : Rd te δ fun x δ1 => fitD x ∧ PT (truD x) δ1) : RdT (fun σ H Q => te σ H fun x H' => ∃ k, TruV K x H' k ∧ Q k H') δ PT := fun F σ H S Q k => h F σ H S _ fun v H1 x δ1 ⟨hf, p⟩ l1 S1 r1 =>
  ⟨truD x, tru_of r1 hf, k _ H1 δ1 p l1 S1⟩
theorem rd_andT {K : PySem.W.Frag} (h : Rd ta δ fun x δ1 => fitD x ∧ (truD x = true → Rd tb δ1 P) ∧ (truD x = false → P x δ1)) : Rd (tAndT K ta tb) δ P := fun F σ H S Q k => h F σ H S _ fun v H1 x δ1 ⟨hf, p1, p2⟩ l1 S1 r1 => by
  refine ⟨truD x, tru_of r1 hf, ?_⟩
  cases e : truD x with
  | true => exact iteT (p1 e F σ H1 S1 Q fun v H2 d δ2 q l2 S2 r => k v H2 d δ2 q (l1.trans l2) S2 r)
  | false => exact iteF (k v H1 x δ1 (p2 e) l1 S1 r1)
theorem rd_orT {K : PySem.W.Frag} (h : Rd ta δ fun x δ1 => fitD x ∧ (truD x = true → P x δ1) ∧ (truD x = false → Rd tb δ1 P)) : Rd (tOrT K ta tb) δ P := fun F σ H S Q k => h F σ H S _ fun v H1 x δ1 ⟨hf, p1, p2⟩ l1 S1 r1 => by
  refine ⟨truD x, tru_of r1 hf, ?_⟩
  cases e : truD x with
  | true => exact iteT (k v H1 x δ1 (p1 e) l1 S1 r1)
  | false => exact iteF (p2 e F σ H1 S1 Q fun v H2 d δ2 q l2 S2 r => k v H2 d δ2 q (l1.trans l2) S2 r)
theorem rd_notT {K : PySem.W.Frag} (h : Rd ta δ fun x δ1 => fitD x ∧ P (.bool (!truD x)) δ1) : Rd (tNotT K ta) δ P := fun F σ H S Q k => h F σ H S _ fun v H1 x δ1 ⟨hf, p⟩ l1 S1 r1 =>
  ⟨truD x, tru_of r1 hf, k _ H1 _ δ1 p l1 S1 (.bl _)⟩
end
end DL

/-! Operators and functions by data. -/
namespace DL
open PySem PySem.Spec PyProof.Rows L2
/-- two ints -/
def dI (C : Int → Int → Prop) (g : Int → Int → D) : D → D → (D → Prop) → Prop
  | .int i, .int j, P => C i j ∧ P (g i j)
  | _, _, _ => False
def dI0 (g : Int → Int → D) : D → D → (D → Prop) → Prop
  | .int i, .int j, P => P (g i j)
  | _, _, _ => False
theorem od_I {C : Int → Int → Prop} {g : Int → Int → Int} : OpD (rI C fun i j => .int (g i j)) (dI C fun i j => .int (g i j)) := fun O H x y d e P Q _ rx ry h k => by
  cases d <;> cases e <;> first | exact h.elim | skip
  cases rx
  cases ry
  exact ⟨_, _, rfl, rfl, h.1, k _ H _ h.2 (Same.refl H) (.int _)⟩
theorem od_I0 {g : Int → Int → Int} : OpD (rI0 fun i j => .int (g i j)) (dI0 fun i j => .int (g i j)) := fun O H x y d e P Q _ rx ry h k => by
  cases d <;> cases e <;> first | exact (show False from h).elim | skip
  cases rx
  cases ry
  exact ⟨_, _, rfl, rfl, k _ H _ h (Same.refl H) (.int _)⟩
theorem od_B0 {g : Int → Int → Bool} : OpD (rI0 fun i j => .bl (g i j)) (dI0 fun i j => .bool (g i j)) := fun O H x y d e P Q _ rx ry h k => by
  cases d <;> cases e <;> first | exact (show False from h).elim | skip
  cases rx
  cases ry
  exact ⟨_, _, rfl, rfl, k _ H _ h (Same.refl H) (.bl _)⟩
/-- == and != -/
def dEq : D → D → (D → Prop) → Prop := fun x y P => SeqAt.shaped x = true ∧ SeqAt.shaped y = true ∧ P (.bool (PyData.eqv x y))
def dNe : D → D → (D → Prop) → Prop := fun x y P => SeqAt.shaped x = true ∧ SeqAt.shaped y = true ∧ P (.bool (!PyData.eqv x y))
theorem od_eq {K : PySem.W.Frag} : OpD (rEqD K) dEq := fun O H x y d e P Q _ rx ry h k =>
  ⟨d, e, Dt.dp d x rx (SeqAt.canLay_of_shaped h.1), Dt.dp e y ry (SeqAt.canLay_of_shaped h.2.1), h.1, h.2.1, k _ H _ h.2.2 (Same.refl H) (.bl _)⟩
theorem od_ne {K : PySem.W.Frag} : OpD (rNeD K) dNe := fun O H x y d e P Q _ rx ry h k =>
  ⟨d, e, Dt.dp d x rx (SeqAt.canLay_of_shaped h.1), Dt.dp e y ry (SeqAt.canLay_of_shaped h.2.1), h.1, h.2.1, k _ H _ h.2.2 (Same.refl H) (.bl _)⟩
/-- is None -/
def isN : D → Bool
  | .none => true
  | _ => false
theorem isN_of {O : List Addr} {H : Hp} {v : V} {d : D} (r : Dt O H v d) : decide (v = .non) = isN d := by
  cases r <;> first | rfl | exact decide_eq_false (by intro z; cases z)
theorem od_isN : OpD (fun x y H Q => y = .non ∧ Q (.bl (decide (x = .non))) H) (fun x y P => y = .none ∧ P (.bool (isN x))) := fun O H x y d e P Q _ rx ry h k => by
  obtain ⟨rfl, p⟩ := h
  cases ry
  refine ⟨rfl, ?_⟩
  rw [isN_of rx]
  exact k _ H _ p (Same.refl H) (.bl _)
theorem od_notN : OpD (fun x y H Q => y = .non ∧ Q (.bl (!decide (x = .non))) H) (fun x y P => y = .none ∧ P (.bool (!isN x))) := fun O H x y d e P Q _ rx ry h k => by
  obtain ⟨rfl, p⟩ := h
  cases ry
  refine ⟨rfl, ?_⟩
  rw [isN_of rx]
  exact k _ H _ p (Same.refl H) (.bl _)
theorem od_isB : OpD rIsB (fun x y P => ∃ a b, x = .bool a ∧ y = .bool b ∧ P (.bool (decide (a = b)))) := fun O H x y d e P Q _ rx ry h k => by
  obtain ⟨a, b, rfl, rfl, p⟩ := h
  cases rx
  cases ry
  exact ⟨a, b, rfl, rfl, k _ H _ p (Same.refl H) (.bl _)⟩
/-- + of texts, of lists, of tuples -/
def dCat : D → D → (D → Prop) → Prop := fun x y P => ∃ xs ys, x = .list xs ∧ y = .list ys ∧ xs.length + ys.length ≤ 100000 ∧ P (.list (xs ++ ys))
theorem od_cat : OpD rCat dCat := fun O H x y d e P Q tr rx ry h k => by
  obtain ⟨xs, ys, rfl, rfl, hl, p⟩ := h
  cases rx with
  | lst n1 e1 r1 =>
    cases ry with
    | lst n2 e2 r2 =>
      refine ⟨_, _, _, _, rfl, rfl, e1, e2, ?_, fun q hq => ?_⟩
      · rw [r1.len, r2.len, sizeLine_eq]; omega
      · refine k (.ref q) _ _ p (Same.upd hq) (.lst (fun m => ?_) upd_same ((r1.app r2).le (Le.of (Same.upd hq))))
        obtain ⟨o, e⟩ := tr q m
        rw [hq] at e; cases e
/-- items -/
def dIx : D → D → (D → Prop) → Prop := fun x y P => ∃ xs i d, (x = .list xs ∨ x = .tuple xs) ∧ y = .int i ∧ atI xs i = some d ∧ P d
theorem at_dt {O : List Addr} {H : Hp} {vs : List V} {ds : List D} {i : Int} {d : D} (r : DtA O H vs ds) (h : atI ds i = some d) : ∃ v, atI vs i = some v ∧ Dt O H v d := by
  unfold atI at h ⊢
  rw [r.len]
  cases e : ixN ds.length i with
  | none =>
    rw [e] at h; cases h
  | some j =>
    rw [e] at h
    exact r.get h
theorem od_ix {K : PySem.W.Frag} : OpD (rIx K) dIx := fun O H x y d e P Q tr rx ry h k => by
  obtain ⟨xs, i, z, hx, rfl, ha, p⟩ := h
  cases ry
  rcases hx with rfl | rfl
  · cases rx with
    | lst n e r =>
      obtain ⟨v, hv, rv⟩ := at_dt r ha
      exact Or.inl ⟨_, _, i, v, rfl, rfl, .inl (.inl e), hv, k _ H _ p (Same.refl H) rv⟩
  · cases rx with
    | tup n e r =>
      obtain ⟨v, hv, rv⟩ := at_dt r ha
      exact Or.inr (Or.inl ⟨_, _, i, v, rfl, rfl, .inl (.inl e), hv, k _ H _ p (Same.refl H) rv⟩)
/-! ### functions -/
def dLen : List D → (D → Prop) → Prop := fun xs P => ∃ d n, xs = [d] ∧ ((∃ ds, (d = .list ds ∨ d = .tuple ds) ∧ n = ds.length) ∨ ∃ y, d = .str y ∧ y.length ≤ 16777216 ∧ n = y.length) ∧ P (.int (n : Nat))
theorem cd_len {K : PySem.W.Frag} : CaD (fun xs H Q => ∃ x n, xs = [x] ∧ LenV K x H n ∧ Q (.int (n : Nat)) H) dLen := fun O H vs ds P Q _ r h k => by
  obtain ⟨d, n, rfl, hd, p⟩ := h
  cases r with
  | cons a t =>
    cases t
    refine ⟨_, n, rfl, ?_, k _ H _ p (Same.refl H) (.int _)⟩
    rcases hd with ⟨ds, rfl | rfl, rfl⟩ | ⟨y, rfl, hy, rfl⟩
    · cases a with
      | lst m e q => exact Or.inl ⟨_, .inl (.inl e), q.len.symm⟩
    · cases a with
      | tup m e q => exact Or.inr ⟨_, .inl (.inl e), q.len.symm⟩
    · cases a
      exact ⟨by rw [sizeLine_eq]; exact hy, rfl⟩
def dAbs : List D → (D → Prop) → Prop := fun xs P => ∃ i, xs = [.int i] ∧ P (.int (if i < 0 then -i else i))
theorem cd_abs : CaD (fun xs H Q => ∃ i, xs = [.int i] ∧ Q (.int (if i < 0 then -i else i)) H) dAbs := fun O H vs ds P Q _ r h k => by
  obtain ⟨i, rfl, p⟩ := h
  cases r with
  | cons a t =>
    cases t
    cases a
    exact ⟨i, rfl, k _ H _ p (Same.refl H) (.int _)⟩
def dInt : List D → (D → Prop) → Prop := fun xs P => (∃ i, xs = [.int i] ∧ P (.int i)) ∨ ∃ b : Bool, xs = [.bool b] ∧ P (.int (if b then 1 else 0))
theorem cd_int : CaD (fun xs H Q => (∃ i, xs = [.int i] ∧ Q (.int i) H) ∨ ∃ k, xs = [.bl k] ∧ Q (.int (if k then 1 else 0)) H) dInt := fun O H vs ds P Q _ r h k => by
  rcases h with ⟨i, rfl, p⟩ | ⟨b, rfl, p⟩
  · cases r with
    | cons a t =>
      cases t
      cases a
      exact Or.inl ⟨i, rfl, k _ H _ p (Same.refl H) (.int _)⟩
  · cases r with
    | cons a t =>
      cases t
      cases a
      exact Or.inr ⟨b, rfl, k _ H _ p (Same.refl H) (.int _)⟩
def dGcd : List D → (D → Prop) → Prop := fun xs P => ∃ a b : Int, xs = [.int a, .int b] ∧ P (.int ((Nat.gcd a.natAbs b.natAbs : Nat) : Int))
theorem cd_gcd : CaD rGcd dGcd := fun O H vs ds P Q _ r h k => by
  obtain ⟨i, j, rfl, p⟩ := h
  cases r with
  | cons a t =>
    cases t with
    | cons b t =>
      cases t
      cases a
      cases b
      exact ⟨i, j, rfl, k _ H _ p (Same.refl H) (.int _)⟩
/-- all of a list of truths -/
def dAll : List D → (D → Prop) → Prop := fun xs P => ∃ bs : List Bool, xs = [.list (bs.map PyData.bool)] ∧ P (.bool (bs.all id))
theorem bools_of {O : List Addr} {H : Hp} : ∀ {bs : List Bool} {vs : List V}, DtA O H vs (bs.map PyData.bool) → vs = bs.map V.bl
  | [], _, h => by cases h; rfl
  | b :: bs, _, h => by
    cases h with
    | cons a t =>
      cases a
      rw [bools_of t, List.map_cons]
theorem ints_of {O : List Addr} {H : Hp} : ∀ {bs : List Int} {vs : List V}, DtA O H vs (bs.map PyData.int) → vs = bs.map V.int
  | [], _, h => by cases h; rfl
  | b :: bs, _, h => by
    cases h with
    | cons a t =>
      cases a
      rw [ints_of t, List.map_cons]
theorem of_ints {O : List Addr} {H : Hp} : ∀ (bs : List Int), DtA O H (bs.map V.int) (bs.map PyData.int)
  | [] => .nil
  | b :: bs => .cons (.int b) (of_ints bs)
theorem cd_all {K : PySem.W.Frag} : CaD (rAll K) dAll := fun O H vs ds P Q _ r h k => by
  obtain ⟨bs, rfl, p⟩ := h
  cases r with
  | cons a t =>
    cases t
    cases a with
    | lst n e q =>
      have z := bools_of q
      subst z
      exact ⟨_, bs, rfl, .inl (.inl e), k _ H _ p (Same.refl H) (.bl _)⟩
def dSum : List D → (D → Prop) → Prop := fun xs P => ∃ ns : List Int, xs = [.list (ns.map PyData.int)] ∧ P (.int ns.sum)
theorem cd_sum {K : PySem.W.Frag} : CaD (rSum K) dSum := fun O H vs ds P Q _ r h k => by
  obtain ⟨bs, rfl, p⟩ := h
  cases r with
  | cons a t =>
    cases t
    cases a with
    | lst n e q =>
      have z := ints_of q
      subst z
      exact ⟨_, bs, rfl, .inl (.inl e), k _ H _ p (Same.refl H) (.int _)⟩
/-- tuple(x), list(x) -/
def dTupOf : List D → (D → Prop) → Prop := fun xs P => ∃ ds, (xs = [.list ds] ∨ xs = [.tuple ds]) ∧ P (.tuple ds)
theorem cd_tup {K : PySem.W.Frag} : CaD (fun xs H Q => ∃ p ys, xs = [.ref p] ∧ ((SqL K H p ys ∧ ∀ l, H l = none → Q (.ref l) (upd H l (.tup ys))) ∨ (SqT K H p ys ∧ Q (.ref p) H))) dTupOf := fun O H vs ds P Q tr r h k => by
  obtain ⟨es, rfl | rfl, p⟩ := h
  · cases r with
    | cons a t =>
      cases t
      cases a with
      | lst n e q =>
        refine ⟨_, _, rfl, Or.inl ⟨.inl (.inl e), fun l hl => ?_⟩⟩
        refine k (.ref l) _ _ p (Same.upd hl) (.tup (fun m => ?_) upd_same (q.le (Le.of (Same.upd hl))))
        obtain ⟨o, e⟩ := tr l m
        rw [hl] at e; cases e
  · cases r with
    | cons a t =>
      cases t
      cases a with
      | tup n e q => exact ⟨_, _, rfl, Or.inr ⟨.inl (.inl e), k _ H _ p (Same.refl H) (.tup n e q)⟩⟩
/-- isinstance by one built-in class; by a tuple of some -/
def tyD : D → String
  | .none => "NoneType"
  | .bool _ => "bool"
  | .int _ => "int"
  | .str _ => "str"
  | .list _ => "list"
  | .tuple _ => "tuple"
  | .dict _ => "dict"
end DL

/-! Defs that are called where no repr is under way (so that repr of what they make is told). -/
namespace DL
open PySem PySem.Spec PyProof.Rows L2
/-- a def's promise, called where no repr is under way -/
structure FnG (P : Program) (w : World) (K : PySem.W.Frag) (mg : Str → Option Value) (base : Heap) (CX : CXT) (k : Nat) (f : Addr) (fd : FuncData) (ps : List Str) (sp : Sp) : Prop where
  len : ∀ vs H Q E, sp vs H Q E → vs.length = ps.length
  run : ∀ (A : Around) (outer : List Env) (s : Shared) (H : Hp) (args : Args) (us : List Value) (vs : List V) (Q : VK) (E : XK), Room k A → A.guards = some [] → Env0 P w K mg base A outer s H → BindsTo s fd args (ps.zip us) → Vals vs us → sp vs H Q E →
    codeAny (model P w) A (.call (.ref f) args) (CR CX outer P w H s Q E) s
section
variable {P : Program} {w : World} {K : PySem.W.Frag} {mg : Str → Option Value} {base : Heap} {CX : CXT} {k j : Nat} {f : Addr} {fd : FuncData} {ps N : List Str} {sp : Sp}
theorem FnG.mono (F : FnG P w K mg base CX j f fd ps sp) (h : j ≤ k) : FnG P w K mg base CX k f fd ps sp :=
  ⟨F.len, fun A o s H args us vs Q E r => F.run A o s H args us vs Q E (r.mono h)⟩
theorem fnG_ok (F : FnOk P w K mg base CX k f fd ps sp) : FnG P w K mg base CX k f fd ps sp :=
  ⟨F.len, fun A o s H args us vs Q E r _ => F.run A o s H args us vs Q E r⟩
/-- a def by its body -/
theorem fnG_body {x qual : Str} {st : Stmt} (F : Fun K x qual st f fd) (S : FnScope N ps (defScope st)) (len : ∀ vs H Q E, sp vs H Q E → vs.length = ps.length)
    (hbody : ∀ (cdv : Value) (A : Around) (outer : List Env) (s : Shared) (H : Hp) (vs : List V) (Q : VK) (E : XK), Room k (A.deeper (envOfC qual (defScope st) s.heap.objs.size f cdv)) → A.guards = some [] → sp vs H Q E →
      ∃ t, PSs (cxOf CX P w K mg base N qual (defScope st) f cdv A outer s H E) (defBody st) t ∧ t { nx := fun _ H' => Q .non H', rt := Q } (start N vs) H) : FnG P w K mg base CX (k + 1) f fd ps sp := by
  obtain ⟨oc, od, kV, doc, pm, an, cdv, ct, osl, rfl, lk, hcd⟩ := F.ex
  refine ⟨len, fun A outer s H args us vs Q E hr hg e0 hb r hsp => ?_⟩
  have KX : K.In s.heap := e0.mod.kin.keeps fun b o e => (e0.bs b o e).1
  refine codeAny_call_function hr.depth (KX _ _ lk) rfl S.co S.gen rfl (PySem.W.codeRec_of KX hcd) (hb _ _ _ _ ?_)
  have kinds : ∀ y ∈ ps.zip us, (defScope st).names.lookup y.1 = some .local ∨ ((defScope st).names.lookup y.1 = some .cell ∧ ((cellsFrom (s.heap.objs.size + 1) (defScope st).names []).lookup y.1).isSome = true) := by
    rintro ⟨n, v⟩ hy
    have hn := (List.of_mem_zip hy).1
    cases S.par n hn with
    | inl q => exact Or.inl q
    | inr q => exact Or.inr ⟨q, PySem.W.cellsFrom_some _ _ _ (Or.inl q)⟩
  refine wpAny_newFunctionEnv_cells S.kind kinds fun env he s1 ic => ?_
  cases he
  refine ⟨Heap.NoLimit.keeps (e0.mod.nolimit.keeps fun b o e => (e0.bs b o e).1) ic.toInCall.keep, codeAny_func ?_⟩
  obtain ⟨t, ht, hq⟩ := hbody cdv A outer s H vs Q E (hr.deeper _) hg hsp
  have I := inv_start (mg := mg) (base := base) (CX := CX) (P := P) (w := w) (E := E) S hr.hd e0 (len _ _ _ _ hsp) r ic
  refine wpAny_mono (ht.run [] s1 _ H _ I hq) (fun fl s' hs => ?_) fun _ _ z => z
  cases fl with
  | next =>
    obtain ⟨_, H', J, q⟩ := hs
    exact ⟨V.non, H', J.os, J.bare, J.base, J.hok, rfl, q⟩
  | ret u =>
    obtain ⟨v, _, H', J, rv, q⟩ := hs
    exact ⟨v, H', J.os, J.bare, J.base, J.hok, rv, q⟩
  | brk =>
    obtain ⟨_, _, _, q⟩ := hs
    exact q.elim
  | cont =>
    obtain ⟨_, _, _, q⟩ := hs
    exact q.elim
end
/-- the items at some places -/
def pick {α : Type} (ix : List Nat) (l : List α) : List α := ix.filterMap fun i => l[i]?
theorem Vals.pick {vs : List V} {us : List Value} (r : Vals vs us) : ∀ ix : List Nat, Vals (pick ix vs) (pick ix us)
  | [] => .nil
  | i :: ix => by
    have ih := Vals.pick r ix
    unfold DL.pick at ih ⊢
    cases e : vs[i]? with
    | none =>
      have e2 := r.none_of e
      simp only [List.filterMap_cons, e, e2]
      exact ih
    | some v =>
      obtain ⟨u, e2, rv⟩ := r.get e
      simp only [List.filterMap_cons, e, e2]
      exact .cons rv ih
theorem DtA.pick {O : List Addr} {H : Hp} {vs : List V} {us : List D} (r : DtA O H vs us) : ∀ ix : List Nat, DtA O H (pick ix vs) (pick ix us)
  | [] => .nil
  | i :: ix => by
    have ih := DtA.pick r ix
    unfold DL.pick at ih ⊢
    cases e : us[i]? with
    | none =>
      have e2 : vs[i]? = none := List.getElem?_eq_none_iff.mpr (by rw [r.len]; exact List.getElem?_eq_none_iff.mp e)
      simp only [List.filterMap_cons, e, e2]
      exact ih
    | some v =>
      obtain ⟨u, e2, rv⟩ := r.get e
      simp only [List.filterMap_cons, e, e2]
      exact .cons rv ih
/-- how n written arguments and keywords ks come to the parameters: the parameter i is the one at place ix[i] -/
def KBi (fd : FuncData) (ps : List Str) (n : Nat) (ks : List Str) (ix : List Nat) : Prop := ∀ (s : Shared) (us ws : List Value), us.length = n → ws.length = ks.length → BindsTo s fd ⟨us, ks.zip ws⟩ (ps.zip (pick ix (us ++ ws)))
theorem Fun.kbi {K : PySem.W.Frag} {x qual : Str} {st : Stmt} {f : Addr} {fd : FuncData} {ps ks : List Str} {n : Nat} {ix : List Nat} (F : Fun K x qual st f fd)
    (h : ∀ (kV doc pm : Value) (an : Option Addr) (cdv ct : Value) (us ws : List Value), us.length = n → ws.length = ks.length → bindArgs (PySem.W.fnOf x qual (defArgs st) (defBody st) (defScope st) .none kV doc pm an cdv ct) ⟨us, ks.zip ws⟩ = pure (ps.zip (pick ix (us ++ ws)))) : KBi fd ps n ks ix := by
  obtain ⟨oc, od, kV, doc, pm, an, cdv, ct, osl, rfl, lk, hcd⟩ := F.ex
  exact fun s us ws h1 h2 => .of_eq (h kV doc pm an cdv ct us ws h1 h2)
section
variable {X : Cx} {CX : CXT} {k n : Nat} {f : Addr} {fd : FuncData} {ps ks : List Str} {ix : List Nat} {sp : Sp} {E : XK} {x : Str} {p pos : Pos} {e : Expr} {es : List Expr} {kws : List Keyword} {t tk : TA}
theorem goG {pins : List (Addr × Obj)} {σ : L2.St} {H : Hp} {s : Shared} {Q : VK} {us ws : List Value} {vs zs : List V} (F : FnG X.prog X.w X.K X.mg X.base CX k f fd ps sp) (hr : Room k X.A) (hG : X.A.guards = some []) (hx : Passes CX X E) (hb : KBi fd ps n ks ix)
    (I : Inv X pins σ H s) (r : Vals vs us) (rz : Vals zs ws) (l1 : vs.length = n) (l2 : zs.length = ks.length) (h : sp (pick ix (vs ++ zs)) H Q E) : wpAny (model X.prog X.w) X.A (call (.ref f) us (ks.zip ws)) (EP X pins σ Q) X.xe s := by
  have b := hb s us ws (r.length ▸ l1) (rz.length ▸ l2)
  refine wpAny_call (codeAny_mono (F.run X.A X.stack s H _ _ _ Q E hr hG I.env0 b (DL.Vals.pick (r.append rz) ix) h) fun z s' hz => ?_)
  match z, hz with
  | .error e, hz => exact hx pins σ H s e s' I hz
  | .ok (.ret u), hz => exact I.after hz
  | .ok .next, hz => exact False.elim hz
  | .ok .brk, hz => exact False.elim hz
  | .ok .cont, hz => exact False.elim hz
/-- what a call asks: the written values, then the keywords' -/
def tGo (n m : Nat) (ix : List Nat) (sp : Sp) (E : XK) (t tk : TA) : TE := fun σ H Q => t σ H fun vs H1 => tk σ H1 fun zs H2 => vs.length = n ∧ zs.length = m ∧ sp (pick ix (vs ++ zs)) H2 Q E
/-- f(e, ..) -/
theorem pg_call (F : FnG X.prog X.w X.K X.mg X.base CX k f fd ps sp) (hr : Room k X.A) (hG : X.A.guards = some []) (hg : Gl X x) (hm : X.mg x = some (.ref f)) (hk : PySem.W.keepIn X.K (.ref f) = true) (hb : KBi fd ps n [] ix) (hx : Passes CX X E)
    (ha : PA X (e :: es) t) (hdb : (x == ("__debug__" : Str)) = false := by decide) (he : starEach (e :: es) X.env = (false, eval e X.env) :: starEach es X.env := by rfl) (hpl : (backTo pos (starEach es X.env)).any (·.1) = false := by rfl) :
    PE X (.Call (.Name x p) (e :: es) [] pos) (tGo n 0 ix sp E t tNil) :=
  ⟨fun pins s σ H Q I h => wpAny_Call_Name_kw (ld_glob I hg hm (PySem.W.callWith_K (h₀ := X.base) I.ok.mod.kin hk (thn (ha.run pos pins s σ H _ I h) fun us s1 ⟨vs, H1, I1, r, l1, l2, q⟩ =>
    ⟨I1.kIn, goG (ws := []) (zs := []) F hr hG hx hb I1 r .nil l1 rfl q⟩) he hpl) hdb)⟩
/-- f(k = e, ..) -/
theorem pg_callK0 (F : FnG X.prog X.w X.K X.mg X.base CX k f fd ps sp) (hr : Room k X.A) (hG : X.A.guards = some []) (hg : Gl X x) (hm : X.mg x = some (.ref f)) (hk : PySem.W.keepIn X.K (.ref f) = true) (hb : KBi fd ps 0 ks ix) (hx : Passes CX X E)
    (hkw : PK X kws tk) (hall : (backToKw pos (keywordEach kws X.env)).all (·.1.isSome) = true := by rfl) (hks : (backToKw pos (keywordEach kws X.env)).filterMap (·.1) = ks := by rfl)
    (hdb : (x == ("__debug__" : Str)) = false := by decide) (hpl : ((backTo pos (starEach [] X.env)).any (·.1) || (backToKw pos (keywordEach kws X.env)).any (·.1.isNone)) = false := by rfl) :
    PE X (.Call (.Name x p) [] kws pos) (tGo 0 ks.length ix sp E tNil tk) :=
  ⟨fun pins s σ H Q I h => wpAny_Call_Name_kw (ld_glob I hg hm (PySem.W.callWith_KW0 (h₀ := X.base) I.ok.mod.kin hk hall (thn (hkw.run pos pins s σ H _ I h) fun ws s1 ⟨zs, H1, I1, r, l1, l2, q⟩ =>
    ⟨I1.kIn, by rw [hks]; exact goG (us := []) (vs := []) F hr hG hx hb I1 .nil r rfl l2 q⟩) hpl) hdb)⟩
/-- f(e, .., k = e, ..) -/
theorem pg_callK (F : FnG X.prog X.w X.K X.mg X.base CX k f fd ps sp) (hr : Room k X.A) (hG : X.A.guards = some []) (hg : Gl X x) (hm : X.mg x = some (.ref f)) (hk : PySem.W.keepIn X.K (.ref f) = true) (hb : KBi fd ps n ks ix) (hx : Passes CX X E)
    (ha : PA X (e :: es) t) (hkw : PK X kws tk) (hall : (backToKw pos (keywordEach kws X.env)).all (·.1.isSome) = true := by rfl) (hks : (backToKw pos (keywordEach kws X.env)).filterMap (·.1) = ks := by rfl)
    (hdb : (x == ("__debug__" : Str)) = false := by decide) (he : starEach (e :: es) X.env = (false, eval e X.env) :: starEach es X.env := by rfl)
    (hpl : ((backTo pos (starEach (e :: es) X.env)).any (·.1) || (backToKw pos (keywordEach kws X.env)).any (·.1.isNone)) = false := by rfl) :
    PE X (.Call (.Name x p) (e :: es) kws pos) (tGo n ks.length ix sp E t tk) :=
  ⟨fun pins s σ H Q I h => wpAny_Call_Name_kw (ld_glob I hg hm (PySem.W.callWith_KW (h₀ := X.base) I.ok.mod.kin hk hall (thn (ha.run pos pins s σ H _ I h) fun us s1 ⟨vs, H1, I1, r, q⟩ =>
    thn (hkw.run pos pins s1 σ H1 _ I1 q) fun ws s2 ⟨zs, H2, I2, rz, l1, l2, q2⟩ => ⟨I2.kIn, by rw [hks]; exact goG F hr hG hx hb I2 r rz l1 l2 q2⟩) hpl he) hdb)⟩
/-! ### repr -/
/-- what repr shows as d: data without dicts, or the empty dict, or one of flat values -/
inductive RpV (O : List Addr) (H : Hp) : V → D → Prop
  | dp {v : V} {d : D} : Dt O H v d → d.canLay0 = true → RpV O H v d
  | nod {v : V} : Dt O H v (.dict []) → RpV O H v (.dict [])
def rRepr : List V → Hp → VK → Prop := fun xs H Q => ∃ (O : List Addr) (v : V) (d : D), xs = [v] ∧ RpV O H v d ∧ d.showable = true ∧ d.depth ≤ 10 ∧ d.shown.length ≤ 16777216 ∧ Q (.str d.shown) H
theorem Dt.reads {pins : List (Addr × Obj)} {σ : L2.St} {O : List Addr} {H : Hp} {s : Shared} {d : D} {v : V} {u : Value} (I : Inv X pins σ H s) (h : Dt O H v d) (c : d.canLay0 = true) (r : RelV v u) : ∃ as, Reads s.heap u d as :=
  Dp.reads I d v u (Dt.dp d v h c) r
theorem dict_reads {pins : List (Addr × Obj)} {σ : L2.St} {O : List Addr} {H : Hp} {s : Shared} {a : Addr} (I : Inv X pins σ H s) (h : Dt O H (.ref a) (.dict [])) : (a == sysModules) = false ∧ Reads s.heap (.ref a) (.dict []) [a] := by
  cases h with
  | dct n e r =>
    cases r
    obtain ⟨_, hs, vs, rv, o, es, ep, h1, h2, h3, _, h5, _⟩ := (show ObjOk X.prog X.w H s.heap a (.dK []) from I.hok a _ e)
    cases rv
    have e0 : es.toList = [] := by
      revert h5
      generalize es.toList = l
      intro h5
      cases h5
      rfl
    refine ⟨hs, ?_⟩
    have q := Reads.dict (h := s.heap) (a := a) (kvs := []) (as := []) (bs := []) h1 h2.1 h3 (by rw [e0]; exact .nil) (by rw [e0]; exact .nil)
    exact q
theorem call_repr {k : Nat} (hr : Room k X.A) (hG : X.A.guards = some []) : CallR X (.builtin "repr") rRepr := by
  intro pins s σ H xs us Q I r h
  obtain ⟨O, v, d, rfl, hd, hs, hp, hl, q⟩ := h
  obtain ⟨u, rfl, rv⟩ := vals1 r
  have hl' : d.shown.length ≤ sizeLine := by rw [sizeLine_eq]; exact hl
  have hu := hr.un
  cases v with
  | ref a =>
    obtain rfl : u = Value.ref a := rv
    have fin : ∀ as, Reads s.heap (.ref a) d as → (d.hasDict = true → sysModules ∉ as) → wpAny (model X.prog X.w) X.A (call (.builtin "repr") [.ref a]) (EP X pins σ Q) X.xe s := fun as R hm =>
      repr_of_reads' R hs hm hG (by omega) (fun _ _ e => e) (fun h' u tk kk => ⟨.str d.shown, H, I.kept (t' := tk) kk, ⟨u, rfl⟩, q⟩) hl'
    cases hd with
    | dp h c =>
      obtain ⟨as, R⟩ := Dt.reads I h c rfl
      exact fin as R fun z => by rw [PyData.hasDict_of_canLay d c] at z; cases z
    | nod h =>
      obtain ⟨hm, R⟩ := dict_reads I h
      exact fin _ R fun _ z => by
        rw [List.mem_singleton] at z
        rw [z] at hm
        simp at hm
  | non =>
    cases hd with
    | dp h c =>
      cases h
      cases rv
      exact PySem.P.repr_of_none ⟨.str _, H, I.tok _, ⟨_, rfl⟩, by simpa [PyData.shown] using q⟩
    | nod h => cases h
  | bl b =>
    cases hd with
    | dp h c =>
      cases h
      cases rv
      exact PySem.P.repr_of_bool ⟨.str _, H, I.tok _, ⟨_, rfl⟩, by simpa [PyData.shown] using q⟩
    | nod h => cases h
  | int i =>
    cases hd with
    | dp h c =>
      cases h
      obtain ⟨t, rfl⟩ := rv
      exact PySem.P.repr_of_int (by simpa [PyData.showable] using hs) ⟨.str _, H, I.tok _, ⟨_, rfl⟩, by simpa [PyData.shown] using q⟩
    | nod h => cases h
  | str x =>
    cases hd with
    | dp h c =>
      cases h
      obtain ⟨t, rfl⟩ := rv
      exact PySem.P.repr_of_str ⟨.str _, H, I.tok _, ⟨_, rfl⟩, by simpa [PyData.shown] using q⟩ (by simpa [PyData.shown] using hl')
    | nod h => cases h
  | _ => (cases hd with
    | dp h c => cases h
    | nod h => cases h)
end
/-- repr by data -/
def dRepr : List D → (D → Prop) → Prop := fun xs P => ∃ d, xs = [d] ∧ (d.canLay0 = true ∨ d = .dict []) ∧ d.showable = true ∧ d.depth ≤ 10 ∧ d.shown.length ≤ 16777216 ∧ P (.str d.shown)
theorem cd_repr : CaD rRepr dRepr := fun O H vs ds P Q _ r h k => by
  obtain ⟨d, rfl, hc, hs, hp, hl, p⟩ := h
  cases r with
  | cons a t =>
    cases t
    refine ⟨O, _, d, rfl, ?_, hs, hp, hl, k _ H _ p (Same.refl H) (.str _)⟩
    rcases hc with c | rfl
    · exact .dp a c
    · exact .nod a
/-! ### isinstance -/
theorem ty_of {K : PySem.W.Frag} {O : List Addr} {H : Hp} {v : V} {d : D} (r : Dt O H v d) (ht : topP d = true) : TyX K H v (.type (tyD d)) := by
  cases r with
  | opq n e => cases ht
  | exn => cases ht
  | non => exact .base .non
  | bl b => exact .base (.bl b)
  | int i => exact .base (.int i)
  | str x => exact .base (.str x)
  | lst n e q => exact .base (.lst e)
  | tup n e q => exact .base (.tup e)
  | dct n e q => exact .base (.dK e)
section
variable {δ : List DV} {P : D → List DV → Prop} {te : TE} {K : PySem.W.Frag}
theorem rd_isi {n : String} (g : D → Bool) (hg : ∀ d, kitB (tyD d) n = some (g d)) (h : Rd te δ fun x δ1 => topP x = true ∧ P (.bool (g x)) δ1) : Rd (tCB (rIsi K) (tCons te (tCons (tC (.ty n)) tNil))) δ P := fun F σ H S Q k =>
  h F σ H S _ fun v H1 x δ1 ⟨tp, p⟩ l1 S1 r1 => ⟨v, .ty n, .type (tyD x), .type n, g x, rfl, .ty n, ty_of r1 tp, kit_ty (hg x), k _ H1 _ δ1 p l1 S1 (.bl _)⟩
theorem rd_isi2 {n m : String} (g1 g2 : D → Bool) (h1 : ∀ d, kitB (tyD d) n = some (g1 d)) (h2 : ∀ d, kitB (tyD d) m = some (g2 d)) (h : Rd te δ fun x δ1 => topP x = true ∧ P (.bool (g1 x || g2 x)) δ1) :
    Rd (tCB (rIsiT K) (tCons te (tCons (tTup (tCons (tC (.ty n)) (tCons (tC (.ty m)) tNil))) tNil))) δ P := fun F σ H S Q k =>
  h F σ H S _ fun v H1 x δ1 ⟨tp, p⟩ l1 S1 r1 => ⟨by show 2 ≤ sizeLine; decide, fun q hq => by
    have s : Same H1 (upd H1 q (.tup [.ty n, .ty m])) := Same.upd hq
    refine ⟨v, q, [.ty n, .ty m], .type (tyD x), [.type n, .type m], g1 x || g2 x, rfl, upd_same, .cons (.ty n) (.cons (.ty m) .nil), ty_of (r1.le (Le.of s)) tp, ?_, k _ _ _ δ1 p (l1.trans (Le.of s)) (S1.same s) (.bl _)⟩
    refine kitAny_cons (kit_ty (h1 x)) (fun z => ?_) fun z => by rw [z]; rfl
    rw [z, Bool.false_or]
    exact kitAny_cons (kit_ty (h2 x)) (fun z => by rw [z]; exact kitAny_nil) fun z => z⟩
end
def isInt : D → Bool
  | .int _ => true
  | .bool _ => true
  | _ => false
def isBool : D → Bool
  | .bool _ => true
  | _ => false
def isLst : D → Bool
  | .list _ => true
  | _ => false
def isTup : D → Bool
  | .tuple _ => true
  | _ => false
theorem kt_int : ∀ d, kitB (tyD d) "int" = some (isInt d)
  | .none => (by decide +kernel : kitB "NoneType" "int" = some false)
  | .bool _ => (by decide +kernel : kitB "bool" "int" = some true)
  | .int _ => (by decide +kernel : kitB "int" "int" = some true)
  | .str _ => (by decide +kernel : kitB "str" "int" = some false)
  | .list _ => (by decide +kernel : kitB "list" "int" = some false)
  | .tuple _ => (by decide +kernel : kitB "tuple" "int" = some false)
  | .dict _ => (by decide +kernel : kitB "dict" "int" = some false)
theorem kt_bool : ∀ d, kitB (tyD d) "bool" = some (isBool d)
  | .none => (by decide +kernel : kitB "NoneType" "bool" = some false)
  | .bool _ => (by decide +kernel : kitB "bool" "bool" = some true)
  | .int _ => (by decide +kernel : kitB "int" "bool" = some false)
  | .str _ => (by decide +kernel : kitB "str" "bool" = some false)
  | .list _ => (by decide +kernel : kitB "list" "bool" = some false)
  | .tuple _ => (by decide +kernel : kitB "tuple" "bool" = some false)
  | .dict _ => (by decide +kernel : kitB "dict" "bool" = some false)
theorem kt_list : ∀ d, kitB (tyD d) "list" = some (isLst d)
  | .none => (by decide +kernel : kitB "NoneType" "list" = some false)
  | .bool _ => (by decide +kernel : kitB "bool" "list" = some false)
  | .int _ => (by decide +kernel : kitB "int" "list" = some false)
  | .str _ => (by decide +kernel : kitB "str" "list" = some false)
  | .list _ => (by decide +kernel : kitB "list" "list" = some true)
  | .tuple _ => (by decide +kernel : kitB "tuple" "list" = some false)
  | .dict _ => (by decide +kernel : kitB "dict" "list" = some false)
theorem kt_tuple : ∀ d, kitB (tyD d) "tuple" = some (isTup d)
  | .none => (by decide +kernel : kitB "NoneType" "tuple" = some false)
  | .bool _ => (by decide +kernel : kitB "bool" "tuple" = some false)
  | .int _ => (by decide +kernel : kitB "int" "tuple" = some false)
  | .str _ => (by decide +kernel : kitB "str" "tuple" = some false)
  | .list _ => (by decide +kernel : kitB "list" "tuple" = some false)
  | .tuple _ => (by decide +kernel : kitB "tuple" "tuple" = some true)
  | .dict _ => (by decide +kernel : kitB "dict" "tuple" = some false)
end DL

/-! Statements by data. -/
namespace DL
open PySem PySem.Spec PyProof.Rows L2
/-- what is wanted behind a statement, by data -/
structure KD where
  nx : List DV → Prop
  rt : D → List DV → Prop
  bk : List DV → Prop := fun _ => False
  ct : List DV → Prop := fun _ => False
/-- the ends of a def at work: what was set apart at the entry (O0) is none of what is handed back -/
structure EndsOk (H0 : Hp) (M O0 : List Addr) (tmp : List (V × D)) (K : KD) (E : Ends) : Prop where
  nx : ∀ O δ σ H, (∀ a ∈ O0, a ∈ O) → Sx ⟨H0, M, O, [], tmp⟩ δ σ H → K.nx δ → E.nx σ H
  bk : ∀ O δ σ H, (∀ a ∈ O0, a ∈ O) → Sx ⟨H0, M, O, [], tmp⟩ δ σ H → K.bk δ → E.bk σ H
  ct : ∀ O δ σ H, (∀ a ∈ O0, a ∈ O) → Sx ⟨H0, M, O, [], tmp⟩ δ σ H → K.ct δ → E.ct σ H
  rt : ∀ O δ σ H v d, (∀ a ∈ O0, a ∈ O) → Sx ⟨H0, M, O, [], tmp⟩ δ σ H → Dt O0 H v d → K.rt d δ → E.rt v H
def Rs (t : TS) (δ : List DV) (K : KD) : Prop := ∀ (H0 : Hp) (M O0 O : List Addr) (tmp : List (V × D)) (σ : L2.St) (H : Hp) (E : Ends), (∀ a ∈ O0, a ∈ O) → ((∀ a ∈ O0, ∃ o, H0 a = some o) ∧ ∀ a ∈ M, a ∈ O0) → Sx ⟨H0, M, O, [], tmp⟩ δ σ H → EndsOk H0 M O0 tmp K E → t E σ H
section
variable {F : Fm} {δ : List DV} {K : KD} {te : TE} {ta : TA} {tt : TT} {t u : TS} {i j : Nat} {σ : L2.St} {H H' : Hp} {p : Addr} {d : D}
/-- a slot is stored -/
theorem Sx.set {v : V} (S : Sx F δ σ H) (hi : i < δ.length) (r : Dt F.O H v d) : Sx F (δ.set i (.dat d)) (σ.set i (some v)) H := by
  have hs : i < σ.length := S.len ▸ hi
  have back : ∀ j x p, (δ.set i (.dat d))[j]? = some x → ownOf x = some p → δ[j]? = some x := fun j x p e o => by
    by_cases z : i = j
    · subst z
      rw [List.getElem?_set_self hi] at e
      cases e
      cases o
    · rw [List.getElem?_set_ne z] at e
      exact e
  refine ⟨S.base, S.trk, by rw [List.length_set, List.length_set]; exact S.len, fun j x e => ?_, fun j1 j2 x y p e1 e2 o1 o2 => S.own j1 j2 x y p (back _ _ _ e1 o1) (back _ _ _ e2 o2) o1 o2, S.mo, S.ph, S.phn, fun q m j x e o => S.pho q m j x (back _ _ _ e o) o, S.tmp⟩
  by_cases z : i = j
  · subst z
    rw [List.getElem?_set_self hi] at e
    cases e
    exact ⟨some v, List.getElem?_set_self hs, v, rfl, r⟩
  · rw [List.getElem?_set_ne z] at e
    obtain ⟨y, ey, q⟩ := S.sl j x e
    exact ⟨y, by rw [List.getElem?_set_ne z]; exact ey, q⟩
theorem rs_imp {K' : KD} (h : Rs t δ K') (n : ∀ δ', K'.nx δ' → K.nx δ') (r : ∀ d δ', K'.rt d δ' → K.rt d δ') (b : ∀ δ', K'.bk δ' → K.bk δ') (c : ∀ δ', K'.ct δ' → K.ct δ') : Rs t δ K := fun H0 M O0 O tmp σ H E s tr S EO =>
  h H0 M O0 O tmp σ H E s tr S ⟨fun O δ σ H s S k => EO.nx O δ σ H s S (n δ k), fun O δ σ H s S k => EO.bk O δ σ H s S (b δ k), fun O δ σ H s S k => EO.ct O δ σ H s S (c δ k), fun O δ σ H v d s S r' k => EO.rt O δ σ H v d s S r' (r d δ k)⟩
theorem rs_seq (h : Rs t δ { K with nx := fun δ' => Rs u δ' K }) : Rs (tSeq t u) δ K := fun H0 M O0 O tmp σ H E s tr S EO =>
  h H0 M O0 O tmp σ H { E with nx := u E } s tr S ⟨fun O' δ' σ' H' s' S' k => k H0 M O0 O' tmp σ' H' E s' tr S' EO, EO.bk, EO.ct, EO.rt⟩
theorem rs_next (h : K.nx δ) : Rs tNext δ K := fun H0 M O0 O tmp σ H E s tr S EO => EO.nx O δ σ H s S h
theorem rs_brk (h : K.bk δ) : Rs tBreak δ K := fun H0 M O0 O tmp σ H E s tr S EO => EO.bk O δ σ H s S h
theorem rs_cont (h : K.ct δ) : Rs tCont δ K := fun H0 M O0 O tmp σ H E s tr S EO => EO.ct O δ σ H s S h
theorem rs_drop (h : Rd te δ fun _ δ1 => K.nx δ1) : Rs (tDrop te) δ K := fun H0 M O0 O tmp σ H E s tr S EO => h _ σ H S _ fun v H1 d δ1 p l1 S1 r1 => EO.nx O δ1 σ H1 s S1 p
theorem rs_ret (h : Rd te δ fun d δ1 => K.rt d δ1) : Rs (tRet te) δ K := fun H0 M O0 O tmp σ H E s tr S EO => h _ σ H S _ fun v H1 d δ1 p l1 S1 r1 => EO.rt O δ1 σ H1 v d s S1 (r1.anti s) p
theorem rs_retN (h : K.rt .none δ) : Rs tRetN δ K := fun H0 M O0 O tmp σ H E s tr S EO => EO.rt O δ σ H .non .none s S .non h
theorem rs_if (h : RdT tt δ fun b δ1 => (b = true → Rs t δ1 K) ∧ (b = false → Rs u δ1 K)) : Rs (tIfS tt t u) δ K := fun H0 M O0 O tmp σ H E s tr S EO => h _ σ H S _ fun b H1 δ1 p l1 S1 => by
  cases b with
  | true => exact iteT (p.1 rfl H0 M O0 O tmp σ H1 E s tr S1 EO)
  | false => exact iteF (p.2 rfl H0 M O0 O tmp σ H1 E s tr S1 EO)
theorem rs_asg (h : Rd te δ fun d δ1 => i < δ1.length ∧ K.nx (δ1.set i (.dat d))) : Rs (tAsg te (gName i)) δ K := fun H0 M O0 O tmp σ H E s tr S EO => h _ σ H S _ fun v H1 d δ1 ⟨hi, p⟩ l1 S1 r1 =>
  EO.nx O _ _ H1 s (S1.set hi r1) p
theorem rs_par (h : RdA ta δ fun ds δ1 => ∃ x y, ds = [x, y] ∧ i < δ1.length ∧ j < δ1.length ∧ K.nx ((δ1.set i (.dat x)).set j (.dat y))) : Rs (tPar i j ta) δ K := fun H0 M O0 O tmp σ H E s tr S EO => h _ σ H S _ fun vs H1 ds δ1 ⟨x, y, e, hi, hj, p⟩ l1 S1 r1 => by
  subst e
  cases r1 with
  | cons a r =>
    cases r with
    | cons b r =>
      cases r
      exact ⟨_, _, rfl, EO.nx O _ _ H1 s ((S1.set hi a).set (by rw [List.length_set]; exact hj) b) p⟩
theorem rs_par3 {l : Nat} (h : RdA ta δ fun ds δ1 => ∃ x y z, ds = [x, y, z] ∧ i < δ1.length ∧ j < δ1.length ∧ l < δ1.length ∧ K.nx (((δ1.set i (.dat x)).set j (.dat y)).set l (.dat z))) : Rs (tPar3 i j l ta) δ K := fun H0 M O0 O tmp σ H E s tr S EO => h _ σ H S _ fun vs H1 ds δ1 ⟨x, y, z, e, hi, hj, hl, p⟩ l1 S1 r1 => by
  subst e
  cases r1 with
  | cons a r =>
    cases r with
    | cons b r =>
      cases r with
      | cons c r =>
        cases r
        exact ⟨_, _, _, rfl, EO.nx O _ _ H1 s (((S1.set hi a).set (by rw [List.length_set]; exact hj) b).set (by rw [List.length_set, List.length_set]; exact hl) c) p⟩
/-! ### targets -/
def Gd (g : TG) (sl : List Nat) (f : D → List DV → (List DV → Prop) → Prop) : Prop := ∀ (F : Fm) (δ : List DV) (σ : L2.St) (H : Hp) (v : V) (d : D) (N : List DV → Prop) (Q : L2.St → Hp → Prop), Sx F δ σ H → Dt F.O H v d → f d δ N →
  (∀ δ' σ', N δ' → Sx F δ' σ' H → ((∀ k, k ∉ sl → σ'[k]? = σ[k]?) ∧ σ'.length = σ.length) → Q σ' H) → g v σ H Q
def Gds (g : TGs) (sl : List Nat) (f : List D → List DV → (List DV → Prop) → Prop) : Prop := ∀ (F : Fm) (δ : List DV) (σ : L2.St) (H : Hp) (vs : List V) (ds : List D) (N : List DV → Prop) (Q : L2.St → Hp → Prop), Sx F δ σ H → DtA F.O H vs ds → f ds δ N →
  (∀ δ' σ', N δ' → Sx F δ' σ' H → ((∀ k, k ∉ sl → σ'[k]? = σ[k]?) ∧ σ'.length = σ.length) → Q σ' H) → g vs σ H Q
theorem gd_name : Gd (gName i) [i] fun d δ N => i < δ.length ∧ N (δ.set i (.dat d)) := fun F δ σ H v d N Q S r h k => k _ _ h.2 (S.set h.1 r) ⟨fun j hj => by
  rw [List.mem_singleton] at hj
  exact List.getElem?_set_ne (fun z => hj z.symm), List.length_set⟩
theorem gd_nil : Gds gNil [] fun ds δ N => ds = [] ∧ N δ := fun F δ σ H vs ds N Q S r h k => by
  obtain ⟨rfl, h⟩ := h
  cases r
  exact ⟨rfl, k _ _ h S ⟨fun _ _ => rfl, rfl⟩⟩
theorem gd_cons {g : TG} {gs : TGs} {s1 s2 : List Nat} {f : D → List DV → (List DV → Prop) → Prop} {fs : List D → List DV → (List DV → Prop) → Prop} (hg : Gd g s1 f) (hs : Gds gs s2 fs) : Gds (gCons g gs) (s1 ++ s2) fun ds δ N => ∃ d r, ds = d :: r ∧ f d δ fun δ1 => fs r δ1 N := fun F δ σ H vs ds N Q S r h k => by
  obtain ⟨d, es, rfl, h⟩ := h
  cases r with
  | cons a r => exact ⟨_, _, rfl, hg F δ σ H _ d _ _ S a h fun δ' σ' n S' w1 => hs F δ' σ' H _ es N Q S' r n fun δ2 σ2 n2 S2 w2 => k δ2 σ2 n2 S2 ⟨fun j hj =>
    (w2.1 j fun z => hj (List.mem_append_right _ z)).trans (w1.1 j fun z => hj (List.mem_append_left _ z)), w2.2.trans w1.2⟩⟩
theorem gd_tup {Kf : PySem.W.Frag} {n : Nat} {sl : List Nat} {gs : TGs} {fs : List D → List DV → (List DV → Prop) → Prop} (hs : Gds gs sl fs) : Gd (gTup Kf n gs) sl fun d δ N => ∃ ds, d = .tuple ds ∧ ds.length = n ∧ fs ds δ N := fun F δ σ H v d N Q S r h k => by
  obtain ⟨ds, rfl, hl, h⟩ := h
  cases r with
  | tup m e q => exact ⟨_, _, rfl, .inl (.inl e), q.len.trans hl, hs F δ σ H _ ds N Q S q h k⟩
theorem rs_asgG {g : TG} {sl : List Nat} {f : D → List DV → (List DV → Prop) → Prop} (hg : Gd g sl f) (h : Rd te δ fun d δ1 => f d δ1 K.nx) : Rs (tAsg te g) δ K := fun H0 M O0 O tmp σ H E s tr S EO => h _ σ H S _ fun v H1 d δ1 p l1 S1 r1 =>
  hg _ δ1 σ H1 v d _ _ S1 r1 p fun δ' σ' k S' _ => EO.nx O δ' σ' H1 s S' k
end
end DL

/-! Lists under way, loops, comprehensions. -/
namespace DL
open PySem PySem.Spec PyProof.Rows L2
section
variable {F : Fm} {δ δ' : List DV} {K : KD} {te tb' : TE} {ta tr : TA} {tt : TT} {t u : TS} {i j : Nat} {σ : L2.St} {H H' : Hp} {p : Addr} {d : D} {ds : List D} {P : D → List DV → Prop}
theorem Sl.new {x : DV} {y : Option V} {o : HO} {ph : List (Addr × List D)} {tmp : List (V × D)} (h : Sl F H x y) (hp : H p = none) : Sl ⟨F.H0, F.M, p :: F.O, ph, tmp⟩ (upd H p o) x y := by
  have ls : ∀ b q ds, LsAt F H b q ds → LsAt ⟨F.H0, F.M, p :: F.O, ph, tmp⟩ (upd H p o) b q ds := fun b q ds ⟨h1, h2, h3, h4, xs, e, r⟩ =>
    ⟨List.mem_cons_of_mem _ h1, h2, h3, h4, xs, by rw [upd_ne (ne_of_none e hp)]; exact e, r.new hp⟩
  cases x with
  | un => trivial
  | dat d =>
    obtain ⟨v, e, r⟩ := h
    exact ⟨v, e, r.new hp⟩
  | ls b q ds => exact ⟨h.1, ls b q ds h.2⟩
  | tray b q f =>
    obtain ⟨e, ds, td, l⟩ := h
    exact ⟨e, ds, td, ls b q ds l⟩
/-- a new list, under way -/
theorem Sx.addph {vs : List V} (S : Sx F δ σ H) (hp : H p = none) (r : DtA F.O H vs ds) (hl : ds.length ≤ 100000) : Sx ⟨F.H0, F.M, p :: F.O, (p, ds) :: F.ph, F.tmp⟩ δ σ (upd H p (.lst vs)) := by
  have sm : Same H (upd H p (.lst vs)) := Same.upd hp
  have nO := S.notO hp
  refine ⟨fun a o m e => sm _ _ (S.base a o m e), fun a m => ?_, S.len, fun i x e => ?_, S.own, fun a m => List.mem_cons_of_mem _ (S.mo a m), fun q m => ?_, ?_, fun q m i x e o => ?_, fun q m => (S.tmp q m).new hp⟩
  · rcases List.mem_cons.mp m with z | z
    · rw [z]; exact ⟨_, upd_same⟩
    · obtain ⟨o, e⟩ := S.trk a z
      exact ⟨o, sm _ _ e⟩
  · obtain ⟨y, ey, q⟩ := S.sl i x e
    exact ⟨y, ey, q.new hp⟩
  · rcases List.mem_cons.mp m with z | z
    · rw [z]
      exact ⟨List.mem_cons_self, fun _ => S.no0 hp, (fun z => nomatch z), hl, vs, upd_same, r.new hp⟩
    · obtain ⟨h1, h2, h3, h4, xs, e, q⟩ := S.ph q z
      exact ⟨List.mem_cons_of_mem _ h1, h2, h3, h4, xs, by rw [upd_ne (ne_of_none e hp)]; exact e, q.new hp⟩
  · refine List.nodup_cons.mpr ⟨fun z => ?_, S.phn⟩
    obtain ⟨q, hq, e⟩ := List.mem_map.mp z
    have e' : q.1 = p := e
    exact nO (by rw [← e']; exact (S.ph q hq).1)
  · rcases List.mem_cons.mp m with z | z
    · rw [z] at o
      obtain ⟨y, _, r⟩ := S.sl i x e
      cases x with
      | un => cases o
      | dat d => cases o
      | ls b q ds =>
        cases o
        exact nO r.2.1
      | tray b q f =>
        cases o
        obtain ⟨_, _, _, l⟩ := r
        exact nO l.1
    · exact S.pho q z i x e o
/-- the list under way comes into a slot -/
theorem Sx.phslot {H0 : Hp} {M O : List Addr} {ph : List (Addr × List D)} {tmp : List (V × D)} (S : Sx ⟨H0, M, O, (p, ds) :: ph, tmp⟩ δ σ H) (hi : i < δ.length) : Sx ⟨H0, M, O, ph, tmp⟩ (δ.set i (.ls true p ds)) (σ.set i (some (.ref p))) H := by
  have hs : i < σ.length := S.len ▸ hi
  have other : ∀ j y, i ≠ j → δ[j]? = some y → ownOf y ≠ some p := fun j y _ e o => S.pho _ List.mem_cons_self j y e o
  have hph := S.phn
  rw [List.map_cons, List.nodup_cons] at hph
  refine ⟨S.base, S.trk, by rw [List.length_set, List.length_set]; exact S.len, fun j x e => ?_, fun j1 j2 x y q e1 e2 o1 o2 => ?_, S.mo, fun q m => S.ph q (List.mem_cons_of_mem _ m), hph.2, fun q m j x e o => ?_, S.tmp⟩
  · by_cases z : i = j
    · subst z
      rw [List.getElem?_set_self hi] at e
      cases e
      exact ⟨_, List.getElem?_set_self hs, rfl, S.ph _ List.mem_cons_self⟩
    · rw [List.getElem?_set_ne z] at e
      obtain ⟨y, ey, q⟩ := S.sl j x e
      exact ⟨y, by rw [List.getElem?_set_ne z]; exact ey, q⟩
  · by_cases z1 : i = j1
    · by_cases z2 : i = j2
      · rw [← z1, ← z2]
      · rw [← z1, List.getElem?_set_self hi] at e1
        rw [List.getElem?_set_ne z2] at e2
        cases e1
        cases o1
        exact absurd o2 (other j2 y z2 e2)
    · by_cases z2 : i = j2
      · rw [← z2, List.getElem?_set_self hi] at e2
        rw [List.getElem?_set_ne z1] at e1
        cases e2
        cases o2
        exact absurd o1 (other j1 x z1 e1)
      · rw [List.getElem?_set_ne z1] at e1
        rw [List.getElem?_set_ne z2] at e2
        exact S.own j1 j2 x y q e1 e2 o1 o2
  · by_cases z : i = j
    · subst z
      rw [List.getElem?_set_self hi] at e
      cases e
      have o' : p = q.1 := Option.some.inj o
      exact hph.1 (List.mem_map.mpr ⟨q, m, o'.symm⟩)
    · rw [List.getElem?_set_ne z] at e
      exact S.pho q (List.mem_cons_of_mem _ m) j x e o
/-- an item comes to the list under way -/
theorem Sx.phapp {H0 : Hp} {M O : List Addr} {ph : List (Addr × List D)} {tmp : List (V × D)} {v : V} {xs : List V} (S : Sx ⟨H0, M, O, (p, ds) :: ph, tmp⟩ δ σ H) (hx : H p = some (.lst xs)) (r : Dt O H v d) (hl : ds.length < 100000) :
    Sx ⟨H0, M, O, (p, ds ++ [d]) :: ph, tmp⟩ δ σ (upd H p (.lst (xs ++ [v]))) := by
  obtain ⟨pO, pn, _, _, xs', e', rx⟩ := S.ph _ List.mem_cons_self
  rw [hx] at e'
  cases e'
  have k : ∀ a o, a ≠ p → H a = some o → upd H p (.lst (xs ++ [v])) a = some o := fun a o n e => by rw [upd_ne n]; exact e
  have lO : Le O H (upd H p (.lst (xs ++ [v]))) := fun a o n e => k a o (fun z => n (z ▸ pO)) e
  have hph := S.phn
  rw [List.map_cons, List.nodup_cons] at hph
  have ls : ∀ b q ds, q ≠ p → LsAt ⟨H0, M, O, (p, ds) :: ph, tmp⟩ H b q ds → LsAt ⟨H0, M, O, (p, ds) :: ph, tmp⟩ (upd H p (.lst (xs ++ [v]))) b q ds := fun b q ds n ⟨h1, h2, h3, h4, xs, e, r⟩ => ⟨h1, h2, h3, h4, xs, k _ _ n e, r.le lO⟩
  refine ⟨fun a o m e => k _ _ (fun z => ?_) (S.base a o m e), fun a m => ?_, S.len, fun i x e => ?_, S.own, S.mo, fun q m => ?_, S.phn, fun q m i x e o => ?_, fun q m => (S.tmp q m).le lO⟩
  · subst z
    have z2 : H0 a = none := pn rfl
    have e1 : H0 a = some o := e
    rw [z2] at e1; cases e1
  · by_cases z : a = p
    · rw [z]; exact ⟨_, upd_same⟩
    · obtain ⟨o, e⟩ := S.trk a m
      exact ⟨o, k _ _ z e⟩
  · obtain ⟨y, ey, q⟩ := S.sl i x e
    refine ⟨y, ey, ?_⟩
    have np : ∀ q, ownOf x = some q → q ≠ p := fun q o z => S.pho _ List.mem_cons_self i x e (by rw [o, z])
    cases x with
    | un => trivial
    | dat d =>
      obtain ⟨v, e1, r1⟩ := q
      exact ⟨v, e1, r1.le lO⟩
    | ls b q' ds => exact ⟨q.1, ls b q' ds (np q' rfl) q.2⟩
    | tray b q' g =>
      obtain ⟨e1, ds, t1, r1⟩ := q
      exact ⟨e1, ds, t1, ls b q' ds (np q' rfl) r1⟩
  · rcases List.mem_cons.mp m with z | z
    · rw [z]
      exact ⟨pO, pn, (fun z => nomatch z), by rw [List.length_append]; exact hl, _, upd_same, (rx.le lO).app (.cons (r.le lO) .nil)⟩
    · exact ls true q.1 q.2 (fun z2 => hph.1 (List.mem_map.mpr ⟨q, z, z2⟩)) (S.ph q (List.mem_cons_of_mem _ z))
  · rcases List.mem_cons.mp m with z | z
    · rw [z] at o
      exact S.pho _ List.mem_cons_self i x e o
    · exact S.pho q (List.mem_cons_of_mem _ z) i x e o
theorem Sl.anti {x : DV} {y : Option V} {H0 : Hp} {M O O' : List Addr} {ph ph' : List (Addr × List D)} {tmp tmp' : List (V × D)} (h : Sl ⟨H0, M, O, ph, tmp⟩ H x y) (s : ∀ a ∈ O', a ∈ O) (k : ∀ q, ownOf x = some q → q ∈ O') : Sl ⟨H0, M, O', ph', tmp'⟩ H x y := by
  have ls : ∀ b q ds, q ∈ O' → LsAt ⟨H0, M, O, ph, tmp⟩ H b q ds → LsAt ⟨H0, M, O', ph', tmp'⟩ H b q ds := fun b q ds m ⟨h1, h2, h3, h4, xs, e, r⟩ => ⟨m, h2, h3, h4, xs, e, r.anti s⟩
  cases x with
  | un => trivial
  | dat d =>
    obtain ⟨v, e, r⟩ := h
    exact ⟨v, e, r.anti s⟩
  | ls b q ds => exact ⟨h.1, ls b q ds (k q rfl) h.2⟩
  | tray b q f =>
    obtain ⟨e, ds, td, l⟩ := h
    exact ⟨e, ds, td, ls b q ds (k q rfl) l⟩
/-- the list under way is done: it is a datum -/
theorem Sx.phdone {H0 : Hp} {M O : List Addr} {ph : List (Addr × List D)} {tmp : List (V × D)} (S : Sx ⟨H0, M, p :: O, (p, ds) :: ph, tmp⟩ δ σ H) (nO : p ∉ O) (hm : ∀ a ∈ M, a ∈ O) : Sx ⟨H0, M, O, ph, tmp⟩ δ σ H ∧ Dt O H (.ref p) (.list ds) := by
  have sub : ∀ a ∈ O, a ∈ p :: O := fun a m => List.mem_cons_of_mem _ m
  have hph := S.phn
  rw [List.map_cons, List.nodup_cons] at hph
  obtain ⟨_, _, _, _, xs, e, r⟩ := S.ph _ List.mem_cons_self
  refine ⟨⟨S.base, fun a m => S.trk a (sub a m), S.len, fun i x e => ?_, S.own, hm, fun q m => ?_, hph.2, fun q m => S.pho q (List.mem_cons_of_mem _ m), fun q m => (S.tmp q m).anti sub⟩, .lst nO e (r.anti sub)⟩
  · obtain ⟨y, ey, q⟩ := S.sl i x e
    refine ⟨y, ey, q.anti sub fun q' o => ?_⟩
    have np : q' ≠ p := fun z => S.pho _ List.mem_cons_self i x e (by rw [o, z])
    have m : q' ∈ p :: O := by
      cases x with
      | un => cases o
      | dat d => cases o
      | ls b q2 ds =>
        cases o
        exact q.2.1
      | tray b q2 f =>
        cases o
        obtain ⟨_, _, _, l⟩ := q
        exact l.1
    exact (List.mem_cons.mp m).elim (fun z => absurd z np) id
  · obtain ⟨h1, h2, h3, h4, xs, e, q'⟩ := S.ph q (List.mem_cons_of_mem _ m)
    refine ⟨(List.mem_cons.mp h1).elim (fun z => ?_) id, h2, h3, h4, xs, e, q'.anti sub⟩
    exact absurd (List.mem_map.mpr ⟨q, m, z⟩) hph.1
/-- x = [..], a list that is written later -/
theorem rs_newls (h : RdA tr δ fun ds δ1 => ds.length ≤ 100000 ∧ i < δ1.length ∧ ∀ p, K.nx (δ1.set i (.ls true p ds))) : Rs (tAsg (tLst tr) (gName i)) δ K := fun H0 M O0 O tmp σ H E s tr S EO => h _ σ H S _ fun vs H1 ds δ1 ⟨hl, hi, k⟩ l1 S1 r1 =>
  ⟨Nat.le_trans (r1.len ▸ hl) (by rw [sizeLine_eq]; decide), fun q hq => EO.nx (q :: O) _ _ _ (fun a m => List.mem_cons_of_mem _ (s a m)) ((S1.addph hq r1 hl).phslot hi) (k q)⟩
/-- x, y = [], e: x a list that is written later -/
theorem rs_parNew (hij : i ≠ j) (h : Rd te δ fun y δ1 => i < δ1.length ∧ j < δ1.length ∧ ∀ p, K.nx ((δ1.set i (.ls true p [])).set j (.dat y))) : Rs (tPar i j (tCons (tLst tNil) (tCons te tNil))) δ K := fun H0 M O0 O tmp σ H E s tr S EO =>
  ⟨Nat.zero_le _, fun q hq => h _ σ _ (S.addph hq .nil (Nat.zero_le _)) _ fun v H1 d δ1 ⟨hi, hj, k⟩ l1 S1 r1 =>
    ⟨_, _, rfl, EO.nx (q :: O) _ _ _ (fun a m => List.mem_cons_of_mem _ (s a m)) (Sx.set (F := ⟨H0, M, q :: O, [], tmp⟩) (S1.phslot hi) (by rw [List.length_set]; exact hj) r1) (k q)⟩⟩
end
end DL

/-! Lists of one's own written and read; what is walked; loops; comprehensions. -/
namespace DL
open PySem PySem.Spec PyProof.Rows L2
section
variable {F : Fm} {δ δ' : List DV} {K : KD} {Kf : PySem.W.Frag} {te tl : TE} {ta tr : TA} {tt : TT} {t u tb : TS} {i j : Nat} {σ : L2.St} {H H' : Hp} {p : Addr} {b : Bool} {d : D} {ds : List D} {P : D → List DV → Prop}
theorem DtA.set {O : List Addr} {v : V} (r : Dt O H v d) : ∀ {xs : List V} {ds : List D} (j : Nat), DtA O H xs ds → DtA O H (xs.set j v) (ds.set j d)
  | _, _, _, .nil => .nil
  | _, _, 0, .cons _ t => .cons r t
  | _, _, j + 1, .cons a t => .cons a (DtA.set r j t)
/-- the own list at p is written -/
theorem Sx.lsput {xs : List V} {ds ds' : List D} (S : Sx F δ σ H) (hi : δ[i]? = some (.ls b p ds)) (hl : ds'.length ≤ 100000) (r : DtA F.O H xs ds') : Sx F (δ.set i (.ls b p ds')) σ (upd H p (.lst xs)) :=
  S.wrote hi rfl rfl (fun a o n e => by rw [upd_ne (by simpa using n)]; exact e) fun y ⟨e, h1, h2, h3, h4, _⟩ => ⟨e, h1, h2, h3, hl, xs, upd_same, r.put h1⟩
theorem Sx.lsget {ds : List D} (S : Sx F δ σ H) (hi : δ[i]? = some (.ls b p ds)) : σ[i]? = some (some (.ref p)) ∧ p ∈ F.O ∧ ds.length ≤ 100000 ∧ ∃ xs, H p = some (.lst xs) ∧ DtA F.O H xs ds := by
  obtain ⟨y, ey, e, h1, h2, h3, h4, h5⟩ := S.sl i _ hi
  subst e
  exact ⟨ey, h1, h4, h5⟩
/-- x.append(e) -/
theorem rs_app {ds0 : List D} (hi : δ[i]? = some (.ls b p ds0)) (h : Rd te δ fun d δ1 => ∃ ds, δ1[i]? = some (.ls b p ds) ∧ ds.length < 100000 ∧ K.nx (δ1.set i (.ls b p (ds ++ [d])))) : Rs (tDrop (tBM Kf "list" rAppend (tVar i) (tCons te tNil))) δ K := fun H0 M O0 O tmp σ H E s tr S EO => by
  obtain ⟨ey, pO, _, xs, hx, _⟩ := S.lsget hi
  refine ⟨_, ey, Or.inl ⟨rfl, xs, .inl (.inl hx)⟩, h _ σ H S _ fun v H1 d δ1 ⟨ds, h1, hl, k⟩ l1 S1 r1 => ?_⟩
  obtain ⟨_, _, _, xs1, hx1, rx1⟩ := S1.lsget h1
  exact ⟨p, xs1, v, rfl, rfl, hx1, by rw [rx1.len, sizeLine_eq]; omega, EO.nx O _ _ _ s (S1.lsput h1 (by rw [List.length_append]; exact hl) (rx1.app (.cons r1 .nil))) k⟩
/-- x[j] = e -/
theorem rs_setix {ds0 : List D} {n : Int} (hi : δ[i]? = some (.ls b p ds0)) (h : Rd te δ fun d δ1 => ∃ ds j, δ1[i]? = some (.ls b p ds) ∧ ixN ds.length n = some j ∧ K.nx (δ1.set i (.ls b p (ds.set j d)))) : Rs (tAsg te (gSub (tVar i) (tC (.int n)) rSetL)) δ K := fun H0 M O0 O tmp σ H E s tr S EO => by
  refine h _ σ H S _ fun v H1 d δ1 ⟨ds, j, h1, hj, k⟩ l1 S1 r1 => ?_
  obtain ⟨ey, _, hl, xs1, hx1, rx1⟩ := S1.lsget h1
  exact ⟨_, ey, p, xs1, n, j, rfl, rfl, hx1, by rw [rx1.len]; exact hj, EO.nx O _ _ _ s (S1.lsput h1 (by rw [List.length_set]; exact hl) (rx1.set r1 j)) k⟩
/-- x[e], x a list of one's own -/
theorem rd_ixls (hi : δ[i]? = some (.ls b p ds)) (h : Rd te δ fun y δ1 => ∃ ds n d, δ1[i]? = some (.ls b p ds) ∧ y = .int n ∧ atI ds n = some d ∧ P d δ1) : Rd (tOp (rIx Kf) (tVar i) te) δ P := fun F σ H S Q k => by
  obtain ⟨ey, _, _, xs, hx, _⟩ := S.lsget hi
  refine ⟨_, ey, h F σ H S _ fun v H1 y δ1 ⟨ds, n, d, h1, e, ha, q⟩ l1 S1 r1 => ?_⟩
  obtain ⟨_, _, _, xs1, hx1, rx1⟩ := S1.lsget h1
  subst e
  cases r1
  obtain ⟨w, hw, rw'⟩ := at_dt rx1 ha
  exact Or.inl ⟨_, _, n, w, rfl, rfl, .inl (.inl hx1), hw, k w H1 d δ1 q l1 S1 rw'⟩
/-- len(x), x a list of one's own -/
theorem rd_lenls (hi : δ[i]? = some (.ls b p ds)) (q : P (.int (ds.length : Nat)) δ) : Rd (tCB (fun xs H Q => ∃ x n, xs = [x] ∧ LenV Kf x H n ∧ Q (.int (n : Nat)) H) (tCons (tVar i) tNil)) δ P := fun F σ H S Q k => by
  obtain ⟨ey, _, _, xs, hx, rx⟩ := S.lsget hi
  exact ⟨_, ey, _, ds.length, rfl, Or.inl ⟨xs, .inl (.inl hx), rx.len.symm⟩, k _ H _ δ q (Le.refl _ _) S (.int _)⟩
/-- a list of one's own is written no more: it is a datum -/
theorem Sx.freeze {H0 : Hp} {M O : List Addr} {tmp : List (V × D)} (S : Sx ⟨H0, M, O, [], tmp⟩ δ σ H) (hi : δ[i]? = some (.ls true p ds)) (hM : ∀ a ∈ M, ∃ o, H0 a = some o) : Sx ⟨H0, M, O.filter (fun a => decide (a ≠ p)), [], tmp⟩ (δ.set i (.dat (.list ds))) σ H := by
  obtain ⟨y, ey, e, pO, pn, _, _, xs, hx, rx⟩ := S.sl i _ hi
  subst e
  have sub : ∀ a ∈ O.filter (fun a => decide (a ≠ p)), a ∈ O := fun a m => (List.mem_filter.mp m).1
  have hl : i < δ.length := (List.getElem?_eq_some_iff.mp hi).1
  have back : ∀ j x q, (δ.set i (.dat (.list ds)))[j]? = some x → ownOf x = some q → δ[j]? = some x ∧ i ≠ j := fun j x q e o => by
    by_cases z : i = j
    · subst z
      rw [List.getElem?_set_self hl] at e
      cases e
      cases o
    · rw [List.getElem?_set_ne z] at e
      exact ⟨e, z⟩
  refine ⟨S.base, fun a m => S.trk a (sub a m), by rw [List.length_set]; exact S.len, fun j x e => ?_, fun j1 j2 x y q e1 e2 o1 o2 => S.own j1 j2 x y q (back _ _ _ e1 o1).1 (back _ _ _ e2 o2).1 o1 o2, fun a m => List.mem_filter.mpr ⟨S.mo a m, decide_eq_true fun z => ?_⟩, fun q m => (nomatch m), List.nodup_nil, fun q m => (nomatch m), fun q m => (S.tmp q m).anti sub⟩
  · by_cases z : i = j
    · subst z
      rw [List.getElem?_set_self hl] at e
      cases e
      exact ⟨_, ey, _, rfl, .lst (fun m => by simpa using (List.mem_filter.mp m).2) hx (rx.anti sub)⟩
    · rw [List.getElem?_set_ne z] at e
      obtain ⟨y, ey, q⟩ := S.sl j x e
      refine ⟨y, ey, q.anti sub fun q' o => List.mem_filter.mpr ⟨?_, decide_eq_true fun z2 => ?_⟩⟩
      · cases x with
        | un => cases o
        | dat d => cases o
        | ls b q2 ds =>
          cases o
          exact q.2.1
        | tray b q2 f =>
          cases o
          obtain ⟨_, _, _, l⟩ := q
          exact l.1
      · exact z (S.own i j _ x p hi e rfl (by rw [o, z2]))
  · obtain ⟨o, e⟩ := hM a m
    rw [z] at e
    have pn' : H0 p = none := pn rfl
    rw [pn'] at e; cases e
end
end DL

/-! What is walked; loops; comprehensions. -/
namespace DL
open PySem PySem.Spec PyProof.Rows L2
section
variable {F : Fm} {δ δ' : List DV} {K : KD} {Kf : PySem.W.Frag} {te tl : TE} {ta tr : TA} {tt : TT} {t u tb : TS} {i j : Nat} {σ : L2.St} {H H' : Hp} {p : Addr} {b : Bool} {d : D} {ds : List D} {P : D → List DV → Prop}
theorem rs_freeze (hi : δ[i]? = some (.ls true p ds)) (h : Rs t (δ.set i (.dat (.list ds))) K) : Rs t δ K := fun H0 M O0 O tmp σ H E s tr S EO => by
  have pn : H0 p = none := by
    obtain ⟨_, _, _, _, z, _⟩ := S.sl i _ hi
    exact z rfl
  refine h H0 M O0 _ tmp σ H E (fun a m => ?_) tr (S.freeze hi fun a m => tr.1 a (tr.2 a m)) EO
  have ne : a ≠ p := fun z => by
    obtain ⟨o, e⟩ := tr.1 a m
    rw [z, pn] at e; cases e
  exact List.mem_filter.mpr ⟨s a m, by simpa using ne⟩
/-- less is known -/
def Wk (x x' : DV) : Prop := x' = .un ∨ x' = x ∨ ∃ b p f f', x = .tray b p f ∧ x' = .tray b p f' ∧ f' ≤ f
theorem Sx.weak (S : Sx F δ σ H) (hl : δ'.length = δ.length) (h : ∀ (k : Nat) x x', δ[k]? = some x → δ'[k]? = some x' → Wk x x') : Sx F δ' σ H := by
  have get : ∀ (k : Nat) x', δ'[k]? = some x' → ∃ x, δ[k]? = some x ∧ Wk x x' := fun k x' e => by
    have hk : k < δ'.length := (List.getElem?_eq_some_iff.mp e).1
    rw [hl] at hk
    exact ⟨_, List.getElem?_eq_getElem hk, h k _ x' (List.getElem?_eq_getElem hk) e⟩
  have ow : ∀ x x' q, Wk x x' → ownOf x' = some q → ownOf x = some q := fun x x' q w o => by
    rcases w with rfl | rfl | ⟨b, p, f, f', rfl, rfl, _⟩
    · cases o
    · exact o
    · exact o
  refine ⟨S.base, S.trk, by rw [hl]; exact S.len, fun k x' e => ?_, fun j1 j2 x y q e1 e2 o1 o2 => ?_, S.mo, S.ph, S.phn, fun q m k x' e o => ?_, S.tmp⟩
  · obtain ⟨x, ex, w⟩ := get k x' e
    obtain ⟨y, ey, r⟩ := S.sl k x ex
    refine ⟨y, ey, ?_⟩
    rcases w with rfl | rfl | ⟨b, p, f, f', rfl, rfl, hf⟩
    · trivial
    · exact r
    · obtain ⟨e1, ds, ⟨ns, tn, lf, h1, h2, h3, h4⟩, l⟩ := r
      exact ⟨e1, ds, ⟨ns, tn, lf, h1, h2, h3, by omega⟩, l⟩
  · obtain ⟨x1, ex1, w1⟩ := get j1 x e1
    obtain ⟨y1, ey1, w2⟩ := get j2 y e2
    exact S.own j1 j2 x1 y1 q ex1 ey1 (ow _ _ _ w1 o1) (ow _ _ _ w2 o2)
  · obtain ⟨x, ex, w⟩ := get k x' e
    exact S.pho q m k x ex (ow _ _ _ w o)
theorem rs_weak (hl : δ'.length = δ.length) (h : ∀ (k : Nat) x x', δ[k]? = some x → δ'[k]? = some x' → Wk x x') (q : Rs t δ' K) : Rs t δ K := fun H0 M O0 O tmp σ H E s tr S EO => q H0 M O0 O tmp σ H E s tr (S.weak hl h) EO
/-- a tray is opened: its cells, its turn, what is left -/
theorem rs_open {f : Nat} (hi : δ[i]? = some (.tray b p f)) (h : ∀ (ns : List Int) (turn left : Int), ns.length ≤ 63 → 0 ≤ turn → turn + (f : Int) ≤ 1000000 → Rs t (δ.set i (.ls b p [.list (ns.map PyData.int), .int turn, .int left])) K) : Rs t δ K := fun H0 M O0 O tmp σ H E s tr S EO => by
  obtain ⟨y, ey, e, ds, ⟨ns, tn, lf, rfl, h1, h2, h3⟩, l⟩ := S.sl i _ hi
  refine h ns tn lf h1 h2 h3 H0 M O0 O tmp σ H E s tr ?_ EO
  obtain ⟨pO, q1, q2, q3, xs, ex, rx⟩ := l
  exact S.wrote (x' := .ls b p [.list (ns.map PyData.int), .int tn, .int lf]) hi rfl rfl (Le.refl _ _) fun y' ⟨e', ds', td', l'⟩ => ⟨e', pO, q1, q2, (by show 3 ≤ 100000; decide), xs, ex, rx⟩
/-! ### what is walked -/
def SrcOk (J : It) (ds : List D) (q : List (V × D)) : Prop := ∀ (O : List Addr) (H : Hp), (∀ a ∈ O, ∃ o, H a = some o) → (∀ x ∈ q, Dt O H x.1 x.2) →
  (∀ i, i < ds.length → J.go i H ∧ ∀ x H', J.yld i H x H' → Same H H' ∧ ∃ d, ds[i]? = some d ∧ Dt O H' x d) ∧ ∀ i, ds.length ≤ i → J.stop i H
def RdI (wi : TI) (δ : List DV) (N : List D → List DV → Prop) : Prop := ∀ (F : Fm) (σ : L2.St) (H : Hp), Sx F δ σ H → ∀ R : It → Hp → Prop,
  (∀ J H' ds δ' q, N ds δ' → Le F.O H H' → Sx ⟨F.H0, F.M, F.O, F.ph, q ++ F.tmp⟩ δ' σ H' → SrcOk J ds q → R J H') → wi σ H R
theorem Sx.tmpadd {v : V} (S : Sx F δ σ H) (r : Dt F.O H v d) : Sx ⟨F.H0, F.M, F.O, F.ph, [(v, d)] ++ F.tmp⟩ δ σ H :=
  ⟨S.base, S.trk, S.len, S.sl, S.own, S.mo, S.ph, S.phn, S.pho, fun q m => (List.mem_cons.mp m).elim (fun z => by rw [z]; exact r) (S.tmp q)⟩
theorem Sx.tmpdrop {H0 : Hp} {M O : List Addr} {ph : List (Addr × List D)} {q tmp : List (V × D)} (S : Sx ⟨H0, M, O, ph, q ++ tmp⟩ δ σ H) : Sx ⟨H0, M, O, ph, tmp⟩ δ σ H :=
  ⟨S.base, S.trk, S.len, S.sl, S.own, S.mo, S.ph, S.phn, S.pho, fun x m => S.tmp x (List.mem_append_right _ m)⟩
theorem src_list {a : Addr} : SrcOk (Itl Kf a) ds [(.ref a, .list ds)] := fun O H _ hq => by
  have h := hq _ List.mem_cons_self
  cases h with
  | lst n e r =>
    refine ⟨fun i hi => ⟨?_, fun x H' hy => ?_⟩, fun i hi => ⟨_, .inl (.inl e), by rw [r.len]; exact hi⟩⟩
    · obtain ⟨v, hv, _⟩ := r.get (List.getElem?_eq_getElem hi)
      exact ⟨_, v, .inl (.inl e), hv⟩
    · obtain ⟨rfl, hx⟩ := hy
      have hx' := hx _ (.inl (.inl e))
      obtain ⟨v, hv, rv⟩ := r.get (List.getElem?_eq_getElem hi)
      rw [hx'] at hv
      cases hv
      exact ⟨Same.refl _, _, List.getElem?_eq_getElem hi, rv⟩
theorem src_tup {a : Addr} : SrcOk (Itt Kf a) ds [(.ref a, .tuple ds)] := fun O H _ hq => by
  have h := hq _ List.mem_cons_self
  cases h with
  | tup n e r =>
    refine ⟨fun i hi => ⟨?_, fun x H' hy => ?_⟩, fun i hi => ⟨_, .inl (.inl e), by rw [r.len]; exact hi⟩⟩
    · obtain ⟨v, hv, _⟩ := r.get (List.getElem?_eq_getElem hi)
      exact ⟨_, v, .inl (.inl e), hv⟩
    · obtain ⟨rfl, hx⟩ := hy
      have hx' := hx _ (.inl (.inl e))
      obtain ⟨v, hv, rv⟩ := r.get (List.getElem?_eq_getElem hi)
      rw [hx'] at hv
      cases hv
      exact ⟨Same.refl _, _, List.getElem?_eq_getElem hi, rv⟩
/-- lo, lo + 1, .. as data -/
def rngD (lo : Int) (n : Nat) : List D := (List.range n).map fun (k : Nat) => PyData.int (lo + (k : Int))
theorem rngD_len {lo : Int} {n : Nat} : (rngD lo n).length = n := by simp [rngD]
theorem rngD_get {lo : Int} {n k : Nat} (h : k < n) : (rngD lo n)[k]? = some (.int (lo + (k : Int))) := by
  unfold rngD
  rw [List.getElem?_map, List.getElem?_range h]
  rfl
theorem src_rng {lo : Int} {n : Nat} : SrcOk (Itr lo n) (rngD lo n) [] := fun O H _ _ => by
  refine ⟨fun i hi => ?_, fun i hi => ?_⟩
  · rw [rngD_len] at hi
    refine ⟨hi, fun x H' hy => ?_⟩
    obtain ⟨rfl, rfl⟩ := hy
    exact ⟨Same.refl _, _, rngD_get hi, .int _⟩
  · rw [rngD_len] at hi
    exact hi
theorem ri_list {N : List D → List DV → Prop} (h : Rd tl δ fun x δ1 => ∃ ds, x = .list ds ∧ N ds δ1) : RdI (iList Kf tl) δ N := fun F σ H S R k => h F σ H S _ fun v H1 x δ1 ⟨ds, e, n⟩ l1 S1 r1 => by
  subst e
  have S2 := S1.tmpadd r1
  cases r1 with
  | lst m e r => exact ⟨_, rfl, ⟨_, .inl (.inl e)⟩, k _ H1 ds δ1 _ n l1 S2 src_list⟩
theorem ri_tup {N : List D → List DV → Prop} (h : Rd tl δ fun x δ1 => ∃ ds, x = .tuple ds ∧ N ds δ1) : RdI (iTup Kf tl) δ N := fun F σ H S R k => h F σ H S _ fun v H1 x δ1 ⟨ds, e, n⟩ l1 S1 r1 => by
  subst e
  have S2 := S1.tmpadd r1
  cases r1 with
  | tup m e r => exact ⟨_, rfl, ⟨_, .inl (.inl e)⟩, k _ H1 ds δ1 _ n l1 S2 src_tup⟩
theorem ri_rng1 {N : List D → List DV → Prop} (h : RdA ta δ fun xs δ1 => ∃ n : Int, xs = [.int n] ∧ -(2 ^ 62) ≤ n ∧ n < 2 ^ 62 ∧ N (rngD 0 n.toNat) δ1) : RdI (iRng1 ta) δ N := fun F σ H S R k => h F σ H S _ fun vs H1 xs δ1 ⟨n, e, h1, h2, q⟩ l1 S1 r1 => by
  subst e
  cases r1 with
  | cons a r =>
    cases r
    cases a
    exact ⟨n, rfl, h1, h2, k _ H1 _ δ1 [] q l1 S1 src_rng⟩
theorem ri_rng2 {N : List D → List DV → Prop} (h : RdA ta δ fun xs δ1 => ∃ m n : Int, xs = [.int m, .int n] ∧ (-(2 ^ 62) ≤ m ∧ m < 2 ^ 62 ∧ -(2 ^ 62) ≤ n ∧ n < 2 ^ 62) ∧ N (rngD m (n - m).toNat) δ1) : RdI (iRng2 ta) δ N := fun F σ H S R k => h F σ H S _ fun vs H1 xs δ1 ⟨m, n, e, h1, q⟩ l1 S1 r1 => by
  subst e
  cases r1 with
  | cons a r =>
    cases r with
    | cons b r =>
      cases r
      cases a
      cases b
      exact ⟨m, n, rfl, h1, k _ H1 _ δ1 [] q l1 S1 src_rng⟩
/-- a list or a tuple -/
def iSeq (Kf : PySem.W.Frag) (tl : TE) : TI := fun σ H R => tl σ H fun x H1 => ∃ a, x = .ref a ∧ (((∃ xs, SqL Kf H1 a xs) ∧ R (Itl Kf a) H1) ∨ ((∃ xs, SqT Kf H1 a xs) ∧ R (Itt Kf a) H1))
theorem pi_seq {X : Cx} {tg l : Expr} {tl : TE} (hl : PE X l tl) : PI X tg l (iSeq X.K tl) := by
  have h1 := pi_list (tg := tg) hl
  have h2 := pi_tup (tg := tg) hl
  refine ⟨fun pins s σ H R I h => ?_⟩
  refine thn (hl.run pins s σ H _ I h) fun v s1 ⟨x, H1, I1, r1, a, e, q⟩ => ?_
  subst e
  cases r1
  rcases q with ⟨⟨xs, hq⟩, q⟩ | ⟨⟨xs, hq⟩, q⟩
  · obtain ⟨its, rv, p, hz⟩ := I1.list hq
    refine wpAny_pyIter_list p.isList ⟨_, [s1.heap.objs.size], _, _, H1, rfl, I1.kept (t' := s1.toks) fun b o e => Heap.get?_push_of_some _ e, turn_list a _, ⟨_, Heap.get?_push_size _ rfl, rfl, rfl⟩, fun b hb => ?_, q⟩
    rw [List.mem_singleton] at hb
    rw [hb]
    exact I1.fpOk (Nat.le_refl _) (I1.hok.fresh (Nat.le_refl _))
  · obtain ⟨its, rv, p, hz⟩ := I1.tuple hq
    refine wpAny_pyIter_tuple (show s1.heap.IsTuple a its.toArray from p) ⟨_, [s1.heap.objs.size], _, _, H1, rfl, I1.kept (t' := s1.toks) fun b o e => Heap.get?_push_of_some _ e, turn_tuple a _, ⟨_, Heap.get?_push_size _ rfl, rfl, rfl⟩, fun b hb => ?_, q⟩
    rw [List.mem_singleton] at hb
    rw [hb]
    exact I1.fpOk (Nat.le_refl _) (I1.hok.fresh (Nat.le_refl _))
theorem ri_seq {N : List D → List DV → Prop} (h : Rd tl δ fun x δ1 => ∃ ds, (x = .list ds ∨ x = .tuple ds) ∧ N ds δ1) : RdI (iSeq Kf tl) δ N := fun F σ H S R k => h F σ H S _ fun v H1 x δ1 ⟨ds, e, n⟩ l1 S1 r1 => by
  have S2 := S1.tmpadd r1
  rcases e with rfl | rfl
  · cases r1 with
    | lst m e r => exact ⟨_, rfl, Or.inl ⟨⟨_, .inl (.inl e)⟩, k _ H1 ds δ1 _ n l1 S2 src_list⟩⟩
  · cases r1 with
    | tup m e r => exact ⟨_, rfl, Or.inr ⟨⟨_, .inl (.inl e)⟩, k _ H1 ds δ1 _ n l1 S2 src_tup⟩⟩
/-! ### loops -/
theorem rs_for {wi : TI} {g : TG} {sl : List Nat} {f : D → List DV → (List DV → Prop) → Prop} (hg : Gd g sl f)
    (h : RdI wi δ fun ds δ1 => ∃ I : Nat → List DV → Prop, I 0 δ1 ∧ (∀ j d δ', ds[j]? = some d → I j δ' → f d δ' fun δ2 => Rs tb δ2 { nx := I (j + 1), ct := I (j + 1), bk := K.nx, rt := K.rt }) ∧ ∀ δ', I ds.length δ' → K.nx δ') : Rs (tFor wi g tb) δ K := fun H0 M O0 O tmp σ H E s tr S EO => by
  refine h _ σ H S _ fun J H1 ds δ1 q ⟨I, i0, turn, fin⟩ l1 S1 src => ?_
  refine ⟨fun k m σ' H' => m = ds.length - k ∧ k ≤ ds.length ∧ ∃ O' δ', (∀ a ∈ O0, a ∈ O') ∧ Sx ⟨H0, M, O', [], q ++ tmp⟩ δ' σ' H' ∧ I k δ', ⟨_, rfl, Nat.zero_le _, O, δ1, s, S1, i0⟩, ?_⟩
  rintro k m σ' H' ⟨rfl, hk, O', δ', s', S', Ik⟩
  obtain ⟨hgo, hst⟩ := src O' H' S'.trk fun x m => S'.tmp x (List.mem_append_left _ m)
  by_cases hk' : k < ds.length
  · refine Or.inr ⟨(hgo k hk').1, fun σ2 H2 => ∃ O2 δ2, (∀ a ∈ O0, a ∈ O2) ∧ Sx ⟨H0, M, O2, [], q ++ tmp⟩ δ2 σ2 H2 ∧ I (k + 1) δ2, fun σ2 H2 ⟨O2, δ2, z1, z2, z3⟩ => ⟨ds.length - (k + 1), by omega, rfl, hk', O2, δ2, z1, z2, z3⟩, fun x H2 hy => ?_⟩
    obtain ⟨sm, d, hd, rd⟩ := (hgo k hk').2 x H2 hy
    refine hg _ δ' σ' H2 x d _ _ (S'.same sm) rd (turn k d δ' hd Ik) fun δ2 σ2 hb S2 _ => ?_
    refine hb H0 M O0 O' (q ++ tmp) σ2 H2 _ s' tr S2 ⟨fun O3 δ3 σ3 H3 z1 z2 z3 => ⟨O3, δ3, z1, z2, z3⟩, fun O3 δ3 σ3 H3 z1 z2 z3 => EO.nx O3 δ3 σ3 H3 z1 z2.tmpdrop z3, fun O3 δ3 σ3 H3 z1 z2 z3 => ⟨O3, δ3, z1, z2, z3⟩, fun O3 δ3 σ3 H3 v d z1 z2 z3 z4 => EO.rt O3 δ3 σ3 H3 v d z1 z2.tmpdrop z3 z4⟩
  · have e : k = ds.length := by omega
    subst e
    exact Or.inl ⟨hst _ (Nat.le_refl _), EO.nx O' δ' σ' H' s' S'.tmpdrop (fin δ' Ik)⟩
end
end DL

/-! Comprehensions; defs by their data. -/
namespace DL
open PySem PySem.Spec PyProof.Rows L2
def wipeD (δ : List DV) : List Nat → List DV
  | [] => δ
  | v :: vs => (wipeD δ vs).set v .un
/-- the slots of vs as they were -/
def back (δ' δ : List DV) (vs : List Nat) : List DV := (List.range δ.length).map fun k => if k ∈ vs then δ'.getD k .un else δ.getD k .un
section
variable {F : Fm} {δ δ' : List DV} {K : KD} {Kf : PySem.W.Frag} {te tl : TE} {ta tr : TA} {tt : TT} {t u tb : TS} {i j : Nat} {σ σ2 : L2.St} {H H' : Hp} {p : Addr} {b : Bool} {d : D} {ds : List D} {P : D → List DV → Prop} {vs : List Nat}
theorem Sx.unset (S : Sx F δ σ H) : Sx F (δ.set i .un) (σ.set i none) H := by
  have back : ∀ j x p, (δ.set i .un)[j]? = some x → ownOf x = some p → δ[j]? = some x := fun j x p e o => by
    by_cases z : i = j
    · subst z
      by_cases hi : i < δ.length
      · rw [List.getElem?_set_self hi] at e
        cases e
        cases o
      · rw [List.getElem?_eq_none (by simpa using hi)] at e
        cases e
    · rw [List.getElem?_set_ne z] at e
      exact e
  refine ⟨S.base, S.trk, by rw [List.length_set, List.length_set]; exact S.len, fun j x e => ?_, fun j1 j2 x y p e1 e2 o1 o2 => S.own j1 j2 x y p (back _ _ _ e1 o1) (back _ _ _ e2 o2) o1 o2, S.mo, S.ph, S.phn, fun q m j x e o => S.pho q m j x (back _ _ _ e o) o, S.tmp⟩
  by_cases z : i = j
  · subst z
    by_cases hi : i < δ.length
    · rw [List.getElem?_set_self hi] at e
      cases e
      exact ⟨none, List.getElem?_set_self (S.len ▸ hi), trivial⟩
    · rw [List.getElem?_eq_none (by simpa using hi)] at e
      cases e
  · rw [List.getElem?_set_ne z] at e
    obtain ⟨y, ey, q⟩ := S.sl j x e
    exact ⟨y, by rw [List.getElem?_set_ne z]; exact ey, q⟩
theorem Sx.wiped (S : Sx F δ σ H) : ∀ vs : List Nat, Sx F (wipeD δ vs) (wipe σ vs) H
  | [] => S
  | _ :: vs => (S.wiped vs).unset
theorem wipe_get {k : Nat} : ∀ {vs : List Nat}, k ∉ vs → (wipe σ vs)[k]? = σ[k]?
  | [], _ => rfl
  | v :: vs, h => by
    show ((wipe σ vs).set v none)[k]? = _
    rw [List.getElem?_set_ne (fun z => h (by rw [← z]; exact List.mem_cons_self))]
    exact wipe_get fun z => h (List.mem_cons_of_mem _ z)
theorem wipe_in {k : Nat} : ∀ {vs : List Nat}, k ∈ vs → k < σ.length → (wipe σ vs)[k]? = some none
  | [], h, _ => by cases h
  | v :: vs, h, hl => by
    show ((wipe σ vs).set v none)[k]? = _
    by_cases z : v = k
    · subst z
      exact List.getElem?_set_self (by rw [wipe_length]; exact hl)
    · rw [List.getElem?_set_ne z]
      exact wipe_in ((List.mem_cons.mp h).elim (fun e => absurd e.symm z) id) hl
theorem wipe_ext (hl : σ2.length = σ.length) (h : ∀ k, k ∉ vs → σ2[k]? = σ[k]?) : wipe σ2 vs = wipe σ vs := by
  refine List.ext_getElem? fun k => ?_
  by_cases m : k ∈ vs
  · by_cases hk : k < σ.length
    · rw [wipe_in m hk, wipe_in m (by rw [hl]; exact hk)]
    · rw [List.getElem?_eq_none (by rw [wipe_length, hl]; omega), List.getElem?_eq_none (by rw [wipe_length]; omega)]
  · rw [wipe_get m, wipe_get m]
    exact h k m
theorem Sx.backed {F0 : Fm} (S : Sx F δ σ2 H') (S0 : Sx F0 δ' σ H) (hO : F0.O = F.O) (l : Le F.O H H') (hw : wipe σ2 vs = wipe σ vs) (hv : ∀ v ∈ vs, ∀ x, δ'[v]? = some x → ownOf x = none) : Sx F (back δ' δ vs) σ H' := by
  have hlen : σ2.length = σ.length := by
    have := congrArg List.length hw
    rw [wipe_length, wipe_length] at this
    exact this
  have bl : (back δ' δ vs).length = δ.length := by unfold back; rw [List.length_map, List.length_range]
  have get : ∀ k x, (back δ' δ vs)[k]? = some x → (k ∈ vs ∧ x = δ'.getD k .un) ∨ (k ∉ vs ∧ δ[k]? = some x) := fun k x e => by
    have hk : k < δ.length := by rw [← bl]; exact (List.getElem?_eq_some_iff.mp e).1
    unfold back at e
    rw [List.getElem?_map, List.getElem?_range hk] at e
    have e' : (if k ∈ vs then δ'.getD k .un else δ.getD k .un) = x := Option.some.inj e
    by_cases m : k ∈ vs
    · rw [if_pos m] at e'
      exact .inl ⟨m, e'.symm⟩
    · rw [if_neg m] at e'
      refine .inr ⟨m, ?_⟩
      rw [← e', List.getD_eq_getElem?_getD, List.getElem?_eq_getElem hk]
      rfl
  have ow : ∀ (k : Nat) x q, (back δ' δ vs)[k]? = some x → ownOf x = some q → δ[k]? = some x := fun k x q e o => by
    rcases get k x e with ⟨m, e'⟩ | ⟨_, e'⟩
    · rw [List.getD_eq_getElem?_getD] at e'
      cases z : δ'[k]? with
      | none =>
        rw [z] at e'
        rw [e'] at o
        cases o
      | some y =>
        rw [z] at e'
        have e2 : x = y := e'
        rw [e2, hv k m y z] at o
        cases o
    · exact e'
  refine ⟨S.base, S.trk, by rw [bl, S.len, hlen], fun k x e => ?_, fun j1 j2 x y q e1 e2 o1 o2 => S.own j1 j2 x y q (ow _ _ _ e1 o1) (ow _ _ _ e2 o2) o1 o2, S.mo, S.ph, S.phn, fun q m k x e o => S.pho q m k x (ow _ _ _ e o) o, S.tmp⟩
  have hk : k < σ.length := by rw [← hlen, ← S.len, ← bl]; exact (List.getElem?_eq_some_iff.mp e).1
  rcases get k x e with ⟨m, e'⟩ | ⟨m, e'⟩
  · rw [List.getD_eq_getElem?_getD] at e'
    cases z : δ'[k]? with
    | none =>
      rw [z] at e'
      have e2 : x = .un := e'
      rw [e2]
      exact ⟨σ[k], List.getElem?_eq_getElem hk, trivial⟩
    | some y =>
      rw [z] at e'
      have e2 : x = y := e'
      rw [e2]
      obtain ⟨w, ew, r⟩ := S0.sl k y z
      refine ⟨w, ew, ?_⟩
      have hn := hv k m y z
      cases y with
      | un => trivial
      | dat d =>
        obtain ⟨v, e3, r3⟩ := r
        exact ⟨v, e3, by rw [hO] at r3; exact r3.le l⟩
      | ls b p ds => cases hn
      | tray b p f => cases hn
  · obtain ⟨w, ew, r⟩ := S.sl k x e'
    refine ⟨w, ?_, r⟩
    rw [← wipe_get (σ := σ) m, ← hw, wipe_get m]
    exact ew
theorem rd_lc {wi : TI} {g : TG} {sl : List Nat} {f : D → List DV → (List DV → Prop) → Prop} (hg : Gd g sl f) (hsl : ∀ k ∈ sl, k ∈ vs)
    (h : RdI wi δ fun ds δ1 => ds.length ≤ 50000 ∧ ∃ I : Nat → List D → List DV → Prop, I 0 [] δ1 ∧ (∀ (k : Nat) d acc δ', ds[k]? = some d → I k acc δ' → (∀ v ∈ vs, ∀ x, δ'[v]? = some x → ownOf x = none) ∧
      f d (wipeD δ' vs) fun δ2 => RdT tt δ2 fun b δ3 => (b = true → Rd te δ3 fun y δ4 => I (k + 1) (acc ++ [y]) (back δ' δ4 vs)) ∧ (b = false → I (k + 1) acc (back δ' δ3 vs))) ∧
      ∀ acc δ', I ds.length acc δ' → P (.list acc) δ') : Rd (tLc wi g tt te vs) δ P := fun F σ H S Q k => by
  refine h F σ H S _ fun J H1 ds δ1 q ⟨hlen, I, i0, turn, fin⟩ l1 S1 src D hD => ?_
  have nO := S1.notO hD
  have S2 : Sx ⟨F.H0, F.M, D :: F.O, (D, []) :: F.ph, q ++ F.tmp⟩ δ1 σ (upd H1 D (.lst [])) := S1.addph hD .nil (Nat.zero_le _)
  refine ⟨fun n m H' => m = ds.length - n ∧ n ≤ ds.length ∧ Le (D :: F.O) (upd H1 D (.lst [])) H' ∧ ∃ acc δ', acc.length ≤ n ∧ Sx ⟨F.H0, F.M, D :: F.O, (D, acc) :: F.ph, q ++ F.tmp⟩ δ' σ H' ∧ I n acc δ', ⟨_, rfl, Nat.zero_le _, Le.refl _ _, [], δ1, Nat.le_refl _, S2, i0⟩, ?_⟩
  rintro n m H' ⟨rfl, hn, lh, acc, δ', ha, S', In⟩
  obtain ⟨hgo, hst⟩ := src (D :: F.O) H' S'.trk fun x m => S'.tmp x (List.mem_append_left _ m)
  by_cases hn' : n < ds.length
  · refine Or.inr ⟨(hgo n hn').1, fun H2 => n + 1 ≤ ds.length ∧ Le (D :: F.O) (upd H1 D (.lst [])) H2 ∧ ∃ acc δ', acc.length ≤ n + 1 ∧ Sx ⟨F.H0, F.M, D :: F.O, (D, acc) :: F.ph, q ++ F.tmp⟩ δ' σ H2 ∧ I (n + 1) acc δ', fun H2 z => ⟨ds.length - (n + 1), by omega, rfl, z⟩, fun x H2 hy => ?_⟩
    obtain ⟨sm, d, hd, rd⟩ := (hgo n hn').2 x H2 hy
    obtain ⟨hv, hf⟩ := turn n d acc δ' hd In
    have S3 := S'.same sm
    refine hg _ _ _ H2 x d _ _ (S3.wiped vs) rd hf fun δ2 σ2 hb S4 w => ?_
    have hw : wipe σ2 vs = wipe σ vs := wipe_ext (w.2.trans (wipe_length _ _)) fun k hk => (w.1 k fun z => hk (hsl k z)).trans (wipe_get hk)
    refine ⟨hw, hb _ σ2 H2 S4 _ fun b H3 δ3 hc l3 S5 => ?_⟩
    have lh3 : Le (D :: F.O) (upd H1 D (.lst [])) H3 := (lh.trans (Le.of sm)).trans l3
    have lt3 : Le (D :: F.O) H' H3 := (Le.of sm).trans l3
    cases b with
    | false => exact iteF ⟨hn', lh3, acc, _, Nat.le_succ_of_le ha, S5.backed S' rfl lt3 hw hv, hc.2 rfl⟩
    | true =>
      refine iteT (hc.1 rfl _ σ2 H3 S5 _ fun y H4 e δ4 hI l4 S6 re => ?_)
      obtain ⟨_, _, _, _, xs, ex, rx⟩ := S6.ph _ List.mem_cons_self
      refine ⟨xs, ex, by rw [rx.len, sizeLine_eq]; show acc.length < _; omega, hn', fun a o na e' => ?_, acc ++ [e], _, by rw [List.length_append]; exact Nat.succ_le_succ ha, (S6.backed S' rfl (lt3.trans l4) hw hv).phapp ex re (by omega), hI⟩
      have := (lh3.trans l4) a o na e'
      rw [upd_ne (fun z => na (by rw [z]; exact List.mem_cons_self))]
      exact this
  · have e : n = ds.length := by omega
    subst e
    obtain ⟨S4, r4⟩ := S'.phdone nO S1.mo
    refine Or.inl ⟨hst _ (Nat.le_refl _), k _ H' _ δ' (fin acc δ' In) (fun a o na e' => ?_) S4.tmpdrop r4⟩
    have e1 := l1 a o na e'
    have ne : a ≠ D := ne_of_none e1 hD
    exact lh a o (fun m => (List.mem_cons.mp m).elim ne na) (by rw [upd_ne ne]; exact e1)
end
end DL

/-! Defs by their data. -/
namespace DL
open PySem PySem.Spec PyProof.Rows L2
/-- the slots at a def's entry -/
def dvs0 (n : Nat) (ds : List D) : List DV := ds.map DV.dat ++ List.replicate (n - ds.length) DV.un
/-- a tray in slot 0 has g draws left -/
def TrayEnd (δ : List DV) (t : Addr) (g : Nat) : Prop := (∃ f, δ[0]? = some (.tray false t f) ∧ g ≤ f) ∨ ∃ ds, δ[0]? = some (.ls false t ds) ∧ TrayD g ds
theorem TrayD.mono {f g : Nat} {ds : List D} (h : TrayD f ds) (l : g ≤ f) : TrayD g ds := by
  obtain ⟨ns, tn, lf, e, h1, h2, h3⟩ := h
  exact ⟨ns, tn, lf, e, h1, h2, by omega⟩
theorem slots_at {O : List Addr} {H : Hp} {F : Fm} (hF : F.O = O) : ∀ {vs : List V} {ds : List D} (m : Nat), DtA O H vs ds → ∀ (i : Nat) (x : DV), (ds.map DV.dat ++ List.replicate m DV.un)[i]? = some x → ∃ y, (vs.map some ++ List.replicate m (none : Option V))[i]? = some y ∧ Sl F H x y
  | _, _, m, .nil, i, x, e => by
    have e' : (List.replicate m DV.un)[i]? = some x := e
    have hi : i < m := by
      have := (List.getElem?_eq_some_iff.mp e').1
      rwa [List.length_replicate] at this
    rw [List.getElem?_replicate, if_pos hi] at e'
    cases e'
    exact ⟨none, by show (List.replicate m none)[i]? = _; rw [List.getElem?_replicate, if_pos hi], trivial⟩
  | _, _, m, .cons a r, 0, x, e => by
    have e' := Option.some.inj e
    subst e'
    exact ⟨_, rfl, _, rfl, hF ▸ a⟩
  | _, _, m, .cons a r, i + 1, x, e => slots_at hF m r i x e
theorem noown {n : Nat} : ∀ {ds : List D} {i : Nat} {x : DV}, (ds.map DV.dat ++ List.replicate n DV.un)[i]? = some x → ownOf x = none
  | [], i, x, e => by
    have e' : (List.replicate n DV.un)[i]? = some x := e
    rw [List.getElem?_replicate] at e'
    split at e'
    · cases e'; rfl
    · cases e'
  | d :: ds, 0, x, e => by
    have e' := Option.some.inj e
    subst e'
    rfl
  | d :: ds, i + 1, x, e => noown (ds := ds) (i := i) e
section
variable {P : Program} {w : World} {K : PySem.W.Frag} {mg : Str → Option Value} {base : Heap} {CX : CXT} {k n c : Nat} {f : Addr} {fd : FuncData} {ps N : List Str} {x qual : Str} {st : Stmt} {R : List D → (D → Prop) → Prop}
/-- a def out of which nothing is raised, by its body -/
theorem fnG_body0 {sp : Sp} (F : Fun K x qual st f fd) (S : FnScope N ps (defScope st)) (len : ∀ vs H Q E, sp vs H Q E → vs.length = ps.length)
    (hbody : ∀ (cdv : Value) (A : Around) (outer : List Env) (s : Shared) (H : Hp) (vs : List V) (Q : VK) (E : XK), Room k (A.deeper (envOfC qual (defScope st) s.heap.objs.size f cdv)) → A.guards = some [] → sp vs H Q E →
      ∃ t, PSs (cxOf CX0 P w K mg base N qual (defScope st) f cdv A outer s H E).nox (defBody st) t ∧ t { nx := fun _ H' => Q .non H', rt := Q } (L2.start N vs) H) : FnG P w K mg base CX0 (k + 1) f fd ps sp :=
  fnG_body F S len fun cdv A outer s H vs Q E hr hg hsp => let ⟨t, h, q⟩ := hbody cdv A outer s H vs Q E hr hg hsp; ⟨t, h.nox, q⟩
/-- a def over data -/
theorem fnD (F : Fun K x qual st f fd) (S : FnScope N ps (defScope st)) (hn : ps.length = n)
    (hbody : ∀ (cdv : Value) (A : Around) (outer : List Env) (s : Shared) (H : Hp) (E : XK), Room k (A.deeper (envOfC qual (defScope st) s.heap.objs.size f cdv)) → A.guards = some [] →
      ∃ t, PSs (cxOf CX0 P w K mg base N qual (defScope st) f cdv A outer s H E).nox (defBody st) t ∧ ∀ (ds : List D) (Pd : D → Prop), ds.length = n → R ds Pd → Rs t (dvs0 N.length ds) { nx := fun _ => Pd .none, rt := fun d _ => Pd d }) :
    FnG P w K mg base CX0 (k + 1) f fd ps (SpD n R) := by
  refine fnG_body0 F S (fun vs H Q E h => h.1.trans hn.symm) fun cdv A outer s H vs Q E hr hg hsp => ?_
  obtain ⟨t, ht, q⟩ := hbody cdv A outer s H E hr hg
  obtain ⟨hl, O, ds, Pd, tr, r, hR, fin⟩ := hsp
  have hl' : ds.length = n := r.len.symm.trans hl
  refine ⟨t, ht, q ds Pd hl' hR H [] O O [] (L2.start N vs) H _ (fun a m => m) ⟨tr, fun a m => (nomatch m)⟩ ⟨fun a o _ e => e, tr, ?_, ?_, fun i j x y p e1 e2 o1 o2 => ?_, fun a m => (nomatch m), fun q m => (nomatch m), List.nodup_nil, fun q m => (nomatch m), fun q m => (nomatch m)⟩ ⟨fun O' δ' σ' H' s' S' h => ?_, fun _ _ _ _ _ _ h => h.elim, fun _ _ _ _ _ _ h => h.elim, fun O' δ' σ' H' v d s' S' rv h => ?_⟩⟩
  · unfold dvs0 L2.start
    rw [List.length_append, List.length_append, List.length_map, List.length_map, List.length_replicate, List.length_replicate, r.len]
  · unfold dvs0 L2.start
    rw [r.len]
    exact slots_at rfl _ r
  · rw [noown e1] at o1
    cases o1
  · exact fin .non H' .none h (fun a o e => S'.base a o (fun m => (nomatch m)) e) .non
  · exact fin v H' d h (fun a o e => S'.base a o (fun m => (nomatch m)) e) rv
/-- a def over a tray and data -/
theorem fnT (F : Fun K x qual st f fd) (S : FnScope N ps (defScope st)) (hn : ps.length = n + 1)
    (hbody : ∀ (cdv : Value) (A : Around) (outer : List Env) (s : Shared) (H : Hp) (E : XK), Room k (A.deeper (envOfC qual (defScope st) s.heap.objs.size f cdv)) → A.guards = some [] →
      ∃ t, PSs (cxOf CX0 P w K mg base N qual (defScope st) f cdv A outer s H E).nox (defBody st) t ∧ ∀ (p : Addr) (fu : Nat) (ds : List D) (Pd : D → Prop), c ≤ fu → ds.length = n → R ds Pd →
        Rs t (.tray false p fu :: dvs0 (N.length - 1) ds) { nx := fun δ => Pd .none ∧ TrayEnd δ p (fu - c), rt := fun d δ => Pd d ∧ TrayEnd δ p (fu - c) }) :
    FnG P w K mg base CX0 (k + 1) f fd ps (SpT n c R) := by
  refine fnG_body0 F S (fun vs H Q E h => ?_) fun cdv A outer s H vs Q E hr hg hsp => ?_
  · obtain ⟨t, ws, rfl, hl, _⟩ := h
    rw [hn, List.length_cons, hl]
  obtain ⟨t, ht, q⟩ := hbody cdv A outer s H E hr hg
  obtain ⟨p, ws, rfl, hl, O, fu, ds, Pd, tr, pO, T, hc, r, hR, fin⟩ := hsp
  have hl' : ds.length = n := r.len.symm.trans hl
  have hp : ps.length ≤ N.length := by
    have := congrArg List.length S.pre
    rw [List.length_take] at this
    omega
  have st0 : L2.start N (.ref p :: ws) = some (.ref p) :: (ws.map some ++ List.replicate (N.length - 1 - ws.length) none) := by
    unfold L2.start
    rw [List.map_cons, List.cons_append, List.length_cons]
    have e : N.length - (ws.length + 1) = N.length - 1 - ws.length := by omega
    rw [e]
  have tray_end : ∀ {O' : List Addr} {δ' : List DV} {σ' : L2.St} {H' : Hp}, (∀ a ∈ O, a ∈ O') → Sx ⟨H, [p], O', [], []⟩ δ' σ' H' → TrayEnd δ' p (fu - c) → TrayAt O (fu - c) H' p := fun {O' δ' σ' H'} s' S' te => by
    rcases te with ⟨f', e, hf⟩ | ⟨es, e, td⟩
    · obtain ⟨y, _, _, es, td, _, _, _, _, xs, ex, rx⟩ := S'.sl 0 _ e
      exact ⟨es, xs, td.mono hf, ex, rx.anti s'⟩
    · obtain ⟨y, _, _, _, _, _, _, xs, ex, rx⟩ := S'.sl 0 _ e
      exact ⟨es, xs, td, ex, rx.anti s'⟩
  refine ⟨t, ht, q p fu ds Pd hc hl' hR H [p] O O [] (L2.start N (.ref p :: ws)) H _ (fun a m => m) ⟨tr, fun a m => by rw [List.mem_singleton] at m; rw [m]; exact pO⟩ ⟨fun a o _ e => e, tr, ?_, ?_, ?_, fun a m => by rw [List.mem_singleton] at m; rw [m]; exact pO, fun q m => (nomatch m), List.nodup_nil, fun q m => (nomatch m), fun q m => (nomatch m)⟩ ⟨fun O' δ' σ' H' s' S' h => ?_, fun _ _ _ _ _ _ h => h.elim, fun _ _ _ _ _ _ h => h.elim, fun O' δ' σ' H' v d s' S' rv h => ?_⟩⟩
  · rw [st0]
    unfold dvs0
    rw [List.length_cons, List.length_cons, List.length_append, List.length_append, List.length_map, List.length_map, List.length_replicate, List.length_replicate, r.len]
  · rw [st0]
    intro i x e
    cases i with
    | zero =>
      have e' := Option.some.inj e
      subst e'
      obtain ⟨es, xs, td, ex, rx⟩ := T
      refine ⟨_, rfl, rfl, es, td, pO, (fun z => nomatch z), fun _ => List.mem_singleton.mpr rfl, ?_, xs, ex, rx⟩
      obtain ⟨_, _, _, rfl, _⟩ := td
      exact (by show 3 ≤ 100000; decide)
    | succ i =>
      unfold dvs0 at e
      rw [r.len]
      exact slots_at rfl _ r i x e
  · intro i j x y q e1 e2 o1 o2
    cases i with
    | zero =>
      cases j with
      | zero => rfl
      | succ j =>
        rw [noown (i := j) e2] at o2
        cases o2
    | succ i =>
      rw [noown (i := i) e1] at o1
      cases o1
  · exact fin .non H' .none h.1 (fun a o m e => S'.base a o m e) (tray_end s' S' h.2) .non
  · exact fin v H' d h.1 (fun a o m e => S'.base a o m e) (tray_end s' S' h.2) rv
end
/-- the promise of a def that makes a tray of the script -/
def SpTray (K : PySem.W.Frag) : Sp := fun vs H Q _ => ∃ (a : Addr) (ns : List Int), vs = [.ref a] ∧ SqL K H a (ns.map V.int) ∧ ns.length ≤ 63 ∧
  ∀ (p : Addr) (H' : Hp) (ds : List D) (xs : List V), H p = none → Same H H' → TrayD 1000000 ds → H' p = some (.lst xs) → DtA [p] H' xs ds → Q (.ref p) H'
theorem pick_range {α : Type} (l : List α) : pick (List.range l.length) l = l := by
  unfold pick
  refine List.ext_getElem? fun i => ?_
  have e : (List.range l.length).filterMap (fun i => l[i]?) = l := by
    induction l with
    | nil => rfl
    | cons a r ih =>
      rw [List.length_cons, List.range_succ_eq_map, List.filterMap_cons]
      show a :: List.filterMap (fun i => (a :: r)[i]?) (List.map Nat.succ (List.range r.length)) = a :: r
      rw [List.filterMap_map]
      exact congrArg _ ih
  rw [e]
section
variable {δ : List DV} {Pp : D → List DV → Prop} {E : XK} {t tk tr : TA} {n m c i : Nat} {ix : List Nat} {R : List D → (D → Prop) → Prop}
/-- a call of a def over data -/
theorem rd_go (h : RdA t δ fun xs δ1 => RdA tk δ1 fun ys δ2 => xs.length = n ∧ ys.length = m ∧ (pick ix (xs ++ ys)).length = c ∧ R (pick ix (xs ++ ys)) fun z => Pp z δ2) : Rd (tGo n m ix (SpD c R) E t tk) δ Pp := fun F σ H S Q k =>
  h F σ H S _ fun vs H1 xs δ1 h2 l1 S1 r1 => h2 F σ H1 S1 _ fun zs H2 ys δ2 ⟨e1, e2, e3, hR⟩ l2 S2 r2 =>
    have r3 := DtA.pick ((r1.le l2).app r2) ix
    ⟨r1.len.trans e1, r2.len.trans e2, r3.len.trans e3, F.O, _, _, S2.trk, r3, hR, fun v H' d p s r => k v H' d δ2 p ((l1.trans l2).trans (Le.of s)) (S2.same s) r⟩
/-- a call of a def over a tray and data -/
theorem rd_goT {b : Bool} {p : Addr} {f0 : Nat} (hi : δ[i]? = some (.tray b p f0)) (hx : ix = List.range (n + 1))
    (h : RdA tr δ fun xs δ1 => ∃ f, δ1[i]? = some (.tray b p f) ∧ c ≤ f ∧ xs.length = n ∧ R xs fun z => Pp z (δ1.set i (.tray b p (f - c)))) : Rd (tGo (n + 1) 0 ix (SpT n c R) E (tCons (tVar i) tr) tNil) δ Pp := fun F σ H S Q k => by
  obtain ⟨y, ey, e1, ds0, td0, pO, _⟩ := S.sl i _ hi
  subst e1
  refine ⟨.ref p, ey, h F σ H S _ fun vs H1 xs δ1 ⟨f, h1, hc, hl, hR⟩ l1 S1 r1 => ?_⟩
  obtain ⟨y1, ey1, e2, ds1, td1, _, _, _, _, xs1, e3, r3⟩ := S1.sl i _ h1
  have hvl : vs.length = n := r1.len.trans hl
  have e : pick ix (.ref p :: vs ++ []) = .ref p :: vs := by
    rw [List.append_nil, hx, ← hvl]
    exact pick_range (.ref p :: vs)
  refine ⟨by rw [List.length_cons, hvl], rfl, ?_⟩
  rw [e]
  exact ⟨p, vs, rfl, hvl, F.O, f, xs, _, S1.trk, pO, ⟨ds1, xs1, td1, e3, r3⟩, hc, r1, hR, fun v H' d p' l T r =>
    k v H' d _ p' (l1.trans fun a o n e => l a o (fun (m : a ∈ [p]) => n (by rw [List.mem_singleton] at m; rw [m]; exact pO)) e) (S1.drawn h1 l T) r⟩
end
end DL

/-! Comprehensions that draw nothing. -/
namespace DL
open PySem PySem.Spec PyProof.Rows L2
theorem dI0_mk {g : Int → Int → D} {i j : Int} {P : D → Prop} (h : P (g i j)) : dI0 g (.int i) (.int j) P := h
theorem at_nat {ds : List D} {k : Nat} {d : D} (h : ds[k]? = some d) : atI ds (k : Int) = some d := by
  have hk := (List.getElem?_eq_some_iff.mp h).1
  have e : ixN ds.length (k : Int) = some k := by
    unfold ixN
    rw [if_pos (by omega), if_pos (by omega)]
    all_goals rfl
  unfold atI
  rw [e]
  exact h
theorem dI_mk {C : Int → Int → Prop} {g : Int → Int → D} {i j : Int} {P : D → Prop} (c : C i j) (h : P (g i j)) : dI C g (.int i) (.int j) P := ⟨c, h⟩
section
variable {δ : List DV} {P : D → List DV → Prop} {te : TE} {tt : TT} {i : Nat} {wi : TI}
theorem rt_yes {PT : Bool → List DV → Prop} (p : PT true δ) : RdT tYes δ PT := fun F σ H S Q k => k true H δ p (Le.refl _ _) S
theorem back_set {d : D} {x : DV} (h : δ[i]? = some x) : back δ ((δ.set i .un).set i (.dat d)) [i] = δ := by
  have hl : ((δ.set i .un).set i (.dat d)).length = δ.length := by rw [List.length_set, List.length_set]
  unfold back
  rw [hl]
  refine List.ext_getElem? fun k => ?_
  rw [List.getElem?_map]
  by_cases hk : k < δ.length
  · rw [List.getElem?_range hk]
    show some (if k ∈ [i] then δ.getD k .un else ((δ.set i .un).set i (.dat d)).getD k .un) = δ[k]?
    by_cases e : k = i
    · subst e
      rw [if_pos (List.mem_singleton.mpr rfl), List.getD_eq_getElem?_getD, h]
      rfl
    · rw [if_neg (fun m => e (List.mem_singleton.mp m)), List.getD_eq_getElem?_getD, List.getElem?_set_ne (fun z => e z.symm), List.getElem?_set_ne (fun z => e z.symm), List.getElem?_eq_getElem hk]
      rfl
  · rw [List.getElem?_eq_none (by rw [List.length_range]; omega), List.getElem?_eq_none (by omega)]
    rfl
theorem rd_goT2 {R : List D → (D → Prop) → Prop} {E : XK} {tr : TA} {n m c : Nat} {ix : List Nat} {b : Bool} {p : Addr} {f0 : Nat} (hi : δ[i]? = some (.tray b p f0)) (hm : m = n + 1) (hx : ix = List.range (n + 1))
    (h : RdA tr δ fun xs δ1 => ∃ f, δ1[i]? = some (.tray b p f) ∧ c ≤ f ∧ xs.length = n ∧ R xs fun z => P z (δ1.set i (.tray b p (f - c)))) : Rd (tGo m 0 ix (SpT n c R) E (tCons (tVar i) tr) tNil) δ P := by
  subst hm
  exact rd_goT hi hx h
/-- [e for x in ..] -/
theorem rd_lcmap (f : D → D) (h : RdI wi δ fun ds δ1 => ds.length ≤ 50000 ∧ (∃ x, δ1[i]? = some x ∧ ownOf x = none) ∧ (∀ d ∈ ds, Rd te ((δ1.set i .un).set i (.dat d)) fun y δ4 => y = f d ∧ δ4 = (δ1.set i .un).set i (.dat d)) ∧ P (.list (ds.map f)) δ1) :
    Rd (tLc wi (gName i) tYes te [i]) δ P := by
  refine rd_lc gd_name (fun _ m => m) fun F σ H S R k => h F σ H S R fun J H' ds δ1 q ⟨hl, ⟨x, ex, ox⟩, ht, p⟩ l S1 src => k J H' ds δ1 q ⟨hl, fun n acc δ' => δ' = δ1 ∧ acc = (ds.take n).map f, ⟨rfl, by rw [List.take_zero]; rfl⟩, fun n d acc δ' hd hI => ?_, fun acc δ' hI => ?_⟩ l S1 src
  · obtain ⟨rfl, rfl⟩ := hI
    have hn : i < δ'.length := (List.getElem?_eq_some_iff.mp ex).1
    refine ⟨fun v hv y hy => ?_, by show i < (δ'.set i .un).length; rw [List.length_set]; exact hn, rt_yes ⟨fun _ => rd_imp (ht d (List.mem_of_getElem? hd)) fun y δ4 z => ?_, fun z => Bool.noConfusion z⟩⟩
    · rw [List.mem_singleton] at hv
      rw [hv, ex] at hy
      cases hy
      exact ox
    · obtain ⟨rfl, rfl⟩ := z
      refine ⟨back_set ex, ?_⟩
      rw [List.take_add_one, hd, List.map_append]
      rfl
  · obtain ⟨rfl, rfl⟩ := hI
    rw [List.take_length]
    exact p
/-- [e for x in .. if t] -/
theorem rd_lcif (g : D → Bool) (f : D → D) (h : RdI wi δ fun ds δ1 => ds.length ≤ 50000 ∧ (∃ x, δ1[i]? = some x ∧ ownOf x = none) ∧ (∀ d ∈ ds, RdT tt ((δ1.set i .un).set i (.dat d)) fun b δ3 => b = g d ∧ δ3 = (δ1.set i .un).set i (.dat d)) ∧
    (∀ d ∈ ds, g d = true → Rd te ((δ1.set i .un).set i (.dat d)) fun y δ4 => y = f d ∧ δ4 = (δ1.set i .un).set i (.dat d)) ∧ P (.list ((ds.filter g).map f)) δ1) :
    Rd (tLc wi (gName i) tt te [i]) δ P := by
  refine rd_lc gd_name (fun _ m => m) fun F σ H S R k => h F σ H S R fun J H' ds δ1 q ⟨hl, ⟨x, ex, ox⟩, h1, ht, p⟩ l S1 src => k J H' ds δ1 q ⟨hl, fun n acc δ' => δ' = δ1 ∧ acc = ((ds.take n).filter g).map f, ⟨rfl, by rw [List.take_zero]; rfl⟩, fun n d acc δ' hd hI => ?_, fun acc δ' hI => ?_⟩ l S1 src
  · obtain ⟨rfl, rfl⟩ := hI
    have hn : i < δ'.length := (List.getElem?_eq_some_iff.mp ex).1
    have hm := List.mem_of_getElem? hd
    refine ⟨fun v hv y hy => ?_, by show i < (δ'.set i .un).length; rw [List.length_set]; exact hn, fun F σ H S Q k => h1 d hm F σ H S Q fun b H' δ3 ⟨eb, e3⟩ l S' => k b H' δ3 ⟨fun z => ?_, fun z => ?_⟩ l S'⟩
    · rw [List.mem_singleton] at hv
      rw [hv, ex] at hy
      cases hy
      exact ox
    · subst e3
      refine rd_imp (ht d hm (eb ▸ z)) fun y δ4 w => ?_
      obtain ⟨rfl, rfl⟩ := w
      refine ⟨back_set ex, ?_⟩
      rw [List.take_add_one, hd, List.filter_append]
      show _ = (_ ++ [d].filter g).map f
      rw [List.filter_cons_of_pos (eb ▸ z), List.map_append]
      rfl
    · subst e3
      refine ⟨back_set ex, ?_⟩
      rw [List.take_add_one, hd, List.filter_append]
      show _ = (_ ++ [d].filter g).map f
      rw [List.filter_cons_of_neg (by rw [← eb, z]; exact Bool.false_ne_true), List.filter_nil, List.append_nil]
  · obtain ⟨rfl, rfl⟩ := hI
    rw [List.take_length]
    exact p
end
end DL

/-! The rules with the written part told (within comprehensions it must stand so). -/
namespace DL
open PySem PySem.Spec PyProof.Rows L2
section
variable {X : Cx} {K : PySem.W.Frag} {a b e l : Expr} {rest es : List Expr} {ta tb te : TE} {t : TA} {pos : Pos}
theorem ixK (h : X.K = K := by rfl) : IxR X (rIx K) := by subst h; exact ix_seq
theorem lenK (h : X.K = K := by rfl) : CallR X (.builtin "len") (fun xs H Q => ∃ x n, xs = [x] ∧ LenV K x H n ∧ Q (.int (n : Nat)) H) := by subst h; exact call_len
theorem isiK1 (h : X.K = K := by rfl) : CallR X (.builtin "isinstance") (rIsi K) := by subst h; exact call_isi
theorem isiK2 (h : X.K = K := by rfl) : CallR X (.builtin "isinstance") (rIsiT K) := by subst h; exact call_isiT
theorem allK (hc : X.calm = true) (h : X.K = K := by rfl) : CallR X (.builtin "all") (rAll K) := by subst h; exact cr_all hc
theorem anyK (hc : X.calm = true) (h : X.K = K := by rfl) : CallR X (.builtin "any") (rAny K) := by subst h; exact cr_any hc
theorem sumK (hc : X.calm = true) (h : X.K = K := by rfl) : CallR X (.builtin "sum") (rSum K) := by subst h; exact cr_sum hc
theorem eqK {k : Nat} (hr : Room k X.A) (h : X.K = K := by rfl) : OpR X (compareOp .Eq) (rEqD K) := by subst h; exact op_eqD (by have := hr.un; omega)
theorem neK {k : Nat} (hr : Room k X.A) (h : X.K = K := by rfl) : OpR X (compareOp .NotEq) (rNeD K) := by subst h; exact op_neD (by have := hr.un; omega)
theorem andK (ha : PE X a ta) (hb : PE X (.BoolOp .And (b :: rest) pos) tb) (h : X.K = K := by rfl) : PE X (.BoolOp .And (a :: b :: rest) pos) (tAndT K ta tb) := by subst h; exact pe_andT ha hb
theorem orK (ha : PE X a ta) (hb : PE X (.BoolOp .Or (b :: rest) pos) tb) (h : X.K = K := by rfl) : PE X (.BoolOp .Or (a :: b :: rest) pos) (tOrT K ta tb) := by subst h; exact pe_orT ha hb
theorem notK (ha : PE X a ta) (h : X.K = K := by rfl) : PE X (.UnaryOp .Not a pos) (tNotT K ta) := by subst h; exact pe_notT ha
theorem truK (ha : PE X a ta) (he : ∀ whole, isTrue a X.env whole = (do let v ← whole; standAt a.pos; holding [v] (truthy v)) := by intro _; rfl) (h : X.K = K := by rfl) : PT X a (fun σ H Q => ta σ H fun x H' => ∃ k, TruV K x H' k ∧ Q k H') := by subst h; exact pt_truth ha he
theorem piK {tg : Expr} (hl : PE X l ta) (h : X.K = K := by rfl) : PI X tg l (iSeq K ta) := by subst h; exact pi_seq hl
theorem slK (h : X.K = K := by rfl) : SlR X (rSlL K) := by subst h; exact sl_list
theorem tupK (h : X.K = K := by rfl) : CallR X (.type "tuple") (fun xs H Q => ∃ p ys, xs = [.ref p] ∧ ((SqL K H p ys ∧ ∀ l, H l = none → Q (.ref l) (upd H l (.tup ys))) ∨ (SqT K H p ys ∧ Q (.ref p) H))) := by subst h; exact call_tuple_of
theorem lstK (h : X.K = K := by rfl) : CallR X (.type "list") (fun xs H Q => ∃ p ys, xs = [.ref p] ∧ (SqL K H p ys ∨ SqT K H p ys) ∧ ∀ l, H l = none → Q (.ref l) (upd H l (.lst ys))) := by subst h; exact call_list_of
theorem gtK {es : List Expr} {k : Nat} {t : TGs} {n : Nat} (hc : X.calm = true) (h : PGs X es t) (hK : X.K = K := by rfl)
    (hn : (assignEach es X.env).length = n := by rfl) (hst : (assignEach es X.env).findIdx? (·.1) = none := by rfl) : PG X (.Tuple es k pos) (gTup K n t) := by subst hK; exact pg_tup hc h hn hst
theorem appK {o : Expr} {apos cpos : Pos} (ho : PE X o te) (ha : PA X (e :: es) t) (h : X.K = K := by rfl) (hbase : attributeBase o "append" X.env (eval o X.env) = eval o X.env := by rfl) : True := trivial
end
end DL

/-! How long a repr is at most. -/
namespace DL
open PySem PySem.Spec PyProof.Rows L2
mutual
def bw : D → Nat
  | .none => 4
  | .bool _ => 5
  | .int _ => 1925
  | .str x => (reprText x).length
  | .list ds => bwAll ds + 4
  | .tuple ds => bwAll ds + 4
  | .dict _ => 0
def bwAll : List D → Nat
  | [] => 0
  | d :: ds => bw d + 2 + bwAll ds
end
theorem two_le (k : Nat) : ((if k > 0 then ", " else "" : String) : Str).length ≤ 2 := by split <;> decide +kernel
theorem textFrom_le : ∀ (ts : List Str) (k : Nat) (acc : Str), (textFrom k acc ts).length ≤ acc.length + piled ts
  | [], k, acc => by
    show acc.length ≤ _
    exact Nat.le_add_right _ _
  | t :: r, k, acc => by
    have h := textFrom_le r (k + 1) (acc ++ (if k > 0 then ", " else "" : String) ++ t)
    rw [strLen_append, strLen_append] at h
    have h2 := two_le k
    rw [piled_cons]
    show (textFrom (k + 1) (acc ++ (if k > 0 then ", " else "" : String) ++ t) r).length ≤ _
    omega
theorem listText_le (ts : List Str) : (listText ts).length ≤ piled ts + 2 := by
  have h := textFrom_le ts 0 "["
  have e1 : (("[" : String) : Str).length = 1 := rfl
  have e2 : (("]" : String) : Str).length = 1 := rfl
  unfold listText
  rw [strLen_append, e2]
  rw [e1] at h
  omega
mutual
theorem shown_le : ∀ d : D, d.canLay0 = true → d.showable = true → d.shown.length ≤ bw d
  | .none, _, _ => by decide +kernel
  | .bool b, _, _ => by cases b <;> decide +kernel
  | .int i, _, h => by
    have h' : i.natAbs.log2 < 1920 := by simpa [PyData.showable] using h
    have := int_text_len_1921 h'
    show (PySem.Str.ofString (toString i)).length ≤ 1925
    omega
  | .str x, _, _ => Nat.le_refl _
  | .list ds, c, h => by
    have q := shownAll_le ds (by simpa [PyData.canLay0] using c) (by simpa [PyData.showable] using h)
    have := listText_le (PyData.shownAll ds)
    show (listText (PyData.shownAll ds)).length ≤ bwAll ds + 4
    omega
  | .tuple ds, c, h => by
    have q := shownAll_le ds (by simpa [PyData.canLay0] using c) (by simpa [PyData.showable] using h)
    have := fmt_text (PyData.shownAll ds)
    show (tupleText (PyData.shownAll ds)).length ≤ bwAll ds + 4
    omega
  | .dict _, c, _ => by simp [PyData.canLay0] at c
theorem shownAll_le : ∀ ds : List D, PyData.canLayAll0 ds = true → PyData.showableAll ds = true → piled (PyData.shownAll ds) ≤ bwAll ds
  | [], _, _ => Nat.le_refl _
  | d :: ds, c, h => by
    have c' : d.canLay0 = true ∧ PyData.canLayAll0 ds = true := by simpa [PyData.canLayAll0] using c
    have h' : d.showable = true ∧ PyData.showableAll ds = true := by simpa [PyData.showableAll] using h
    have h1 := shown_le d c'.1 h'.1
    have h2 := shownAll_le ds c'.2 h'.2
    show piled (PyData.shown d :: PyData.shownAll ds) ≤ bw d + 2 + bwAll ds
    rw [piled_cons]
    omega
end
/-- what may be shown -/
def Shw (d : D) : Prop := (d.canLay0 = true ∨ d = .dict []) ∧ d.showable = true ∧ d.depth ≤ 10 ∧ d.shown.length ≤ 16777216
theorem shw {d : D} (h1 : d.canLay0 = true := by rfl) (h2 : d.showable = true := by rfl) (h3 : d.depth ≤ 10 := by exact of_decide_eq_true rfl) (h4 : bw d ≤ 16777216 := by exact of_decide_eq_true rfl) : Shw d := ⟨.inl h1, h2, h3, Nat.le_trans (shown_le d h1 h2) h4⟩
theorem shw_dict : Shw (.dict []) := ⟨.inr rfl, rfl, by decide, by decide +kernel⟩
theorem dRepr_mk {d : D} {P : D → Prop} (h : Shw d) (p : P (.str d.shown)) : dRepr [d] P := ⟨d, rfl, h.1, h.2.1, h.2.2.1, h.2.2.2, p⟩
theorem log_lt {i : Int} (h : i.natAbs < 2 ^ 200) : decide (i.natAbs.log2 < 1920) = true := decide_eq_true (Nat.lt_of_lt_of_le (PySem.Flt.log2_lt_of (by decide) h) (by decide))
theorem rd_neg {ta : TE} {δ : List DV} {P : D → List DV → Prop} (h : Rd ta δ fun x δ1 => ∃ i, x = .int i ∧ P (.int (-i)) δ1) : Rd (tUn (rU fun i => .int (-i)) ta) δ P := fun F σ H S Q k => h F σ H S _ fun v H1 x δ1 ⟨i, e, p⟩ l1 S1 r1 => by
  subst e
  cases r1
  exact ⟨i, rfl, k _ H1 _ δ1 p l1 S1 (.int _)⟩
theorem dAbs_mk {i : Int} {P : D → Prop} (h : P (.int (i.natAbs : Int))) : dAbs [.int i] P := ⟨i, rfl, by
  have e : (if i < 0 then -i else i) = (i.natAbs : Int) := by split <;> omega
  rw [e]
  exact h⟩
/-- a law behind its first row: a tray stands in slot 1 -/
theorem law_go {N : List Str} {a t : Addr} {H H1 : Hp} {ds : List D} {xs : List V} {tt : TS} {Q : VK} (hN : 2 ≤ N.length) (ht : H t = none) (sm : Same H H1) (td : TrayD 1000000 ds) (ex : H1 t = some (.lst xs)) (rx : DtA [t] H1 xs ds) (q : ∀ H', Q (.bl true) H')
    (h : Rs tt (.un :: .tray true t 1000000 :: List.replicate (N.length - 2) .un) { nx := fun _ => False, rt := fun d _ => d = .bool true }) : tt { nx := fun _ H' => Q .non H', rt := Q } ((L2.start N [.ref a]).set 1 (some (.ref t))) H1 := by
  have sl : ((L2.start N [.ref a]).set 1 (some (.ref t))).length = N.length := by
    rw [List.length_set]
    unfold L2.start
    rw [List.length_append, List.length_map, List.length_replicate]
    show 1 + (N.length - 1) = N.length
    omega
  have dl : (DV.un :: DV.tray true t 1000000 :: List.replicate (N.length - 2) DV.un).length = N.length := by
    rw [List.length_cons, List.length_cons, List.length_replicate]
    omega
  have only : ∀ (i : Nat) (x : DV), (DV.un :: DV.tray true t 1000000 :: List.replicate (N.length - 2) DV.un)[i]? = some x → x = .un ∨ (i = 1 ∧ x = .tray true t 1000000) := fun i x e => by
    match i, e with
    | 0, e => exact .inl (Option.some.inj e).symm
    | 1, e => exact .inr ⟨rfl, (Option.some.inj e).symm⟩
    | i + 2, e =>
      have e' : (List.replicate (N.length - 2) DV.un)[i]? = some x := e
      rw [List.getElem?_replicate] at e'
      split at e'
      · exact .inl (Option.some.inj e').symm
      · cases e'
  have own1 : ∀ (i : Nat) (x : DV) (p : Addr), (DV.un :: DV.tray true t 1000000 :: List.replicate (N.length - 2) DV.un)[i]? = some x → ownOf x = some p → i = 1 := fun i x p e o => by
    rcases only i x e with rfl | ⟨h, _⟩
    · cases o
    · exact h
  refine h H [] [] [t] [] _ H1 _ (fun a m => (nomatch m)) ⟨fun a m => (nomatch m), fun a m => (nomatch m)⟩ ⟨fun a o _ e => sm a o e, fun a m => ?_, by rw [sl, dl], fun i x e => ?_, fun i j x y p e1 e2 o1 o2 => (own1 i x p e1 o1).trans (own1 j y p e2 o2).symm, fun a m => (nomatch m), fun q m => (nomatch m), List.nodup_nil, fun q m => (nomatch m), fun q m => (nomatch m)⟩
    ⟨fun _ _ _ _ _ _ h => h.elim, fun _ _ _ _ _ _ h => h.elim, fun _ _ _ _ _ _ h => h.elim, fun O δ σ H' v d _ S r e => ?_⟩
  · rw [List.mem_singleton] at m
    rw [m]
    exact ⟨_, ex⟩
  · have hi : i < ((L2.start N [.ref a]).set 1 (some (.ref t))).length := by
      rw [sl, ← dl]
      exact (List.getElem?_eq_some_iff.mp e).1
    rcases only i x e with rfl | ⟨rfl, rfl⟩
    · exact ⟨_, List.getElem?_eq_getElem hi, trivial⟩
    · refine ⟨_, List.getElem?_eq_getElem hi, ?_, ds, td, List.mem_singleton.mpr rfl, fun _ => ht, (fun z => nomatch z), ?_, xs, ex, rx⟩
      · exact List.getElem_set_self _
      · obtain ⟨_, _, _, rfl, _⟩ := td
        exact (by show 3 ≤ 100000; decide)
  · subst e
    cases r
    exact q H'
theorem law_start {K : PySem.W.Frag} {N : List Str} {a : Addr} {H : Hp} {ns : List Int} {E : XK} {tt : TS} {Q : VK} (hN : 2 ≤ N.length) (hS : SqL K H a (ns.map V.int)) (hl : ns.length ≤ 63) (q : ∀ H', Q (.bl true) H')
    (h : ∀ t, Rs tt (.un :: .tray true t 1000000 :: List.replicate (N.length - 2) .un) { nx := fun _ => False, rt := fun d _ => d = .bool true }) :
    tSeq (tAsg (tGo 1 0 [0] (SpTray K) E (tCons (tVar 0) tNil) tNil) (gName 1)) tt { nx := fun _ H' => Q .non H', rt := Q } (L2.start N [.ref a]) H :=
  ⟨.ref a, rfl, rfl, rfl, a, ns, rfl, hS, hl, fun t H1 ds xs ht sm td ex rx => law_go hN ht sm td ex rx q (h t)⟩
/-- {k: i} -/
theorem rd_disp_ii {k i : Int} {δ : List DV} {P : D → List DV → Prop} (q : P (.dict [(.int k, .int i)]) δ) : Rd (tDisp [(tC (.int k), tC (.int i))]) δ P := fun F σ H S Q kk p hp => by
  refine ⟨upd_same, [(Sum.inl k, .int i)], rfl, of_decide_eq_true rfl, ?_⟩
  have e : mergeK [] [(Sum.inl k, V.int i)] = [((Sum.inl k : Key), V.int i)] := rfl
  rw [e, upd_upd]
  have s : Same H (upd H p (.dK [((Sum.inl k : Key), V.int i)])) := Same.upd hp
  exact kk _ _ _ δ q (Le.of s) (S.same s) (.dct (S.notO hp) upd_same (.cons (.int i) .nil))
/-- == and != of texts -/
def dEqS : D → D → (D → Prop) → Prop := fun x y P => ∃ a b : Str, x = .str a ∧ y = .str b ∧ P (.bool (decide (a = b)))
def dNeS : D → D → (D → Prop) → Prop := fun x y P => ∃ a b : Str, x = .str a ∧ y = .str b ∧ P (.bool (!decide (a = b)))
theorem str_eq (a b : Str) : decide (V.str a = V.str b) = decide (a = b) := decide_eq_decide.mpr ⟨fun h => V.str.inj h, fun h => by rw [h]⟩
theorem od_eqS : OpD rEq dEqS := fun O H x y d e P Q _ rx ry h k => by
  obtain ⟨a, b, rfl, rfl, p⟩ := h
  cases rx
  cases ry
  refine ⟨rfl, ?_⟩
  rw [str_eq]
  exact k _ H _ p (Same.refl H) (.bl _)
theorem od_neS : OpD rNe dNeS := fun O H x y d e P Q _ rx ry h k => by
  obtain ⟨a, b, rfl, rfl, p⟩ := h
  cases rx
  cases ry
  refine ⟨rfl, ?_⟩
  rw [str_eq]
  exact k _ H _ p (Same.refl H) (.bl _)
theorem shapedInt {i : Int} : SeqAt.shaped (.int i) = true := rfl
theorem eqv_int {i j : Int} : PyData.eqv (.int i) (.int j) = decide (i = j) := rfl
end DL

/-! The end of a law whose def is told where no repr is under way. -/
namespace DL
open PySem PySem.Spec PyProof.Rows L2
/-- an abstract heap in which at most the script at a may be tracked -/
structure Scr (P : Program) (w : World) (K : PySem.W.Frag) (h : Heap) (a : Addr) (ns : List Int) (H : Hp) : Prop where
  only : Only H
  sq : SqL K H a (ns.map V.int)
  ok : HOk P w H h
  at_a : ∀ b u, H b = some u → b = a ∧ K.lookup a = none
theorem scr_ex {P : Program} {w : World} {K : PySem.W.Frag} {h : Heap} {a : Addr} {vs : List Value} {ns : List Int} (X : K.In h) (ha : h.get? a = some { cls := .type "list", data := .seq vs.toArray }) (hi : IntsAre vs ns) (hl : ns.length ≤ sizeLine) :
    ∃ H, Scr P w K h a ns H := by
  have rv := vals_ints hi
  cases hk : K.lookup a with
  | none =>
    let ob : Obj := { cls := .type "list", data := .seq vs.toArray }
    let u : HO := .frz ob (.lst (ns.map V.int))
    have atA : ∀ b z, (if b = a then some u else none) = some z → b = a ∧ z = u := fun b z e => by
      by_cases q : b = a
      · rw [if_pos q] at e
        exact ⟨q, (Option.some.inj e).symm⟩
      · rw [if_neg q] at e
        cases e
    refine ⟨fun b => if b = a then some u else none, ⟨fun b => ?_, Or.inl (Or.inr ⟨ob, if_pos rfl⟩), fun b z e => ?_, fun b z e => ⟨(atA b z e).1, hk⟩⟩⟩
    · by_cases q : b = a
      · exact Or.inr ⟨ob, _, if_pos q⟩
      · exact Or.inl (if_neg q)
    · obtain ⟨rfl, rfl⟩ := atA b z e
      exact ⟨ha, by rw [List.length_map]; exact hl, vs, _, rv, ha⟩
  | some o =>
    have e := X a o hk
    rw [ha] at e
    have e' := Option.some.inj e
    subst e'
    exact ⟨fun _ => none, ⟨fun _ => Or.inl rfl, Or.inr ⟨_, vs.toArray, _, hk, rfl, rfl, rfl, by rw [List.size_toArray, hi.length]; exact hl, by simpa using rv⟩, (fun _ _ z => nomatch z), (fun _ _ z => nomatch z)⟩⟩
/-- the law's def at the heap behind the top -/
theorem law_callG {P : Program} {w : World} {K : PySem.W.Frag} {mg mb : Str → Option Value} {CX : CXT} {k : Nat} {fa a : Addr} {fd : FuncData} {x : Str} {sp : Sp} {s : Shared} {vs : List Value} {ns : List Int}
    (X : K.In s.heap) (hm : s.heap.Ns mainGlobals mg) (hB : s.heap.Ns builtinsNs mb) (hbb : ∀ y : Str, y ≠ "__name__" → mb y = bootBuiltins y) (lim : s.heap.NoLimit) (hg : s.gens = #[])
    (ha : s.heap.get? a = some { cls := .type "list", data := .seq vs.toArray }) (hi : IntsAre vs ns) (hl : ns.length ≤ sizeLine) (hr : Room k callerA)
    (F : ∀ base : Heap, K.In base → base.Ns mainGlobals mg → FnG P w K mg base CX k fa fd [x] sp) (hb : ∀ (s : Shared) (u : Value), BindsTo s fd ⟨[u], []⟩ [(x, u)])
    (hsp : ∀ H : Hp, Only H → SqL K H a (ns.map V.int) → sp [.ref a] H (fun v _ => v = .bl true) fun _ _ _ => False)
    (hCX : ∀ H e s', CX [] H s (fun _ _ _ => False) e s' → False) :
    codeAny (model P w) callerA (.call (.ref fa) ⟨[.ref a], []⟩) (fun r s' => r = .ok (.ret (.bool true)) ∧ OldK s.heap s'.heap ∧ s'.os = s.os ∧ AllBare s'.gens) s := by
  obtain ⟨H, T⟩ := scr_ex (P := P) (w := w) X ha hi hl
  -- what is no list stays in sight where the script is hidden
  have free : ∀ {b : Addr} {o : Obj}, s.heap.get? b = some o → (∀ vs n, o.data ≠ .seq vs n) → H b = none := fun {b o} e d => by
    cases q : H b with
    | none => rfl
    | some u =>
      obtain ⟨rfl, _⟩ := T.at_a b u q
      rw [ha] at e
      cases e
      exact absurd rfl (d _ _)
  have ns_in : ∀ {b : Addr} {m : Str → Option Value}, s.heap.Ns b m → (hidT s.heap H).Ns b m := fun {b m} h => by
    obtain ⟨o, es, ep, e, d, r⟩ := h
    exact ⟨o, es, ep, hidT_get e (free e fun vs n z => by rw [d] at z; cases z), d, r⟩
  have Kb : K.In (hidT s.heap H) := fun b o e => by
    refine hidT_get (X b o e) ?_
    cases q : H b with
    | none => rfl
    | some u =>
      obtain ⟨rfl, n⟩ := T.at_a b u q
      rw [n] at e
      cases e
  obtain ⟨mc, l1, l2⟩ := lim
  have M : Mod K mg (hidT s.heap H) := ⟨Kb, ns_in hm, ⟨mb, ns_in hB, hbb⟩, ⟨mc, ns_in l1, l2⟩⟩
  have E0 : Env0 P w K mg (hidT s.heap H) callerA [] s H :=
    { frames := rfl, mod := M, bs := fun b o e => of_hidT e, bsz := Nat.le_of_eq (hidT_size _ _), funs := trivial, frf := (fun b (z : b ∈ ([] : List Addr)) => absurd z List.not_mem_nil), hok := T.ok, bare := .of_eq hg }
  have run := (F _ Kb (ns_in hm)).run callerA [] s H ⟨[.ref a], []⟩ [.ref a] [.ref a] _ _ hr rfl E0 (hb s (.ref a)) (.cons rfl .nil) (hsp H T.only T.sq)
  refine codeAny_mono run fun r s' h => ?_
  match r, h with
  | .error e, h => exact (hCX H e s' h).elim
  | .ok .next, h => exact h.elim
  | .ok .brk, h => exact h.elim
  | .ok .cont, h => exact h.elim
  | .ok (.ret u), h =>
    obtain ⟨v, H', os, bare, un, ok', rv, q⟩ := h
    have q' : v = .bl true := q
    rw [q'] at rv
    have eu : u = Value.bool true := rv
    rw [eu]
    refine ⟨rfl, OldK.of_keep fun b o e => ?_, os, bare⟩
    rcases T.only b with z | ⟨ob, xs, z⟩
    · exact un.keep b o e z (fun (m : b ∈ ([] : List Addr)) => absurd m List.not_mem_nil) (fun m => absurd m List.not_mem_nil)
    · have k1 := (T.ok b _ z).1
      have k2 := (ok' b _ (un.frzs b ob _ z)).1
      rw [e] at k1
      rw [Option.some.inj k1]
      exact k2
theorem walk_ofG {l : PySem.W.OpenLaw} {n k : Nat} {q : Program} {loose : List Str} {XP : (Str → Option Value) → Heap → Prop} {YP : World → Heap → Prop} {d : DefRec} {K : Params → PySem.W.Frag} {sp : PySem.W.Frag → Sp} {x : Str}
    (hn : l.most = some n) (hn2 : n ≤ sizeLine) (hdf : d.params.defaults = []) (hr : Room k callerA) (hY : ∀ (w : World) (h : Heap), YP w h → (K w.params).In h)
    (F : ∀ (w : World) (mg : Str → Option Value) (fa : Addr) (h : Heap), (K w.params).In h → h.Ns mainGlobals mg → mg d.name = some (.ref fa) →
      ∃ fd : FuncData, (∀ (s : Shared) (u : Value), BindsTo s fd ⟨[u], []⟩ [(x, u)]) ∧ ∀ base : Heap, (K w.params).In base → base.Ns mainGlobals mg → FnG l.prog w (K w.params) mg base CX0 k fa fd [x] (sp (K w.params)))
    (hsp : ∀ (K : PySem.W.Frag) (H : Hp) (a : Addr) (ns : List Int), ns.length ≤ n → Only H → SqL K H a (ns.map V.int) → sp K [.ref a] H (fun v _ => v = .bl true) fun _ _ _ => False) :
    PySem.W.WalkO q loose XP YP l.row.toRowW d [] (fun f vs => PySem.call f vs) := by
  refine Att.attach_call hn hdf fun w s₀ s mg mb fa o pm cd doc a vs ns G Y _ _ _ hmg hobj hints hlen hg => ?_
  have KX := hY w _ Y
  obtain ⟨fd, hb, hF⟩ := F w mg fa _ KX G.T.g hmg
  exact law_callG KX G.T.g G.T.b G.T.builtins G.T.nolimit hg hobj hints (Nat.le_trans hlen hn2) hr hF hb (fun H hO hS => hsp _ H a ns hlen hO hS) fun _ _ _ z => z
end DL

/-! Errors made with keywords. -/
namespace PySem
namespace HandSPX
section
variable {M : Model} {A : Around} {E : Value → Shared → Prop} {h : Heap} {g : Array GenState} {d : Drawn} {t : Nat} {os : OsState}
variable {nm q : Str} {C N : Addr} {bs bm bmB : List Value} {hdct : Bool} {sn : List Str} {sub : List Value} {ab : Bool} {col : Option Bool} {dd : Option Addr} {k0 k1 k2 k3 k5 : Option Value} {B newId initId : String} {kw : List (Str × Value)}
theorem check_new_ownK (F : ExcBaseFacts B newId initId bmB) (hT : ∀ X : String, bm.contains (.type X) = bmB.contains (.type X)) {rest : List Value} {Q : Unit → Shared → Prop}
    (hC : h.get? C = some (excClassObj nm q C N bs bm hdct sn sub ab col dd k0 k1 k2 k3 k5 newId)) (hq : Q () ⟨h, g, d, t, os⟩) : wpAny M A (checkBuiltinCall newId ⟨.ref C :: rest, kw⟩) Q E ⟨h, g, d, t, os⟩ := by
  have hcont : (Value.ref C :: bm).contains (.type B) = true := by rw [List.contains_cons, hT, F.hasB, Bool.or_true]
  have hstar := F.noStar
  simp only [checkBuiltinCall, F.newKind, F.newSplit, F.newRow]
  repeat (first | refine wpAny_loadPart_at hC ?_ | (refine wpAny_isSubtype_exc hC ?_; rw [hcont]) | refine wpAny_staticBase_exc hC ?_ | refine wpAny_madeBy_exc hC ?_ | simp only [bne_self_eq_false, Bool.false_eq_true, if_false] | wp_step)
  exact hq
end
section
variable {prog : Program} {w : World} {A : Around} {E : Value → Shared → Prop} {R : Result → Shared → Prop} {h : Heap} {g : Array GenState} {d : Drawn} {t : Nat} {os : OsState}
variable {nm q : Str} {C N : Addr} {bs bm bmB : List Value} {hdct : Bool} {sn : List Str} {sub : List Value} {ab : Bool} {col : Option Bool} {dd : Option Addr} {k0 k1 k2 k3 k5 : Option Value} {B newId initId : String} {kw : List (Str × Value)}
theorem new_ownK (F : ExcBaseFacts B newId initId bmB) (hT : ∀ X : String, bm.contains (.type X) = bmB.contains (.type X)) {rest : List Value}
    (hC : h.get? C = some (excClassObj nm q C N bs bm hdct sn sub ab col dd k0 k1 k2 k3 k5 newId))
    (hq : R (.ok (.ret (.ref (h.objs.size + 1)))) ⟨(h.push { cls := .type "tuple", data := .seq rest.toArray }).push (excO C h.objs.size), g, d, t, os⟩) (hrest : rest.length ≤ sizeLine) :
    codeAny (model prog w) A (.builtin newId ⟨.ref C :: rest, kw⟩) R ⟨h, g, d, t, os⟩ := by
  have hends := F.ends
  have hcB : (Value.ref C :: bm).contains (.type B) = true := by rw [List.contains_cons, hT, F.hasB, Bool.or_true]
  have hcA : (Value.ref C :: bm).contains (.type "AttributeError") = false := by rw [List.contains_cons, hT, F.noAttr]; rfl
  have hcN : (Value.ref C :: bm).contains (.type "NameError") = false := by rw [List.contains_cons, hT, F.noName]; rfl
  refine codeAny_builtinAt F.entry ?_
  unfold Builtin.«BaseException.__new__»
  refine wpAt_bind ?_
  show wpAt _ _ _ (stack >>= _) _ _ _
  refine wpAt_bind (wpAt_stack fun p below => wpAt_of_wpAny ?_)
  wp_walk
  refine wpAt_of_wpAny ?_
  rw [F.owner]
  repeat (first | with_reducible refine wpAny_madeHere_exc F.canon hC ?_ | with_reducible refine wpAny_loadPart_at hC ?_ | (with_reducible refine wpAny_isSubtype_exc hC ?_; first | rw [hcB] | rw [hcA] | rw [hcN]) | wp_step)
  show R _ _
  rw [Heap.size_push]
  exact hq
theorem type_call_ownK (F : ExcBaseFacts B newId initId bmB) (hT : ∀ X : String, bm.contains (.type X) = bmB.contains (.type X)) {rest : List Value} {fI : Addr} {Q : Fin → Shared → Prop}
    (hC : h.get? C = some (excClassObj nm q C N bs bm hdct sn sub ab col dd k0 k1 k2 k3 k5 newId))
    (hi : W.Looks (model prog w) h (typeLookup (.ref C) "__init__") (some (.ref fI))) (hb : ∀ self, W.Looks (model prog w) h (bindSpecial (.ref fI) self) (.ref fI, [self])) (hrest : rest.length ≤ sizeLine)
    (hq : codeAny (model prog w) A (.call (.ref fI) ⟨.ref (h.objs.size + 1) :: rest, kw⟩)
      (fun r s' => match r with | .ok (.ret v) => v = .none ∧ Q (.done (.ret (.ref (h.objs.size + 1)))) s' | .ok _ => False | .error e => E e s')
      ⟨(h.push (W.kdv_tup rest)).push (excO C h.objs.size), g, d, t, os⟩) :
    wpAny (model prog w) A (Builtin.«type.__call__» ⟨.ref C :: rest, kw⟩) Q E ⟨h, g, d, t, os⟩ := by
  repeat (first | with_reducible refine wpAny_loadPart_at hC ?_ | with_reducible refine wpAny_madeBy_exc hC ?_ | wp_step)
  refine codeAny_call_builtin_code (Code.quiet_builtin _ F.quiet) (check_new_ownK F hT hC ?_)
  refine new_ownK F hT hC ?_ hrest
  show wpAny _ _ _ _ _ _
  have k : ∀ b o, h.get? b = some o → ((h.push (W.kdv_tup rest)).push (excO C h.objs.size)).get? b = some o := fun b o e => Heap.get?_push_of_some _ (Heap.get?_push_of_some _ e)
  have hC₁ := k _ _ hC
  have hget : ((h.push (W.kdv_tup rest)).push (excO C h.objs.size)).get? (h.objs.size + 1) = some (excO C h.objs.size) := by heap_get
  have hcC : (Value.ref C :: bm).contains (.ref C) = true := by simp
  have i1 := hi.keeps k
  have b1 := (hb (.ref (h.objs.size + 1))).keeps k
  unfold isInstance
  repeat (first | with_reducible refine wpAny_loadPart_at hget ?_ | (with_reducible refine wpAny_isSubtype_exc hC₁ ?_; rw [hcC]) | wp_step)
  show wpAny _ _ (typeLookup (.ref C) _) _ _ _
  refine i1.at ?_
  refine wpAny_holding (wpAny_bind (b1.at ?_))
  refine wpAny_bind (wpAny_call (codeAny_mono hq fun r s' z => ?_))
  rcases r with e | (v | _ | _ | _) <;> first | exact z | exact z.elim | skip
  obtain ⟨rfl, z⟩ := z
  first
    | exact wpAny_pure (wpAny_pure z)
    | (wp_walk; exact z)
theorem call_ownK (F : ExcBaseFacts B newId initId bmB) (hT : ∀ X : String, bm.contains (.type X) = bmB.contains (.type X)) {rest : List Value} {fI : Addr}
    (hC : h.get? C = some (excClassObj nm q C N bs bm hdct sn sub ab col dd k0 k1 k2 k3 k5 newId))
    (hi : W.Looks (model prog w) h (typeLookup (.ref C) "__init__") (some (.ref fI))) (hb : ∀ self, W.Looks (model prog w) h (bindSpecial (.ref fI) self) (.ref fI, [self])) (hrest : rest.length ≤ sizeLine)
    (hq : codeAny (model prog w) (A.under (.builtin "type.__call__" ⟨.ref C :: rest, kw⟩)) (.call (.ref fI) ⟨.ref (h.objs.size + 1) :: rest, kw⟩) (W.InitBack (h.objs.size + 1) R)
      ⟨(h.push (W.kdv_tup rest)).push (excO C h.objs.size), g, d, t, os⟩) :
    codeAny (model prog w) A (.call (.ref C) ⟨rest, kw⟩) R ⟨h, g, d, t, os⟩ := by
  have f1 := tc_lookup
  have f2 := tc_bind (.ref C)
  have hTy : (⟨h, g, d, t, os⟩ : Shared).TypeIs (.ref C) "type" := ⟨_, hC, rfl⟩
  refine codeAny_of_tree ?_
  show wpAny _ _ (callAny (.ref C) _) _ _ _
  repeat (any_goals (first | assumption | with_reducible refine wpAny_loadPart_at hC ?_ | wp_step))
  refine ⟨rfl, ?_⟩
  refine codeAny_call_builtin_at (Code.quiet_builtin _ (by decide +kernel)) entry_typeCall (wpAny_check_type_call_sub hC (type_call_ownK F hT hC hi hb hrest ?_))
  refine codeAny_mono hq fun r s' z => ?_
  rcases r with e | (v | _ | _ | _) <;> exact z
end
end HandSPX
end PySem

/-! A caught error that is kept behind the suite: try: .. except X as e: v = e; its class, its fields. -/
namespace DL
open PySem PySem.Spec PyProof.Rows L2
theorem exT_ok {P : Program} {w : World} {H : Hp} {h : Heap} {a : Addr} {cls : Value} {d : Option Addr} {oe : Obj} {vs : Array Value} (e : h.get? a = some oe) (z : Zc cls d oe) (q : oe.data = .fields vs) : ObjOk P w H h a (ExT cls d a) :=
  ⟨⟨oe, vs, e, z, q⟩, ⟨oe, e⟩, fun _ _ ⟨o, v, q, r⟩ k => ⟨o, v, k o q, r⟩⟩
theorem exT_at {P : Program} {w : World} {H : Hp} {h : Heap} {a : Addr} {cls : Value} {d : Option Addr} (k : HOk P w H h) (e : H a = some (ExT cls d a)) : ∃ (oe : Obj) (vs : Array Value), h.get? a = some oe ∧ Zc cls d oe ∧ oe.data = .fields vs := (k a _ e).1
section
variable {X : Cx} {pins : List (Addr × Obj)} {σ : L2.St} {H : Hp} {s : Shared} {a : Addr} {o : HO}
/-- an object that was new behind the entry and is tracked nowhere is tracked from now on -/
theorem Inv.track (I : Inv X pins σ H s) (na : H a = none) (n0 : X.s_0.heap.get? a = none) (hp : ∀ p ∈ X.pn ++ pins, p.1 ≠ a) (nL : a ≠ X.env.locals) (nC : ∀ x c, X.env.cells.lookup x = some c → c ≠ a) (new : ObjOk X.prog X.w (upd H a o) s.heap a o) :
    Inv X pins σ (upd H a o) s := by
  have ne0 : ∀ b o, X.s_0.heap.get? b = some o → b ≠ a := fun b o e z => by
    rw [z, n0] at e
    cases e
  refine ⟨I.ok, I.os, I.bare, ⟨I.base.keep, I.base.slot, fun b o e n hq => ?_, I.base.there, fun b xs e => ?_, fun b o u e => ?_, fun b ps e => ?_⟩, I.loc, I.cell, ?_, fun x c e => ?_, fun p h => ?_, fun b u e => ?_, I.len⟩
  · rw [upd_ne (ne0 b o e)]
    exact I.base.free b o e n hq
  · have q := I.base.tups b xs e
    rw [upd_ne (ne_of_none q na)]
    exact q
  · have q := I.base.frzs b o u e
    rw [upd_ne (ne_of_none q na)]
    exact q
  · obtain ⟨m, q⟩ := I.base.tbls b ps e
    exact ⟨m, by rw [upd_ne (ne_of_none q na)]; exact q⟩
  · rw [upd_ne (Ne.symm nL)]
    exact I.free
  · rw [upd_ne (nC x c e)]
    exact I.freeC x c e
  · obtain ⟨e, n, r⟩ := I.pin p h
    exact ⟨e, by rw [upd_ne (hp p h)]; exact n, r⟩
  · by_cases hb : b = a
    · subst hb
      rw [upd_same] at e
      cases e
      exact new
    · rw [upd_ne hb] at e
      exact (I.hok b u e).stay (fun c v _ q => q) (fun c q => by rw [upd_ne (ne_of_none q na)]; exact q) fun c xs q => by rw [upd_ne (ne_of_none q na)]; exact q
theorem Inv.unsuite2 {q : Addr × Obj} {pn' : List (Addr × Obj)} (I : Inv (X.suite a (q :: (X.pn ++ pins))) pn' σ H s) (ok : X.Ok) : Inv (X.tr (q :: (X.pn ++ pins)) X.xe) pn' σ H s :=
  ⟨ok.toTry _ _, I.os, I.bare, I.base, I.loc, I.cell, I.free, I.freeC, I.pin, I.hok, I.len⟩
theorem Inv.unpin {q : Addr × Obj} {xe : Value → Shared → Prop} (I : Inv (X.tr (q :: (X.pn ++ pins)) xe) [] σ H s) (ok : X.Ok) : Inv X pins σ H s :=
  ⟨ok, I.os, I.bare, I.base, I.loc, I.cell, I.free, I.freeC, fun p hp => I.pin p (List.mem_append_left _ (List.mem_cons_of_mem _ hp)), I.hok, I.len⟩
end
/-- what 'except c as n' wishes of an error: slot i is n's; behind the suite the error stands at a -/
def wKeep (K : PySem.W.Frag) (c : Value) (i : Nat) (ts : Addr → Value → Option Addr → TS) (Wout : WX) (D : Ends) : WX := fun cls d σ H =>
  ∃ b, PySem.W.exmOne K cls c = some b ∧ (b = true → ∀ a, H a = none → ts a cls d { nx := fun σ' H' => D.nx (σ'.set i none) (upd H' a (ExT cls d a)), rt := D.rt, bk := fun σ' H' => D.bk (σ'.set i none) (upd H' a (ExT cls d a)), ct := fun σ' H' => D.ct (σ'.set i none) (upd H' a (ExT cls d a)) } (σ.set i (some (.ref a))) H) ∧
    (b = false → Wout cls d σ H)
section
variable {X : Cx} {x n : Str} {c : Value} {i : Nat} {body suite : List Stmt} {b₀ : Stmt} {np pos pos' : Pos} {tb : WX → TS} {ts : Addr → Value → Option Addr → TS} {Wout : WX}
/-- try: body / except x as n: suite, the error tracked behind it -/
theorem ps_try_keep (hs : X.stack = X.env :: X.outer) (hf : X.env.frame = some X.env.locals) (hex : X.ex = []) (hN : X.N.Nodup) (hi : X.N[i]? = some n) (hln : X.env.kindOf n = some .local) (hc : Names X x c) (tk : Takes X Wout)
    (hb : ∀ (W : WX) (pn : List (Addr × Obj)) (xe : Value → Shared → Prop), Takes (X.tr pn xe) W → PassesOwn (model X.prog X.w) X.A X.env xe → PSs (X.tr pn xe) body (tb W))
    (hsu : ∀ (a : Addr) (oe : Obj) (cls : Value) (d : Option Addr) (pn : List (Addr × Obj)), Zc cls d oe → (∃ vs, oe.data = .fields vs) → PSs (X.suite a ((a, oe) :: pn)) (b₀ :: suite) (ts a cls d)) :
    PS X (.Try body [.ExceptHandler (some (.Name x np)) (some n) (b₀ :: suite) pos'] [] [] pos) (fun D σ H => tb (wKeep X.K c i ts Wout D) D σ H) := by
  refine ⟨fun pins s σ H D I h => ?_⟩
  have ok := I.ok
  have hfr : X.A.frames = some (X.env :: X.outer) := by rw [ok.frames, hs]
  have hloc : Loc X.env.scope n := .inl hln
  refine wpAny_Try_except ?_
  refine wpAny_mono ((hb (wKeep X.K c i ts Wout D) (X.pn ++ pins) (fun e s₁ => wpAny (model X.prog X.w) X.A (noteFrame e X.env) (fun _ s₂ => wpAny (model X.prog X.w) X.A (setFlight e none) (fun _ s₃ =>
    wpAny (model X.prog X.w) X.A (handleBy e X.env [.ExceptHandler (some (.Name x np)) (some n) (b₀ :: suite) pos']) (SP X pins D) X.xe s₃) X.xe s₂) X.xe s₁) (fun u s' xx => ?_) PassesOwn.looking).run [] s σ H D (I.toTry _) h) (fun f s1 hsp => ?_) (fun e s1 he => he)
  · obtain ⟨a, B, sI, pins', σ', H', cls, d, rfl, J', nb, up, sky, na, os, ag, b, hb1, hyes, hno⟩ := xx
    have J : Inv X pins σ' H' sI := J'.ofTry ok
    have sky' : Sky B (X.env :: X.outer) a (Zc cls d) X.env.locals s'.heap := by rw [← hs]; exact sky
    show wpAny (model X.prog X.w) X.A (noteFrame (.ref a) X.env) _ _ _
    refine Sky.land Zc.steady hfr hf sky' fun h3 fl3 up3 => ?_
    have J3 : Inv X pins σ' H' { s' with heap := h3 } := J.landed nb fl3.1 (up.trans up3) os ag
    obtain ⟨oe3, vs3, he3, hz3, hd3⟩ := fl3.there
    have notFr : ∀ {h : Heap} {o : Obj} {vs : Array Value}, h.FunFrames B (X.env :: X.outer) → h.get? a = some o → o.data = .fields vs → a ∉ frs (X.env :: X.outer) := fun {h o vs} ff e dd hm => by
      obtain ⟨_, o', e', hnf⟩ := ff.mem hm
      rw [e] at e'; cases e'
      exact hnf _ dd
    have nfr := notFr fl3.2.2.1 he3 hd3
    have nL : a ≠ X.env.locals := fun z => nfr (List.mem_filterMap.mpr ⟨X.env, List.mem_cons_self, by rw [hf, z]⟩)
    have nF : a ∉ X.fs := fun hm => by
      obtain ⟨e, he, q⟩ := List.mem_filterMap.mp hm
      exact nfr (List.mem_filterMap.mpr ⟨e, List.mem_cons_of_mem _ he, q⟩)
    have nI : sI.heap.get? a = none := by
      cases q : sI.heap.get? a with
      | none => rfl
      | some o =>
        have z := nb a o q (by rw [hs]; exact nfr)
        rw [fl3.2.1] at z
        cases z
    have n0 : X.s_0.heap.get? a = none := by
      cases q : X.s_0.heap.get? a with
      | none => rfl
      | some o =>
        obtain ⟨o', z⟩ := J.base.there a o q (by rw [hex]; exact fun z => nomatch z)
        rw [nI] at z
        cases z
    have nP : ∀ p ∈ X.pn ++ pins, p.1 ≠ a := fun p hp z => by
      obtain ⟨e, _⟩ := J.pin p hp
      rw [z, nI] at e
      cases e
    have nC : ∀ x c, X.env.cells.lookup x = some c → c ≠ a := fun x c e z => by
      obtain ⟨v, o, ho, _⟩ := J.cell x c e
      rw [z, nI] at ho
      cases ho
    have S3 := J3.suite he3 hd3 na nL nF
    refine wpAny_handleBy_cons (codeAny_handlers_test ?_) (by intro q; cases q)
    have LT : PySem.W.Looks (model X.prog X.w) h3 (typeOf (.ref a)) cls := fun A Q E s k q => wpAny_typeOf_ref (k _ _ he3) (by rw [hz3.1]; exact q)
    have LM := PySem.W.exm_one (M := model X.prog X.w) (J3.kIn) LT hb1
    have test : ∀ {Q : Value → Shared → Prop} {E : Value → Shared → Prop}, Q c { s' with heap := h3 } → wpAny (model X.prog X.w) (X.A.mark (some (.ref a))) (eval (.Name x np) X.env) Q E { s' with heap := h3 } := fun {Q E} q => by
      obtain ⟨hg, hdbg, hm | ⟨hm, hv, hnn⟩⟩ := hc
      · exact ld_glob (X := X.suite a ((a, oe3) :: (X.pn ++ pins))) S3 hg hm q hdbg
      · exact ld_blt (X := X.suite a ((a, oe3) :: (X.pn ++ pins))) S3 hg hm hv q hnn hdbg
    refine test (LM.here ?_)
    cases b with
    | true =>
      refine codeAny_handlers_suite_as ?_
      refine HandSPX.lands_againZ fl3 fun h4 fl4 up4 => ?_
      have J4 : Inv X pins σ' H' { s' with heap := h4 } := J.landed nb fl4.1 ((up.trans up3).trans up4) os ag
      obtain ⟨oe4, vs4, he4, hz4, hd4⟩ := fl4.there
      have S4 := J4.suite he4 hd4 na nL nF
      refine store_ok (X := X.suite a ((a, oe4) :: (X.pn ++ pins))) (v := .ref a) S4 hN hi hloc rfl (fun s5 S5 => ?_) (.inr hln)
      refine wpAny_mono ((hsu a oe4 cls d (X.pn ++ pins) hz4 ⟨_, hd4⟩).run [] s5 _ H' _ S5 (hyes rfl a na)) (fun f s6 hsp => ?_) (fun _ _ z => False.elim z)
      have end_ : ∀ {σ6 : L2.St} {H6 : Hp} {Q : Shared → Prop}, Inv (X.suite a ((a, oe4) :: (X.pn ++ pins))) [] σ6 H6 s6 → (∀ s7, Inv X pins (σ6.set i none) H6 s7 → Inv X pins (σ6.set i none) (upd H6 a (ExT cls d a)) s7 → Q s7) →
          wpAny (model X.prog X.w) X.A (do bindName X.env n .none; unbindBehindTheSuite X.env n pos') (fun _ s7 => Q s7) X.xe s6 := fun {σ6 H6 Q} S6 hq =>
        gone_ok (X := X.tr ((a, oe4) :: (X.pn ++ pins)) X.xe) (pins := []) (Inv.unsuite2 S6 ok) hN hi hln fun s7 J7 => by
          obtain ⟨e7, n7, _⟩ := J7.pin (a, oe4) (List.mem_append_left _ List.mem_cons_self)
          have J8 : Inv X pins (σ6.set i none) H6 s7 := Inv.unpin J7 ok
          exact hq s7 J8 (Inv.track J8 n7 n0 nP nL nC (exT_ok e7 hz4 hd4))
      cases f with
      | next =>
        obtain ⟨σ6, H6, S6, q6⟩ := hsp
        exact end_ S6 fun s7 _ J7 => ⟨_, _, J7, q6⟩
      | brk =>
        obtain ⟨σ6, H6, S6, q6⟩ := hsp
        exact end_ S6 fun s7 _ J7 => ⟨_, _, J7, q6⟩
      | cont =>
        obtain ⟨σ6, H6, S6, q6⟩ := hsp
        exact end_ S6 fun s7 _ J7 => ⟨_, _, J7, q6⟩
      | ret u =>
        obtain ⟨v6, σ6, H6, S6, r6, q6⟩ := hsp
        exact end_ S6 fun s7 J7 _ => ⟨_, _, _, J7, r6, q6⟩
    | false =>
      show wpAny _ X.A (handleBy (.ref a) X.env []) _ _ _
      refine wpAny_handleBy_nil ?_
      obtain ⟨k1, k2, k3, oe, vs, T, oT, ts', he, hz, hd, h1, hr⟩ := id fl3
      unfold PySem.passOn
      refine wpAny_bind (wpAny_field he hd h1 ?_)
      rw [if_neg (show ¬ ((Value.ref T == Value.none) = true) from by simp)]
      have fin : wpAny (model X.prog X.w) X.A (setFlight (.ref a) X.env.frame) (fun _ s4 => wpAny (model X.prog X.w) X.A (throw (.ref a) : Sem Flow) (SP X pins D) X.xe s4) X.xe { s' with heap := h3 } := by
        rw [hf]
        refine HandSPX.setFlight_upZ fl3 fun h4 hh4 up4 => wpAny_throw (tk _ _ ?_)
        exact ⟨a, B, sI, pins, σ', H', cls, d, rfl, J, nb, (up.trans up3).trans up4, .inr (.inr (by rw [hs]; exact hh4)), na, os, ag, hno rfl⟩
      first
        | exact wpAny_bind (wpAny_pure (wpAny_bind fin))
        | exact wpAny_bind fin
  · cases f with
    | next =>
      obtain ⟨σ', H', J', q⟩ := hsp
      exact wpAny_execs_nil ⟨σ', H', J'.ofTry ok, q⟩
    | brk =>
      obtain ⟨σ', H', J', q⟩ := hsp
      exact ⟨σ', H', J'.ofTry ok, q⟩
    | cont =>
      obtain ⟨σ', H', J', q⟩ := hsp
      exact ⟨σ', H', J'.ofTry ok, q⟩
    | ret u =>
      obtain ⟨v, σ', H', J', r, q⟩ := hsp
      exact ⟨v, σ', H', J'.ofTry ok, r, q⟩
end
/-! ### isinstance of a kept error, its fields -/
/-- the look of a kept error's object -/
theorem exT_inst {X : Cx} {pins : List (Addr × Obj)} {σ : L2.St} {H : Hp} {s : Shared} {a C dd : Addr} {fs : List (Str × V)} (I : Inv X pins σ H s) (ea : H a = some (ExT (.ref C) (some dd) a)) (ed : H dd = some (.xd fs)) :
    ∃ (oe od : Obj) (mA : Str → Option Value), PySem.W.InstAt s.heap a oe C (some od) ∧ (∀ f, RelO (fs.lookup f) (mA f)) ∧ ∀ f, PySem.W.lookIn f od = some (mA f) := by
  obtain ⟨oe, vs, ho, hz, hd⟩ := exT_at I.hok ea
  obtain ⟨mA, hns, hr⟩ := (show ObjOk X.prog X.w H s.heap dd (.xd fs) from I.hok dd _ ed)
  obtain ⟨od, hod, hl⟩ := lookIn_ns hns
  exact ⟨oe, od, mA, ⟨ho, hz.1, by unfold PySem.W.notCls; rw [hd] <;> rfl, by rw [hz.2]; exact hod⟩, hr, hl⟩
/-- isinstance(e, c) of a kept error -/
def rIsX (K : PySem.W.Frag) : List V → Hp → VK → Prop := fun xs H Q => ∃ (a D dd : Addr) (fs : List (Str × V)) (c : V) (cv : Value) (b : Bool), xs = [.ref a, c] ∧ H a = some (ExT (.ref D) (some dd) a) ∧ H dd = some (.xd fs) ∧ ExcC K D ∧ ClsV c cv ∧ PySem.W.kitOne K (.ref D) cv = some b ∧ Q (.bl b) H
/-- isinstance(x, c), x a kept error or else -/
def rIsE2 (K : PySem.W.Frag) : List V → Hp → VK → Prop := fun xs H Q => rIsi K xs H Q ∨ rIsX K xs H Q
def tXfT (K : PySem.W.Frag) (f : Str) (te : TE) : TE := fun σ H Q => te σ H fun x H1 => ∃ (a C dd : Addr) (fs : List (Str × V)) (v : V), x = .ref a ∧ H1 a = some (ExT (.ref C) (some dd) a) ∧ H1 dd = some (.xd fs) ∧ XfC K C ∧ PySem.W.findIn K (.ref C) f = some none ∧ fs.lookup f = some v ∧ Q v H1
section
variable {X : Cx}
theorem call_isE2 : CallR X (.builtin "isinstance") (rIsE2 X.K) := by
  intro pins s σ H xs us Q I r h
  rcases h with h | ⟨a, D, dd, fs, c, cv, b, rfl, ea, ed, C, k, e, q⟩
  · exact call_isi pins s σ H xs us Q I r h
  · obtain ⟨u1, u2, rfl, r1, r2⟩ := vals2 r
    have e2 := k.eq r2
    subst e2
    cases (show u1 = Value.ref a from r1)
    obtain ⟨oe, od, mA, J, _, _⟩ := exT_inst I ea ed
    have hcl : (PySem.W.clsIn X.K D).isSome = true := by
      obtain ⟨cd, hc, _⟩ := PySem.W.any_some C.hd
      rw [hc] <;> rfl
    exact PySem.W.kia_one (PySem.W.kitx_exc hcl C.hg C.hk C.hs C.ha C.hn C.ht C.hm) I.kIn J e (fun z => nomatch z) fun tk => ⟨.bl b, H, I.kept (t' := tk) fun _ _ z => z, rfl, q⟩
theorem pe_xfT {e : Expr} {te : TE} {pos : Pos} {n : Str} (he : PE X e te) (hb : attributeBase e n X.env (eval e X.env) = eval e X.env := by rfl) : PE X (.Attribute e n pos) (tXfT X.K n te) := by
  refine ⟨fun pins s σ H Q I h => ?_⟩
  refine attr_of hb (thn (he.run pins s σ H _ I h) fun u s1 hh => ?_)
  obtain ⟨x, H1, I1, rx, a, C, dd, fs, v, rfl, ea, ed, T, hno, l, q⟩ := hh
  obtain rfl : u = Value.ref a := rx
  obtain ⟨oe, od, mA, J, hr, hl⟩ := exT_inst I1 ea ed
  obtain ⟨u, hu, ru⟩ := RelO.some_of (v := v) (o := mA n) (by rw [← l]; exact hr n)
  exact HandSPX.exc_get I1.kIn J T.ga T.gg T.exC (PySem.W.findObj_own T.hdC hno rfl (by rw [hl, hu])) (handed_of ru) ⟨v, H1, I1.tok _, ru, q⟩
end
/-! ### an error made as a value -/
/-- what __init__ keeps: the fields by name, each an argument's -/
def mkF (fl : List (Str × Nat)) (ws : List V) : List (Str × V) := fl.map fun p => (p.1, ws.getD p.2 .non)
/-- the promise of an error's __init__ -/
def InitSp (C : Addr) (fl : List (Str × Nat)) (m : Nat) : Sp := fun vs H Q _ => ∃ (a : Addr) (ws : List V), vs = .ref a :: ws ∧ ws.length = m ∧ H a = some (exo a C none) ∧
  ∀ (H2 : Hp) (d : Addr), d ≠ a → H d = none → H2 a = some (exo a C (some d)) → H2 d = some (exd d (mkF fl ws)) → (∀ b, b ≠ a → b ≠ d → H2 b = H b) → Q .non H2
theorem pick_cons {α : Type} {x : α} {l : List α} (ix : List Nat) : pick (0 :: ix.map (· + 1)) (x :: l) = x :: pick ix l := by
  unfold pick
  rw [List.filterMap_cons]
  show x :: _ = _
  congr 1
  rw [List.filterMap_map]
  rfl
section
variable {X : Cx} {CX : CXT} {k n m : Nat} {C fI : Addr} {fd : FuncData} {ps ks : List Str} {ix : List Nat} {fl : List (Str × Nat)} {x : Str} {p pos : Pos} {e : Expr} {es : List Expr} {kws : List Keyword} {t tk : TA}
theorem mkGo {pins : List (Addr × Obj)} {σ : L2.St} {H1 : Hp} {s : Shared} {Q : VK} {us ws : List Value} {vs zs : List V} (T : OexC X.K C) (iC : PySem.W.findIn X.K (.ref C) "__init__" = some (some (.ref fI))) (tI : PySem.W.typeIn X.K (.ref fI) = some (.type "function"))
    (F1 : FnOk X.prog X.w X.K X.mg X.base CX k fI fd ps (InitSp C fl m)) (hr : Room (k + 1) X.A) (hex : X.ex = []) (hx : Passes CX X (fun _ _ _ => False)) (hb : KBi fd ps (n + 1) ks (0 :: ix.map (· + 1)))
    (I : Inv X pins σ H1 s) (r : Vals vs us) (rz : Vals zs ws) (l1 : vs.length = n) (l2 : zs.length = ks.length) (lm : (pick ix (vs ++ zs)).length = m) (hn : n ≤ 1000)
    (h : ∀ a d : Addr, d ≠ a → H1 a = none → H1 d = none → Q (.ref a) (upd (upd H1 d (.xd (mkF fl (pick ix (vs ++ zs))))) a (ExT (.ref C) (some d) a))) :
    wpAny (model X.prog X.w) X.A (call (.ref C) us (ks.zip ws)) (EP X pins σ Q) X.xe s := by
  obtain ⟨nm, q, N, bs, bm, sn, sub, ab, col, dd, k0, k1, k2, k3, k5, hC, hbm⟩ := T.cls
  obtain ⟨hp, g, dr, tk, os⟩ := s
  have hsz : hp.objs.size ≤ hp.objs.size + 1 := Nat.le_succ _
  have hn1 : H1 (hp.objs.size + 1) = none := I.hok.fresh hsz
  have kk : ∀ b o, hp.get? b = some o → ((hp.push (PySem.W.kdv_tup us)).push (PySem.HandSPX.excO C hp.objs.size)).get? b = some o := fun b o e => Heap.get?_push_of_some _ (Heap.get?_push_of_some _ e)
  have hget : ((hp.push (PySem.W.kdv_tup us)).push (PySem.HandSPX.excO C hp.objs.size)).get? (hp.objs.size + 1) = some (PySem.HandSPX.excO C hp.objs.size) := by heap_get
  have I2 : Inv X pins σ (upd H1 (hp.objs.size + 1) (exo (hp.objs.size + 1) C none)) ⟨(hp.push (PySem.W.kdv_tup us)).push (PySem.HandSPX.excO C hp.objs.size), g, dr, tk, os⟩ :=
    I.laid (t' := tk) (a := hp.objs.size + 1) (o := exo (hp.objs.size + 1) C none) (h' := (hp.push (PySem.W.kdv_tup us)).push (PySem.HandSPX.excO C hp.objs.size)) kk hsz (exo_ok hget)
  have r2 : Vals (V.ref (hp.objs.size + 1) :: (vs ++ zs)) (Value.ref (hp.objs.size + 1) :: (us ++ ws)) := .cons rfl (r.append rz)
  have hus : us.length ≤ sizeLine := by
    rw [← Paired.length r, sizeLine_eq, l1]
    omega
  have b := hb (⟨(hp.push (PySem.W.kdv_tup us)).push (PySem.HandSPX.excO C hp.objs.size), g, dr, tk, os⟩ : Shared) (Value.ref (hp.objs.size + 1) :: us) ws (by rw [List.length_cons, ← Paired.length r, l1]) (by rw [← Paired.length rz, l2])
  have rp := DL.Vals.pick r2 (0 :: ix.map (· + 1))
  have sp : InitSp C fl m (pick (0 :: ix.map (· + 1)) (V.ref (hp.objs.size + 1) :: (vs ++ zs))) (upd H1 (hp.objs.size + 1) (exo (hp.objs.size + 1) C none))
      (fun v H2 => v = .non ∧ ∃ d : Addr, d ≠ hp.objs.size + 1 ∧ H1 d = none ∧ H2 (hp.objs.size + 1) = some (exo (hp.objs.size + 1) C (some d)) ∧ H2 d = some (exd d (mkF fl (pick ix (vs ++ zs)))) ∧ ∀ b, b ≠ hp.objs.size + 1 → b ≠ d → H2 b = H1 b) (fun _ _ _ => False) := by
    rw [pick_cons]
    refine ⟨_, _, rfl, lm, upd_same, fun H2 d hd hdn e1 e2 e3 => ⟨rfl, d, hd, ?_, e1, e2, fun b h1 h2 => ?_⟩⟩
    · rw [upd_ne hd] at hdn
      exact hdn
    · rw [e3 b h1 h2, upd_ne h1]
  refine wpAny_call (PySem.HandSPX.call_ownK F.excBase_ValueError (fun Y => PySem.HandSPX.refsVE_contains Y bm hbm) (I.kIn _ _ hC) (PySem.W.looks_findIn I.kIn iC) (fun self => PySem.W.bind_fn I.kIn self tI) hus
    (codeAny_mono (F1.run _ X.stack _ _ ⟨Value.ref (hp.objs.size + 1) :: us, ks.zip ws⟩ _ _ _ (fun _ _ _ => False) (hr.make C us (ks.zip ws)) (I2.env0.make C us (ks.zip ws)) b rp sp) (fun rr s' hq' => ?_)))
  cases rr with
  | error er => exact hx pins σ _ _ er s' I2 hq'
  | ok fl' =>
    cases fl' with
    | ret u =>
      obtain ⟨v, H2, os2, bare2, un2, hok2, rv, ev, d, hda, hd1, ea, ed, rest⟩ := hq'
      subst ev
      obtain ⟨h2, g2, d2, t2, os'⟩ := s'
      refine ⟨rv, ?_⟩
      obtain ⟨t0, G, J, kG, ge, hoe, na⟩ := mk_end0 (d2 := d2) (t2 := t2) I hsz kk un2 hok2 os2 bare2 ea ed hd1
      have J2 : Inv X pins σ (upd (del H2 (hp.objs.size + 1)) d (.xd (mkF fl (pick ix (vs ++ zs))))) ⟨h2, g2, d2, t2, os'⟩ := J.kept (t' := t2) kG
      have n0 : X.s_0.heap.get? (hp.objs.size + 1) = none := by
        cases z : X.s_0.heap.get? (hp.objs.size + 1) with
        | none => rfl
        | some o =>
          obtain ⟨o', e'⟩ := J.base.there _ o z (by rw [hex]; exact fun z => nomatch z)
          have e2 : G.get? (hp.objs.size + 1) = some o' := e'
          rw [ge] at e2
          cases e2
      have nP : ∀ p ∈ X.pn ++ pins, p.1 ≠ hp.objs.size + 1 := fun p hp' z => by
        obtain ⟨e, _⟩ := J.pin p hp'
        have e2 : G.get? p.1 = some p.2 := e
        rw [z, ge] at e2
        cases e2
      have nL : hp.objs.size + 1 ≠ X.env.locals := fun z => by
        obtain ⟨m, ⟨o, es, ep, ho, _⟩, _⟩ := J.loc
        have e2 : G.get? X.env.locals = some o := ho
        rw [← z, ge] at e2
        cases e2
      have nC : ∀ x c, X.env.cells.lookup x = some c → c ≠ hp.objs.size + 1 := fun x c e z => by
        obtain ⟨v, o, ho, _⟩ := J.cell x c e
        have e2 : G.get? c = some o := ho
        rw [z, ge] at e2
        cases e2
      have J3 := Inv.track (o := ExT (.ref C) (some d) (hp.objs.size + 1)) J2 na n0 nP nL nC (exT_ok hoe ⟨rfl, rfl⟩ rfl)
      have eH : upd (upd (del H2 (hp.objs.size + 1)) d (.xd (mkF fl (pick ix (vs ++ zs))))) (hp.objs.size + 1) (ExT (.ref C) (some d) (hp.objs.size + 1)) = upd (upd H1 d (.xd (mkF fl (pick ix (vs ++ zs))))) (hp.objs.size + 1) (ExT (.ref C) (some d) (hp.objs.size + 1)) := by
        funext b
        by_cases h1 : b = hp.objs.size + 1
        · rw [h1, upd_same, upd_same]
        · rw [upd_ne h1, upd_ne h1]
          by_cases h2 : b = d
          · rw [h2, upd_same, upd_same]
          · rw [upd_ne h2, upd_ne h2, del_ne h1]
            exact rest b h1 h2
      rw [eH] at J3
      exact ⟨V.ref (hp.objs.size + 1), _, J3, rfl, h _ d hda hn1 hd1⟩
    | next => exact False.elim hq'
    | brk => exact False.elim hq'
    | cont => exact False.elim hq'
/-- what a made error is -/
def tMk (C : Addr) (fl : List (Str × Nat)) (n l m : Nat) (ix : List Nat) (t tk : TA) : TE := fun σ H Q => t σ H fun vs H1 => tk σ H1 fun zs H2 => vs.length = n ∧ zs.length = l ∧ (pick ix (vs ++ zs)).length = m ∧
  ∀ a d : Addr, d ≠ a → H2 a = none → H2 d = none → Q (.ref a) (upd (upd H2 d (.xd (mkF fl (pick ix (vs ++ zs))))) a (ExT (.ref C) (some d) a))
/-- X(e, ..), an error made as a value -/
theorem pe_mkX (T : OexC X.K C) (iC : PySem.W.findIn X.K (.ref C) "__init__" = some (some (.ref fI))) (tI : PySem.W.typeIn X.K (.ref fI) = some (.type "function"))
    (F1 : FnOk X.prog X.w X.K X.mg X.base CX k fI fd ps (InitSp C fl m)) (hr : Room (k + 1) X.A) (hex : X.ex = []) (hx : Passes CX X (fun _ _ _ => False)) (hb : KBi fd ps (n + 1) [] (0 :: ix.map (· + 1))) (hn : n ≤ 1000) (hg : Gl X x) (hm : X.mg x = some (.ref C))
    (ha : PA X (e :: es) t) (hdb : (x == ("__debug__" : Str)) = false := by decide) (he : starEach (e :: es) X.env = (false, eval e X.env) :: starEach es X.env := by rfl) (hpl : (backTo pos (starEach es X.env)).any (·.1) = false := by rfl) :
    PE X (.Call (.Name x p) (e :: es) [] pos) (tMk C fl n 0 m ix t tNil) :=
  ⟨fun pins s σ H Q I h => wpAny_Call_Name_kw (ld_glob I hg hm (PySem.W.callWith_K (h₀ := X.base) I.ok.mod.kin T.kC (thn (ha.run pos pins s σ H _ I h) fun us s1 ⟨vs, H1, I1, r, l1, l2, lm, q⟩ =>
    ⟨I1.kIn, mkGo (ws := []) (zs := []) T iC tI F1 hr hex hx hb I1 r .nil l1 rfl lm hn q⟩) he hpl) hdb)⟩
/-- X(k = e, ..) -/
theorem pe_mkXK (T : OexC X.K C) (iC : PySem.W.findIn X.K (.ref C) "__init__" = some (some (.ref fI))) (tI : PySem.W.typeIn X.K (.ref fI) = some (.type "function"))
    (F1 : FnOk X.prog X.w X.K X.mg X.base CX k fI fd ps (InitSp C fl m)) (hr : Room (k + 1) X.A) (hex : X.ex = []) (hx : Passes CX X (fun _ _ _ => False)) (hb : KBi fd ps 1 ks (0 :: ix.map (· + 1))) (hg : Gl X x) (hm : X.mg x = some (.ref C))
    (hkw : PK X kws tk) (hall : (backToKw pos (keywordEach kws X.env)).all (·.1.isSome) = true := by rfl) (hks : (backToKw pos (keywordEach kws X.env)).filterMap (·.1) = ks := by rfl)
    (hdb : (x == ("__debug__" : Str)) = false := by decide) (hpl : ((backTo pos (starEach [] X.env)).any (·.1) || (backToKw pos (keywordEach kws X.env)).any (·.1.isNone)) = false := by rfl) :
    PE X (.Call (.Name x p) [] kws pos) (tMk C fl 0 ks.length m ix tNil tk) :=
  ⟨fun pins s σ H Q I h => wpAny_Call_Name_kw (ld_glob I hg hm (PySem.W.callWith_KW0 (h₀ := X.base) I.ok.mod.kin T.kC hall (thn (hkw.run pos pins s σ H _ I h) fun ws s1 ⟨zs, H1, I1, r, l1, l2, lm, q⟩ =>
    ⟨I1.kIn, by rw [hks]; exact mkGo (us := []) (vs := []) T iC tI F1 hr hex hx hb I1 .nil r rfl l2 lm (Nat.zero_le _) q⟩) hpl) hdb)⟩
end
end DL

/-! Errors as data: made, their fields, isinstance; objects of whatever kind; lists of the same things. -/
namespace DL
open PySem PySem.Spec PyProof.Rows L2
section
variable {O : List Addr} {H : Hp} {v : V} {d : D}
theorem dtk_key : ∀ {kvs : List (Key × V)} {ds : List (D × D)}, DtK O H kvs ds → ∀ p ∈ ds, ∃ k, p.1 = kd k
  | _, _, .nil, _, m => nomatch m
  | _, _, .cons _ r, p, m => (List.mem_cons.mp m).elim (fun z => z ▸ ⟨_, rfl⟩) (dtk_key r p)
theorem kd_list {k : Key} {xs : List D} : PyData.list xs ≠ kd k := fun z => by cases k <;> cases z
theorem opq_inv {a : Addr} (h : Dt O H v (dOp a)) : v = .ref a := by
  generalize e : dOp a = d at h
  cases h with
  | opq n q =>
    unfold dOp at e
    injection e with e
    injection e with e _
    injection e with _ e
    injection e with e
    rw [Int.ofNat.inj e]
  | exn =>
    unfold dOp dEx at e
    injection e with e
    injection e with e _
    injection e with e _
    injection e with e
    cases e
  | dct n q r =>
    unfold dOp at e
    injection e with e
    subst e
    obtain ⟨k, z⟩ := dtk_key r _ List.mem_cons_self
    exact absurd z kd_list
  | _ => cases e
theorem exn_inv {C : Addr} {ns : List Str} {ds : List D} (h : Dt O H v (dEx C ns ds)) : ∃ (a dd : Addr) (vs : List V), v = .ref a ∧ a ∉ O ∧ H a = some (ExT (.ref C) (some dd) a) ∧ H dd = some (.xd (ns.zip vs)) ∧ ns.length = vs.length ∧ DtA O H vs ds := by
  generalize e : dEx C ns ds = d at h
  cases h with
  | opq n q =>
    unfold dOp dEx at e
    injection e with e
    injection e with e _
    injection e with e _
    injection e with e
    cases e
  | @exn a dd C' ns' vs ds' n e1 n2 e2 l r =>
    unfold dEx at e
    injection e with e
    injection e with e _
    injection e with e f
    injection e with e
    injection f with f
    injection e with e g
    injection e with e
    have hC : C = C' := Int.ofNat.inj e
    have hns : ns = ns' := (List.map_inj_right (fun _ _ z => by injection z)).mp g
    subst hC hns f
    exact ⟨a, dd, vs, rfl, n, e1, e2, l, r⟩
  | dct n q r =>
    unfold dEx at e
    injection e with e
    subst e
    obtain ⟨k, z⟩ := dtk_key r _ List.mem_cons_self
    exact absurd z kd_list
  | _ => cases e
/-- a datum that is told by its very value -/
inductive IdD : D → Prop
  | non : IdD .none
  | bl (b : Bool) : IdD (.bool b)
  | int (i : Int) : IdD (.int i)
  | str (x : Str) : IdD (.str x)
  | op (a : Addr) : IdD (dOp a)
theorem IdD.eq {w : V} (i : IdD d) (h : Dt O H v d) (h' : Dt O H w d) : v = w ∧ (flatB v = true ∨ ∃ c, v = .ref c) := by
  cases i with
  | op a =>
    rw [opq_inv h, opq_inv h']
    exact ⟨rfl, .inr ⟨_, rfl⟩⟩
  | _ => cases h; cases h'; exact ⟨rfl, .inl rfl⟩
theorem IdD.all : ∀ {ds : List D} {vs ws : List V}, (∀ d ∈ ds, IdD d) → DtA O H vs ds → DtA O H ws ds → vs = ws ∧ ∀ v ∈ vs, flatB v = true ∨ ∃ c, v = .ref c
  | _, _, _, _, .nil, .nil => ⟨rfl, fun _ m => nomatch m⟩
  | _, _, _, i, .cons a r, .cons a' r' => by
    obtain ⟨e1, f1⟩ := (i _ List.mem_cons_self).eq a a'
    obtain ⟨e2, f2⟩ := IdD.all (fun d m => i d (List.mem_cons_of_mem _ m)) r r'
    subst e1 e2
    exact ⟨rfl, fun v m => (List.mem_cons.mp m).elim (fun z => z ▸ f1) (f2 v)⟩
end
/-! ### != of two lists of the same things -/
def rNeS (K : PySem.W.Frag) : R2 := fun x y H Q => ∃ a b vs, x = .ref a ∧ y = .ref b ∧ H a = some (.lst vs) ∧ H b = some (.lst vs) ∧ (∀ v ∈ vs, flatB v = true ∨ ∃ c, v = .ref c) ∧ Q (.bl false) H
theorem same_run {A : Around} {s : Shared} {vs : List V} (hv : ∀ v ∈ vs, flatB v = true ∨ ∃ c, v = .ref c) : ∀ {us ws : List Value}, Vals vs us → Vals vs ws → ∀ j (h1 : j < us.length) (h2 : j < ws.length), SeqAt.EqAt A s us[j] ws[j] true := by
  induction vs with
  | nil =>
    intro us ws r1 r2 j h1 h2
    cases r1
    exact absurd h1 (Nat.not_lt_zero j)
  | cons v vs ih =>
    intro us ws r1 r2 j h1 h2
    cases r1 with
    | cons a1 b1 =>
      cases r2 with
      | cons a2 b2 =>
        cases j with
        | zero =>
          rcases hv v List.mem_cons_self with f | ⟨c, rfl⟩
          · exact eqAt_same a1 a2 f
          · cases a1
            cases a2
            exact SeqAt.EqAt.same _
        | succ j => exact ih (fun v m => hv v (List.mem_cons_of_mem _ m)) b1 b2 j (Nat.lt_of_succ_lt_succ h1) (Nat.lt_of_succ_lt_succ h2)
section
variable {X : Cx} {K : PySem.W.Frag}
theorem op_neS {k : Nat} (hr : Room k X.A) (h : X.K = K := by rfl) : OpR X (compareOp .NotEq) (rNeS K) := by
  subst h
  intro pins s σ H x y v u Q I rx ry h
  obtain ⟨a, b, vs, rfl, rfl, ha, hb, hv, q⟩ := h
  cases (show v = Value.ref a from rx)
  cases (show u = Value.ref b from ry)
  obtain ⟨us, r1, p1, _⟩ := I.list (.inl (.inl ha))
  obtain ⟨ws, r2, p2, _⟩ := I.list (.inl (.inl hb))
  have hu := hr.un
  have hsz : us.toArray.size = ws.toArray.size := by
    rw [List.size_toArray, List.size_toArray, ← Paired.length r1, ← Paired.length r2]
  refine SeqAt.RcNeAt.lists (e := fun _ => true) p1.isList p2.isList hsz (by omega) (fun j h1 h2 => ?_) X.prog X.w X.xe _ ?_
  · have k := same_run (A := X.A.in1) (s := s) hv r1 r2 j (by simpa using h1) (by simpa using h2)
    simpa using k
  · rw [show ((List.range us.toArray.size).all fun _ => true) = true from List.all_eq_true.mpr fun _ _ => rfl]
    exact ⟨.bl false, H, I, rfl, q⟩
theorem isE2K (h : X.K = K := by rfl) : CallR X (.builtin "isinstance") (rIsE2 K) := by subst h; exact call_isE2
theorem xfK {e : Expr} {te : TE} {pos : Pos} {n : Str} (he : PE X e te) (h : X.K = K := by rfl) (hb : attributeBase e n X.env (eval e X.env) = eval e X.env := by rfl) : PE X (.Attribute e n pos) (tXfT K n te) := by subst h; exact pe_xfT he hb
end
theorem od_neSame {K : PySem.W.Frag} : OpD (rNeS K) (fun x y P => ∃ ds, x = .list ds ∧ y = .list ds ∧ (∀ d ∈ ds, IdD d) ∧ P (.bool false)) := fun O H x y d e P Q _ rx ry h k => by
  obtain ⟨ds, rfl, rfl, hi, p⟩ := h
  cases rx with
  | lst n1 e1 r1 =>
    cases ry with
    | lst n2 e2 r2 =>
      obtain ⟨e, f⟩ := IdD.all hi r1 r2
      subst e
      exact ⟨_, _, _, rfl, rfl, e1, e2, f, k _ H _ p (Same.refl H) (.bl false)⟩
/-! ### a list many times -/
theorem DtA.rep {O : List Addr} {H : Hp} {vs : List V} {ds : List D} (r : DtA O H vs ds) : ∀ n : Nat, DtA O H (List.replicate n vs).flatten (List.replicate n ds).flatten
  | 0 => .nil
  | n + 1 => by
    rw [List.replicate_succ, List.replicate_succ, List.flatten_cons, List.flatten_cons]
    exact r.app (DtA.rep r n)
theorem od_rep : OpD rRep (fun x y P => ∃ ds k, x = .list ds ∧ y = .int k ∧ -(2 ^ 63) ≤ k ∧ k < 2 ^ 63 ∧ ds.length * k.toNat ≤ 100000 ∧ P (.list (List.replicate k.toNat ds).flatten)) := fun O H x y d e P Q tr rx ry h k => by
  obtain ⟨ds, n, rfl, rfl, h1, h2, hl, p⟩ := h
  cases ry
  cases rx with
  | lst n1 e1 r1 =>
    refine ⟨_, _, _, rfl, rfl, e1, h1, h2, by rw [r1.len, sizeLine_eq]; exact Nat.le_trans hl (by decide), fun q hq => ?_⟩
    refine k (.ref q) _ _ p (Same.upd hq) (.lst (fun m => ?_) upd_same ((DtA.rep r1 _).le (Le.of (Same.upd hq))))
    obtain ⟨o, e⟩ := tr q m
    rw [hq] at e; cases e
section
variable {δ : List DV} {P : D → List DV → Prop} {te : TE} {t tk : TA} {K : PySem.W.Frag}
/-- data that stand for objects of their own -/
def conD : D → Bool
  | .list _ => true
  | .tuple _ => true
  | .dict ((.list _, _) :: _) => false
  | .dict _ => true
  | _ => false
/-- whatever is read may be taken for the object itself -/
theorem rd_opq (h : Rd te δ fun x δ1 => (IdD x ∧ P x δ1) ∨ (conD x = true ∧ ∀ a, P (dOp a) δ1)) : Rd te δ P := fun F σ H S Q k => h F σ H S _ fun v H1 x δ1 p l1 S1 r1 => by
  rcases p with ⟨_, p⟩ | ⟨c, p⟩
  · exact k v H1 x δ1 p l1 S1 r1
  · cases r1 with
    | lst n e r => exact k _ H1 _ δ1 (p _) l1 S1 (.opq n e)
    | tup n e r => exact k _ H1 _ δ1 (p _) l1 S1 (.opq n e)
    | dct n e r => exact k _ H1 _ δ1 (p _) l1 S1 (.opq n e)
    | opq n e => cases c
    | exn => cases c
    | _ => cases c
theorem mkF_zip (fl : List (Str × Nat)) (ws : List V) : mkF fl ws = (fl.map (·.1)).zip (fl.map fun p => ws.getD p.2 .non) := by
  unfold mkF
  induction fl with
  | nil => rfl
  | cons p fl ih =>
    rw [List.map_cons, List.map_cons, List.map_cons, List.zip_cons_cons, ih]
theorem DtA.getD {O : List Addr} {H : Hp} {vs : List V} {ds : List D} (r : DtA O H vs ds) (i : Nat) : Dt O H (vs.getD i .non) (ds.getD i .none) := by
  rw [List.getD_eq_getElem?_getD, List.getD_eq_getElem?_getD]
  cases e : ds[i]? with
  | none =>
    have e2 : vs[i]? = none := List.getElem?_eq_none_iff.mpr (by rw [r.len]; exact List.getElem?_eq_none_iff.mp e)
    rw [e2]
    exact .non
  | some d =>
    obtain ⟨v, e2, a⟩ := r.get e
    rw [e2]
    exact a
theorem DtA.flds {O : List Addr} {H : Hp} {vs : List V} {ds : List D} (r : DtA O H vs ds) : ∀ fl : List (Str × Nat), DtA O H (fl.map fun p => vs.getD p.2 .non) (fl.map fun p => ds.getD p.2 .none)
  | [] => .nil
  | p :: fl => .cons (r.getD p.2) (DtA.flds r fl)
/-- an error made -/
theorem rd_mk {C : Addr} {fl : List (Str × Nat)} {n l m : Nat} {ix : List Nat}
    (h : RdA t δ fun xs δ1 => RdA tk δ1 fun zs δ2 => xs.length = n ∧ zs.length = l ∧ (pick ix (xs ++ zs)).length = m ∧ P (dEx C (fl.map (·.1)) (fl.map fun p => (pick ix (xs ++ zs)).getD p.2 .none)) δ2) : Rd (tMk C fl n l m ix t tk) δ P := fun F σ H S Q k =>
  h F σ H S _ fun vs H1 xs δ1 h2 l1 S1 r1 => h2 F σ H1 S1 _ fun us H2 zs δ2 ⟨e1, e2, e3, p⟩ l2 S2 r2 => by
    have rr := (DtA.pick ((r1.le l2).app r2) ix)
    refine ⟨r1.len.trans e1, r2.len.trans e2, rr.len.trans e3, fun a d hda ha hd => ?_⟩
    have s1 : Same H2 (upd H2 d (.xd (mkF fl (pick ix (vs ++ us))))) := Same.upd hd
    have ha' : upd H2 d (.xd (mkF fl (pick ix (vs ++ us)))) a = none := by rw [upd_ne (Ne.symm hda)]; exact ha
    have s2 := Same.upd (o := ExT (.ref C) (some d) a) ha'
    have s : Same H2 (upd (upd H2 d (.xd (mkF fl (pick ix (vs ++ us))))) a (ExT (.ref C) (some d) a)) := fun b o e => s2 b o (s1 b o e)
    refine k (.ref a) _ _ δ2 p ((l1.trans l2).trans (Le.of s)) (S2.same s) (.exn (S2.notO ha) upd_same (S2.notO hd) (by rw [upd_ne hda, upd_same, mkF_zip]) (by rw [List.length_map, List.length_map]) ((rr.flds fl).le (Le.of s)))
/-- a field -/
def fldD : List Str → List D → Str → Option D
  | n :: ns, d :: ds, f => if f == n then some d else fldD ns ds f
  | _, _, _ => none
theorem fld_at {O : List Addr} {H : Hp} {f : Str} {d : D} : ∀ {ns : List Str} {vs : List V} {ds : List D}, DtA O H vs ds → fldD ns ds f = some d → ∃ v, (ns.zip vs).lookup f = some v ∧ Dt O H v d
  | [], _, _, _, e => by simp [fldD] at e
  | n :: ns, _, _, .nil, e => by simp [fldD] at e
  | n :: ns, _, _, .cons a r, e => by
    unfold fldD at e
    rw [List.zip_cons_cons, List.lookup_cons]
    split at e
    · rename_i q
      rw [q]
      cases e
      exact ⟨_, rfl, a⟩
    · rename_i q
      rw [show (f == n) = false from by simpa using q]
      exact fld_at r e
theorem rd_xf {f : Str} (h : Rd te δ fun x δ1 => ∃ C ns ds d, x = dEx C ns ds ∧ XfC K C ∧ PySem.W.findIn K (.ref C) f = some none ∧ fldD ns ds f = some d ∧ P d δ1) : Rd (tXfT K f te) δ P := fun F σ H S Q k =>
  h F σ H S _ fun v H1 x δ1 ⟨C, ns, ds, d, ex, hX, hf, hd, p⟩ l1 S1 r1 => by
    subst ex
    obtain ⟨a, dd, vs, rfl, n, e1, e2, l, r⟩ := exn_inv r1
    obtain ⟨u, hu, ru⟩ := fld_at r hd
    exact ⟨a, C, dd, _, u, rfl, e1, e2, hX, hf, hu, k u H1 d δ1 p l1 S1 ru⟩
/-- isinstance(e, c) -/
theorem rd_isX {c : V} {cv : Value} (hc : ClsV c cv) (h : Rd te δ fun x δ1 => ∃ C ns ds b, x = dEx C ns ds ∧ ExcC K C ∧ PySem.W.kitOne K (.ref C) cv = some b ∧ P (.bool b) δ1) : Rd (tCB (rIsE2 K) (tCons te (tCons (tC c) tNil))) δ P := fun F σ H S Q k =>
  h F σ H S _ fun v H1 x δ1 ⟨C, ns, ds, b, ex, hE, hk, p⟩ l1 S1 r1 => by
    subst ex
    obtain ⟨a, dd, vs, rfl, n, e1, e2, l, r⟩ := exn_inv r1
    exact Or.inr ⟨a, C, dd, _, c, cv, b, rfl, e1, e2, hE, hc, hk, k _ H1 _ δ1 p l1 S1 (.bl b)⟩
end
/-- {x: [i]} -/
theorem rd_disp_sl {x : Str} {i : Int} {δ : List DV} {P : D → List DV → Prop} (q : P (.dict [(.str x, .list [.int i])]) δ) : Rd (tDisp [(tC (.str x), tLst (tCons (tC (.int i)) tNil))]) δ P := fun F σ H S Q kk p hp => by
  refine ⟨by show 1 ≤ sizeLine; decide, fun l hl => ?_⟩
  have nlp : l ≠ p := fun z => by rw [z, upd_same] at hl; cases hl
  have hl0 : H l = none := by rw [upd_ne nlp] at hl; exact hl
  refine ⟨by rw [upd_ne nlp.symm, upd_same], [(Sum.inr x, .ref l)], rfl, of_decide_eq_true rfl, ?_⟩
  have e : mergeK [] [(Sum.inr x, V.ref l)] = [((Sum.inr x : Key), V.ref l)] := rfl
  rw [e]
  have s : Same H (upd (upd (upd H p (.dK [])) l (.lst [V.int i])) p (.dK [((Sum.inr x : Key), V.ref l)])) := fun b o z => by
    rw [upd_ne (ne_of_none z hp), upd_ne (ne_of_none z hl0), upd_ne (ne_of_none z hp)]
    exact z
  exact kk _ _ _ δ q (Le.of s) (S.same s) (.dct (S.notO hp) upd_same (.cons (.lst (S.notO hl0) (by rw [upd_ne nlp, upd_same]) (.cons (.int i) .nil)) .nil))
end DL

/-! The program's own error classes, by what the top has written of them. -/
namespace DL
open PySem PySem.Spec PyProof.Rows L2
/-- the def in a class's body -/
def inner (st : Stmt) : Stmt := match st with
  | .ClassDef _ _ _ b _ _ _ _ _ _ _ => b.getD 0 (.Pass ⟨0, 0, 0, 0⟩)
  | _ => .Pass ⟨0, 0, 0, 0⟩
abbrev veT : List Value := [.type "ValueError", .type "Exception", .type "BaseException", .type "object"]
structure ClsX (K : PySem.W.Frag) (nm : Str) (C : Addr) (bm : List Value) : Prop where
  ex : ∃ (q : Str) (N : Addr) (bs : List Value) (sn : List Str) (sub : List Value) (ab : Bool) (col : Option Bool) (dd : Option Addr) (k0 k1 k2 k3 k5 : Option Value),
    K.lookup C = some (excClassObj nm q C N bs bm true sn sub ab col dd k0 k1 k2 k3 k5 "ValueError.__new__")
section
variable {K : PySem.W.Frag} {nm nm' : Str} {C D : Addr} {bm bm' : List Value}
theorem ClsX.cls (c : ClsX K nm C bm) : ∃ cd, PySem.W.clsIn K C = some cd ∧ cd.mro = .ref C :: bm ∧ cd.hasDict = true := by
  obtain ⟨q, N, bs, sn, sub, ab, col, dd, k0, k1, k2, k3, k5, e⟩ := c.ex
  unfold PySem.W.clsIn
  rw [e]
  exact ⟨_, rfl, rfl, rfl⟩
theorem ClsX.some (c : ClsX K nm C bm) : (PySem.W.clsIn K C).isSome = true := by
  obtain ⟨cd, e, _⟩ := c.cls
  rw [e] <;> rfl
theorem ClsX.ty (c : ClsX K nm C bm) : PySem.W.typeIn K (.ref C) = Option.some (.type "type") := by
  obtain ⟨q, N, bs, sn, sub, ab, col, dd, k0, k1, k2, k3, k5, e⟩ := c.ex
  show Option.map (·.cls) (List.lookup C K) = _
  rw [e] <;> rfl
theorem ClsX.mro (c : ClsX K nm C bm) (b : Value) : PySem.W.mroIn K C b = Option.some ((Value.ref C :: bm).contains b) := by
  obtain ⟨cd, e, em, _⟩ := c.cls
  unfold PySem.W.mroIn
  rw [e, Option.bind_some, em] <;> rfl
theorem ClsX.sub (c : ClsX K nm C bm) (b : Value) : PySem.W.subIn K (.ref C) b = Option.some ((Value.ref C :: bm).contains b) := c.mro b
theorem ClsX.dict (c : ClsX K nm C bm) : PySem.W.hasDictIn K C = true := by
  obtain ⟨cd, e, _, h⟩ := c.cls
  unfold PySem.W.hasDictIn
  rw [e]
  exact h
theorem ClsX.ne (c : ClsX K nm C bm) (d : ClsX K nm' D bm') (h : nm ≠ nm') : C ≠ D := fun z => by
  subst z
  obtain ⟨q, N, bs, sn, sub, ab, col, dd, k0, k1, k2, k3, k5, e⟩ := c.ex
  obtain ⟨q', N', bs', sn', sub', ab', col', dd', k0', k1', k2', k3', k5', e'⟩ := d.ex
  rw [e] at e'
  have z := Option.some.inj e'
  injection z with _ _ z _
  injection z with z
  injection z with z
  exact h z
theorem ClsX.kit (c : ClsX K nm C bm) (d : ClsX K nm' D bm') : PySem.W.kitOne K (.ref C) (.ref D) = Option.some ((Value.ref C :: bm).contains (.ref D)) := by
  unfold PySem.W.kitOne
  by_cases z : (Value.ref C == Value.ref D) = true
  · rw [if_pos z]
    have e : C = D := Value.ref.inj (beq_iff_eq.mp z)
    subst e
    simp
  · rw [if_neg z]
    show (if ((PySem.W.clsIn K D).isSome && PySem.W.typeIn K (.ref D) == Option.some (.type "type")) = true then PySem.W.subIn K (.ref C) (.ref D) else none) = _
    rw [d.some, d.ty, if_pos (by rfl)]
    exact c.sub _
theorem ClsX.kitSelf (c : ClsX K nm C bm) : PySem.W.kitOne K (.ref C) (.ref C) = Option.some true := by
  rw [c.kit c]
  simp
theorem ClsX.kitT {T : String} (c : ClsX K nm C bm) (hT : PySem.W.kitMeta T = true) : PySem.W.kitOne K (.ref C) (.type T) = Option.some (bm.contains (.type T)) := by
  unfold PySem.W.kitOne
  rw [if_neg (by intro z; cases (beq_iff_eq.mp z))]
  show (if PySem.W.kitMeta T = true then PySem.W.subIn K (.ref C) (.type T) else none) = _
  rw [if_pos hT, c.sub, List.contains_cons]
  rfl
end
/-- an own error class with an __init__ of its own -/
structure ErrK (K : PySem.W.Frag) (mg : Str → Option Value) (x : Str) (st : Stmt) (C PE fI : Addr) (fd : FuncData) : Prop where
  g : mg x = some (.ref C)
  c : ClsX K x C (.ref PE :: veT)
  sa : PySem.W.findIn K (.ref C) "__setattr__" = some (some (.builtin "object.__setattr__"))
  ga : PySem.W.findIn K (.ref C) "__getattribute__" = some (some (.builtin "BaseException.__getattribute__"))
  gg : PySem.W.findIn K (.ref C) "__getattr__" = some none
  ca : PySem.W.findIn K (.ref C) "__class__" = some (some (.builtin "object.__class__"))
  iC : PySem.W.findIn K (.ref C) "__init__" = some (some (.ref fI))
  tI : PySem.W.typeIn K (.ref fI) = some (.type "function")
  kC : PySem.W.keepIn K (.ref C) = true
  F : Fun K "__init__" (x ++ ".__init__") st fI fd
/-- what all classes share -/
structure ErrB (K : PySem.W.Frag) : Prop where
  hn : PySem.W.specialIn K (.builtin "object.__class__") "__get__" = some (some (.builtin "getset_descriptor.__get__"))
  ht : PySem.W.takesIn K (.builtin "object.__class__") = some true
section
variable {K : PySem.W.Frag} {mg : Str → Option Value} {x y : Str} {st : Stmt} {C PE fI : Addr} {fd : FuncData}
theorem ErrK.base (e : ErrK K mg x st C PE fI fd) : PySem.W.subIn K (.ref C) (.type "BaseException") = some true := by
  rw [e.c.sub]
  simp
theorem ErrK.oex (e : ErrK K mg x st C PE fI fd) : OexC K C where
  cls := by
    obtain ⟨q, N, bs, sn, sub, ab, col, dd, k0, k1, k2, k3, k5, h⟩ := e.c.ex
    exact ⟨_, q, N, bs, _, sn, sub, ab, col, dd, k0, k1, k2, k3, k5, h, rfl⟩
  sa := e.sa
  exC := e.base
  tyC := e.c.ty
  kC := e.kC
theorem ErrK.exc (e : ErrK K mg x st C PE fI fd) (b : ErrB K) : ExcC K C := ⟨e.ga, e.gg, e.base, e.c.dict, e.ca, b.hn, b.ht, by rw [e.c.mro]; simp⟩
theorem ErrK.xf (e : ErrK K mg x st C PE fI fd) : XfC K C := ⟨e.ga, e.gg, e.base, e.c.dict⟩
theorem ErrK.kit {st' : Stmt} {C' fI' : Addr} {fd' : FuncData} (e : ErrK K mg x st C PE fI fd) (e' : ErrK K mg y st' C' PE fI' fd') (p : ClsX K "PriceError" PE veT) (h : x ≠ y) (hy : "PriceError" ≠ y) : PySem.W.kitOne K (.ref C) (.ref C') = some false := by
  rw [e.c.kit e'.c]
  have n1 : C' ≠ C := fun z => (e.c.ne e'.c h) z.symm
  have n2 : C' ≠ PE := fun z => (p.ne e'.c hy) z.symm
  simp [n1, n2]
theorem ErrK.kitP (e : ErrK K mg x st C PE fI fd) (p : ClsX K "PriceError" PE veT) : PySem.W.kitOne K (.ref C) (.ref PE) = some true := by
  rw [e.c.kit p]
  simp
theorem ErrK.kitV (e : ErrK K mg x st C PE fI fd) : PySem.W.kitOne K (.ref C) (.type "ValueError") = some true := by
  rw [e.c.kitT (by decide +kernel)]
  simp
/-- its __init__ keeps one field -/
theorem ErrK.init1 {P : Program} {w : World} {base : Heap} {f a : Str} (e : ErrK K mg x st C PE fI fd) (hno : PySem.W.findIn K (.ref C) f = some none)
    (S : FnScope ["self", a] ["self", a] (defScope st)) (hd : ∀ (cdv : Value) (A : Around) (outer : List Env) (s : Shared) (H : Hp) (E : XK), PSs (cxOf CX0 P w K mg base ["self", a] (x ++ ".__init__") (defScope st) fI cdv A outer s H E).nox (defBody st) (tOst K f (tVar 0) (tVar 1))) :
    FnOk P w K mg base CX0 1 fI fd ["self", a] (InitSp C [(f, 0)] 1) := by
  refine e.F.ok S (fun vs H Q E h => ?_) fun cdv A outer s H vs Q E hr h => ⟨_, hd cdv A outer s H E, ?_⟩
  · obtain ⟨a', ws, rfl, l, _⟩ := h
    rw [List.length_cons, l]
    rfl
  · obtain ⟨a', ws, rfl, l, ea, q⟩ := h
    match ws, l with
    | [y], _ =>
      refine ⟨y, rfl, .ref a', rfl, a', C, rfl, e.oex, hno, Or.inl ⟨ea, fun dx n ne => ?_⟩⟩
      exact q _ dx ne n upd_same (by rw [upd_ne ne, upd_same]; rfl) fun b h1 h2 => by rw [upd_ne h1, upd_ne h2]
/-- .. two -/
theorem ErrK.init2 {P : Program} {w : World} {base : Heap} {f g a b : Str} (e : ErrK K mg x st C PE fI fd) (hno : PySem.W.findIn K (.ref C) f = some none) (hno2 : PySem.W.findIn K (.ref C) g = some none)
    (S : FnScope ["self", a, b] ["self", a, b] (defScope st)) (hd : ∀ (cdv : Value) (A : Around) (outer : List Env) (s : Shared) (H : Hp) (E : XK), PSs (cxOf CX0 P w K mg base ["self", a, b] (x ++ ".__init__") (defScope st) fI cdv A outer s H E).nox (defBody st) (tSeq (tOst K f (tVar 0) (tVar 1)) (tOst K g (tVar 0) (tVar 2)))) :
    FnOk P w K mg base CX0 1 fI fd ["self", a, b] (InitSp C [(g, 1), (f, 0)] 2) := by
  refine e.F.ok S (fun vs H Q E h => ?_) fun cdv A outer s H vs Q E hr h => ⟨_, hd cdv A outer s H E, ?_⟩
  · obtain ⟨a', ws, rfl, l, _⟩ := h
    rw [List.length_cons, l]
    rfl
  · obtain ⟨a', ws, rfl, l, ea, q⟩ := h
    match ws, l with
    | [y, z], _ =>
      refine ⟨y, rfl, .ref a', rfl, a', C, rfl, e.oex, hno, Or.inl ⟨ea, fun dx n ne => ?_⟩⟩
      refine ⟨z, rfl, .ref a', rfl, a', C, rfl, e.oex, hno2, Or.inr ⟨dx, _, upd_same, by rw [upd_ne ne, upd_same], (by show 1 ≤ 900; omega), ?_⟩⟩
      refine q _ dx ne n (by rw [upd_ne (Ne.symm ne), upd_same]) (by rw [upd_same]; rfl) fun b h1 h2 => by rw [upd_ne h2, upd_ne h1, upd_ne h2]
end
end DL

/-! Comprehensions over pairs. -/
namespace DL
open PySem PySem.Spec PyProof.Rows L2
section
variable {δ : List DV} {P : D → List DV → Prop} {te : TE} {tt : TT} {i j : Nat} {wi : TI} {Kf : PySem.W.Frag}
/-- the slots with a pair in -/
def prX (δ : List DV) (i j : Nat) (a b : D) : List DV := (((δ.set j .un).set i .un).set i (.dat a)).set j (.dat b)
theorem prX_len {a b : D} : (prX δ i j a b).length = δ.length := by
  unfold prX
  rw [List.length_set, List.length_set, List.length_set, List.length_set]
theorem back_of {δ' : List DV} {vs : List Nat} (hl : δ'.length = δ.length) (h : ∀ k, k ∉ vs → δ'[k]? = δ[k]?) : back δ δ' vs = δ := by
  unfold back
  rw [hl]
  refine List.ext_getElem? fun k => ?_
  rw [List.getElem?_map]
  by_cases hk : k < δ.length
  · rw [List.getElem?_range hk]
    show some (if k ∈ vs then δ.getD k .un else δ'.getD k .un) = δ[k]?
    rw [List.getElem?_eq_getElem hk]
    by_cases e : k ∈ vs
    · rw [if_pos e, List.getD_eq_getElem?_getD, List.getElem?_eq_getElem hk]
      rfl
    · rw [if_neg e, List.getD_eq_getElem?_getD, h k e, List.getElem?_eq_getElem hk]
      rfl
  · rw [List.getElem?_eq_none (by rw [List.length_range]; omega), List.getElem?_eq_none (by omega)]
    rfl
theorem back_prX {a b : D} : back δ (prX δ i j a b) [i, j] = δ := back_of prX_len fun k hk => by
  have h1 : i ≠ k := fun z => hk (by rw [z]; exact List.mem_cons_self)
  have h2 : j ≠ k := fun z => hk (by rw [z]; exact List.mem_cons_of_mem _ List.mem_cons_self)
  unfold prX
  rw [List.getElem?_set_ne h2, List.getElem?_set_ne h1, List.getElem?_set_ne h1, List.getElem?_set_ne h2]
def prD (p : D × D) : D := .tuple [p.1, p.2]
/-- [e for x, y in .. if t] -/
theorem rd_lcpair (ps : List (D × D)) (g : D → D → Bool) (f : D → D → D) (h : RdI wi δ fun ds δ1 => ds = ps.map prD ∧ ps.length ≤ 50000 ∧ (∃ x, δ1[i]? = some x ∧ ownOf x = none) ∧ (∃ x, δ1[j]? = some x ∧ ownOf x = none) ∧
    (∀ p ∈ ps, RdT tt (prX δ1 i j p.1 p.2) fun b δ3 => b = g p.1 p.2 ∧ δ3 = prX δ1 i j p.1 p.2) ∧
    (∀ p ∈ ps, g p.1 p.2 = true → Rd te (prX δ1 i j p.1 p.2) fun y δ4 => y = f p.1 p.2 ∧ δ4 = prX δ1 i j p.1 p.2) ∧ P (.list ((ps.filter fun p => g p.1 p.2).map fun p => f p.1 p.2)) δ1) :
    Rd (tLc wi (gTup Kf 2 (gCons (gName i) (gCons (gName j) gNil))) tt te [i, j]) δ P := by
  refine rd_lc (gd_tup (gd_cons gd_name (gd_cons gd_name gd_nil))) (fun _ m => m) fun F σ H S R k => h F σ H S R fun J H' ds δ1 q ⟨eds, hl, ⟨x, ex, ox⟩, ⟨y, ey, oy⟩, h1, ht, p⟩ l S1 src =>
    k J H' ds δ1 q ⟨by rw [eds, List.length_map]; exact hl, fun n acc δ' => δ' = δ1 ∧ acc = ((ps.take n).filter fun p => g p.1 p.2).map fun p => f p.1 p.2, ⟨rfl, by rw [List.take_zero]; rfl⟩, fun n d acc δ' hd hI => ?_, fun acc δ' hI => ?_⟩ l S1 src
  · obtain ⟨rfl, rfl⟩ := hI
    have hn : i < δ'.length := (List.getElem?_eq_some_iff.mp ex).1
    have hn2 : j < δ'.length := (List.getElem?_eq_some_iff.mp ey).1
    subst eds
    rw [List.getElem?_map] at hd
    obtain ⟨pr, hp, rfl⟩ := Option.map_eq_some_iff.mp hd
    have hm := List.mem_of_getElem? hp
    refine ⟨fun v hv z hz => ?_, [pr.1, pr.2], rfl, rfl, pr.1, [pr.2], rfl, by show i < ((δ'.set j .un).set i .un).length; rw [List.length_set, List.length_set]; exact hn, pr.2, [], rfl, by show j < (((δ'.set j .un).set i .un).set i _).length; rw [List.length_set, List.length_set, List.length_set]; exact hn2, rfl, ?_⟩
    · rcases List.mem_cons.mp hv with e | hv
      · rw [e, ex] at hz
        cases hz
        exact ox
      · rw [List.mem_singleton] at hv
        rw [hv, ey] at hz
        cases hz
        exact oy
    · refine fun F σ H S Q k => h1 pr hm F σ H S Q fun b H' δ3 ⟨eb, e3⟩ l S' => k b H' δ3 ⟨fun z => ?_, fun z => ?_⟩ l S'
      · subst e3
        refine rd_imp (ht pr hm (eb ▸ z)) fun y δ4 w => ?_
        obtain ⟨rfl, rfl⟩ := w
        refine ⟨back_prX, ?_⟩
        rw [List.take_add_one, hp, List.filter_append]
        show _ = (_ ++ [pr].filter fun p => g p.1 p.2).map _
        rw [List.filter_cons_of_pos (eb ▸ z), List.map_append]
        rfl
      · subst e3
        refine ⟨back_prX, ?_⟩
        rw [List.take_add_one, hp, List.filter_append]
        show _ = (_ ++ [pr].filter fun p => g p.1 p.2).map _
        rw [List.filter_cons_of_neg (by rw [← eb, z]; exact Bool.false_ne_true), List.filter_nil, List.append_nil]
  · obtain ⟨rfl, rfl⟩ := hI
    rw [eds, List.length_map, List.take_length]
    exact p
end
end DL

namespace Kx
open PySem PySem.Spec PyProof.Rows L2 DL
theorem hu64 {k : Nat} {A : Around} (hr : Room k A) : A.units + 64 < cLine := by
  have := hr.un
  omega

def top (i : Nat) : Stmt := PySem.Challenge.pw_hindprice_k00_errors_keep_their_fields.main.body.getD i (.Pass ⟨0, 0, 0, 0⟩)
abbrev s_BadNumber : Stmt := inner (top 2)
theorem sc_BadNumber : FnScope ["self", "part"] ["self", "part"] (defScope s_BadNumber) := ⟨rfl, rfl, rfl, by decide +kernel, rfl, by decide +kernel, by decide +kernel⟩
theorem i_BadNumber_part {K : PySem.W.Frag} {f : Addr} {fd : FuncData} (F : Fun K "__init__" "BadNumber.__init__" s_BadNumber f fd) : KBi fd ["self", "part"] 1 ["part"] [0, 1] := DL.Fun.kbi F fun _ _ _ _ _ _ us ws h1 h2 => match us, ws, h1, h2 with | [_], [_], _, _ => rfl
theorem i_BadNumber {K : PySem.W.Frag} {f : Addr} {fd : FuncData} (F : Fun K "__init__" "BadNumber.__init__" s_BadNumber f fd) : KBi fd ["self", "part"] 2 [] [0, 1] := DL.Fun.kbi F fun _ _ _ _ _ _ us ws h1 h2 => match us, ws, h1, h2 with | [_, _], [], _, _ => rfl
abbrev s_BadDay : Stmt := inner (top 3)
theorem sc_BadDay : FnScope ["self", "part"] ["self", "part"] (defScope s_BadDay) := ⟨rfl, rfl, rfl, by decide +kernel, rfl, by decide +kernel, by decide +kernel⟩
theorem i_BadDay_part {K : PySem.W.Frag} {f : Addr} {fd : FuncData} (F : Fun K "__init__" "BadDay.__init__" s_BadDay f fd) : KBi fd ["self", "part"] 1 ["part"] [0, 1] := DL.Fun.kbi F fun _ _ _ _ _ _ us ws h1 h2 => match us, ws, h1, h2 with | [_], [_], _, _ => rfl
theorem i_BadDay {K : PySem.W.Frag} {f : Addr} {fd : FuncData} (F : Fun K "__init__" "BadDay.__init__" s_BadDay f fd) : KBi fd ["self", "part"] 2 [] [0, 1] := DL.Fun.kbi F fun _ _ _ _ _ _ us ws h1 h2 => match us, ws, h1, h2 with | [_, _], [], _, _ => rfl
abbrev s_BadMarket : Stmt := inner (top 4)
theorem sc_BadMarket : FnScope ["self", "part"] ["self", "part"] (defScope s_BadMarket) := ⟨rfl, rfl, rfl, by decide +kernel, rfl, by decide +kernel, by decide +kernel⟩
theorem i_BadMarket_part {K : PySem.W.Frag} {f : Addr} {fd : FuncData} (F : Fun K "__init__" "BadMarket.__init__" s_BadMarket f fd) : KBi fd ["self", "part"] 1 ["part"] [0, 1] := DL.Fun.kbi F fun _ _ _ _ _ _ us ws h1 h2 => match us, ws, h1, h2 with | [_], [_], _, _ => rfl
theorem i_BadMarket {K : PySem.W.Frag} {f : Addr} {fd : FuncData} (F : Fun K "__init__" "BadMarket.__init__" s_BadMarket f fd) : KBi fd ["self", "part"] 2 [] [0, 1] := DL.Fun.kbi F fun _ _ _ _ _ _ us ws h1 h2 => match us, ws, h1, h2 with | [_, _], [], _, _ => rfl
abbrev s_BadMix : Stmt := inner (top 5)
theorem sc_BadMix : FnScope ["self", "part"] ["self", "part"] (defScope s_BadMix) := ⟨rfl, rfl, rfl, by decide +kernel, rfl, by decide +kernel, by decide +kernel⟩
theorem i_BadMix_part {K : PySem.W.Frag} {f : Addr} {fd : FuncData} (F : Fun K "__init__" "BadMix.__init__" s_BadMix f fd) : KBi fd ["self", "part"] 1 ["part"] [0, 1] := DL.Fun.kbi F fun _ _ _ _ _ _ us ws h1 h2 => match us, ws, h1, h2 with | [_], [_], _, _ => rfl
theorem i_BadMix {K : PySem.W.Frag} {f : Addr} {fd : FuncData} (F : Fun K "__init__" "BadMix.__init__" s_BadMix f fd) : KBi fd ["self", "part"] 2 [] [0, 1] := DL.Fun.kbi F fun _ _ _ _ _ _ us ws h1 h2 => match us, ws, h1, h2 with | [_, _], [], _, _ => rfl
abbrev s_BadWord : Stmt := inner (top 6)
theorem sc_BadWord : FnScope ["self", "part"] ["self", "part"] (defScope s_BadWord) := ⟨rfl, rfl, rfl, by decide +kernel, rfl, by decide +kernel, by decide +kernel⟩
theorem i_BadWord_part {K : PySem.W.Frag} {f : Addr} {fd : FuncData} (F : Fun K "__init__" "BadWord.__init__" s_BadWord f fd) : KBi fd ["self", "part"] 1 ["part"] [0, 1] := DL.Fun.kbi F fun _ _ _ _ _ _ us ws h1 h2 => match us, ws, h1, h2 with | [_], [_], _, _ => rfl
theorem i_BadWord {K : PySem.W.Frag} {f : Addr} {fd : FuncData} (F : Fun K "__init__" "BadWord.__init__" s_BadWord f fd) : KBi fd ["self", "part"] 2 [] [0, 1] := DL.Fun.kbi F fun _ _ _ _ _ _ us ws h1 h2 => match us, ws, h1, h2 with | [_, _], [], _, _ => rfl
abbrev s_BadPromise : Stmt := inner (top 7)
theorem sc_BadPromise : FnScope ["self", "part"] ["self", "part"] (defScope s_BadPromise) := ⟨rfl, rfl, rfl, by decide +kernel, rfl, by decide +kernel, by decide +kernel⟩
theorem i_BadPromise_part {K : PySem.W.Frag} {f : Addr} {fd : FuncData} (F : Fun K "__init__" "BadPromise.__init__" s_BadPromise f fd) : KBi fd ["self", "part"] 1 ["part"] [0, 1] := DL.Fun.kbi F fun _ _ _ _ _ _ us ws h1 h2 => match us, ws, h1, h2 with | [_], [_], _, _ => rfl
theorem i_BadPromise {K : PySem.W.Frag} {f : Addr} {fd : FuncData} (F : Fun K "__init__" "BadPromise.__init__" s_BadPromise f fd) : KBi fd ["self", "part"] 2 [] [0, 1] := DL.Fun.kbi F fun _ _ _ _ _ _ us ws h1 h2 => match us, ws, h1, h2 with | [_, _], [], _, _ => rfl
abbrev s_BadMachine : Stmt := inner (top 8)
theorem sc_BadMachine : FnScope ["self", "part"] ["self", "part"] (defScope s_BadMachine) := ⟨rfl, rfl, rfl, by decide +kernel, rfl, by decide +kernel, by decide +kernel⟩
theorem i_BadMachine_part {K : PySem.W.Frag} {f : Addr} {fd : FuncData} (F : Fun K "__init__" "BadMachine.__init__" s_BadMachine f fd) : KBi fd ["self", "part"] 1 ["part"] [0, 1] := DL.Fun.kbi F fun _ _ _ _ _ _ us ws h1 h2 => match us, ws, h1, h2 with | [_], [_], _, _ => rfl
theorem i_BadMachine {K : PySem.W.Frag} {f : Addr} {fd : FuncData} (F : Fun K "__init__" "BadMachine.__init__" s_BadMachine f fd) : KBi fd ["self", "part"] 2 [] [0, 1] := DL.Fun.kbi F fun _ _ _ _ _ _ us ws h1 h2 => match us, ws, h1, h2 with | [_, _], [], _, _ => rfl
abbrev s_BadSeller : Stmt := inner (top 9)
theorem sc_BadSeller : FnScope ["self", "part"] ["self", "part"] (defScope s_BadSeller) := ⟨rfl, rfl, rfl, by decide +kernel, rfl, by decide +kernel, by decide +kernel⟩
theorem i_BadSeller_part {K : PySem.W.Frag} {f : Addr} {fd : FuncData} (F : Fun K "__init__" "BadSeller.__init__" s_BadSeller f fd) : KBi fd ["self", "part"] 1 ["part"] [0, 1] := DL.Fun.kbi F fun _ _ _ _ _ _ us ws h1 h2 => match us, ws, h1, h2 with | [_], [_], _, _ => rfl
theorem i_BadSeller {K : PySem.W.Frag} {f : Addr} {fd : FuncData} (F : Fun K "__init__" "BadSeller.__init__" s_BadSeller f fd) : KBi fd ["self", "part"] 2 [] [0, 1] := DL.Fun.kbi F fun _ _ _ _ _ _ us ws h1 h2 => match us, ws, h1, h2 with | [_, _], [], _, _ => rfl
abbrev s_BadCorner : Stmt := inner (top 10)
theorem sc_BadCorner : FnScope ["self", "part"] ["self", "part"] (defScope s_BadCorner) := ⟨rfl, rfl, rfl, by decide +kernel, rfl, by decide +kernel, by decide +kernel⟩
theorem i_BadCorner_part {K : PySem.W.Frag} {f : Addr} {fd : FuncData} (F : Fun K "__init__" "BadCorner.__init__" s_BadCorner f fd) : KBi fd ["self", "part"] 1 ["part"] [0, 1] := DL.Fun.kbi F fun _ _ _ _ _ _ us ws h1 h2 => match us, ws, h1, h2 with | [_], [_], _, _ => rfl
theorem i_BadCorner {K : PySem.W.Frag} {f : Addr} {fd : FuncData} (F : Fun K "__init__" "BadCorner.__init__" s_BadCorner f fd) : KBi fd ["self", "part"] 2 [] [0, 1] := DL.Fun.kbi F fun _ _ _ _ _ _ us ws h1 h2 => match us, ws, h1, h2 with | [_, _], [], _, _ => rfl
abbrev s_BadCode : Stmt := inner (top 11)
theorem sc_BadCode : FnScope ["self", "part"] ["self", "part"] (defScope s_BadCode) := ⟨rfl, rfl, rfl, by decide +kernel, rfl, by decide +kernel, by decide +kernel⟩
theorem i_BadCode_part {K : PySem.W.Frag} {f : Addr} {fd : FuncData} (F : Fun K "__init__" "BadCode.__init__" s_BadCode f fd) : KBi fd ["self", "part"] 1 ["part"] [0, 1] := DL.Fun.kbi F fun _ _ _ _ _ _ us ws h1 h2 => match us, ws, h1, h2 with | [_], [_], _, _ => rfl
theorem i_BadCode {K : PySem.W.Frag} {f : Addr} {fd : FuncData} (F : Fun K "__init__" "BadCode.__init__" s_BadCode f fd) : KBi fd ["self", "part"] 2 [] [0, 1] := DL.Fun.kbi F fun _ _ _ _ _ _ us ws h1 h2 => match us, ws, h1, h2 with | [_, _], [], _, _ => rfl
abbrev s_Misfit : Stmt := inner (top 12)
theorem sc_Misfit : FnScope ["self", "part"] ["self", "part"] (defScope s_Misfit) := ⟨rfl, rfl, rfl, by decide +kernel, rfl, by decide +kernel, by decide +kernel⟩
theorem i_Misfit_part {K : PySem.W.Frag} {f : Addr} {fd : FuncData} (F : Fun K "__init__" "Misfit.__init__" s_Misfit f fd) : KBi fd ["self", "part"] 1 ["part"] [0, 1] := DL.Fun.kbi F fun _ _ _ _ _ _ us ws h1 h2 => match us, ws, h1, h2 with | [_], [_], _, _ => rfl
theorem i_Misfit {K : PySem.W.Frag} {f : Addr} {fd : FuncData} (F : Fun K "__init__" "Misfit.__init__" s_Misfit f fd) : KBi fd ["self", "part"] 2 [] [0, 1] := DL.Fun.kbi F fun _ _ _ _ _ _ us ws h1 h2 => match us, ws, h1, h2 with | [_, _], [], _, _ => rfl
abbrev s_NoName : Stmt := inner (top 13)
theorem sc_NoName : FnScope ["self", "value"] ["self", "value"] (defScope s_NoName) := ⟨rfl, rfl, rfl, by decide +kernel, rfl, by decide +kernel, by decide +kernel⟩
theorem i_NoName_value {K : PySem.W.Frag} {f : Addr} {fd : FuncData} (F : Fun K "__init__" "NoName.__init__" s_NoName f fd) : KBi fd ["self", "value"] 1 ["value"] [0, 1] := DL.Fun.kbi F fun _ _ _ _ _ _ us ws h1 h2 => match us, ws, h1, h2 with | [_], [_], _, _ => rfl
theorem i_NoName {K : PySem.W.Frag} {f : Addr} {fd : FuncData} (F : Fun K "__init__" "NoName.__init__" s_NoName f fd) : KBi fd ["self", "value"] 2 [] [0, 1] := DL.Fun.kbi F fun _ _ _ _ _ _ us ws h1 h2 => match us, ws, h1, h2 with | [_, _], [], _, _ => rfl
abbrev s_Twice : Stmt := inner (top 14)
theorem sc_Twice : FnScope ["self", "value"] ["self", "value"] (defScope s_Twice) := ⟨rfl, rfl, rfl, by decide +kernel, rfl, by decide +kernel, by decide +kernel⟩
theorem i_Twice_value {K : PySem.W.Frag} {f : Addr} {fd : FuncData} (F : Fun K "__init__" "Twice.__init__" s_Twice f fd) : KBi fd ["self", "value"] 1 ["value"] [0, 1] := DL.Fun.kbi F fun _ _ _ _ _ _ us ws h1 h2 => match us, ws, h1, h2 with | [_], [_], _, _ => rfl
theorem i_Twice {K : PySem.W.Frag} {f : Addr} {fd : FuncData} (F : Fun K "__init__" "Twice.__init__" s_Twice f fd) : KBi fd ["self", "value"] 2 [] [0, 1] := DL.Fun.kbi F fun _ _ _ _ _ _ us ws h1 h2 => match us, ws, h1, h2 with | [_, _], [], _, _ => rfl
abbrev s_TooMany : Stmt := inner (top 15)
theorem sc_TooMany : FnScope ["self", "what", "most"] ["self", "what", "most"] (defScope s_TooMany) := ⟨rfl, rfl, rfl, by decide +kernel, rfl, by decide +kernel, by decide +kernel⟩
theorem i_TooMany_most_what {K : PySem.W.Frag} {f : Addr} {fd : FuncData} (F : Fun K "__init__" "TooMany.__init__" s_TooMany f fd) : KBi fd ["self", "what", "most"] 1 ["most", "what"] [0, 2, 1] := DL.Fun.kbi F fun _ _ _ _ _ _ us ws h1 h2 => match us, ws, h1, h2 with | [_], [_, _], _, _ => rfl
theorem i_TooMany {K : PySem.W.Frag} {f : Addr} {fd : FuncData} (F : Fun K "__init__" "TooMany.__init__" s_TooMany f fd) : KBi fd ["self", "what", "most"] 3 [] [0, 1, 2] := DL.Fun.kbi F fun _ _ _ _ _ _ us ws h1 h2 => match us, ws, h1, h2 with | [_, _, _], [], _, _ => rfl
abbrev s_BadText : Stmt := inner (top 16)
theorem sc_BadText : FnScope ["self", "item"] ["self", "item"] (defScope s_BadText) := ⟨rfl, rfl, rfl, by decide +kernel, rfl, by decide +kernel, by decide +kernel⟩
theorem i_BadText_item {K : PySem.W.Frag} {f : Addr} {fd : FuncData} (F : Fun K "__init__" "BadText.__init__" s_BadText f fd) : KBi fd ["self", "item"] 1 ["item"] [0, 1] := DL.Fun.kbi F fun _ _ _ _ _ _ us ws h1 h2 => match us, ws, h1, h2 with | [_], [_], _, _ => rfl
theorem i_BadText {K : PySem.W.Frag} {f : Addr} {fd : FuncData} (F : Fun K "__init__" "BadText.__init__" s_BadText f fd) : KBi fd ["self", "item"] 2 [] [0, 1] := DL.Fun.kbi F fun _ _ _ _ _ _ us ws h1 h2 => match us, ws, h1, h2 with | [_, _], [], _, _ => rfl
abbrev s_BadLine : Stmt := inner (top 17)
theorem sc_BadLine : FnScope ["self", "line", "error"] ["self", "line", "error"] (defScope s_BadLine) := ⟨rfl, rfl, rfl, by decide +kernel, rfl, by decide +kernel, by decide +kernel⟩
theorem i_BadLine_error_line {K : PySem.W.Frag} {f : Addr} {fd : FuncData} (F : Fun K "__init__" "BadLine.__init__" s_BadLine f fd) : KBi fd ["self", "line", "error"] 1 ["error", "line"] [0, 2, 1] := DL.Fun.kbi F fun _ _ _ _ _ _ us ws h1 h2 => match us, ws, h1, h2 with | [_], [_, _], _, _ => rfl
theorem i_BadLine {K : PySem.W.Frag} {f : Addr} {fd : FuncData} (F : Fun K "__init__" "BadLine.__init__" s_BadLine f fd) : KBi fd ["self", "line", "error"] 3 [] [0, 1, 2] := DL.Fun.kbi F fun _ _ _ _ _ _ us ws h1 h2 => match us, ws, h1, h2 with | [_, _, _], [], _, _ => rfl
abbrev s__law_tub : Stmt := top 19
theorem sc__law_tub : FnScope ["script", "cell"] ["script"] (defScope s__law_tub) := ⟨rfl, rfl, rfl, by decide +kernel, rfl, by decide +kernel, by decide +kernel⟩
theorem i__law_tub {K : PySem.W.Frag} {f : Addr} {fd : FuncData} (F : Fun K "_law_tub" "_law_tub" s__law_tub f fd) : KBi fd ["script"] 1 [] [0] := DL.Fun.kbi F fun _ _ _ _ _ _ us ws h1 h2 => match us, ws, h1, h2 with | [_], [], _, _ => rfl
abbrev s__law_grab : Stmt := top 20
theorem sc__law_grab : FnScope ["tub", "many", "left", "turn", "cell", "mixed"] ["tub", "many"] (defScope s__law_grab) := ⟨rfl, rfl, rfl, by decide +kernel, rfl, by decide +kernel, by decide +kernel⟩
theorem i__law_grab {K : PySem.W.Frag} {f : Addr} {fd : FuncData} (F : Fun K "_law_grab" "_law_grab" s__law_grab f fd) : KBi fd ["tub", "many"] 2 [] [0, 1] := DL.Fun.kbi F fun _ _ _ _ _ _ us ws h1 h2 => match us, ws, h1, h2 with | [_, _], [], _, _ => rfl
abbrev s__law_pick : Stmt := top 21
theorem sc__law_pick : FnScope ["tub", "some"] ["tub", "some"] (defScope s__law_pick) := ⟨rfl, rfl, rfl, by decide +kernel, rfl, by decide +kernel, by decide +kernel⟩
theorem i__law_pick {K : PySem.W.Frag} {f : Addr} {fd : FuncData} (F : Fun K "_law_pick" "_law_pick" s__law_pick f fd) : KBi fd ["tub", "some"] 2 [] [0, 1] := DL.Fun.kbi F fun _ _ _ _ _ _ us ws h1 h2 => match us, ws, h1, h2 with | [_, _], [], _, _ => rfl
abbrev s__law_value : Stmt := top 22
theorem sc__law_value : FnScope ["tub"] ["tub"] (defScope s__law_value) := ⟨rfl, rfl, rfl, by decide +kernel, rfl, by decide +kernel, by decide +kernel⟩
theorem i__law_value {K : PySem.W.Frag} {f : Addr} {fd : FuncData} (F : Fun K "_law_value" "_law_value" s__law_value f fd) : KBi fd ["tub"] 1 [] [0] := DL.Fun.kbi F fun _ _ _ _ _ _ us ws h1 h2 => match us, ws, h1, h2 with | [_], [], _, _ => rfl
abbrev s__law_kinds : Stmt := top 23
theorem sc__law_kinds : FnScope ["error", "kinds", "word", "is_so"] ["error"] (defScope s__law_kinds) := ⟨rfl, rfl, rfl, by decide +kernel, rfl, by decide +kernel, by decide +kernel⟩
theorem i__law_kinds {K : PySem.W.Frag} {f : Addr} {fd : FuncData} (F : Fun K "_law_kinds" "_law_kinds" s__law_kinds f fd) : KBi fd ["error"] 1 [] [0] := DL.Fun.kbi F fun _ _ _ _ _ _ us ws h1 h2 => match us, ws, h1, h2 with | [_], [], _, _ => rfl
abbrev s__law_stands : Stmt := top 24
theorem sc__law_stands : FnScope ["error", "word"] ["error", "word"] (defScope s__law_stands) := ⟨rfl, rfl, rfl, by decide +kernel, rfl, by decide +kernel, by decide +kernel⟩
theorem i__law_stands {K : PySem.W.Frag} {f : Addr} {fd : FuncData} (F : Fun K "_law_stands" "_law_stands" s__law_stands f fd) : KBi fd ["error", "word"] 2 [] [0, 1] := DL.Fun.kbi F fun _ _ _ _ _ _ us ws h1 h2 => match us, ws, h1, h2 with | [_, _], [], _, _ => rfl
abbrev s_law : Stmt := top 25
theorem sc_law : FnScope ["script", "tub", "turn", "one", "other", "made", "named", "error", "word"] ["script"] (defScope s_law) := ⟨rfl, rfl, rfl, by decide +kernel, rfl, by decide +kernel, by decide +kernel⟩
/-- what the top has written -/
structure Txt (K : PySem.W.Frag) (mg : Str → Option Value) (ad : Nat → Addr) (fd : Nat → FuncData) : Prop where
  F__law_tub : Fun K "_law_tub" "_law_tub" s__law_tub (ad 0) (fd 0)
  g__law_tub : mg "_law_tub" = some (.ref (ad 0))
  F__law_grab : Fun K "_law_grab" "_law_grab" s__law_grab (ad 1) (fd 1)
  g__law_grab : mg "_law_grab" = some (.ref (ad 1))
  F__law_pick : Fun K "_law_pick" "_law_pick" s__law_pick (ad 2) (fd 2)
  g__law_pick : mg "_law_pick" = some (.ref (ad 2))
  F__law_value : Fun K "_law_value" "_law_value" s__law_value (ad 3) (fd 3)
  g__law_value : mg "_law_value" = some (.ref (ad 3))
  F__law_kinds : Fun K "_law_kinds" "_law_kinds" s__law_kinds (ad 4) (fd 4)
  g__law_kinds : mg "_law_kinds" = some (.ref (ad 4))
  F__law_stands : Fun K "_law_stands" "_law_stands" s__law_stands (ad 5) (fd 5)
  g__law_stands : mg "_law_stands" = some (.ref (ad 5))
  F_law : Fun K "law" "law" s_law (ad 6) (fd 6)
  g_law : mg "law" = some (.ref (ad 6))
  E_BadNumber : ErrK K mg "BadNumber" s_BadNumber (ad 100) (ad 99) (ad 200) (fd 200)
  n_BadNumber_part : PySem.W.findIn K (.ref (ad 100)) "part" = some none
  E_BadDay : ErrK K mg "BadDay" s_BadDay (ad 101) (ad 99) (ad 201) (fd 201)
  n_BadDay_part : PySem.W.findIn K (.ref (ad 101)) "part" = some none
  E_BadMarket : ErrK K mg "BadMarket" s_BadMarket (ad 102) (ad 99) (ad 202) (fd 202)
  n_BadMarket_part : PySem.W.findIn K (.ref (ad 102)) "part" = some none
  E_BadMix : ErrK K mg "BadMix" s_BadMix (ad 103) (ad 99) (ad 203) (fd 203)
  n_BadMix_part : PySem.W.findIn K (.ref (ad 103)) "part" = some none
  E_BadWord : ErrK K mg "BadWord" s_BadWord (ad 104) (ad 99) (ad 204) (fd 204)
  n_BadWord_part : PySem.W.findIn K (.ref (ad 104)) "part" = some none
  E_BadPromise : ErrK K mg "BadPromise" s_BadPromise (ad 105) (ad 99) (ad 205) (fd 205)
  n_BadPromise_part : PySem.W.findIn K (.ref (ad 105)) "part" = some none
  E_BadMachine : ErrK K mg "BadMachine" s_BadMachine (ad 106) (ad 99) (ad 206) (fd 206)
  n_BadMachine_part : PySem.W.findIn K (.ref (ad 106)) "part" = some none
  E_BadSeller : ErrK K mg "BadSeller" s_BadSeller (ad 107) (ad 99) (ad 207) (fd 207)
  n_BadSeller_part : PySem.W.findIn K (.ref (ad 107)) "part" = some none
  E_BadCorner : ErrK K mg "BadCorner" s_BadCorner (ad 108) (ad 99) (ad 208) (fd 208)
  n_BadCorner_part : PySem.W.findIn K (.ref (ad 108)) "part" = some none
  E_BadCode : ErrK K mg "BadCode" s_BadCode (ad 109) (ad 99) (ad 209) (fd 209)
  n_BadCode_part : PySem.W.findIn K (.ref (ad 109)) "part" = some none
  E_Misfit : ErrK K mg "Misfit" s_Misfit (ad 110) (ad 99) (ad 210) (fd 210)
  n_Misfit_part : PySem.W.findIn K (.ref (ad 110)) "part" = some none
  E_NoName : ErrK K mg "NoName" s_NoName (ad 111) (ad 99) (ad 211) (fd 211)
  n_NoName_value : PySem.W.findIn K (.ref (ad 111)) "value" = some none
  E_Twice : ErrK K mg "Twice" s_Twice (ad 112) (ad 99) (ad 212) (fd 212)
  n_Twice_value : PySem.W.findIn K (.ref (ad 112)) "value" = some none
  E_TooMany : ErrK K mg "TooMany" s_TooMany (ad 113) (ad 99) (ad 213) (fd 213)
  n_TooMany_what : PySem.W.findIn K (.ref (ad 113)) "what" = some none
  n_TooMany_most : PySem.W.findIn K (.ref (ad 113)) "most" = some none
  E_BadText : ErrK K mg "BadText" s_BadText (ad 114) (ad 99) (ad 214) (fd 214)
  n_BadText_item : PySem.W.findIn K (.ref (ad 114)) "item" = some none
  E_BadLine : ErrK K mg "BadLine" s_BadLine (ad 115) (ad 99) (ad 215) (fd 215)
  n_BadLine_line : PySem.W.findIn K (.ref (ad 115)) "line" = some none
  n_BadLine_error : PySem.W.findIn K (.ref (ad 115)) "error" = some none
  B : ErrB K
  PE : ClsX K "PriceError" (ad 99) veT
  g_PriceError : mg "PriceError" = some (.ref (ad 99))
  b_ValueError : mg "ValueError" = none
  b_abs : mg "abs" = none
  b_int : mg "int" = none
  b_isinstance : mg "isinstance" = none
  b_len : mg "len" = none
  b_range : mg "range" = none

/-- one more step of a reading -/
local macro_rules | `(tactic| k_offL) => `(tactic| first
  | with_reducible refine rs_seq ?_
  | (with_reducible show Rd (tVar _) _ _); refine rd_var rfl ?_
  | with_reducible refine rd_int ?_
  | with_reducible refine rd_bl ?_
  | with_reducible refine rd_str ?_
  | with_reducible refine rd_non ?_
  | with_reducible refine ra_cons ?_
  | with_reducible refine ra_nil ?_
  | with_reducible refine rs_ret ?_
  | with_reducible refine rs_if ?_
  | with_reducible refine rs_next ?_
  | with_reducible refine dI0_mk ?_
  | with_reducible refine rd_andT ?_
  | with_reducible refine rd_orT ?_
  | with_reducible refine rd_notT ?_
  | with_reducible refine rd_isi isInt kt_int ?_
  | with_reducible refine rd_isi isBool kt_bool ?_
  | with_reducible refine rd_isi2 isLst isTup kt_list kt_tuple ?_
  | (with_reducible show Rd (tGo _ _ _ (SpT _ _ _) _ (tCons (tVar _) _) _) _ _); refine rd_goT2 rfl rfl rfl ?_
  | with_reducible refine rd_go ?_
  | (with_reducible show Rd tDNewK _ _); refine rd_dnew ?_
  | with_reducible refine rd_disp_ii ?_
  | with_reducible refine rd_disp_sl ?_
  | with_reducible refine rd_neg ?_
  | with_reducible refine rd_op od_neSame ?_
  | with_reducible refine rd_op od_rep ?_
  | with_reducible refine rd_op od_cat ?_
  | with_reducible refine rd_op od_I0 ?_
  | with_reducible refine rd_op od_B0 ?_
  | with_reducible refine rd_op od_isN ?_
  | with_reducible refine rd_op od_notN ?_
  | with_reducible refine rd_op od_isB ?_
  | with_reducible refine rd_op od_eq ?_
  | with_reducible refine rd_op od_ne ?_
  | with_reducible refine rd_op od_eqS ?_
  | with_reducible refine rd_op od_neS ?_
  | (with_reducible show Rd (tOp (rIx _) (tVar _) _) _ _); refine rd_ixls rfl ?_
  | with_reducible refine rd_op od_ix ?_
  | (with_reducible show List.length _ ≤ 100000 ∧ _); refine ⟨of_decide_eq_true rfl, ?_⟩
  | (with_reducible show _ < List.length _ ∧ _); refine ⟨of_decide_eq_true rfl, ?_⟩
  | (with_reducible show _ < List.length _ ∧ _ < List.length _ ∧ _); refine ⟨of_decide_eq_true rfl, of_decide_eq_true rfl, ?_⟩
  | (with_reducible show ∃ _ _ _, _ ∧ _ = PyData.int _ ∧ atI _ _ = some _ ∧ _); refine ⟨_, _, _, rfl, rfl, rfl, ?_⟩
  | (with_reducible show Rs (tAsg _ (gSub (tVar _) (tC _) rSetL)) _ _); refine rs_setix rfl ?_
  | (with_reducible show ∃ _ _, _ ∧ ixN _ _ = some _ ∧ _); refine ⟨_, _, rfl, rfl, ?_⟩
  | with_reducible refine rd_op od_I ?_
  | with_reducible refine rd_cb cd_len ?_
  | with_reducible refine rd_cb cd_gcd ?_
  | with_reducible refine rd_cb cd_abs ?_
  | with_reducible refine rd_cb cd_int ?_
  | with_reducible refine rd_cb cd_all ?_
  | with_reducible refine rd_cb cd_repr ?_
  | with_reducible refine rd_cb cd_tup ?_
  | with_reducible refine rd_tup ?_
  | with_reducible refine rd_lst ?_
  | with_reducible refine rt_tru ?_
  | with_reducible refine rt_tt ?_
  | with_reducible refine rt_not ?_
  | with_reducible refine rt_and ?_
  | with_reducible refine rt_or ?_
  | with_reducible refine rd_if ?_
  | with_reducible refine rs_asg ?_
  | with_reducible refine rs_par ?_
  | with_reducible refine rs_par3 ?_
  | (with_reducible show Rs (tDrop (tBM _ _ rAppend (tVar _) (tCons _ tNil))) _ _); refine rs_app rfl ?_
  | with_reducible refine rs_drop ?_
  | (with_reducible show (true = true → _) ∧ (true = false → _)); refine ⟨fun _ => ?_, fun h => Bool.noConfusion h⟩
  | (with_reducible show (false = true → _) ∧ (false = false → _)); refine ⟨fun h => Bool.noConfusion h, fun _ => ?_⟩
  | (with_reducible show _ = _ ∧ _ = _ ∧ _ = _ ∧ _); refine ⟨rfl, rfl, rfl, ?_⟩)

section
variable {P : Program} {w : World} {K : PySem.W.Frag} {mg : Str → Option Value} {base : Heap} {ad : Nat → Addr} {fd : Nat → FuncData}
theorem io_BadNumber (T : Txt K mg ad fd) : FnOk P w K mg base CX0 1 (ad 200) (fd 200) ["self", "part"] (InitSp (ad 100) [("part", 0)] 1) := T.E_BadNumber.init1 T.n_BadNumber_part sc_BadNumber fun cdv A outer s H E => (pss_one (ps_ost (pv 0) (pv 1)))
theorem io_BadDay (T : Txt K mg ad fd) : FnOk P w K mg base CX0 1 (ad 201) (fd 201) ["self", "part"] (InitSp (ad 101) [("part", 0)] 1) := T.E_BadDay.init1 T.n_BadDay_part sc_BadDay fun cdv A outer s H E => (pss_one (ps_ost (pv 0) (pv 1)))
theorem io_BadMarket (T : Txt K mg ad fd) : FnOk P w K mg base CX0 1 (ad 202) (fd 202) ["self", "part"] (InitSp (ad 102) [("part", 0)] 1) := T.E_BadMarket.init1 T.n_BadMarket_part sc_BadMarket fun cdv A outer s H E => (pss_one (ps_ost (pv 0) (pv 1)))
theorem io_BadMix (T : Txt K mg ad fd) : FnOk P w K mg base CX0 1 (ad 203) (fd 203) ["self", "part"] (InitSp (ad 103) [("part", 0)] 1) := T.E_BadMix.init1 T.n_BadMix_part sc_BadMix fun cdv A outer s H E => (pss_one (ps_ost (pv 0) (pv 1)))
theorem io_BadWord (T : Txt K mg ad fd) : FnOk P w K mg base CX0 1 (ad 204) (fd 204) ["self", "part"] (InitSp (ad 104) [("part", 0)] 1) := T.E_BadWord.init1 T.n_BadWord_part sc_BadWord fun cdv A outer s H E => (pss_one (ps_ost (pv 0) (pv 1)))
theorem io_BadPromise (T : Txt K mg ad fd) : FnOk P w K mg base CX0 1 (ad 205) (fd 205) ["self", "part"] (InitSp (ad 105) [("part", 0)] 1) := T.E_BadPromise.init1 T.n_BadPromise_part sc_BadPromise fun cdv A outer s H E => (pss_one (ps_ost (pv 0) (pv 1)))
theorem io_BadMachine (T : Txt K mg ad fd) : FnOk P w K mg base CX0 1 (ad 206) (fd 206) ["self", "part"] (InitSp (ad 106) [("part", 0)] 1) := T.E_BadMachine.init1 T.n_BadMachine_part sc_BadMachine fun cdv A outer s H E => (pss_one (ps_ost (pv 0) (pv 1)))
theorem io_BadSeller (T : Txt K mg ad fd) : FnOk P w K mg base CX0 1 (ad 207) (fd 207) ["self", "part"] (InitSp (ad 107) [("part", 0)] 1) := T.E_BadSeller.init1 T.n_BadSeller_part sc_BadSeller fun cdv A outer s H E => (pss_one (ps_ost (pv 0) (pv 1)))
theorem io_BadCorner (T : Txt K mg ad fd) : FnOk P w K mg base CX0 1 (ad 208) (fd 208) ["self", "part"] (InitSp (ad 108) [("part", 0)] 1) := T.E_BadCorner.init1 T.n_BadCorner_part sc_BadCorner fun cdv A outer s H E => (pss_one (ps_ost (pv 0) (pv 1)))
theorem io_BadCode (T : Txt K mg ad fd) : FnOk P w K mg base CX0 1 (ad 209) (fd 209) ["self", "part"] (InitSp (ad 109) [("part", 0)] 1) := T.E_BadCode.init1 T.n_BadCode_part sc_BadCode fun cdv A outer s H E => (pss_one (ps_ost (pv 0) (pv 1)))
theorem io_Misfit (T : Txt K mg ad fd) : FnOk P w K mg base CX0 1 (ad 210) (fd 210) ["self", "part"] (InitSp (ad 110) [("part", 0)] 1) := T.E_Misfit.init1 T.n_Misfit_part sc_Misfit fun cdv A outer s H E => (pss_one (ps_ost (pv 0) (pv 1)))
theorem io_NoName (T : Txt K mg ad fd) : FnOk P w K mg base CX0 1 (ad 211) (fd 211) ["self", "value"] (InitSp (ad 111) [("value", 0)] 1) := T.E_NoName.init1 T.n_NoName_value sc_NoName fun cdv A outer s H E => (pss_one (ps_ost (pv 0) (pv 1)))
theorem io_Twice (T : Txt K mg ad fd) : FnOk P w K mg base CX0 1 (ad 212) (fd 212) ["self", "value"] (InitSp (ad 112) [("value", 0)] 1) := T.E_Twice.init1 T.n_Twice_value sc_Twice fun cdv A outer s H E => (pss_one (ps_ost (pv 0) (pv 1)))
theorem io_TooMany (T : Txt K mg ad fd) : FnOk P w K mg base CX0 1 (ad 213) (fd 213) ["self", "what", "most"] (InitSp (ad 113) [("most", 1), ("what", 0)] 2) := T.E_TooMany.init2 T.n_TooMany_what T.n_TooMany_most sc_TooMany fun cdv A outer s H E => (pss_cons (ps_ost (pv 0) (pv 1)) (pss_one (ps_ost (pv 0) (pv 2))))
theorem io_BadText (T : Txt K mg ad fd) : FnOk P w K mg base CX0 1 (ad 214) (fd 214) ["self", "item"] (InitSp (ad 114) [("item", 0)] 1) := T.E_BadText.init1 T.n_BadText_item sc_BadText fun cdv A outer s H E => (pss_one (ps_ost (pv 0) (pv 1)))
theorem io_BadLine (T : Txt K mg ad fd) : FnOk P w K mg base CX0 1 (ad 215) (fd 215) ["self", "line", "error"] (InitSp (ad 115) [("error", 1), ("line", 0)] 2) := T.E_BadLine.init2 T.n_BadLine_line T.n_BadLine_error sc_BadLine fun cdv A outer s H E => (pss_cons (ps_ost (pv 0) (pv 1)) (pss_one (ps_ost (pv 0) (pv 2))))
theorem cut_ints (ns : List Int) (lo hi : Option Int) : ∃ ms : List Int, cutV (ns.map V.int) lo hi = ms.map V.int ∧ ms.length ≤ ns.length := by
  unfold cutV
  refine ⟨_, by rw [← List.map_drop, ← List.map_take], ?_⟩
  rw [List.length_take, List.length_drop]
  omega
theorem ok__law_tub (T : Txt K mg ad fd) : FnG P w K mg base CX0 1 (ad 0) (fd 0) ["script"] (SpTray K) := by
  refine fnG_body0 T.F__law_tub sc__law_tub (fun vs H Q E h => ?_) fun cdv A outer s H vs Q E hr hG h => ?_
  · obtain ⟨a, ns, rfl, _⟩ := h
    rfl
  obtain ⟨a, ns, rfl, hS, hlen, k⟩ := h
  refine ⟨_, (pss_one (ps_ret (pe_lst (pa_cons (pe_lc (own := [("cell", 1)]) rfl sc__law_tub.nd (piK (pe_slice slK (pv 0) po_none (po_some pe_int))) (blkOk_by (N := ["script", "cell"]) (sc := defScope s__law_tub) (by decide +kernel)) (fun _ _ _ _ _ => (pg_name (i := 1) sc__law_tub.nd rfl (Or.inl rfl))) (fun _ _ _ _ _ => pts_nil) (fun _ _ _ _ _ => (pe_callTy call_int1 rfl T.b_int (by decide +kernel) (pa_cons (pv 1) pa_nil)))) (pa_cons pe_int (pa_cons pe_int pa_nil)))))), ?_⟩
  obtain ⟨ms, em, hm⟩ := cut_ints ns none (some 51)
  refine ⟨_, rfl, _, rfl, a, ns.map V.int, rfl, hS, fun p hp => ⟨p, rfl, Or.inl ⟨⟨_, .inl (.inl upd_same)⟩, fun D hD => ?_⟩⟩⟩
  rw [em] at hD ⊢
  have nDp : p ≠ D := fun z => by rw [z, upd_same] at hD; cases hD
  have hD0 : H D = none := by rw [upd_ne nDp.symm] at hD; exact hD
  refine lc_list (K := K) (a := p) (xs := ms.map V.int) (fun i H' => Same (upd H p (.lst (ms.map V.int))) H' ∧ H' D = some (.lst ((ms.take i).map V.int))) ⟨Same.upd hD, by rw [List.take_zero]; exact upd_same⟩ (fun i H' _ q => .inl (.inl (q.1 _ _ upd_same))) ?_ ?_
  · rintro i x H' hi ⟨sm, hd⟩
    have hi' : i < ms.length := by
      have := (List.getElem?_eq_some_iff.mp hi).1
      rwa [List.length_map] at this
    rw [List.getElem?_map, List.getElem?_eq_getElem hi'] at hi
    have hx := Option.some.inj hi
    subst hx
    refine ⟨rfl, ?_⟩
    refine Exists.intro (V.int ms[i]) ⟨rfl, Or.inl ⟨_, rfl, _, hd, ?_, fun b o e => ?_, ?_⟩⟩
    · rw [List.length_map, List.length_take]
      exact Nat.lt_of_le_of_lt (Nat.le_trans (Nat.min_le_left _ _) (Nat.le_trans (Nat.le_of_lt hi') (Nat.le_trans hm hlen))) (by rw [sizeLine_eq]; decide)
    · have nb : b ≠ D := fun z => by
        rw [z, hD] at e
        cases e
      rw [upd_ne nb]
      exact sm b o e
    · rw [upd_same, List.take_add_one, List.getElem?_eq_getElem hi', List.map_append]
      rfl
  · rintro H' ⟨sm, hd⟩
    rw [List.length_map, List.take_length] at hd
    refine ⟨(by show 3 ≤ sizeLine; decide), fun q hq => ?_⟩
    have s1 : Same H H' := fun b o e => sm b o ((Same.upd hp) b o e)
    have s2 : Same H' (upd H' q (.lst [.ref D, .int 0, .int 0])) := Same.upd hq
    have nDq : D ≠ q := fun z => by rw [z, hq] at hd; cases hd
    refine k q _ [.list (ms.map PyData.int), .int 0, .int 0] _ (s1.free hq) (s1.trans s2) ⟨ms, 0, 0, rfl, Nat.le_trans hm hlen, Int.le_refl _, by decide⟩ upd_same (.cons (.lst (by simpa using nDq) (s2 _ _ hd) (of_ints ms)) (.cons (.int 0) (.cons (.int 0) .nil)))
/-- a draw: any number from 0 on below m -/
def r__law_grab : List D → (D → Prop) → Prop := fun xs P => ∃ m : Int, xs = [.int m] ∧ 0 < m ∧ m.natAbs < 2 ^ 200 ∧ ∀ r : Int, 0 ≤ r → r < m → P (.int r)
theorem shaped_ints (ns : List Int) : SeqAt.shaped (.list (ns.map PyData.int)) = true := by
  have c : PyData.canLayAll0 (ns.map PyData.int) = true := by
    induction ns with
    | nil => rfl
    | cons a r ih =>
      rw [List.map_cons]
      show (PyData.canLay0 (.int a) && _) = true
      rw [ih]
      rfl
  have d : PyData.depthAll (ns.map PyData.int) = 0 := by
    clear c
    induction ns with
    | nil => rfl
    | cons a r ih =>
      rw [List.map_cons]
      show max (PyData.depth (.int a)) _ = 0
      rw [ih]
      rfl
  show (PyData.canLayAll0 (ns.map PyData.int) && decide (PyData.depthAll (ns.map PyData.int) + 1 ≤ 64)) = true
  rw [c, d]
  rfl
theorem eqv_nil (ns : List Int) : PyData.eqv (.list (ns.map PyData.int)) (.list []) = ns.isEmpty := by
  cases ns <;> rfl
theorem divs {m : Int} (h : 0 < m) (hb : m.natAbs < 2 ^ 200) (x : Int) : CDivW x m := wide_div h hb (by decide) (by decide)
/-- a rest, whatever it is -/
theorem dMod_mk {i j : Int} {P : D → Prop} (hj : 0 < j) (h : ∀ x : Int, 0 ≤ x → x < j → P (.int x)) : dI (fun _ j => 0 < j) (fun i j => .int (i % j)) (.int i) (.int j) P :=
  ⟨hj, h _ (Int.emod_nonneg _ (by omega)) (Int.emod_lt_of_pos _ hj)⟩
theorem draw_pow {x t : Int} {a b c d : Int} (h0 : 0 ≤ x) (h1 : x < 2147483648) (t0 : 0 ≤ t) (t1 : t ≤ 1000000) (ha : 0 ≤ a ∧ a ≤ 100) (hb : 0 ≤ b ∧ b ≤ 100000) (hc : 0 ≤ c ∧ c ≤ 200000) (hd : 0 ≤ d ∧ d ≤ 200000) : (x * (a * t + b) + c * t * t + d).natAbs < 2 ^ 64 := by
  have e1 : a * t ≤ 100 * 1000000 := Int.mul_le_mul ha.2 t1 t0 (by decide)
  have e1' : 0 ≤ a * t := Int.mul_nonneg ha.1 t0
  have e2 : x * (a * t + b) ≤ 2147483648 * (100 * 1000000 + 100000) := Int.mul_le_mul (by omega) (by omega) (by omega) (by decide)
  have e2' : 0 ≤ x * (a * t + b) := Int.mul_nonneg h0 (by omega)
  have e3 : c * t ≤ 200000 * 1000000 := Int.mul_le_mul hc.2 t1 t0 (by decide)
  have e3' : 0 ≤ c * t := Int.mul_nonneg hc.1 t0
  have e4 : c * t * t ≤ 200000 * 1000000 * 1000000 := Int.mul_le_mul e3 t1 t0 (by decide)
  have e4' : 0 ≤ c * t * t := Int.mul_nonneg e3' t0
  generalize x * (a * t + b) = u at e2 e2' ⊢
  generalize c * t * t = v at e4 e4' ⊢
  omega
/-- where it ends: a rest by m, the tray a draw further at most -/
theorem lift_end {Pd : D → Prop} {m x turn left : Int} {ns : List Int} {p : Addr} {fu : Nat} {δ : List DV} (hm : 0 < m) (q : ∀ r : Int, 0 ≤ r → r < m → Pd (.int r)) (h1 : ns.length ≤ 63) (h2 : 0 ≤ turn) (h3 : turn + ((fu - 1 : Nat) : Int) ≤ 1000000)
    (e : δ[0]? = some (.ls false p [.list (ns.map PyData.int), .int turn, .int left])) : Pd (.int (x % m)) ∧ TrayEnd δ p (fu - 1) :=
  ⟨q _ (Int.emod_nonneg _ (by omega)) (Int.emod_lt_of_pos _ hm), Or.inr ⟨_, e, ns, turn, left, rfl, h1, h2, h3⟩⟩
theorem ok__law_grab (T : Txt K mg ad fd) : FnG P w K mg base CX0 1 (ad 1) (fd 1) ["tub", "many"] (SpT 1 1 r__law_grab) := by
  refine fnT T.F__law_grab sc__law_grab rfl fun cdv A outer s H E hr hG => ⟨_, (pss_cons (ps_if (pt_cmpR op_gt (pe_ix ixK (pv 0) pe_int (fun _ _ => rfl)) pe_int (by rfl)) (pss_cons (ps_set (i := 2) sc__law_grab.nd rfl (Or.inl rfl) (pe_ix ixK (pv 0) pe_int (fun _ _ => rfl)))
      (pss_cons (ps_asg (pe_op op_fdivW (pe_callTy call_int1 rfl T.b_int (by decide +kernel) (pa_cons (pv 2) pa_nil)) (pv 1)) (pg_sub (pv 0) pe_int set_list))
      (pss_one (ps_ret (pe_op op_mod (pe_callTy call_int1 rfl T.b_int (by decide +kernel) (pa_cons (pv 2) pa_nil)) (pv 1)))))) pss_nil)
      (pss_cons (ps_set (i := 3) sc__law_grab.nd rfl (Or.inl rfl) (pe_ix ixK (pv 0) pe_int (fun _ _ => rfl)))
      (pss_cons (ps_asg (pe_op op_add (pv 3) pe_int) (pg_sub (pv 0) pe_int set_list))
      (pss_cons (ps_set (i := 4) sc__law_grab.nd rfl (Or.inl rfl) (pe_op op_add (pe_op op_mul pe_int (pv 3)) pe_int))
      (pss_cons (ps_if (pt_cmpR (neK hr) (pe_ix ixK (pv 0) pe_int (fun _ _ => rfl)) (pe_lst pa_nil) (by rfl)) (pss_one (ps_set (i := 4) sc__law_grab.nd rfl (Or.inl rfl) (pe_ix ixK (pe_ix ixK (pv 0) pe_int (fun _ _ => rfl)) (pe_op op_mod (pe_callTy call_int1 rfl T.b_int (by decide +kernel) (pa_cons (pv 3) pa_nil)) (pe_callB lenK rfl T.b_len (by decide +kernel) (pa_cons (pe_ix ixK (pv 0) pe_int (fun _ _ => rfl)) pa_nil))) (fun _ _ => rfl)))) pss_nil)
      (pss_cons (ps_if (PW.pt (pw_and (pt_cmpR op_lt (pv 3) (pe_callB lenK rfl T.b_len (by decide +kernel) (pa_cons (pe_ix ixK (pv 0) pe_int (fun _ _ => rfl)) pa_nil)) (by rfl)) (pw_and1 (pt_cmpR op_ge (pe_callB call_abs rfl T.b_abs (by decide +kernel) (pa_cons (pv 4) pa_nil)) (pe_op op_pow pe_int pe_int) (by rfl))))) (pss_cons (ps_set (i := 2) sc__law_grab.nd rfl (Or.inl rfl) (pe_op op_add (pe_op op_mul pe_int (pe_op op_sub (pe_callB call_abs rfl T.b_abs (by decide +kernel) (pa_cons (pv 4) pa_nil)) (pe_op op_pow pe_int pe_int))) (pe_callTy call_int1 rfl T.b_int (by decide +kernel) (pa_cons (pe_cmpR op_lt (pv 4) pe_int (by rfl)) pa_nil))))
      (pss_cons (ps_asg (pe_op op_fdivW (pe_callTy call_int1 rfl T.b_int (by decide +kernel) (pa_cons (pv 2) pa_nil)) (pv 1)) (pg_sub (pv 0) pe_int set_list))
      (pss_one (ps_ret (pe_op op_mod (pe_callTy call_int1 rfl T.b_int (by decide +kernel) (pa_cons (pv 2) pa_nil)) (pv 1)))))) pss_nil)
      (pss_cons (ps_set (i := 5) sc__law_grab.nd rfl (Or.inl rfl) (pe_op op_mod (pe_callTy call_int1 rfl T.b_int (by decide +kernel) (pa_cons (pe_op op_pow (pe_op op_add (pe_op op_add (pe_op op_mod (pe_callTy call_int1 rfl T.b_int (by decide +kernel) (pa_cons (pv 4) pa_nil)) pe_int) (pe_op op_mul pe_int (pv 3))) pe_int) pe_int) pa_nil)) pe_int))
      (pss_cons (ps_set (i := 5) sc__law_grab.nd rfl (Or.inl rfl) (pe_op op_mod (pe_callTy call_int1 rfl T.b_int (by decide +kernel) (pa_cons (pe_op op_pow (pe_op op_add (pe_op op_add (pe_op op_mul (pv 5) (pe_op op_add (pe_op op_mul pe_int (pv 3)) pe_int)) (pe_op op_mul (pe_op op_mul pe_int (pv 3)) (pv 3))) pe_int) pe_int) pa_nil)) pe_int))
      (pss_one (ps_ret (pe_op op_mod (pe_callTy call_int1 rfl T.b_int (by decide +kernel) (pa_cons (pe_op op_fdivW (pv 5) pe_int) pa_nil)) (pv 1)))))))))))), fun p fu ds Pd hc hl hR => ?_⟩
  obtain ⟨m, rfl, hm, hb, q⟩ := hR
  refine rs_open (i := 0) rfl fun ns turn left h1 h2 h3 => ?_
  repeat k_offL
  refine ⟨_, rfl, fun z => ?_, fun z => ?_⟩
  · repeat k_offL
    refine Or.inl ⟨_, rfl, ?_⟩
    repeat k_offL
    refine ⟨divs hm hb _, ?_⟩
    repeat k_offL
    refine Or.inl ⟨_, rfl, ?_⟩
    repeat k_offL
    exact ⟨hm, lift_end hm q h1 h2 (by omega) rfl⟩
  repeat k_offL
  refine ⟨.inl (by decide), ?_⟩
  repeat k_offL
  refine ⟨shaped_ints ns, rfl, _, rfl, fun z => ?a, fun z => ?b⟩
  case' a =>
    have ne : ns ≠ [] := by
      intro e
      rw [eqv_nil, e] at z
      cases z
    have h0 : (0 : Int) < ((ns.length : Nat) : Int) := by
      have := List.length_pos_iff.mpr ne
      omega
    repeat k_offL
    refine Or.inl ⟨_, rfl, ?_⟩
    repeat k_offL
    refine ⟨.list (ns.map PyData.int), ns.length, rfl, .inl ⟨_, .inl rfl, (List.length_map _).symm⟩, ?_⟩
    refine dI_mk h0 ?_
    have hk := Int.emod_nonneg turn (by omega : ((ns.length : Nat) : Int) ≠ 0)
    have hk2 := Int.emod_lt_of_pos turn h0
    obtain ⟨k, ek⟩ : ∃ k : Nat, turn % ((ns.length : Nat) : Int) = (k : Int) := ⟨_, (Int.toNat_of_nonneg hk).symm⟩
    rw [ek] at hk2 ⊢
    have hk3 : k < ns.length := by omega
    refine ⟨ns.map PyData.int, (k : Int), .int ns[k], .inl rfl, rfl, at_nat (by rw [List.getElem?_map, List.getElem?_eq_getElem hk3]; rfl), ?_⟩
    repeat k_offL
    generalize ns[k] = c
  case' b =>
    repeat k_offL
    generalize (71470 : Int) * turn + 5280 = c
  all_goals
    refine ⟨.list (ns.map PyData.int), ns.length, rfl, .inl ⟨_, .inl rfl, (List.length_map _).symm⟩, ?_⟩
    repeat k_offL
    refine ⟨_, rfl, fun y => ?_, fun y => ?_⟩
    focus
      repeat k_offL
      refine ⟨_, rfl, ?_⟩
      repeat k_offL
      refine dI_mk ⟨by decide, by decide, by decide⟩ ?_
      repeat k_offL
      refine ⟨_, rfl, fun w => ?_, fun w => ?_⟩
      focus
        repeat k_offL
        refine ⟨_, rfl, ?_⟩
        repeat k_offL
        refine dI_mk ⟨by decide, by decide, by decide⟩ ?_
        repeat k_offL
        refine dI_mk (.inl (by decide)) ?_
        repeat k_offL
        refine Or.inr ⟨_, rfl, ?_⟩
        repeat k_offL
        refine Or.inl ⟨_, rfl, ?_⟩
        repeat k_offL
        refine dI_mk (divs hm hb _) ?_
        repeat k_offL
        refine Or.inl ⟨_, rfl, ?_⟩
        repeat k_offL
        exact ⟨hm, lift_end hm q h1 (by omega) (by omega) rfl⟩
    all_goals
      repeat k_offL
      refine Or.inl ⟨_, rfl, ?_⟩
      repeat k_offL
      refine dI_mk (by decide) ?_
      repeat k_offL
      refine dI_mk (.inl (by decide)) ?_
      repeat k_offL
      refine dI_mk ⟨by decide, by decide, by omega⟩ ?_
      repeat k_offL
      refine Or.inl ⟨_, rfl, ?_⟩
      repeat k_offL
      refine dMod_mk (by decide) fun x hx0 hx1 => ?_
      repeat k_offL
      refine dI_mk (.inl (by decide)) ?_
      repeat k_offL
      refine dI_mk (.inl (by omega)) ?_
      repeat k_offL
      refine dI_mk (.inl (by decide)) ?_
      repeat k_offL
      refine dI_mk (.inl (by omega)) ?_
      repeat k_offL
      refine dI_mk ⟨by decide, by decide, draw_pow hx0 (by omega) h2 (by omega) (by decide) (by decide) (by decide) (by decide)⟩ ?_
      repeat k_offL
      refine Or.inl ⟨_, rfl, ?_⟩
      repeat k_offL
      refine dI_mk (by decide) ?_
      repeat k_offL
      refine dI_mk (wide_div (b := 8) (by decide) (by decide) (by decide) (by decide)) ?_
      repeat k_offL
      refine Or.inl ⟨_, rfl, ?_⟩
      repeat k_offL
      exact ⟨hm, lift_end hm q h1 (by omega) (by omega) rfl⟩
/-- one of some -/
def r__law_pick : List D → (D → Prop) → Prop := fun xs P => ∃ ds, (xs = [.list ds] ∨ xs = [.tuple ds]) ∧ 0 < ds.length ∧ ds.length ≤ 1000 ∧ ∀ d ∈ ds, P d
theorem ok__law_pick (T : Txt K mg ad fd) : FnG P w K mg base CX0 2 (ad 2) (fd 2) ["tub", "some"] (SpT 1 1 r__law_pick) := by
  refine fnT T.F__law_pick sc__law_pick rfl fun cdv A outer s H E hr hG => ⟨_, (pss_one (ps_ret (pe_ix ixK (pv 1) (pg_call (ok__law_grab T) (hr.mono (by decide)) hG rfl T.g__law_grab T.F__law_grab.kp (i__law_grab T.F__law_grab) pass0 (pa_cons (pv 0) (pa_cons (pe_callB lenK rfl T.b_len (by decide +kernel) (pa_cons (pv 1) pa_nil)) pa_nil))) (fun _ _ => rfl)))), fun p fu ds Pd hc hl hR => ?_⟩
  obtain ⟨es, he, h0, h1, q⟩ := hR
  obtain ⟨x, rfl, hx⟩ : ∃ x, ds = [x] ∧ (x = .list es ∨ x = .tuple es) := by
    rcases he with rfl | rfl
    · exact ⟨_, rfl, .inl rfl⟩
    · exact ⟨_, rfl, .inr rfl⟩
  repeat k_offL
  refine ⟨x, es.length, rfl, .inl ⟨es, hx, rfl⟩, ?_⟩
  repeat k_offL
  refine ⟨fu, rfl, hc, rfl, _, rfl, by omega, by omega, fun r r0 r1 => ?_⟩
  obtain ⟨k, rfl⟩ : ∃ k : Nat, r = (k : Int) := ⟨_, (Int.toNat_of_nonneg r0).symm⟩
  have hk : k < es.length := by omega
  refine ⟨es, (k : Int), es[k], hx, rfl, at_nat (List.getElem?_eq_getElem hk), ?_⟩
  exact ⟨q _ (List.getElem_mem hk), Or.inl ⟨_, rfl, Nat.le_refl _⟩⟩
/-- any value: flat, or an object -/
def r__law_value : List D → (D → Prop) → Prop := fun xs P => xs = [] ∧ ∀ d, IdD d → P d
theorem ok__law_value (T : Txt K mg ad fd) : FnG P w K mg base CX0 3 (ad 3) (fd 3) ["tub"] (SpT 0 2 r__law_value) := by
  refine fnT T.F__law_value sc__law_value rfl fun cdv A outer s H E hr hG => ⟨_, (pss_one (ps_ret (pg_call (ok__law_pick T) (hr.mono (by decide)) hG rfl T.g__law_pick T.F__law_pick.kp (i__law_pick T.F__law_pick) pass0 (pa_cons (pv 0) (pa_cons (pe_lst (pa_cons pe_non (pa_cons pe_bl (pa_cons pe_str (pa_cons pe_str (pa_cons pe_int (pa_cons (pe_un un_neg pe_int) (pa_cons (pe_op op_pow pe_int pe_int) (pa_cons (pe_lst (pa_cons pe_int (pa_cons (pe_lst (pa_cons pe_int pa_nil)) pa_nil))) (pa_cons (pe_tup (pa_cons pe_int (pa_cons (pe_tup (pa_cons pe_int pa_nil)) pa_nil))) (pa_cons (pe_disp (pps_cons pe_str (pe_lst (pa_cons pe_int pa_nil)) pps_nil) rfl rfl (by intro z; cases z) (by decide)) (pa_cons pe_str (pa_cons (pg_call (ok__law_grab T) (hr.mono (by decide)) hG rfl T.g__law_grab T.F__law_grab.kp (i__law_grab T.F__law_grab) pass0 (pa_cons (pv 0) (pa_cons pe_int pa_nil))) pa_nil))))))))))))) pa_nil))))), fun p fu ds Pd hc hl hR => ?_⟩
  obtain ⟨rfl, q⟩ : ds = [] ∧ _ := hR
  refine rs_ret (rd_opq ?_)
  repeat k_offL
  refine ⟨_, rfl, ?_⟩
  repeat k_offL
  refine dI_mk ⟨by decide, by decide, by decide⟩ ?_
  repeat k_offL
  refine ⟨fu, rfl, by omega, rfl, 1000, rfl, by decide, by decide, fun r r0 r1 => ?_⟩
  repeat k_offL
  refine ⟨_, rfl, by omega, rfl, _, .inl rfl, of_decide_eq_true rfl, of_decide_eq_true rfl, fun d hd => ?_⟩
  have te : TrayEnd ((DV.tray false p (fu - 1) :: dvs0 (["tub"].length - 1) []).set 0 (DV.tray false p (fu - 1 - 1))) p (fu - 2) := Or.inl ⟨_, rfl, by omega⟩
  simp only [List.mem_cons, List.not_mem_nil, or_false] at hd
  rcases hd with rfl | rfl | rfl | rfl | rfl | rfl | rfl | rfl | rfl | rfl | rfl | rfl
  · exact .inl ⟨.non, q _ .non, te⟩
  · exact .inl ⟨.bl _, q _ (.bl _), te⟩
  · exact .inl ⟨.str _, q _ (.str _), te⟩
  · exact .inl ⟨.str _, q _ (.str _), te⟩
  · exact .inl ⟨.int _, q _ (.int _), te⟩
  · exact .inl ⟨.int _, q _ (.int _), te⟩
  · exact .inl ⟨.int _, q _ (.int _), te⟩
  · exact .inr ⟨rfl, fun a => ⟨q _ (.op a), te⟩⟩
  · exact .inr ⟨rfl, fun a => ⟨q _ (.op a), te⟩⟩
  · exact .inr ⟨rfl, fun a => ⟨q _ (.op a), te⟩⟩
  · exact .inl ⟨.str _, q _ (.str _), te⟩
  · exact .inl ⟨.int _, q _ (.int _), te⟩
/-- the classes by number, with their words -/
def kindsOf : List (Nat × Str) := [(109, "code"), (108, "corner"), (101, "day"), (106, "machine"), (102, "market"), (103, "mix"), (100, "number"), (105, "promise"), (107, "seller"), (104, "word"), (110, "misfit"), (115, "line"), (114, "text"), (111, "none"), (113, "many"), (112, "twice")]
def numsOf : List Nat := kindsOf.map (·.1)
def nameOf (n : Nat) : Str := (["BadNumber", "BadDay", "BadMarket", "BadMix", "BadWord", "BadPromise", "BadMachine", "BadSeller", "BadCorner", "BadCode", "Misfit", "NoName", "Twice", "TooMany", "BadText", "BadLine"] : List Str).getD (n - 100) ""
theorem errAt (T : Txt K mg ad fd) : ∀ n ∈ numsOf, ∃ st fI fdI, ErrK K mg (nameOf n) st (ad n) (ad 99) fI fdI := by
  intro n hn
  simp only [numsOf, kindsOf, List.map_cons, List.map_nil, List.mem_cons, List.not_mem_nil, or_false] at hn
  rcases hn with rfl | rfl | rfl | rfl | rfl | rfl | rfl | rfl | rfl | rfl | rfl | rfl | rfl | rfl | rfl | rfl
  · exact ⟨_, _, _, T.E_BadCode⟩
  · exact ⟨_, _, _, T.E_BadCorner⟩
  · exact ⟨_, _, _, T.E_BadDay⟩
  · exact ⟨_, _, _, T.E_BadMachine⟩
  · exact ⟨_, _, _, T.E_BadMarket⟩
  · exact ⟨_, _, _, T.E_BadMix⟩
  · exact ⟨_, _, _, T.E_BadNumber⟩
  · exact ⟨_, _, _, T.E_BadPromise⟩
  · exact ⟨_, _, _, T.E_BadSeller⟩
  · exact ⟨_, _, _, T.E_BadWord⟩
  · exact ⟨_, _, _, T.E_Misfit⟩
  · exact ⟨_, _, _, T.E_BadLine⟩
  · exact ⟨_, _, _, T.E_BadText⟩
  · exact ⟨_, _, _, T.E_NoName⟩
  · exact ⟨_, _, _, T.E_TooMany⟩
  · exact ⟨_, _, _, T.E_Twice⟩
theorem name_inj : ∀ n ∈ numsOf, ∀ m ∈ numsOf, nameOf n = nameOf m → n = m := by decide +kernel
theorem name_ne : ∀ n ∈ numsOf, ("PriceError" : Str) ≠ nameOf n := by decide +kernel
theorem kitAt (T : Txt K mg ad fd) {n : Nat} (hn : n ∈ numsOf) : ∀ m, m ∈ numsOf → PySem.W.kitOne K (.ref (ad n)) (.ref (ad m)) = some (decide (n = m)) := fun m hm => by
  obtain ⟨_, _, _, e⟩ := errAt T n hn
  obtain ⟨_, _, _, e'⟩ := errAt T m hm
  by_cases h : n = m
  · subst h
    rw [decide_eq_true rfl]
    exact e.c.kitSelf
  · rw [decide_eq_false h]
    exact e.kit e' T.PE (fun z => h (name_inj n hn m hm z)) (name_ne m hm)
def r__law_kinds (ad : Nat → Addr) : List D → (D → Prop) → Prop := fun xs P => ∃ q ∈ kindsOf, ∃ ns ds, xs = [dEx (ad q.1) ns ds] ∧ P (.list [.str q.2])
theorem ok__law_kinds (T : Txt K mg ad fd) : FnG P w K mg base CX0 1 (ad 4) (fd 4) ["error"] (SpD 1 (r__law_kinds ad)) := by
  refine fnD T.F__law_kinds sc__law_kinds rfl fun cdv A outer s H E hr hG => ⟨_, (pss_cons (ps_set (i := 1) sc__law_kinds.nd rfl (Or.inl rfl) (pe_lst (pa_cons (pe_tup (pa_cons pe_str (pa_cons (pe_callB isE2K rfl T.b_isinstance (by decide +kernel) (pa_cons (pv 0) (pa_cons (pe_glob (v := .ref (ad 109)) rfl T.E_BadCode.g rfl) pa_nil))) pa_nil))) (pa_cons (pe_tup (pa_cons pe_str (pa_cons (pe_callB isE2K rfl T.b_isinstance (by decide +kernel) (pa_cons (pv 0) (pa_cons (pe_glob (v := .ref (ad 108)) rfl T.E_BadCorner.g rfl) pa_nil))) pa_nil))) (pa_cons (pe_tup (pa_cons pe_str (pa_cons (pe_callB isE2K rfl T.b_isinstance (by decide +kernel) (pa_cons (pv 0) (pa_cons (pe_glob (v := .ref (ad 101)) rfl T.E_BadDay.g rfl) pa_nil))) pa_nil))) (pa_cons (pe_tup (pa_cons pe_str (pa_cons (pe_callB isE2K rfl T.b_isinstance (by decide +kernel) (pa_cons (pv 0) (pa_cons (pe_glob (v := .ref (ad 106)) rfl T.E_BadMachine.g rfl) pa_nil))) pa_nil))) pa_nil))))))
      (pss_cons (ps_set (i := 1) sc__law_kinds.nd rfl (Or.inl rfl) (pe_op op_cat (pv 1) (pe_lst (pa_cons (pe_tup (pa_cons pe_str (pa_cons (pe_callB isE2K rfl T.b_isinstance (by decide +kernel) (pa_cons (pv 0) (pa_cons (pe_glob (v := .ref (ad 102)) rfl T.E_BadMarket.g rfl) pa_nil))) pa_nil))) (pa_cons (pe_tup (pa_cons pe_str (pa_cons (pe_callB isE2K rfl T.b_isinstance (by decide +kernel) (pa_cons (pv 0) (pa_cons (pe_glob (v := .ref (ad 103)) rfl T.E_BadMix.g rfl) pa_nil))) pa_nil))) (pa_cons (pe_tup (pa_cons pe_str (pa_cons (pe_callB isE2K rfl T.b_isinstance (by decide +kernel) (pa_cons (pv 0) (pa_cons (pe_glob (v := .ref (ad 100)) rfl T.E_BadNumber.g rfl) pa_nil))) pa_nil))) (pa_cons (pe_tup (pa_cons pe_str (pa_cons (pe_callB isE2K rfl T.b_isinstance (by decide +kernel) (pa_cons (pv 0) (pa_cons (pe_glob (v := .ref (ad 105)) rfl T.E_BadPromise.g rfl) pa_nil))) pa_nil))) pa_nil)))))))
      (pss_cons (ps_set (i := 1) sc__law_kinds.nd rfl (Or.inl rfl) (pe_op op_cat (pv 1) (pe_lst (pa_cons (pe_tup (pa_cons pe_str (pa_cons (pe_callB isE2K rfl T.b_isinstance (by decide +kernel) (pa_cons (pv 0) (pa_cons (pe_glob (v := .ref (ad 107)) rfl T.E_BadSeller.g rfl) pa_nil))) pa_nil))) (pa_cons (pe_tup (pa_cons pe_str (pa_cons (pe_callB isE2K rfl T.b_isinstance (by decide +kernel) (pa_cons (pv 0) (pa_cons (pe_glob (v := .ref (ad 104)) rfl T.E_BadWord.g rfl) pa_nil))) pa_nil))) (pa_cons (pe_tup (pa_cons pe_str (pa_cons (pe_callB isE2K rfl T.b_isinstance (by decide +kernel) (pa_cons (pv 0) (pa_cons (pe_glob (v := .ref (ad 110)) rfl T.E_Misfit.g rfl) pa_nil))) pa_nil))) (pa_cons (pe_tup (pa_cons pe_str (pa_cons (pe_callB isE2K rfl T.b_isinstance (by decide +kernel) (pa_cons (pv 0) (pa_cons (pe_glob (v := .ref (ad 115)) rfl T.E_BadLine.g rfl) pa_nil))) pa_nil))) pa_nil)))))))
      (pss_cons (ps_set (i := 1) sc__law_kinds.nd rfl (Or.inl rfl) (pe_op op_cat (pv 1) (pe_lst (pa_cons (pe_tup (pa_cons pe_str (pa_cons (pe_callB isE2K rfl T.b_isinstance (by decide +kernel) (pa_cons (pv 0) (pa_cons (pe_glob (v := .ref (ad 114)) rfl T.E_BadText.g rfl) pa_nil))) pa_nil))) (pa_cons (pe_tup (pa_cons pe_str (pa_cons (pe_callB isE2K rfl T.b_isinstance (by decide +kernel) (pa_cons (pv 0) (pa_cons (pe_glob (v := .ref (ad 111)) rfl T.E_NoName.g rfl) pa_nil))) pa_nil))) (pa_cons (pe_tup (pa_cons pe_str (pa_cons (pe_callB isE2K rfl T.b_isinstance (by decide +kernel) (pa_cons (pv 0) (pa_cons (pe_glob (v := .ref (ad 113)) rfl T.E_TooMany.g rfl) pa_nil))) pa_nil))) (pa_cons (pe_tup (pa_cons pe_str (pa_cons (pe_callB isE2K rfl T.b_isinstance (by decide +kernel) (pa_cons (pv 0) (pa_cons (pe_glob (v := .ref (ad 112)) rfl T.E_Twice.g rfl) pa_nil))) pa_nil))) pa_nil)))))))
      (pss_one (ps_ret (pe_lc (own := [("word", 2), ("is_so", 3)]) rfl sc__law_kinds.nd (piK (pv 1)) (blkOk_by (N := ["error", "kinds", "word", "is_so"]) (sc := defScope s__law_kinds) (by decide +kernel)) (fun _ _ _ _ _ => (gtK (n := 2) rfl (pgs_cons (pg_name (i := 2) sc__law_kinds.nd rfl (Or.inl rfl)) (pgs_cons (pg_name (i := 3) sc__law_kinds.nd rfl (Or.inl rfl)) pgs_nil)))) (fun _ _ _ _ _ => (pts_one (truK (pv 3)))) (fun _ _ _ _ _ => (pv 2))))))))), fun ds Pd hl hR => ?_⟩
  obtain ⟨w, hw, ns, es, rfl, q⟩ := hR
  have hn : w.1 ∈ numsOf := List.mem_map.mpr ⟨w, hw, rfl⟩
  obtain ⟨_, _, _, e⟩ := errAt T w.1 hn
  have hE := e.exc T.B
  have hk := kitAt T hn
  repeat first
    | ((with_reducible show Rd (tCB (rIsE2 _) _) _ _); refine rd_isX (K := K) (ClsV.own _) (rd_var rfl ⟨_, _, _, _, rfl, hE, hk _ (by decide), ?_⟩))
    | ((with_reducible show dCat _ _ _); refine ⟨_, _, rfl, rfl, of_decide_eq_true rfl, ?_⟩)
    | k_offL
  refine rd_lcpair (kindsOf.map fun p => (.str p.2, .bool (decide (w.1 = p.1)))) (fun _ b => truD b) (fun a _ => a) (ri_seq ?_)
  repeat k_offL
  refine ⟨_, .inl rfl, rfl, of_decide_eq_true rfl, ⟨_, rfl, rfl⟩, ⟨_, rfl, rfl⟩, fun p hp => ?_, fun p hp _ => ?_, ?_⟩
  · obtain ⟨v, _, rfl⟩ := List.mem_map.mp hp
    repeat k_offL
    exact ⟨trivial, rfl, rfl⟩
  · repeat k_offL
    exact ⟨rfl, rfl⟩
  · show Pd _
    have e1 : ((kindsOf.map fun p => ((PyData.str p.2, PyData.bool (decide (w.1 = p.1))) : D × D)).filter fun p => truD p.2).map (fun p => p.1) = [PyData.str w.2] := by
      clear q hE hk e hn hl
      simp only [kindsOf, List.mem_cons, List.not_mem_nil, or_false] at hw
      rcases hw with rfl | rfl | rfl | rfl | rfl | rfl | rfl | rfl | rfl | rfl | rfl | rfl | rfl | rfl | rfl | rfl <;> rfl
    exact e1 ▸ q
theorem shOf : ∀ q ∈ kindsOf, SeqAt.shaped (.list [.str q.2]) = true := by decide +kernel
def r__law_stands (ad : Nat → Addr) : List D → (D → Prop) → Prop := fun xs P => ∃ q ∈ kindsOf, ∃ ns ds, xs = [dEx (ad q.1) ns ds, .str q.2] ∧ P (.bool true)
theorem ok__law_stands (T : Txt K mg ad fd) : FnG P w K mg base CX0 2 (ad 5) (fd 5) ["error", "word"] (SpD 2 (r__law_stands ad)) := by
  refine fnD T.F__law_stands sc__law_stands rfl fun cdv A outer s H E hr hG => ⟨_, (pss_one (ps_ret (andK (pe_cmpR (eqK hr) (pg_call (ok__law_kinds T) (hr.mono (by decide)) hG rfl T.g__law_kinds T.F__law_kinds.kp (i__law_kinds T.F__law_kinds) pass0 (pa_cons (pv 0) pa_nil)) (pe_lst (pa_cons (pv 1) pa_nil)) (by rfl)) (andK (pe_callB isE2K rfl T.b_isinstance (by decide +kernel) (pa_cons (pv 0) (pa_cons (pe_glob (v := .ref (ad 99)) rfl T.g_PriceError rfl) pa_nil))) (pe_one (pe_callB isE2K rfl T.b_isinstance (by decide +kernel) (pa_cons (pv 0) (pa_cons (pe_bltn (v := .ty "ValueError") rfl T.b_ValueError (by decide +kernel) rfl) pa_nil)))))))), fun ds Pd hl hR => ?_⟩
  obtain ⟨w, hw, ns, es, rfl, q⟩ := hR
  have hn : w.1 ∈ numsOf := List.mem_map.mpr ⟨w, hw, rfl⟩
  obtain ⟨_, _, _, e⟩ := errAt T w.1 hn
  have hE := e.exc T.B
  repeat k_offL
  refine ⟨w, hw, ns, es, rfl, ?_⟩
  repeat k_offL
  have sh := shOf w hw
  refine ⟨sh, sh, trivial, fun _ => ?_, fun z => ?_⟩
  · refine rd_andT ?_
    refine rd_isX (K := K) (ClsV.own _) (rd_var rfl ⟨_, _, _, _, rfl, hE, e.kitP T.PE, trivial, fun _ => ?_, fun z => nomatch z⟩)
    refine rd_isX (K := K) (ClsV.ty _) (rd_var rfl ⟨_, _, _, _, rfl, hE, e.kitV, ?_⟩)
    exact q
  · have e1 : PyData.eqv (.list [.str w.2]) (.list [.str w.2]) = true := by simp [PyData.eqv, PyData.eqvAll]
    have z' : PyData.eqv (.list [.str w.2]) (.list [.str w.2]) = false := z
    rw [e1] at z'
    cases z'
def pW : List (Nat × Str) := [(109, "code"), (108, "corner"), (101, "day"), (106, "machine"), (102, "market"), (103, "mix"), (100, "number"), (105, "promise"), (107, "seller"), (104, "word"), (110, "misfit")]
theorem xfP (T : Txt K mg ad fd) : ∀ q ∈ pW, XfC K (ad q.1) ∧ PySem.W.findIn K (.ref (ad q.1)) "part" = some none := by
  intro q hq
  simp only [pW, List.mem_cons, List.not_mem_nil, or_false] at hq
  rcases hq with rfl | rfl | rfl | rfl | rfl | rfl | rfl | rfl | rfl | rfl | rfl
  · exact ⟨T.E_BadCode.xf, T.n_BadCode_part⟩
  · exact ⟨T.E_BadCorner.xf, T.n_BadCorner_part⟩
  · exact ⟨T.E_BadDay.xf, T.n_BadDay_part⟩
  · exact ⟨T.E_BadMachine.xf, T.n_BadMachine_part⟩
  · exact ⟨T.E_BadMarket.xf, T.n_BadMarket_part⟩
  · exact ⟨T.E_BadMix.xf, T.n_BadMix_part⟩
  · exact ⟨T.E_BadNumber.xf, T.n_BadNumber_part⟩
  · exact ⟨T.E_BadPromise.xf, T.n_BadPromise_part⟩
  · exact ⟨T.E_BadSeller.xf, T.n_BadSeller_part⟩
  · exact ⟨T.E_BadWord.xf, T.n_BadWord_part⟩
  · exact ⟨T.E_Misfit.xf, T.n_Misfit_part⟩
def spLaw (K : PySem.W.Frag) : Sp := fun vs H Q _ => ∃ (a : Addr) (ns : List Int), vs = [.ref a] ∧ SqL K H a (ns.map V.int) ∧ ns.length ≤ 63 ∧ ∀ H', Q (.bl true) H'
theorem ok_law (T : Txt K mg ad fd) : FnG P w K mg base CX0 4 (ad 6) (fd 6) ["script"] (spLaw K) := by
  refine fnG_body0 T.F_law sc_law (fun vs H Q E h => ?_) fun cdv A outer s H vs Q E hr hG h => ?_
  · obtain ⟨a, ns, rfl, _⟩ := h
    rfl
  obtain ⟨a, ns, rfl, hS, hlen, q⟩ := h
  refine ⟨_, (pss_cons (ps_set (i := 1) sc_law.nd rfl (Or.inl rfl) (pg_call (ok__law_tub T) (hr.mono (by decide)) hG rfl T.g__law_tub T.F__law_tub.kp (i__law_tub T.F__law_tub) pass0 (pa_cons (pv 0) pa_nil)))
      (pss_cons (ps_for PassesOwn.never rfl (pi_range1 rfl T.b_range (pa_cons pe_int pa_nil)) (pg_name (i := 2) sc_law.nd rfl (Or.inl rfl)) (pss_cons (ps_par (i := 3) (j := 4) rfl sc_law.nd rfl rfl (by decide) rfl rfl (pa_cons (pg_call (ok__law_value T) (hr.mono (by decide)) hG rfl T.g__law_value T.F__law_value.kp (i__law_value T.F__law_value) pass0 (pa_cons (pv 1) pa_nil)) (pa_cons (pg_call (ok__law_value T) (hr.mono (by decide)) hG rfl T.g__law_value T.F__law_value.kp (i__law_value T.F__law_value) pass0 (pa_cons (pv 1) pa_nil)) pa_nil)) (by rfl))
      (pss_cons (ps_set (i := 5) sc_law.nd rfl (Or.inl rfl) (pe_lst (pa_cons (pe_tup (pa_cons (pe_mkX (n := 1) (ix := [0]) T.E_BadCode.oex T.E_BadCode.iC T.E_BadCode.tI (io_BadCode T) (hr.mono (by decide)) rfl pass0 (i_BadCode T.E_BadCode.F) (by decide) rfl T.E_BadCode.g (pa_cons (pv 3) pa_nil)) (pa_cons pe_str pa_nil))) (pa_cons (pe_tup (pa_cons (pe_mkX (n := 1) (ix := [0]) T.E_BadCorner.oex T.E_BadCorner.iC T.E_BadCorner.tI (io_BadCorner T) (hr.mono (by decide)) rfl pass0 (i_BadCorner T.E_BadCorner.F) (by decide) rfl T.E_BadCorner.g (pa_cons (pv 3) pa_nil)) (pa_cons pe_str pa_nil))) (pa_cons (pe_tup (pa_cons (pe_mkX (n := 1) (ix := [0]) T.E_BadDay.oex T.E_BadDay.iC T.E_BadDay.tI (io_BadDay T) (hr.mono (by decide)) rfl pass0 (i_BadDay T.E_BadDay.F) (by decide) rfl T.E_BadDay.g (pa_cons (pv 3) pa_nil)) (pa_cons pe_str pa_nil))) (pa_cons (pe_tup (pa_cons (pe_mkX (n := 1) (ix := [0]) T.E_BadMachine.oex T.E_BadMachine.iC T.E_BadMachine.tI (io_BadMachine T) (hr.mono (by decide)) rfl pass0 (i_BadMachine T.E_BadMachine.F) (by decide) rfl T.E_BadMachine.g (pa_cons (pv 3) pa_nil)) (pa_cons pe_str pa_nil))) (pa_cons (pe_tup (pa_cons (pe_mkX (n := 1) (ix := [0]) T.E_BadMarket.oex T.E_BadMarket.iC T.E_BadMarket.tI (io_BadMarket T) (hr.mono (by decide)) rfl pass0 (i_BadMarket T.E_BadMarket.F) (by decide) rfl T.E_BadMarket.g (pa_cons (pv 3) pa_nil)) (pa_cons pe_str pa_nil))) (pa_cons (pe_tup (pa_cons (pe_mkX (n := 1) (ix := [0]) T.E_BadMix.oex T.E_BadMix.iC T.E_BadMix.tI (io_BadMix T) (hr.mono (by decide)) rfl pass0 (i_BadMix T.E_BadMix.F) (by decide) rfl T.E_BadMix.g (pa_cons (pv 3) pa_nil)) (pa_cons pe_str pa_nil))) pa_nil))))))))
      (pss_cons (ps_set (i := 5) sc_law.nd rfl (Or.inl rfl) (pe_op op_cat (pv 5) (pe_lst (pa_cons (pe_tup (pa_cons (pe_mkX (n := 1) (ix := [0]) T.E_BadNumber.oex T.E_BadNumber.iC T.E_BadNumber.tI (io_BadNumber T) (hr.mono (by decide)) rfl pass0 (i_BadNumber T.E_BadNumber.F) (by decide) rfl T.E_BadNumber.g (pa_cons (pv 3) pa_nil)) (pa_cons pe_str pa_nil))) (pa_cons (pe_tup (pa_cons (pe_mkX (n := 1) (ix := [0]) T.E_BadPromise.oex T.E_BadPromise.iC T.E_BadPromise.tI (io_BadPromise T) (hr.mono (by decide)) rfl pass0 (i_BadPromise T.E_BadPromise.F) (by decide) rfl T.E_BadPromise.g (pa_cons (pv 3) pa_nil)) (pa_cons pe_str pa_nil))) (pa_cons (pe_tup (pa_cons (pe_mkX (n := 1) (ix := [0]) T.E_BadSeller.oex T.E_BadSeller.iC T.E_BadSeller.tI (io_BadSeller T) (hr.mono (by decide)) rfl pass0 (i_BadSeller T.E_BadSeller.F) (by decide) rfl T.E_BadSeller.g (pa_cons (pv 3) pa_nil)) (pa_cons pe_str pa_nil))) (pa_cons (pe_tup (pa_cons (pe_mkX (n := 1) (ix := [0]) T.E_BadWord.oex T.E_BadWord.iC T.E_BadWord.tI (io_BadWord T) (hr.mono (by decide)) rfl pass0 (i_BadWord T.E_BadWord.F) (by decide) rfl T.E_BadWord.g (pa_cons (pv 3) pa_nil)) (pa_cons pe_str pa_nil))) (pa_cons (pe_tup (pa_cons (pe_mkX (n := 1) (ix := [0]) T.E_Misfit.oex T.E_Misfit.iC T.E_Misfit.tI (io_Misfit T) (hr.mono (by decide)) rfl pass0 (i_Misfit T.E_Misfit.F) (by decide) rfl T.E_Misfit.g (pa_cons (pv 3) pa_nil)) (pa_cons pe_str pa_nil))) pa_nil))))))))
      (pss_cons (ps_set (i := 6) sc_law.nd rfl (Or.inl rfl) (pe_lst (pa_cons (pe_mkXK (ix := [0]) T.E_BadCode.oex T.E_BadCode.iC T.E_BadCode.tI (io_BadCode T) (hr.mono (by decide)) rfl pass0 (i_BadCode_part T.E_BadCode.F) rfl T.E_BadCode.g (pk_cons (pv 4) pk_nil)) (pa_cons (pe_mkXK (ix := [0]) T.E_BadCorner.oex T.E_BadCorner.iC T.E_BadCorner.tI (io_BadCorner T) (hr.mono (by decide)) rfl pass0 (i_BadCorner_part T.E_BadCorner.F) rfl T.E_BadCorner.g (pk_cons (pv 4) pk_nil)) (pa_cons (pe_mkXK (ix := [0]) T.E_BadDay.oex T.E_BadDay.iC T.E_BadDay.tI (io_BadDay T) (hr.mono (by decide)) rfl pass0 (i_BadDay_part T.E_BadDay.F) rfl T.E_BadDay.g (pk_cons (pv 4) pk_nil)) (pa_cons (pe_mkXK (ix := [0]) T.E_BadMachine.oex T.E_BadMachine.iC T.E_BadMachine.tI (io_BadMachine T) (hr.mono (by decide)) rfl pass0 (i_BadMachine_part T.E_BadMachine.F) rfl T.E_BadMachine.g (pk_cons (pv 4) pk_nil)) (pa_cons (pe_mkXK (ix := [0]) T.E_BadMarket.oex T.E_BadMarket.iC T.E_BadMarket.tI (io_BadMarket T) (hr.mono (by decide)) rfl pass0 (i_BadMarket_part T.E_BadMarket.F) rfl T.E_BadMarket.g (pk_cons (pv 4) pk_nil)) (pa_cons (pe_mkXK (ix := [0]) T.E_BadMix.oex T.E_BadMix.iC T.E_BadMix.tI (io_BadMix T) (hr.mono (by decide)) rfl pass0 (i_BadMix_part T.E_BadMix.F) rfl T.E_BadMix.g (pk_cons (pv 4) pk_nil)) pa_nil))))))))
      (pss_cons (ps_set (i := 6) sc_law.nd rfl (Or.inl rfl) (pe_op op_cat (pv 6) (pe_lst (pa_cons (pe_mkXK (ix := [0]) T.E_BadNumber.oex T.E_BadNumber.iC T.E_BadNumber.tI (io_BadNumber T) (hr.mono (by decide)) rfl pass0 (i_BadNumber_part T.E_BadNumber.F) rfl T.E_BadNumber.g (pk_cons (pv 4) pk_nil)) (pa_cons (pe_mkXK (ix := [0]) T.E_BadPromise.oex T.E_BadPromise.iC T.E_BadPromise.tI (io_BadPromise T) (hr.mono (by decide)) rfl pass0 (i_BadPromise_part T.E_BadPromise.F) rfl T.E_BadPromise.g (pk_cons (pv 4) pk_nil)) (pa_cons (pe_mkXK (ix := [0]) T.E_BadSeller.oex T.E_BadSeller.iC T.E_BadSeller.tI (io_BadSeller T) (hr.mono (by decide)) rfl pass0 (i_BadSeller_part T.E_BadSeller.F) rfl T.E_BadSeller.g (pk_cons (pv 4) pk_nil)) (pa_cons (pe_mkXK (ix := [0]) T.E_BadWord.oex T.E_BadWord.iC T.E_BadWord.tI (io_BadWord T) (hr.mono (by decide)) rfl pass0 (i_BadWord_part T.E_BadWord.F) rfl T.E_BadWord.g (pk_cons (pv 4) pk_nil)) (pa_cons (pe_mkXK (ix := [0]) T.E_Misfit.oex T.E_Misfit.iC T.E_Misfit.tI (io_Misfit T) (hr.mono (by decide)) rfl pass0 (i_Misfit_part T.E_Misfit.F) rfl T.E_Misfit.g (pk_cons (pv 4) pk_nil)) pa_nil))))))))
      (pss_cons (ps_if (PW.pt (pw_or (pt_cmpR (op_neS hr) (pe_lc (own := [("error", 7), ("word", 8)]) rfl sc_law.nd (piK (pv 5)) (blkOk_by (N := ["script", "tub", "turn", "one", "other", "made", "named", "error", "word"]) (sc := defScope s_law) (by decide +kernel)) (fun _ _ _ _ _ => (gtK (n := 2) rfl (pgs_cons (pg_name (i := 7) sc_law.nd rfl (Or.inl rfl)) (pgs_cons (pg_name (i := 8) sc_law.nd rfl (Or.inl rfl)) pgs_nil)))) (fun _ _ _ _ _ => pts_nil) (fun _ _ _ _ _ => (xfK (pv 7)))) (pe_op op_rep (pe_lst (pa_cons (pv 3) pa_nil)) pe_int) (by rfl)) (pw_or1 (pt_cmpR (op_neS hr) (pe_lc (own := [("error", 7)]) rfl sc_law.nd (piK (pv 6)) (blkOk_by (N := ["script", "tub", "turn", "one", "other", "made", "named", "error", "word"]) (sc := defScope s_law) (by decide +kernel)) (fun _ _ _ _ _ => (pg_name (i := 7) sc_law.nd rfl (Or.inl rfl))) (fun _ _ _ _ _ => pts_nil) (fun _ _ _ _ _ => (xfK (pv 7)))) (pe_op op_rep (pe_lst (pa_cons (pv 4) pa_nil)) pe_int) (by rfl))))) (pss_one (ps_ret pe_bl)) pss_nil)
      (pss_cons (ps_if (pt_cmpR (op_neS hr) (pe_lst (pa_cons (xfK (pe_mkX (n := 1) (ix := [0]) T.E_NoName.oex T.E_NoName.iC T.E_NoName.tI (io_NoName T) (hr.mono (by decide)) rfl pass0 (i_NoName T.E_NoName.F) (by decide) rfl T.E_NoName.g (pa_cons (pv 3) pa_nil))) (pa_cons (xfK (pe_mkXK (ix := [0]) T.E_NoName.oex T.E_NoName.iC T.E_NoName.tI (io_NoName T) (hr.mono (by decide)) rfl pass0 (i_NoName_value T.E_NoName.F) rfl T.E_NoName.g (pk_cons (pv 4) pk_nil))) (pa_cons (xfK (pe_mkX (n := 1) (ix := [0]) T.E_Twice.oex T.E_Twice.iC T.E_Twice.tI (io_Twice T) (hr.mono (by decide)) rfl pass0 (i_Twice T.E_Twice.F) (by decide) rfl T.E_Twice.g (pa_cons (pv 3) pa_nil))) (pa_cons (xfK (pe_mkXK (ix := [0]) T.E_Twice.oex T.E_Twice.iC T.E_Twice.tI (io_Twice T) (hr.mono (by decide)) rfl pass0 (i_Twice_value T.E_Twice.F) rfl T.E_Twice.g (pk_cons (pv 4) pk_nil))) pa_nil))))) (pe_lst (pa_cons (pv 3) (pa_cons (pv 4) (pa_cons (pv 3) (pa_cons (pv 4) pa_nil))))) (by rfl)) (pss_one (ps_ret pe_bl)) pss_nil)
      (pss_cons (ps_if (pt_cmpR (op_neS hr) (pe_lst (pa_cons (xfK (pe_mkX (n := 2) (ix := [0, 1]) T.E_TooMany.oex T.E_TooMany.iC T.E_TooMany.tI (io_TooMany T) (hr.mono (by decide)) rfl pass0 (i_TooMany T.E_TooMany.F) (by decide) rfl T.E_TooMany.g (pa_cons (pv 3) (pa_cons (pv 4) pa_nil)))) (pa_cons (xfK (pe_mkX (n := 2) (ix := [0, 1]) T.E_TooMany.oex T.E_TooMany.iC T.E_TooMany.tI (io_TooMany T) (hr.mono (by decide)) rfl pass0 (i_TooMany T.E_TooMany.F) (by decide) rfl T.E_TooMany.g (pa_cons (pv 3) (pa_cons (pv 4) pa_nil)))) (pa_cons (xfK (pe_mkXK (ix := [1, 0]) T.E_TooMany.oex T.E_TooMany.iC T.E_TooMany.tI (io_TooMany T) (hr.mono (by decide)) rfl pass0 (i_TooMany_most_what T.E_TooMany.F) rfl T.E_TooMany.g (pk_cons (pv 3) (pk_cons (pv 4) pk_nil)))) pa_nil)))) (pe_lst (pa_cons (pv 3) (pa_cons (pv 4) (pa_cons (pv 4) pa_nil)))) (by rfl)) (pss_one (ps_ret pe_bl)) pss_nil)
      (pss_cons (ps_if (pt_cmpR (op_neS hr) (pe_lst (pa_cons (xfK (pe_mkX (n := 1) (ix := [0]) T.E_BadText.oex T.E_BadText.iC T.E_BadText.tI (io_BadText T) (hr.mono (by decide)) rfl pass0 (i_BadText T.E_BadText.F) (by decide) rfl T.E_BadText.g (pa_cons (pv 3) pa_nil))) (pa_cons (xfK (pe_mkXK (ix := [0]) T.E_BadText.oex T.E_BadText.iC T.E_BadText.tI (io_BadText T) (hr.mono (by decide)) rfl pass0 (i_BadText_item T.E_BadText.F) rfl T.E_BadText.g (pk_cons (pv 4) pk_nil))) (pa_cons (xfK (pe_mkX (n := 2) (ix := [0, 1]) T.E_BadLine.oex T.E_BadLine.iC T.E_BadLine.tI (io_BadLine T) (hr.mono (by decide)) rfl pass0 (i_BadLine T.E_BadLine.F) (by decide) rfl T.E_BadLine.g (pa_cons (pv 3) (pa_cons (pv 4) pa_nil)))) (pa_cons (xfK (pe_mkXK (ix := [1, 0]) T.E_BadLine.oex T.E_BadLine.iC T.E_BadLine.tI (io_BadLine T) (hr.mono (by decide)) rfl pass0 (i_BadLine_error_line T.E_BadLine.F) rfl T.E_BadLine.g (pk_cons (pv 3) (pk_cons (pv 4) pk_nil)))) pa_nil))))) (pe_lst (pa_cons (pv 3) (pa_cons (pv 4) (pa_cons (pv 3) (pa_cons (pv 3) pa_nil))))) (by rfl)) (pss_one (ps_ret pe_bl)) pss_nil)
      (pss_cons (ps_set (i := 5) sc_law.nd rfl (Or.inl rfl) (pe_op op_cat (pv 5) (pe_lst (pa_cons (pe_tup (pa_cons (pe_mkX (n := 1) (ix := [0]) T.E_NoName.oex T.E_NoName.iC T.E_NoName.tI (io_NoName T) (hr.mono (by decide)) rfl pass0 (i_NoName T.E_NoName.F) (by decide) rfl T.E_NoName.g (pa_cons (pv 3) pa_nil)) (pa_cons pe_str pa_nil))) (pa_cons (pe_tup (pa_cons (pe_mkX (n := 1) (ix := [0]) T.E_Twice.oex T.E_Twice.iC T.E_Twice.tI (io_Twice T) (hr.mono (by decide)) rfl pass0 (i_Twice T.E_Twice.F) (by decide) rfl T.E_Twice.g (pa_cons (pv 3) pa_nil)) (pa_cons pe_str pa_nil))) (pa_cons (pe_tup (pa_cons (pe_mkX (n := 2) (ix := [0, 1]) T.E_TooMany.oex T.E_TooMany.iC T.E_TooMany.tI (io_TooMany T) (hr.mono (by decide)) rfl pass0 (i_TooMany T.E_TooMany.F) (by decide) rfl T.E_TooMany.g (pa_cons (pv 3) (pa_cons (pv 4) pa_nil))) (pa_cons pe_str pa_nil))) (pa_cons (pe_tup (pa_cons (pe_mkX (n := 1) (ix := [0]) T.E_BadText.oex T.E_BadText.iC T.E_BadText.tI (io_BadText T) (hr.mono (by decide)) rfl pass0 (i_BadText T.E_BadText.F) (by decide) rfl T.E_BadText.g (pa_cons (pv 3) pa_nil)) (pa_cons pe_str pa_nil))) (pa_cons (pe_tup (pa_cons (pe_mkX (n := 2) (ix := [0, 1]) T.E_BadLine.oex T.E_BadLine.iC T.E_BadLine.tI (io_BadLine T) (hr.mono (by decide)) rfl pass0 (i_BadLine T.E_BadLine.F) (by decide) rfl T.E_BadLine.g (pa_cons (pv 3) (pa_cons (pv 4) pa_nil))) (pa_cons pe_str pa_nil))) pa_nil))))))))
      (pss_one (ps_for PassesOwn.never rfl (piK (pv 5)) (gtK (n := 2) rfl (pgs_cons (pg_name (i := 7) sc_law.nd rfl (Or.inl rfl)) (pgs_cons (pg_name (i := 8) sc_law.nd rfl (Or.inl rfl)) pgs_nil))) (pss_one (ps_if (pt_not (truK (pg_call (ok__law_stands T) (hr.mono (by decide)) hG rfl T.g__law_stands T.F__law_stands.kp (i__law_stands T.F__law_stands) pass0 (pa_cons (pv 7) (pa_cons (pv 8) pa_nil))))) (pss_one (ps_ret pe_bl)) pss_nil)))))))))))))))
      (pss_one (ps_ret pe_bl)))), ?_⟩
  refine law_start (by decide) hS hlen q fun t => ?_
  refine rs_seq ?_
  refine rs_for gd_name (ri_rng1 ?_)
  repeat k_offL
  refine ⟨4, rfl, by decide, by decide, fun j δ => ∃ (f : Nat) (x2 x3 x4 x5 x6 x7 x8 : DV), δ = [.un, .tray true t f, x2, x3, x4, x5, x6, x7, x8] ∧ ownOf x7 = none ∧ ownOf x8 = none ∧ 1000000 ≤ f + 50 * j ∧ j ≤ 4, ?_, ?_, ?_⟩
  · exact ⟨1000000, .un, .un, .un, .un, .un, .un, .un, rfl, rfl, rfl, by omega, by decide⟩
  · rintro j d δ hd ⟨f, x2, x3, x4, x5, x6, x7, x8, rfl, o7, o8, hf, hj⟩
    have hj4 : j < 4 := by
      have := (List.getElem?_eq_some_iff.mp hd).1
      rw [rngD_len] at this
      exact this
    refine ⟨of_decide_eq_true rfl, ?_⟩
    repeat k_offL
    refine ⟨f, rfl, by omega, rfl, rfl, fun one h1 => ?_⟩
    repeat k_offL
    refine ⟨_, rfl, by omega, rfl, rfl, fun other h2 => ?_⟩
    repeat k_offL
    refine ⟨_, _, rfl, of_decide_eq_true rfl, of_decide_eq_true rfl, ?_⟩
    show Rs _ [.un, .tray true t (f - 2 - 2), .dat d, .dat one, .dat other, x5, x6, x7, x8] _
    repeat first
      | ((with_reducible show Rd (tMk _ _ _ _ _ _ _ _) _ _); refine rd_mk ?_)
      | ((with_reducible show List.length _ = _ ∧ List.length _ = _ ∧ List.length _ = _ ∧ _); refine ⟨rfl, rfl, rfl, ?_⟩)
      | ((with_reducible show dCat _ _ _); refine ⟨_, _, rfl, rfl, of_decide_eq_true rfl, ?_⟩)
      | k_offL
    refine rd_lcpair (pW.map fun q => (dEx (ad q.1) ["part"] [one], .str q.2)) (fun _ _ => true) (fun _ _ => one) (ri_seq ?_)
    repeat k_offL
    refine ⟨_, .inl rfl, rfl, of_decide_eq_true rfl, ⟨_, rfl, o7⟩, ⟨_, rfl, o8⟩, fun p hp => rt_yes ⟨rfl, rfl⟩, fun p hp _ => ?_, ?_⟩
    · obtain ⟨v, hv, rfl⟩ := List.mem_map.mp hp
      refine rd_xf (K := K) (rd_var rfl ⟨_, _, _, _, rfl, (xfP T v hv).1, (xfP T v hv).2, rfl, ?_⟩)
      exact ⟨rfl, rfl⟩
    repeat first
      | ((with_reducible show Rd (tOp rRep _ _) _ _); refine rd_op od_rep ?_)
      | k_offL
    refine ⟨_, _, rfl, rfl, by decide, by decide, of_decide_eq_true rfl, ?_⟩
    refine ⟨List.replicate 11 one, rfl, rfl, fun z hz => by rw [List.eq_of_mem_replicate hz]; exact h1, ?_⟩
    refine ⟨false, rfl, (fun h => Bool.noConfusion h), fun _ => ?_⟩
    repeat k_offL
    refine rd_lcmap (fun _ => other) (ri_seq ?_)
    repeat k_offL
    refine ⟨pW.map fun q => dEx (ad q.1) ["part"] [other], .inl rfl, of_decide_eq_true rfl, ⟨_, rfl, o7⟩, fun p hp => ?_, ?_⟩
    · obtain ⟨v, hv, rfl⟩ := List.mem_map.mp hp
      refine rd_xf (K := K) (rd_var rfl ⟨_, _, _, _, rfl, (xfP T v hv).1, (xfP T v hv).2, rfl, ?_⟩)
      exact ⟨rfl, rfl⟩
    repeat first
      | ((with_reducible show Rd (tOp rRep _ _) _ _); refine rd_op od_rep ?_)
      | k_offL
    refine ⟨_, _, rfl, rfl, by decide, by decide, of_decide_eq_true rfl, ?_⟩
    refine ⟨List.replicate 11 other, rfl, rfl, fun z hz => by rw [List.eq_of_mem_replicate hz]; exact h2, ?_⟩
    refine ⟨false, rfl, (fun h => Bool.noConfusion h), fun _ => ?_⟩
    repeat first
      | ((with_reducible show Rd (tMk _ _ _ _ _ _ _ _) _ _); refine rd_mk ?_)
      | ((with_reducible show Rd (tXfT _ _ _) _ _); refine rd_xf (K := K) ?_)
      | ((with_reducible show List.length _ = _ ∧ List.length _ = _ ∧ List.length _ = _ ∧ _); refine ⟨rfl, rfl, rfl, ?_⟩)
      | ((with_reducible show ∃ _ _ _ _, dEx _ _ _ = _ ∧ _); first
          | refine ⟨_, _, _, _, rfl, T.E_NoName.xf, T.n_NoName_value, rfl, ?_⟩
          | refine ⟨_, _, _, _, rfl, T.E_Twice.xf, T.n_Twice_value, rfl, ?_⟩
          | refine ⟨_, _, _, _, rfl, T.E_TooMany.xf, T.n_TooMany_what, rfl, ?_⟩
          | refine ⟨_, _, _, _, rfl, T.E_TooMany.xf, T.n_TooMany_most, rfl, ?_⟩
          | refine ⟨_, _, _, _, rfl, T.E_BadText.xf, T.n_BadText_item, rfl, ?_⟩
          | refine ⟨_, _, _, _, rfl, T.E_BadLine.xf, T.n_BadLine_line, rfl, ?_⟩
          | refine ⟨_, _, _, _, rfl, T.E_BadLine.xf, T.n_BadLine_error, rfl, ?_⟩)
      | k_offL
    refine ⟨[one, other, one, other], rfl, rfl, (fun z hz => by
        simp only [List.mem_cons, List.not_mem_nil, or_false] at hz
        rcases hz with rfl | rfl | rfl | rfl <;> assumption), ?_⟩
    refine ⟨false, rfl, (fun h => Bool.noConfusion h), fun _ => ?_⟩
    repeat first
      | ((with_reducible show Rd (tMk _ _ _ _ _ _ _ _) _ _); refine rd_mk ?_)
      | ((with_reducible show Rd (tXfT _ _ _) _ _); refine rd_xf (K := K) ?_)
      | ((with_reducible show List.length _ = _ ∧ List.length _ = _ ∧ List.length _ = _ ∧ _); refine ⟨rfl, rfl, rfl, ?_⟩)
      | ((with_reducible show ∃ _ _ _ _, dEx _ _ _ = _ ∧ _); first
          | refine ⟨_, _, _, _, rfl, T.E_NoName.xf, T.n_NoName_value, rfl, ?_⟩
          | refine ⟨_, _, _, _, rfl, T.E_Twice.xf, T.n_Twice_value, rfl, ?_⟩
          | refine ⟨_, _, _, _, rfl, T.E_TooMany.xf, T.n_TooMany_what, rfl, ?_⟩
          | refine ⟨_, _, _, _, rfl, T.E_TooMany.xf, T.n_TooMany_most, rfl, ?_⟩
          | refine ⟨_, _, _, _, rfl, T.E_BadText.xf, T.n_BadText_item, rfl, ?_⟩
          | refine ⟨_, _, _, _, rfl, T.E_BadLine.xf, T.n_BadLine_line, rfl, ?_⟩
          | refine ⟨_, _, _, _, rfl, T.E_BadLine.xf, T.n_BadLine_error, rfl, ?_⟩)
      | k_offL
    refine ⟨[one, other, other], rfl, rfl, (fun z hz => by
        simp only [List.mem_cons, List.not_mem_nil, or_false] at hz
        rcases hz with rfl | rfl | rfl <;> assumption), ?_⟩
    refine ⟨false, rfl, (fun h => Bool.noConfusion h), fun _ => ?_⟩
    repeat first
      | ((with_reducible show Rd (tMk _ _ _ _ _ _ _ _) _ _); refine rd_mk ?_)
      | ((with_reducible show Rd (tXfT _ _ _) _ _); refine rd_xf (K := K) ?_)
      | ((with_reducible show List.length _ = _ ∧ List.length _ = _ ∧ List.length _ = _ ∧ _); refine ⟨rfl, rfl, rfl, ?_⟩)
      | ((with_reducible show ∃ _ _ _ _, dEx _ _ _ = _ ∧ _); first
          | refine ⟨_, _, _, _, rfl, T.E_NoName.xf, T.n_NoName_value, rfl, ?_⟩
          | refine ⟨_, _, _, _, rfl, T.E_Twice.xf, T.n_Twice_value, rfl, ?_⟩
          | refine ⟨_, _, _, _, rfl, T.E_TooMany.xf, T.n_TooMany_what, rfl, ?_⟩
          | refine ⟨_, _, _, _, rfl, T.E_TooMany.xf, T.n_TooMany_most, rfl, ?_⟩
          | refine ⟨_, _, _, _, rfl, T.E_BadText.xf, T.n_BadText_item, rfl, ?_⟩
          | refine ⟨_, _, _, _, rfl, T.E_BadLine.xf, T.n_BadLine_line, rfl, ?_⟩
          | refine ⟨_, _, _, _, rfl, T.E_BadLine.xf, T.n_BadLine_error, rfl, ?_⟩)
      | k_offL
    refine ⟨[one, other, one, one], rfl, rfl, (fun z hz => by
        simp only [List.mem_cons, List.not_mem_nil, or_false] at hz
        rcases hz with rfl | rfl | rfl | rfl <;> assumption), ?_⟩
    refine ⟨false, rfl, (fun h => Bool.noConfusion h), fun _ => ?_⟩
    repeat first
      | ((with_reducible show Rd (tMk _ _ _ _ _ _ _ _) _ _); refine rd_mk ?_)
      | ((with_reducible show Rd (tXfT _ _ _) _ _); refine rd_xf (K := K) ?_)
      | ((with_reducible show List.length _ = _ ∧ List.length _ = _ ∧ List.length _ = _ ∧ _); refine ⟨rfl, rfl, rfl, ?_⟩)
      | ((with_reducible show ∃ _ _ _ _, dEx _ _ _ = _ ∧ _); first
          | refine ⟨_, _, _, _, rfl, T.E_NoName.xf, T.n_NoName_value, rfl, ?_⟩
          | refine ⟨_, _, _, _, rfl, T.E_Twice.xf, T.n_Twice_value, rfl, ?_⟩
          | refine ⟨_, _, _, _, rfl, T.E_TooMany.xf, T.n_TooMany_what, rfl, ?_⟩
          | refine ⟨_, _, _, _, rfl, T.E_TooMany.xf, T.n_TooMany_most, rfl, ?_⟩
          | refine ⟨_, _, _, _, rfl, T.E_BadText.xf, T.n_BadText_item, rfl, ?_⟩
          | refine ⟨_, _, _, _, rfl, T.E_BadLine.xf, T.n_BadLine_line, rfl, ?_⟩
          | refine ⟨_, _, _, _, rfl, T.E_BadLine.xf, T.n_BadLine_error, rfl, ?_⟩)
      | ((with_reducible show dCat _ _ _); refine ⟨_, _, rfl, rfl, of_decide_eq_true rfl, ?_⟩)
      | k_offL
    refine rs_for (gd_tup (gd_cons gd_name (gd_cons gd_name gd_nil))) (ri_seq ?_)
    repeat k_offL
    refine ⟨_, .inl rfl, fun k δ' => ∃ (f' : Nat) (y5 y6 y7 y8 : DV), δ' = [.un, .tray true t f', .dat d, .dat one, .dat other, y5, y6, y7, y8] ∧ DL.ownOf y7 = none ∧ DL.ownOf y8 = none ∧ f' = f - 2 - 2, ?_, ?_, ?_⟩
    · exact ⟨_, _, _, _, _, rfl, o7, o8, rfl⟩
    · rintro k e δ' he ⟨f', y5, y6, y7, y8, rfl, p7, p8, rfl⟩
      have hm := List.mem_of_getElem? he
      obtain ⟨v, hv, ns', es', rfl⟩ : ∃ v ∈ kindsOf, ∃ ns es, e = .tuple [dEx (ad v.1) ns es, .str v.2] := by
        simp only [List.mem_append, List.mem_cons, List.not_mem_nil, or_false, List.cons_append, List.nil_append] at hm
        rcases hm with rfl | rfl | rfl | rfl | rfl | rfl | rfl | rfl | rfl | rfl | rfl | rfl | rfl | rfl | rfl | rfl
        · exact ⟨(109, "code"), by decide, _, _, rfl⟩
        · exact ⟨(108, "corner"), by decide, _, _, rfl⟩
        · exact ⟨(101, "day"), by decide, _, _, rfl⟩
        · exact ⟨(106, "machine"), by decide, _, _, rfl⟩
        · exact ⟨(102, "market"), by decide, _, _, rfl⟩
        · exact ⟨(103, "mix"), by decide, _, _, rfl⟩
        · exact ⟨(100, "number"), by decide, _, _, rfl⟩
        · exact ⟨(105, "promise"), by decide, _, _, rfl⟩
        · exact ⟨(107, "seller"), by decide, _, _, rfl⟩
        · exact ⟨(104, "word"), by decide, _, _, rfl⟩
        · exact ⟨(110, "misfit"), by decide, _, _, rfl⟩
        · exact ⟨(111, "none"), by decide, _, _, rfl⟩
        · exact ⟨(112, "twice"), by decide, _, _, rfl⟩
        · exact ⟨(113, "many"), by decide, _, _, rfl⟩
        · exact ⟨(114, "text"), by decide, _, _, rfl⟩
        · exact ⟨(115, "line"), by decide, _, _, rfl⟩
      refine ⟨_, rfl, rfl, _, _, rfl, of_decide_eq_true rfl, _, _, rfl, of_decide_eq_true rfl, rfl, ?_⟩
      show Rs _ [.un, .tray true t _, .dat d, .dat one, .dat other, y5, y6, .dat (dEx (ad v.1) ns' es'), .dat (.str v.2)] _
      repeat k_offL
      refine ⟨v, hv, ns', es', rfl, ?_⟩
      refine ⟨trivial, fun h => ?_, fun _ => ?_⟩
      · cases h
      repeat k_offL
      exact ⟨_, _, _, _, _, rfl, rfl, rfl, rfl⟩
    · rintro δ' ⟨f', y5, y6, y7, y8, rfl, p7, p8, rfl⟩
      exact ⟨f - 2 - 2, .dat d, .dat one, .dat other, y5, y6, y7, y8, rfl, p7, p8, by omega, by omega⟩
  rintro δ ⟨f, x2, x3, x4, x5, x6, x7, x8, rfl, o7, o8, hf, hj⟩
  repeat k_offL
  exact rfl
end
theorem all_mk {P : Program} {w : World} {K : PySem.W.Frag} {h : Heap} {mg : Str → Option Value} {fa : Addr} (X : K.In h) (G : h.Ns mainGlobals mg) (hfa : mg "law" = some (.ref fa))
    {f0 f1 f2 f3 f4 f5 f6 : Addr} {od0 an0 od1 an1 od2 an2 od3 an3 od4 an4 od5 an5 od6 an6 : Option Addr} {sl0 sl1 sl2 sl3 sl4 sl5 sl6 : Array (Option Value)}
    {oc0 kV0 dc0 pm0 cd0 ct0 oc1 kV1 dc1 pm1 cd1 ct1 oc2 kV2 dc2 pm2 cd2 ct2 oc3 kV3 dc3 pm3 cd3 ct3 oc4 kV4 dc4 pm4 cd4 ct4 oc5 kV5 dc5 pm5 cd5 ct5 oc6 kV6 dc6 pm6 cd6 ct6 : Value}
    (a0 : PySem.W.nsIn K mainGlobals "_law_tub" = some (some (.ref f0))) (l0 : K.lookup f0 = some ⟨oc0, od0, .func (PySem.W.fnOf "_law_tub" "_law_tub" (defArgs s__law_tub) (defBody s__law_tub) (defScope s__law_tub) .none kV0 dc0 pm0 an0 cd0 ct0), sl0⟩)
    (c0 : PySem.W.codeIn K cd0 "_law_tub" = true) (k0 : PySem.W.keepIn K (.ref f0) = true)
    (a1 : PySem.W.nsIn K mainGlobals "_law_grab" = some (some (.ref f1))) (l1 : K.lookup f1 = some ⟨oc1, od1, .func (PySem.W.fnOf "_law_grab" "_law_grab" (defArgs s__law_grab) (defBody s__law_grab) (defScope s__law_grab) .none kV1 dc1 pm1 an1 cd1 ct1), sl1⟩)
    (c1 : PySem.W.codeIn K cd1 "_law_grab" = true) (k1 : PySem.W.keepIn K (.ref f1) = true)
    (a2 : PySem.W.nsIn K mainGlobals "_law_pick" = some (some (.ref f2))) (l2 : K.lookup f2 = some ⟨oc2, od2, .func (PySem.W.fnOf "_law_pick" "_law_pick" (defArgs s__law_pick) (defBody s__law_pick) (defScope s__law_pick) .none kV2 dc2 pm2 an2 cd2 ct2), sl2⟩)
    (c2 : PySem.W.codeIn K cd2 "_law_pick" = true) (k2 : PySem.W.keepIn K (.ref f2) = true)
    (a3 : PySem.W.nsIn K mainGlobals "_law_value" = some (some (.ref f3))) (l3 : K.lookup f3 = some ⟨oc3, od3, .func (PySem.W.fnOf "_law_value" "_law_value" (defArgs s__law_value) (defBody s__law_value) (defScope s__law_value) .none kV3 dc3 pm3 an3 cd3 ct3), sl3⟩)
    (c3 : PySem.W.codeIn K cd3 "_law_value" = true) (k3 : PySem.W.keepIn K (.ref f3) = true)
    (a4 : PySem.W.nsIn K mainGlobals "_law_kinds" = some (some (.ref f4))) (l4 : K.lookup f4 = some ⟨oc4, od4, .func (PySem.W.fnOf "_law_kinds" "_law_kinds" (defArgs s__law_kinds) (defBody s__law_kinds) (defScope s__law_kinds) .none kV4 dc4 pm4 an4 cd4 ct4), sl4⟩)
    (c4 : PySem.W.codeIn K cd4 "_law_kinds" = true) (k4 : PySem.W.keepIn K (.ref f4) = true)
    (a5 : PySem.W.nsIn K mainGlobals "_law_stands" = some (some (.ref f5))) (l5 : K.lookup f5 = some ⟨oc5, od5, .func (PySem.W.fnOf "_law_stands" "_law_stands" (defArgs s__law_stands) (defBody s__law_stands) (defScope s__law_stands) .none kV5 dc5 pm5 an5 cd5 ct5), sl5⟩)
    (c5 : PySem.W.codeIn K cd5 "_law_stands" = true) (k5 : PySem.W.keepIn K (.ref f5) = true)
    (a6 : PySem.W.nsIn K mainGlobals "law" = some (some (.ref f6))) (l6 : K.lookup f6 = some ⟨oc6, od6, .func (PySem.W.fnOf "law" "law" (defArgs s_law) (defBody s_law) (defScope s_law) .none kV6 dc6 pm6 an6 cd6 ct6), sl6⟩)
    (c6 : PySem.W.codeIn K cd6 "law" = true) (k6 : PySem.W.keepIn K (.ref f6) = true)
    (z_ValueError : PySem.W.nsIn K mainGlobals "ValueError" = some none)
    (z_abs : PySem.W.nsIn K mainGlobals "abs" = some none)
    (z_int : PySem.W.nsIn K mainGlobals "int" = some none)
    (z_isinstance : PySem.W.nsIn K mainGlobals "isinstance" = some none)
    (z_len : PySem.W.nsIn K mainGlobals "len" = some none)
    (z_range : PySem.W.nsIn K mainGlobals "range" = some none)
    {pe : Addr} {eC0 eC1 eC2 eC3 eC4 eC5 eC6 eC7 eC8 eC9 eC10 eC11 eC12 eC13 eC14 eC15 : Addr} {i0 i1 i2 i3 i4 i5 i6 i7 i8 i9 i10 i11 i12 i13 i14 i15 : Addr}
    {q_p : Str} {N_p : Addr} {bs_p : List Value} {sn_p : List Str} {su_p : List Value} {ab_p : Bool} {co_p : Option Bool} {dd_p : Option Addr} {ka_p kb_p kc_p kd_p ke_p : Option Value}
    {q_0 : Str} {N_0 : Addr} {bs_0 : List Value} {sn_0 : List Str} {su_0 : List Value} {ab_0 : Bool} {co_0 : Option Bool} {dd_0 : Option Addr} {ka_0 kb_0 kc_0 kd_0 ke_0 : Option Value}
    {q_1 : Str} {N_1 : Addr} {bs_1 : List Value} {sn_1 : List Str} {su_1 : List Value} {ab_1 : Bool} {co_1 : Option Bool} {dd_1 : Option Addr} {ka_1 kb_1 kc_1 kd_1 ke_1 : Option Value}
    {q_2 : Str} {N_2 : Addr} {bs_2 : List Value} {sn_2 : List Str} {su_2 : List Value} {ab_2 : Bool} {co_2 : Option Bool} {dd_2 : Option Addr} {ka_2 kb_2 kc_2 kd_2 ke_2 : Option Value}
    {q_3 : Str} {N_3 : Addr} {bs_3 : List Value} {sn_3 : List Str} {su_3 : List Value} {ab_3 : Bool} {co_3 : Option Bool} {dd_3 : Option Addr} {ka_3 kb_3 kc_3 kd_3 ke_3 : Option Value}
    {q_4 : Str} {N_4 : Addr} {bs_4 : List Value} {sn_4 : List Str} {su_4 : List Value} {ab_4 : Bool} {co_4 : Option Bool} {dd_4 : Option Addr} {ka_4 kb_4 kc_4 kd_4 ke_4 : Option Value}
    {q_5 : Str} {N_5 : Addr} {bs_5 : List Value} {sn_5 : List Str} {su_5 : List Value} {ab_5 : Bool} {co_5 : Option Bool} {dd_5 : Option Addr} {ka_5 kb_5 kc_5 kd_5 ke_5 : Option Value}
    {q_6 : Str} {N_6 : Addr} {bs_6 : List Value} {sn_6 : List Str} {su_6 : List Value} {ab_6 : Bool} {co_6 : Option Bool} {dd_6 : Option Addr} {ka_6 kb_6 kc_6 kd_6 ke_6 : Option Value}
    {q_7 : Str} {N_7 : Addr} {bs_7 : List Value} {sn_7 : List Str} {su_7 : List Value} {ab_7 : Bool} {co_7 : Option Bool} {dd_7 : Option Addr} {ka_7 kb_7 kc_7 kd_7 ke_7 : Option Value}
    {q_8 : Str} {N_8 : Addr} {bs_8 : List Value} {sn_8 : List Str} {su_8 : List Value} {ab_8 : Bool} {co_8 : Option Bool} {dd_8 : Option Addr} {ka_8 kb_8 kc_8 kd_8 ke_8 : Option Value}
    {q_9 : Str} {N_9 : Addr} {bs_9 : List Value} {sn_9 : List Str} {su_9 : List Value} {ab_9 : Bool} {co_9 : Option Bool} {dd_9 : Option Addr} {ka_9 kb_9 kc_9 kd_9 ke_9 : Option Value}
    {q_10 : Str} {N_10 : Addr} {bs_10 : List Value} {sn_10 : List Str} {su_10 : List Value} {ab_10 : Bool} {co_10 : Option Bool} {dd_10 : Option Addr} {ka_10 kb_10 kc_10 kd_10 ke_10 : Option Value}
    {q_11 : Str} {N_11 : Addr} {bs_11 : List Value} {sn_11 : List Str} {su_11 : List Value} {ab_11 : Bool} {co_11 : Option Bool} {dd_11 : Option Addr} {ka_11 kb_11 kc_11 kd_11 ke_11 : Option Value}
    {q_12 : Str} {N_12 : Addr} {bs_12 : List Value} {sn_12 : List Str} {su_12 : List Value} {ab_12 : Bool} {co_12 : Option Bool} {dd_12 : Option Addr} {ka_12 kb_12 kc_12 kd_12 ke_12 : Option Value}
    {q_13 : Str} {N_13 : Addr} {bs_13 : List Value} {sn_13 : List Str} {su_13 : List Value} {ab_13 : Bool} {co_13 : Option Bool} {dd_13 : Option Addr} {ka_13 kb_13 kc_13 kd_13 ke_13 : Option Value}
    {q_14 : Str} {N_14 : Addr} {bs_14 : List Value} {sn_14 : List Str} {su_14 : List Value} {ab_14 : Bool} {co_14 : Option Bool} {dd_14 : Option Addr} {ka_14 kb_14 kc_14 kd_14 ke_14 : Option Value}
    {q_15 : Str} {N_15 : Addr} {bs_15 : List Value} {sn_15 : List Str} {su_15 : List Value} {ab_15 : Bool} {co_15 : Option Bool} {dd_15 : Option Addr} {ka_15 kb_15 kc_15 kd_15 ke_15 : Option Value}
    {ioc0 ikV0 idc0 ipm0 icd0 ict0 : Value} {iod0 ian0 : Option Addr} {isl0 : Array (Option Value)}
    {ioc1 ikV1 idc1 ipm1 icd1 ict1 : Value} {iod1 ian1 : Option Addr} {isl1 : Array (Option Value)}
    {ioc2 ikV2 idc2 ipm2 icd2 ict2 : Value} {iod2 ian2 : Option Addr} {isl2 : Array (Option Value)}
    {ioc3 ikV3 idc3 ipm3 icd3 ict3 : Value} {iod3 ian3 : Option Addr} {isl3 : Array (Option Value)}
    {ioc4 ikV4 idc4 ipm4 icd4 ict4 : Value} {iod4 ian4 : Option Addr} {isl4 : Array (Option Value)}
    {ioc5 ikV5 idc5 ipm5 icd5 ict5 : Value} {iod5 ian5 : Option Addr} {isl5 : Array (Option Value)}
    {ioc6 ikV6 idc6 ipm6 icd6 ict6 : Value} {iod6 ian6 : Option Addr} {isl6 : Array (Option Value)}
    {ioc7 ikV7 idc7 ipm7 icd7 ict7 : Value} {iod7 ian7 : Option Addr} {isl7 : Array (Option Value)}
    {ioc8 ikV8 idc8 ipm8 icd8 ict8 : Value} {iod8 ian8 : Option Addr} {isl8 : Array (Option Value)}
    {ioc9 ikV9 idc9 ipm9 icd9 ict9 : Value} {iod9 ian9 : Option Addr} {isl9 : Array (Option Value)}
    {ioc10 ikV10 idc10 ipm10 icd10 ict10 : Value} {iod10 ian10 : Option Addr} {isl10 : Array (Option Value)}
    {ioc11 ikV11 idc11 ipm11 icd11 ict11 : Value} {iod11 ian11 : Option Addr} {isl11 : Array (Option Value)}
    {ioc12 ikV12 idc12 ipm12 icd12 ict12 : Value} {iod12 ian12 : Option Addr} {isl12 : Array (Option Value)}
    {ioc13 ikV13 idc13 ipm13 icd13 ict13 : Value} {iod13 ian13 : Option Addr} {isl13 : Array (Option Value)}
    {ioc14 ikV14 idc14 ipm14 icd14 ict14 : Value} {iod14 ian14 : Option Addr} {isl14 : Array (Option Value)}
    {ioc15 ikV15 idc15 ipm15 icd15 ict15 : Value} {iod15 ian15 : Option Addr} {isl15 : Array (Option Value)}
    (pa : PySem.W.nsIn K mainGlobals "PriceError" = some (some (.ref pe))) (pl : K.lookup pe = some (excClassObj "PriceError" q_p pe N_p bs_p veT true sn_p su_p ab_p co_p dd_p ka_p kb_p kc_p kd_p ke_p "ValueError.__new__"))
    (ehn : PySem.W.specialIn K (.builtin "object.__class__") "__get__" = some (some (.builtin "getset_descriptor.__get__"))) (eht : PySem.W.takesIn K (.builtin "object.__class__") = some true)
    (xa0 : PySem.W.nsIn K mainGlobals "BadNumber" = some (some (.ref eC0))) (xl0 : K.lookup eC0 = some (excClassObj "BadNumber" q_0 eC0 N_0 bs_0 (.ref pe :: veT) true sn_0 su_0 ab_0 co_0 dd_0 ka_0 kb_0 kc_0 kd_0 ke_0 "ValueError.__new__"))
    (xs0 : PySem.W.findIn K (.ref eC0) "__setattr__" = some (some (.builtin "object.__setattr__"))) (xg0 : PySem.W.findIn K (.ref eC0) "__getattribute__" = some (some (.builtin "BaseException.__getattribute__")))
    (xh0 : PySem.W.findIn K (.ref eC0) "__getattr__" = some none) (xc0 : PySem.W.findIn K (.ref eC0) "__class__" = some (some (.builtin "object.__class__")))
    (xi0 : PySem.W.findIn K (.ref eC0) "__init__" = some (some (.ref i0))) (xt0 : PySem.W.typeIn K (.ref i0) = some (.type "function")) (xk0 : PySem.W.keepIn K (.ref eC0) = true)
    (il0 : K.lookup i0 = some ⟨ioc0, iod0, .func (PySem.W.fnOf "__init__" "BadNumber.__init__" (defArgs s_BadNumber) (defBody s_BadNumber) (defScope s_BadNumber) .none ikV0 idc0 ipm0 ian0 icd0 ict0), isl0⟩)
    (ic0 : PySem.W.codeIn K icd0 "BadNumber.__init__" = true) (ik0 : PySem.W.keepIn K (.ref i0) = true)
    (nf0_part : PySem.W.findIn K (.ref eC0) "part" = some none)
    (xa1 : PySem.W.nsIn K mainGlobals "BadDay" = some (some (.ref eC1))) (xl1 : K.lookup eC1 = some (excClassObj "BadDay" q_1 eC1 N_1 bs_1 (.ref pe :: veT) true sn_1 su_1 ab_1 co_1 dd_1 ka_1 kb_1 kc_1 kd_1 ke_1 "ValueError.__new__"))
    (xs1 : PySem.W.findIn K (.ref eC1) "__setattr__" = some (some (.builtin "object.__setattr__"))) (xg1 : PySem.W.findIn K (.ref eC1) "__getattribute__" = some (some (.builtin "BaseException.__getattribute__")))
    (xh1 : PySem.W.findIn K (.ref eC1) "__getattr__" = some none) (xc1 : PySem.W.findIn K (.ref eC1) "__class__" = some (some (.builtin "object.__class__")))
    (xi1 : PySem.W.findIn K (.ref eC1) "__init__" = some (some (.ref i1))) (xt1 : PySem.W.typeIn K (.ref i1) = some (.type "function")) (xk1 : PySem.W.keepIn K (.ref eC1) = true)
    (il1 : K.lookup i1 = some ⟨ioc1, iod1, .func (PySem.W.fnOf "__init__" "BadDay.__init__" (defArgs s_BadDay) (defBody s_BadDay) (defScope s_BadDay) .none ikV1 idc1 ipm1 ian1 icd1 ict1), isl1⟩)
    (ic1 : PySem.W.codeIn K icd1 "BadDay.__init__" = true) (ik1 : PySem.W.keepIn K (.ref i1) = true)
    (nf1_part : PySem.W.findIn K (.ref eC1) "part" = some none)
    (xa2 : PySem.W.nsIn K mainGlobals "BadMarket" = some (some (.ref eC2))) (xl2 : K.lookup eC2 = some (excClassObj "BadMarket" q_2 eC2 N_2 bs_2 (.ref pe :: veT) true sn_2 su_2 ab_2 co_2 dd_2 ka_2 kb_2 kc_2 kd_2 ke_2 "ValueError.__new__"))
    (xs2 : PySem.W.findIn K (.ref eC2) "__setattr__" = some (some (.builtin "object.__setattr__"))) (xg2 : PySem.W.findIn K (.ref eC2) "__getattribute__" = some (some (.builtin "BaseException.__getattribute__")))
    (xh2 : PySem.W.findIn K (.ref eC2) "__getattr__" = some none) (xc2 : PySem.W.findIn K (.ref eC2) "__class__" = some (some (.builtin "object.__class__")))
    (xi2 : PySem.W.findIn K (.ref eC2) "__init__" = some (some (.ref i2))) (xt2 : PySem.W.typeIn K (.ref i2) = some (.type "function")) (xk2 : PySem.W.keepIn K (.ref eC2) = true)
    (il2 : K.lookup i2 = some ⟨ioc2, iod2, .func (PySem.W.fnOf "__init__" "BadMarket.__init__" (defArgs s_BadMarket) (defBody s_BadMarket) (defScope s_BadMarket) .none ikV2 idc2 ipm2 ian2 icd2 ict2), isl2⟩)
    (ic2 : PySem.W.codeIn K icd2 "BadMarket.__init__" = true) (ik2 : PySem.W.keepIn K (.ref i2) = true)
    (nf2_part : PySem.W.findIn K (.ref eC2) "part" = some none)
    (xa3 : PySem.W.nsIn K mainGlobals "BadMix" = some (some (.ref eC3))) (xl3 : K.lookup eC3 = some (excClassObj "BadMix" q_3 eC3 N_3 bs_3 (.ref pe :: veT) true sn_3 su_3 ab_3 co_3 dd_3 ka_3 kb_3 kc_3 kd_3 ke_3 "ValueError.__new__"))
    (xs3 : PySem.W.findIn K (.ref eC3) "__setattr__" = some (some (.builtin "object.__setattr__"))) (xg3 : PySem.W.findIn K (.ref eC3) "__getattribute__" = some (some (.builtin "BaseException.__getattribute__")))
    (xh3 : PySem.W.findIn K (.ref eC3) "__getattr__" = some none) (xc3 : PySem.W.findIn K (.ref eC3) "__class__" = some (some (.builtin "object.__class__")))
    (xi3 : PySem.W.findIn K (.ref eC3) "__init__" = some (some (.ref i3))) (xt3 : PySem.W.typeIn K (.ref i3) = some (.type "function")) (xk3 : PySem.W.keepIn K (.ref eC3) = true)
    (il3 : K.lookup i3 = some ⟨ioc3, iod3, .func (PySem.W.fnOf "__init__" "BadMix.__init__" (defArgs s_BadMix) (defBody s_BadMix) (defScope s_BadMix) .none ikV3 idc3 ipm3 ian3 icd3 ict3), isl3⟩)
    (ic3 : PySem.W.codeIn K icd3 "BadMix.__init__" = true) (ik3 : PySem.W.keepIn K (.ref i3) = true)
    (nf3_part : PySem.W.findIn K (.ref eC3) "part" = some none)
    (xa4 : PySem.W.nsIn K mainGlobals "BadWord" = some (some (.ref eC4))) (xl4 : K.lookup eC4 = some (excClassObj "BadWord" q_4 eC4 N_4 bs_4 (.ref pe :: veT) true sn_4 su_4 ab_4 co_4 dd_4 ka_4 kb_4 kc_4 kd_4 ke_4 "ValueError.__new__"))
    (xs4 : PySem.W.findIn K (.ref eC4) "__setattr__" = some (some (.builtin "object.__setattr__"))) (xg4 : PySem.W.findIn K (.ref eC4) "__getattribute__" = some (some (.builtin "BaseException.__getattribute__")))
    (xh4 : PySem.W.findIn K (.ref eC4) "__getattr__" = some none) (xc4 : PySem.W.findIn K (.ref eC4) "__class__" = some (some (.builtin "object.__class__")))
    (xi4 : PySem.W.findIn K (.ref eC4) "__init__" = some (some (.ref i4))) (xt4 : PySem.W.typeIn K (.ref i4) = some (.type "function")) (xk4 : PySem.W.keepIn K (.ref eC4) = true)
    (il4 : K.lookup i4 = some ⟨ioc4, iod4, .func (PySem.W.fnOf "__init__" "BadWord.__init__" (defArgs s_BadWord) (defBody s_BadWord) (defScope s_BadWord) .none ikV4 idc4 ipm4 ian4 icd4 ict4), isl4⟩)
    (ic4 : PySem.W.codeIn K icd4 "BadWord.__init__" = true) (ik4 : PySem.W.keepIn K (.ref i4) = true)
    (nf4_part : PySem.W.findIn K (.ref eC4) "part" = some none)
    (xa5 : PySem.W.nsIn K mainGlobals "BadPromise" = some (some (.ref eC5))) (xl5 : K.lookup eC5 = some (excClassObj "BadPromise" q_5 eC5 N_5 bs_5 (.ref pe :: veT) true sn_5 su_5 ab_5 co_5 dd_5 ka_5 kb_5 kc_5 kd_5 ke_5 "ValueError.__new__"))
    (xs5 : PySem.W.findIn K (.ref eC5) "__setattr__" = some (some (.builtin "object.__setattr__"))) (xg5 : PySem.W.findIn K (.ref eC5) "__getattribute__" = some (some (.builtin "BaseException.__getattribute__")))
    (xh5 : PySem.W.findIn K (.ref eC5) "__getattr__" = some none) (xc5 : PySem.W.findIn K (.ref eC5) "__class__" = some (some (.builtin "object.__class__")))
    (xi5 : PySem.W.findIn K (.ref eC5) "__init__" = some (some (.ref i5))) (xt5 : PySem.W.typeIn K (.ref i5) = some (.type "function")) (xk5 : PySem.W.keepIn K (.ref eC5) = true)
    (il5 : K.lookup i5 = some ⟨ioc5, iod5, .func (PySem.W.fnOf "__init__" "BadPromise.__init__" (defArgs s_BadPromise) (defBody s_BadPromise) (defScope s_BadPromise) .none ikV5 idc5 ipm5 ian5 icd5 ict5), isl5⟩)
    (ic5 : PySem.W.codeIn K icd5 "BadPromise.__init__" = true) (ik5 : PySem.W.keepIn K (.ref i5) = true)
    (nf5_part : PySem.W.findIn K (.ref eC5) "part" = some none)
    (xa6 : PySem.W.nsIn K mainGlobals "BadMachine" = some (some (.ref eC6))) (xl6 : K.lookup eC6 = some (excClassObj "BadMachine" q_6 eC6 N_6 bs_6 (.ref pe :: veT) true sn_6 su_6 ab_6 co_6 dd_6 ka_6 kb_6 kc_6 kd_6 ke_6 "ValueError.__new__"))
    (xs6 : PySem.W.findIn K (.ref eC6) "__setattr__" = some (some (.builtin "object.__setattr__"))) (xg6 : PySem.W.findIn K (.ref eC6) "__getattribute__" = some (some (.builtin "BaseException.__getattribute__")))
    (xh6 : PySem.W.findIn K (.ref eC6) "__getattr__" = some none) (xc6 : PySem.W.findIn K (.ref eC6) "__class__" = some (some (.builtin "object.__class__")))
    (xi6 : PySem.W.findIn K (.ref eC6) "__init__" = some (some (.ref i6))) (xt6 : PySem.W.typeIn K (.ref i6) = some (.type "function")) (xk6 : PySem.W.keepIn K (.ref eC6) = true)
    (il6 : K.lookup i6 = some ⟨ioc6, iod6, .func (PySem.W.fnOf "__init__" "BadMachine.__init__" (defArgs s_BadMachine) (defBody s_BadMachine) (defScope s_BadMachine) .none ikV6 idc6 ipm6 ian6 icd6 ict6), isl6⟩)
    (ic6 : PySem.W.codeIn K icd6 "BadMachine.__init__" = true) (ik6 : PySem.W.keepIn K (.ref i6) = true)
    (nf6_part : PySem.W.findIn K (.ref eC6) "part" = some none)
    (xa7 : PySem.W.nsIn K mainGlobals "BadSeller" = some (some (.ref eC7))) (xl7 : K.lookup eC7 = some (excClassObj "BadSeller" q_7 eC7 N_7 bs_7 (.ref pe :: veT) true sn_7 su_7 ab_7 co_7 dd_7 ka_7 kb_7 kc_7 kd_7 ke_7 "ValueError.__new__"))
    (xs7 : PySem.W.findIn K (.ref eC7) "__setattr__" = some (some (.builtin "object.__setattr__"))) (xg7 : PySem.W.findIn K (.ref eC7) "__getattribute__" = some (some (.builtin "BaseException.__getattribute__")))
    (xh7 : PySem.W.findIn K (.ref eC7) "__getattr__" = some none) (xc7 : PySem.W.findIn K (.ref eC7) "__class__" = some (some (.builtin "object.__class__")))
    (xi7 : PySem.W.findIn K (.ref eC7) "__init__" = some (some (.ref i7))) (xt7 : PySem.W.typeIn K (.ref i7) = some (.type "function")) (xk7 : PySem.W.keepIn K (.ref eC7) = true)
    (il7 : K.lookup i7 = some ⟨ioc7, iod7, .func (PySem.W.fnOf "__init__" "BadSeller.__init__" (defArgs s_BadSeller) (defBody s_BadSeller) (defScope s_BadSeller) .none ikV7 idc7 ipm7 ian7 icd7 ict7), isl7⟩)
    (ic7 : PySem.W.codeIn K icd7 "BadSeller.__init__" = true) (ik7 : PySem.W.keepIn K (.ref i7) = true)
    (nf7_part : PySem.W.findIn K (.ref eC7) "part" = some none)
    (xa8 : PySem.W.nsIn K mainGlobals "BadCorner" = some (some (.ref eC8))) (xl8 : K.lookup eC8 = some (excClassObj "BadCorner" q_8 eC8 N_8 bs_8 (.ref pe :: veT) true sn_8 su_8 ab_8 co_8 dd_8 ka_8 kb_8 kc_8 kd_8 ke_8 "ValueError.__new__"))
    (xs8 : PySem.W.findIn K (.ref eC8) "__setattr__" = some (some (.builtin "object.__setattr__"))) (xg8 : PySem.W.findIn K (.ref eC8) "__getattribute__" = some (some (.builtin "BaseException.__getattribute__")))
    (xh8 : PySem.W.findIn K (.ref eC8) "__getattr__" = some none) (xc8 : PySem.W.findIn K (.ref eC8) "__class__" = some (some (.builtin "object.__class__")))
    (xi8 : PySem.W.findIn K (.ref eC8) "__init__" = some (some (.ref i8))) (xt8 : PySem.W.typeIn K (.ref i8) = some (.type "function")) (xk8 : PySem.W.keepIn K (.ref eC8) = true)
    (il8 : K.lookup i8 = some ⟨ioc8, iod8, .func (PySem.W.fnOf "__init__" "BadCorner.__init__" (defArgs s_BadCorner) (defBody s_BadCorner) (defScope s_BadCorner) .none ikV8 idc8 ipm8 ian8 icd8 ict8), isl8⟩)
    (ic8 : PySem.W.codeIn K icd8 "BadCorner.__init__" = true) (ik8 : PySem.W.keepIn K (.ref i8) = true)
    (nf8_part : PySem.W.findIn K (.ref eC8) "part" = some none)
    (xa9 : PySem.W.nsIn K mainGlobals "BadCode" = some (some (.ref eC9))) (xl9 : K.lookup eC9 = some (excClassObj "BadCode" q_9 eC9 N_9 bs_9 (.ref pe :: veT) true sn_9 su_9 ab_9 co_9 dd_9 ka_9 kb_9 kc_9 kd_9 ke_9 "ValueError.__new__"))
    (xs9 : PySem.W.findIn K (.ref eC9) "__setattr__" = some (some (.builtin "object.__setattr__"))) (xg9 : PySem.W.findIn K (.ref eC9) "__getattribute__" = some (some (.builtin "BaseException.__getattribute__")))
    (xh9 : PySem.W.findIn K (.ref eC9) "__getattr__" = some none) (xc9 : PySem.W.findIn K (.ref eC9) "__class__" = some (some (.builtin "object.__class__")))
    (xi9 : PySem.W.findIn K (.ref eC9) "__init__" = some (some (.ref i9))) (xt9 : PySem.W.typeIn K (.ref i9) = some (.type "function")) (xk9 : PySem.W.keepIn K (.ref eC9) = true)
    (il9 : K.lookup i9 = some ⟨ioc9, iod9, .func (PySem.W.fnOf "__init__" "BadCode.__init__" (defArgs s_BadCode) (defBody s_BadCode) (defScope s_BadCode) .none ikV9 idc9 ipm9 ian9 icd9 ict9), isl9⟩)
    (ic9 : PySem.W.codeIn K icd9 "BadCode.__init__" = true) (ik9 : PySem.W.keepIn K (.ref i9) = true)
    (nf9_part : PySem.W.findIn K (.ref eC9) "part" = some none)
    (xa10 : PySem.W.nsIn K mainGlobals "Misfit" = some (some (.ref eC10))) (xl10 : K.lookup eC10 = some (excClassObj "Misfit" q_10 eC10 N_10 bs_10 (.ref pe :: veT) true sn_10 su_10 ab_10 co_10 dd_10 ka_10 kb_10 kc_10 kd_10 ke_10 "ValueError.__new__"))
    (xs10 : PySem.W.findIn K (.ref eC10) "__setattr__" = some (some (.builtin "object.__setattr__"))) (xg10 : PySem.W.findIn K (.ref eC10) "__getattribute__" = some (some (.builtin "BaseException.__getattribute__")))
    (xh10 : PySem.W.findIn K (.ref eC10) "__getattr__" = some none) (xc10 : PySem.W.findIn K (.ref eC10) "__class__" = some (some (.builtin "object.__class__")))
    (xi10 : PySem.W.findIn K (.ref eC10) "__init__" = some (some (.ref i10))) (xt10 : PySem.W.typeIn K (.ref i10) = some (.type "function")) (xk10 : PySem.W.keepIn K (.ref eC10) = true)
    (il10 : K.lookup i10 = some ⟨ioc10, iod10, .func (PySem.W.fnOf "__init__" "Misfit.__init__" (defArgs s_Misfit) (defBody s_Misfit) (defScope s_Misfit) .none ikV10 idc10 ipm10 ian10 icd10 ict10), isl10⟩)
    (ic10 : PySem.W.codeIn K icd10 "Misfit.__init__" = true) (ik10 : PySem.W.keepIn K (.ref i10) = true)
    (nf10_part : PySem.W.findIn K (.ref eC10) "part" = some none)
    (xa11 : PySem.W.nsIn K mainGlobals "NoName" = some (some (.ref eC11))) (xl11 : K.lookup eC11 = some (excClassObj "NoName" q_11 eC11 N_11 bs_11 (.ref pe :: veT) true sn_11 su_11 ab_11 co_11 dd_11 ka_11 kb_11 kc_11 kd_11 ke_11 "ValueError.__new__"))
    (xs11 : PySem.W.findIn K (.ref eC11) "__setattr__" = some (some (.builtin "object.__setattr__"))) (xg11 : PySem.W.findIn K (.ref eC11) "__getattribute__" = some (some (.builtin "BaseException.__getattribute__")))
    (xh11 : PySem.W.findIn K (.ref eC11) "__getattr__" = some none) (xc11 : PySem.W.findIn K (.ref eC11) "__class__" = some (some (.builtin "object.__class__")))
    (xi11 : PySem.W.findIn K (.ref eC11) "__init__" = some (some (.ref i11))) (xt11 : PySem.W.typeIn K (.ref i11) = some (.type "function")) (xk11 : PySem.W.keepIn K (.ref eC11) = true)
    (il11 : K.lookup i11 = some ⟨ioc11, iod11, .func (PySem.W.fnOf "__init__" "NoName.__init__" (defArgs s_NoName) (defBody s_NoName) (defScope s_NoName) .none ikV11 idc11 ipm11 ian11 icd11 ict11), isl11⟩)
    (ic11 : PySem.W.codeIn K icd11 "NoName.__init__" = true) (ik11 : PySem.W.keepIn K (.ref i11) = true)
    (nf11_value : PySem.W.findIn K (.ref eC11) "value" = some none)
    (xa12 : PySem.W.nsIn K mainGlobals "Twice" = some (some (.ref eC12))) (xl12 : K.lookup eC12 = some (excClassObj "Twice" q_12 eC12 N_12 bs_12 (.ref pe :: veT) true sn_12 su_12 ab_12 co_12 dd_12 ka_12 kb_12 kc_12 kd_12 ke_12 "ValueError.__new__"))
    (xs12 : PySem.W.findIn K (.ref eC12) "__setattr__" = some (some (.builtin "object.__setattr__"))) (xg12 : PySem.W.findIn K (.ref eC12) "__getattribute__" = some (some (.builtin "BaseException.__getattribute__")))
    (xh12 : PySem.W.findIn K (.ref eC12) "__getattr__" = some none) (xc12 : PySem.W.findIn K (.ref eC12) "__class__" = some (some (.builtin "object.__class__")))
    (xi12 : PySem.W.findIn K (.ref eC12) "__init__" = some (some (.ref i12))) (xt12 : PySem.W.typeIn K (.ref i12) = some (.type "function")) (xk12 : PySem.W.keepIn K (.ref eC12) = true)
    (il12 : K.lookup i12 = some ⟨ioc12, iod12, .func (PySem.W.fnOf "__init__" "Twice.__init__" (defArgs s_Twice) (defBody s_Twice) (defScope s_Twice) .none ikV12 idc12 ipm12 ian12 icd12 ict12), isl12⟩)
    (ic12 : PySem.W.codeIn K icd12 "Twice.__init__" = true) (ik12 : PySem.W.keepIn K (.ref i12) = true)
    (nf12_value : PySem.W.findIn K (.ref eC12) "value" = some none)
    (xa13 : PySem.W.nsIn K mainGlobals "TooMany" = some (some (.ref eC13))) (xl13 : K.lookup eC13 = some (excClassObj "TooMany" q_13 eC13 N_13 bs_13 (.ref pe :: veT) true sn_13 su_13 ab_13 co_13 dd_13 ka_13 kb_13 kc_13 kd_13 ke_13 "ValueError.__new__"))
    (xs13 : PySem.W.findIn K (.ref eC13) "__setattr__" = some (some (.builtin "object.__setattr__"))) (xg13 : PySem.W.findIn K (.ref eC13) "__getattribute__" = some (some (.builtin "BaseException.__getattribute__")))
    (xh13 : PySem.W.findIn K (.ref eC13) "__getattr__" = some none) (xc13 : PySem.W.findIn K (.ref eC13) "__class__" = some (some (.builtin "object.__class__")))
    (xi13 : PySem.W.findIn K (.ref eC13) "__init__" = some (some (.ref i13))) (xt13 : PySem.W.typeIn K (.ref i13) = some (.type "function")) (xk13 : PySem.W.keepIn K (.ref eC13) = true)
    (il13 : K.lookup i13 = some ⟨ioc13, iod13, .func (PySem.W.fnOf "__init__" "TooMany.__init__" (defArgs s_TooMany) (defBody s_TooMany) (defScope s_TooMany) .none ikV13 idc13 ipm13 ian13 icd13 ict13), isl13⟩)
    (ic13 : PySem.W.codeIn K icd13 "TooMany.__init__" = true) (ik13 : PySem.W.keepIn K (.ref i13) = true)
    (nf13_what : PySem.W.findIn K (.ref eC13) "what" = some none)
    (nf13_most : PySem.W.findIn K (.ref eC13) "most" = some none)
    (xa14 : PySem.W.nsIn K mainGlobals "BadText" = some (some (.ref eC14))) (xl14 : K.lookup eC14 = some (excClassObj "BadText" q_14 eC14 N_14 bs_14 (.ref pe :: veT) true sn_14 su_14 ab_14 co_14 dd_14 ka_14 kb_14 kc_14 kd_14 ke_14 "ValueError.__new__"))
    (xs14 : PySem.W.findIn K (.ref eC14) "__setattr__" = some (some (.builtin "object.__setattr__"))) (xg14 : PySem.W.findIn K (.ref eC14) "__getattribute__" = some (some (.builtin "BaseException.__getattribute__")))
    (xh14 : PySem.W.findIn K (.ref eC14) "__getattr__" = some none) (xc14 : PySem.W.findIn K (.ref eC14) "__class__" = some (some (.builtin "object.__class__")))
    (xi14 : PySem.W.findIn K (.ref eC14) "__init__" = some (some (.ref i14))) (xt14 : PySem.W.typeIn K (.ref i14) = some (.type "function")) (xk14 : PySem.W.keepIn K (.ref eC14) = true)
    (il14 : K.lookup i14 = some ⟨ioc14, iod14, .func (PySem.W.fnOf "__init__" "BadText.__init__" (defArgs s_BadText) (defBody s_BadText) (defScope s_BadText) .none ikV14 idc14 ipm14 ian14 icd14 ict14), isl14⟩)
    (ic14 : PySem.W.codeIn K icd14 "BadText.__init__" = true) (ik14 : PySem.W.keepIn K (.ref i14) = true)
    (nf14_item : PySem.W.findIn K (.ref eC14) "item" = some none)
    (xa15 : PySem.W.nsIn K mainGlobals "BadLine" = some (some (.ref eC15))) (xl15 : K.lookup eC15 = some (excClassObj "BadLine" q_15 eC15 N_15 bs_15 (.ref pe :: veT) true sn_15 su_15 ab_15 co_15 dd_15 ka_15 kb_15 kc_15 kd_15 ke_15 "ValueError.__new__"))
    (xs15 : PySem.W.findIn K (.ref eC15) "__setattr__" = some (some (.builtin "object.__setattr__"))) (xg15 : PySem.W.findIn K (.ref eC15) "__getattribute__" = some (some (.builtin "BaseException.__getattribute__")))
    (xh15 : PySem.W.findIn K (.ref eC15) "__getattr__" = some none) (xc15 : PySem.W.findIn K (.ref eC15) "__class__" = some (some (.builtin "object.__class__")))
    (xi15 : PySem.W.findIn K (.ref eC15) "__init__" = some (some (.ref i15))) (xt15 : PySem.W.typeIn K (.ref i15) = some (.type "function")) (xk15 : PySem.W.keepIn K (.ref eC15) = true)
    (il15 : K.lookup i15 = some ⟨ioc15, iod15, .func (PySem.W.fnOf "__init__" "BadLine.__init__" (defArgs s_BadLine) (defBody s_BadLine) (defScope s_BadLine) .none ikV15 idc15 ipm15 ian15 icd15 ict15), isl15⟩)
    (ic15 : PySem.W.codeIn K icd15 "BadLine.__init__" = true) (ik15 : PySem.W.keepIn K (.ref i15) = true)
    (nf15_line : PySem.W.findIn K (.ref eC15) "line" = some none)
    (nf15_error : PySem.W.findIn K (.ref eC15) "error" = some none)
    : ∃ fd : FuncData, (∀ (s : Shared) (v : Value), BindsTo s fd ⟨[v], []⟩ [("script", v)]) ∧ ∀ base : Heap, K.In base → base.Ns mainGlobals mg → FnG P w K mg base CX0 4 fa fd ["script"] (spLaw K) := by
  have e := hfa.symm.trans (PySem.W.mg_of X G a6)
  cases e
  let ad : Nat → Addr := fun i => match i with | 0 => f0 | 1 => f1 | 2 => f2 | 3 => f3 | 4 => f4 | 5 => f5 | 6 => fa | 99 => pe | 100 => eC0 | 101 => eC1 | 102 => eC2 | 103 => eC3 | 104 => eC4 | 105 => eC5 | 106 => eC6 | 107 => eC7 | 108 => eC8 | 109 => eC9 | 110 => eC10 | 111 => eC11 | 112 => eC12 | 113 => eC13 | 114 => eC14 | 115 => eC15 | 200 => i0 | 201 => i1 | 202 => i2 | 203 => i3 | 204 => i4 | 205 => i5 | 206 => i6 | 207 => i7 | 208 => i8 | 209 => i9 | 210 => i10 | 211 => i11 | 212 => i12 | 213 => i13 | 214 => i14 | 215 => i15 | _ => fa
  let fd : Nat → FuncData := fun i => match i with | 0 => PySem.W.fnOf "_law_tub" "_law_tub" (defArgs s__law_tub) (defBody s__law_tub) (defScope s__law_tub) .none kV0 dc0 pm0 an0 cd0 ct0 | 1 => PySem.W.fnOf "_law_grab" "_law_grab" (defArgs s__law_grab) (defBody s__law_grab) (defScope s__law_grab) .none kV1 dc1 pm1 an1 cd1 ct1 | 2 => PySem.W.fnOf "_law_pick" "_law_pick" (defArgs s__law_pick) (defBody s__law_pick) (defScope s__law_pick) .none kV2 dc2 pm2 an2 cd2 ct2 | 3 => PySem.W.fnOf "_law_value" "_law_value" (defArgs s__law_value) (defBody s__law_value) (defScope s__law_value) .none kV3 dc3 pm3 an3 cd3 ct3 | 4 => PySem.W.fnOf "_law_kinds" "_law_kinds" (defArgs s__law_kinds) (defBody s__law_kinds) (defScope s__law_kinds) .none kV4 dc4 pm4 an4 cd4 ct4 | 5 => PySem.W.fnOf "_law_stands" "_law_stands" (defArgs s__law_stands) (defBody s__law_stands) (defScope s__law_stands) .none kV5 dc5 pm5 an5 cd5 ct5 | 6 => PySem.W.fnOf "law" "law" (defArgs s_law) (defBody s_law) (defScope s_law) .none kV6 dc6 pm6 an6 cd6 ct6 | 200 => PySem.W.fnOf "__init__" "BadNumber.__init__" (defArgs s_BadNumber) (defBody s_BadNumber) (defScope s_BadNumber) .none ikV0 idc0 ipm0 ian0 icd0 ict0 | 201 => PySem.W.fnOf "__init__" "BadDay.__init__" (defArgs s_BadDay) (defBody s_BadDay) (defScope s_BadDay) .none ikV1 idc1 ipm1 ian1 icd1 ict1 | 202 => PySem.W.fnOf "__init__" "BadMarket.__init__" (defArgs s_BadMarket) (defBody s_BadMarket) (defScope s_BadMarket) .none ikV2 idc2 ipm2 ian2 icd2 ict2 | 203 => PySem.W.fnOf "__init__" "BadMix.__init__" (defArgs s_BadMix) (defBody s_BadMix) (defScope s_BadMix) .none ikV3 idc3 ipm3 ian3 icd3 ict3 | 204 => PySem.W.fnOf "__init__" "BadWord.__init__" (defArgs s_BadWord) (defBody s_BadWord) (defScope s_BadWord) .none ikV4 idc4 ipm4 ian4 icd4 ict4 | 205 => PySem.W.fnOf "__init__" "BadPromise.__init__" (defArgs s_BadPromise) (defBody s_BadPromise) (defScope s_BadPromise) .none ikV5 idc5 ipm5 ian5 icd5 ict5 | 206 => PySem.W.fnOf "__init__" "BadMachine.__init__" (defArgs s_BadMachine) (defBody s_BadMachine) (defScope s_BadMachine) .none ikV6 idc6 ipm6 ian6 icd6 ict6 | 207 => PySem.W.fnOf "__init__" "BadSeller.__init__" (defArgs s_BadSeller) (defBody s_BadSeller) (defScope s_BadSeller) .none ikV7 idc7 ipm7 ian7 icd7 ict7 | 208 => PySem.W.fnOf "__init__" "BadCorner.__init__" (defArgs s_BadCorner) (defBody s_BadCorner) (defScope s_BadCorner) .none ikV8 idc8 ipm8 ian8 icd8 ict8 | 209 => PySem.W.fnOf "__init__" "BadCode.__init__" (defArgs s_BadCode) (defBody s_BadCode) (defScope s_BadCode) .none ikV9 idc9 ipm9 ian9 icd9 ict9 | 210 => PySem.W.fnOf "__init__" "Misfit.__init__" (defArgs s_Misfit) (defBody s_Misfit) (defScope s_Misfit) .none ikV10 idc10 ipm10 ian10 icd10 ict10 | 211 => PySem.W.fnOf "__init__" "NoName.__init__" (defArgs s_NoName) (defBody s_NoName) (defScope s_NoName) .none ikV11 idc11 ipm11 ian11 icd11 ict11 | 212 => PySem.W.fnOf "__init__" "Twice.__init__" (defArgs s_Twice) (defBody s_Twice) (defScope s_Twice) .none ikV12 idc12 ipm12 ian12 icd12 ict12 | 213 => PySem.W.fnOf "__init__" "TooMany.__init__" (defArgs s_TooMany) (defBody s_TooMany) (defScope s_TooMany) .none ikV13 idc13 ipm13 ian13 icd13 ict13 | 214 => PySem.W.fnOf "__init__" "BadText.__init__" (defArgs s_BadText) (defBody s_BadText) (defScope s_BadText) .none ikV14 idc14 ipm14 ian14 icd14 ict14 | 215 => PySem.W.fnOf "__init__" "BadLine.__init__" (defArgs s_BadLine) (defBody s_BadLine) (defScope s_BadLine) .none ikV15 idc15 ipm15 ian15 icd15 ict15 | _ => PySem.W.fnOf "law" "law" (defArgs s_law) (defBody s_law) (defScope s_law) .none kV6 dc6 pm6 an6 cd6 ct6
  have T : Txt K mg ad fd := {
    F__law_tub := fun_mk (st := s__law_tub) l0 c0 k0, g__law_tub := PySem.W.mg_of X G a0,
    F__law_grab := fun_mk (st := s__law_grab) l1 c1 k1, g__law_grab := PySem.W.mg_of X G a1,
    F__law_pick := fun_mk (st := s__law_pick) l2 c2 k2, g__law_pick := PySem.W.mg_of X G a2,
    F__law_value := fun_mk (st := s__law_value) l3 c3 k3, g__law_value := PySem.W.mg_of X G a3,
    F__law_kinds := fun_mk (st := s__law_kinds) l4 c4 k4, g__law_kinds := PySem.W.mg_of X G a4,
    F__law_stands := fun_mk (st := s__law_stands) l5 c5 k5, g__law_stands := PySem.W.mg_of X G a5,
    F_law := fun_mk (st := s_law) l6 c6 k6, g_law := PySem.W.mg_of X G a6,
    E_BadNumber := ⟨PySem.W.mg_of X G xa0, ⟨⟨_, _, _, _, _, _, _, _, _, _, _, _, _, xl0⟩⟩, xs0, xg0, xh0, xc0, xi0, xt0, xk0, fun_mk (st := s_BadNumber) il0 ic0 ik0⟩,
    n_BadNumber_part := nf0_part,
    E_BadDay := ⟨PySem.W.mg_of X G xa1, ⟨⟨_, _, _, _, _, _, _, _, _, _, _, _, _, xl1⟩⟩, xs1, xg1, xh1, xc1, xi1, xt1, xk1, fun_mk (st := s_BadDay) il1 ic1 ik1⟩,
    n_BadDay_part := nf1_part,
    E_BadMarket := ⟨PySem.W.mg_of X G xa2, ⟨⟨_, _, _, _, _, _, _, _, _, _, _, _, _, xl2⟩⟩, xs2, xg2, xh2, xc2, xi2, xt2, xk2, fun_mk (st := s_BadMarket) il2 ic2 ik2⟩,
    n_BadMarket_part := nf2_part,
    E_BadMix := ⟨PySem.W.mg_of X G xa3, ⟨⟨_, _, _, _, _, _, _, _, _, _, _, _, _, xl3⟩⟩, xs3, xg3, xh3, xc3, xi3, xt3, xk3, fun_mk (st := s_BadMix) il3 ic3 ik3⟩,
    n_BadMix_part := nf3_part,
    E_BadWord := ⟨PySem.W.mg_of X G xa4, ⟨⟨_, _, _, _, _, _, _, _, _, _, _, _, _, xl4⟩⟩, xs4, xg4, xh4, xc4, xi4, xt4, xk4, fun_mk (st := s_BadWord) il4 ic4 ik4⟩,
    n_BadWord_part := nf4_part,
    E_BadPromise := ⟨PySem.W.mg_of X G xa5, ⟨⟨_, _, _, _, _, _, _, _, _, _, _, _, _, xl5⟩⟩, xs5, xg5, xh5, xc5, xi5, xt5, xk5, fun_mk (st := s_BadPromise) il5 ic5 ik5⟩,
    n_BadPromise_part := nf5_part,
    E_BadMachine := ⟨PySem.W.mg_of X G xa6, ⟨⟨_, _, _, _, _, _, _, _, _, _, _, _, _, xl6⟩⟩, xs6, xg6, xh6, xc6, xi6, xt6, xk6, fun_mk (st := s_BadMachine) il6 ic6 ik6⟩,
    n_BadMachine_part := nf6_part,
    E_BadSeller := ⟨PySem.W.mg_of X G xa7, ⟨⟨_, _, _, _, _, _, _, _, _, _, _, _, _, xl7⟩⟩, xs7, xg7, xh7, xc7, xi7, xt7, xk7, fun_mk (st := s_BadSeller) il7 ic7 ik7⟩,
    n_BadSeller_part := nf7_part,
    E_BadCorner := ⟨PySem.W.mg_of X G xa8, ⟨⟨_, _, _, _, _, _, _, _, _, _, _, _, _, xl8⟩⟩, xs8, xg8, xh8, xc8, xi8, xt8, xk8, fun_mk (st := s_BadCorner) il8 ic8 ik8⟩,
    n_BadCorner_part := nf8_part,
    E_BadCode := ⟨PySem.W.mg_of X G xa9, ⟨⟨_, _, _, _, _, _, _, _, _, _, _, _, _, xl9⟩⟩, xs9, xg9, xh9, xc9, xi9, xt9, xk9, fun_mk (st := s_BadCode) il9 ic9 ik9⟩,
    n_BadCode_part := nf9_part,
    E_Misfit := ⟨PySem.W.mg_of X G xa10, ⟨⟨_, _, _, _, _, _, _, _, _, _, _, _, _, xl10⟩⟩, xs10, xg10, xh10, xc10, xi10, xt10, xk10, fun_mk (st := s_Misfit) il10 ic10 ik10⟩,
    n_Misfit_part := nf10_part,
    E_NoName := ⟨PySem.W.mg_of X G xa11, ⟨⟨_, _, _, _, _, _, _, _, _, _, _, _, _, xl11⟩⟩, xs11, xg11, xh11, xc11, xi11, xt11, xk11, fun_mk (st := s_NoName) il11 ic11 ik11⟩,
    n_NoName_value := nf11_value,
    E_Twice := ⟨PySem.W.mg_of X G xa12, ⟨⟨_, _, _, _, _, _, _, _, _, _, _, _, _, xl12⟩⟩, xs12, xg12, xh12, xc12, xi12, xt12, xk12, fun_mk (st := s_Twice) il12 ic12 ik12⟩,
    n_Twice_value := nf12_value,
    E_TooMany := ⟨PySem.W.mg_of X G xa13, ⟨⟨_, _, _, _, _, _, _, _, _, _, _, _, _, xl13⟩⟩, xs13, xg13, xh13, xc13, xi13, xt13, xk13, fun_mk (st := s_TooMany) il13 ic13 ik13⟩,
    n_TooMany_what := nf13_what,
    n_TooMany_most := nf13_most,
    E_BadText := ⟨PySem.W.mg_of X G xa14, ⟨⟨_, _, _, _, _, _, _, _, _, _, _, _, _, xl14⟩⟩, xs14, xg14, xh14, xc14, xi14, xt14, xk14, fun_mk (st := s_BadText) il14 ic14 ik14⟩,
    n_BadText_item := nf14_item,
    E_BadLine := ⟨PySem.W.mg_of X G xa15, ⟨⟨_, _, _, _, _, _, _, _, _, _, _, _, _, xl15⟩⟩, xs15, xg15, xh15, xc15, xi15, xt15, xk15, fun_mk (st := s_BadLine) il15 ic15 ik15⟩,
    n_BadLine_line := nf15_line,
    n_BadLine_error := nf15_error,
    B := ⟨ehn, eht⟩, PE := ⟨⟨_, _, _, _, _, _, _, _, _, _, _, _, _, pl⟩⟩, g_PriceError := PySem.W.mg_of X G pa,
    b_ValueError := PySem.W.mg_none_of X G z_ValueError, b_abs := PySem.W.mg_none_of X G z_abs, b_int := PySem.W.mg_none_of X G z_int, b_isinstance := PySem.W.mg_none_of X G z_isinstance, b_len := PySem.W.mg_none_of X G z_len, b_range := PySem.W.mg_none_of X G z_range }
  exact ⟨fd 6, fun s v => .of_eq rfl, fun base _ _ => ok_law T⟩
end Kx
open PySem PySem.W PyProof.Rows in
set_option maxRecDepth 100000 in
set_option maxHeartbeats 0 in
theorem PySem.Challenge.cw_hindprice_k00_errors_keep_their_fields_holds : PySem.Challenge.rw_hindprice_k00_errors_keep_their_fields.Holds := by
  w_on; o_law; k_head; (case hw => w_witness2)
  k_fill
  refine DL.walk_ofG (x := "script") (k := 4) (l := PySem.Challenge.rw_hindprice_k00_errors_keep_their_fields) (sp := Kx.spLaw) rfl (by decide) rfl ⟨rfl, by decide, by decide⟩ (fun w h Y => PySem.W.kIn_of Y) ?F (fun K H a ns hl _ hS => ⟨a, ns, rfl, hS, hl, fun _ => rfl⟩)
  case F =>
    intro w mg fa h KX G hmg
    refine' Kx.all_mk KX G hmg ?a0 ?l0 ?c0 ?k0 ?a1 ?l1 ?c1 ?k1 ?a2 ?l2 ?c2 ?k2 ?a3 ?l3 ?c3 ?k3 ?a4 ?l4 ?c4 ?k4 ?a5 ?l5 ?c5 ?k5 ?a6 ?l6 ?c6 ?k6 ?z_ValueError ?z_abs ?z_int ?z_isinstance ?z_len ?z_range ?pa ?pl ?ehn ?eht ?xa0 ?xl0 ?xs0 ?xg0 ?xh0 ?xc0 ?xi0 ?xt0 ?xk0 ?il0 ?ic0 ?ik0 ?nf0_part ?xa1 ?xl1 ?xs1 ?xg1 ?xh1 ?xc1 ?xi1 ?xt1 ?xk1 ?il1 ?ic1 ?ik1 ?nf1_part ?xa2 ?xl2 ?xs2 ?xg2 ?xh2 ?xc2 ?xi2 ?xt2 ?xk2 ?il2 ?ic2 ?ik2 ?nf2_part ?xa3 ?xl3 ?xs3 ?xg3 ?xh3 ?xc3 ?xi3 ?xt3 ?xk3 ?il3 ?ic3 ?ik3 ?nf3_part ?xa4 ?xl4 ?xs4 ?xg4 ?xh4 ?xc4 ?xi4 ?xt4 ?xk4 ?il4 ?ic4 ?ik4 ?nf4_part ?xa5 ?xl5 ?xs5 ?xg5 ?xh5 ?xc5 ?xi5 ?xt5 ?xk5 ?il5 ?ic5 ?ik5 ?nf5_part ?xa6 ?xl6 ?xs6 ?xg6 ?xh6 ?xc6 ?xi6 ?xt6 ?xk6 ?il6 ?ic6 ?ik6 ?nf6_part ?xa7 ?xl7 ?xs7 ?xg7 ?xh7 ?xc7 ?xi7 ?xt7 ?xk7 ?il7 ?ic7 ?ik7 ?nf7_part ?xa8 ?xl8 ?xs8 ?xg8 ?xh8 ?xc8 ?xi8 ?xt8 ?xk8 ?il8 ?ic8 ?ik8 ?nf8_part ?xa9 ?xl9 ?xs9 ?xg9 ?xh9 ?xc9 ?xi9 ?xt9 ?xk9 ?il9 ?ic9 ?ik9 ?nf9_part ?xa10 ?xl10 ?xs10 ?xg10 ?xh10 ?xc10 ?xi10 ?xt10 ?xk10 ?il10 ?ic10 ?ik10 ?nf10_part ?xa11 ?xl11 ?xs11 ?xg11 ?xh11 ?xc11 ?xi11 ?xt11 ?xk11 ?il11 ?ic11 ?ik11 ?nf11_value ?xa12 ?xl12 ?xs12 ?xg12 ?xh12 ?xc12 ?xi12 ?xt12 ?xk12 ?il12 ?ic12 ?ik12 ?nf12_value ?xa13 ?xl13 ?xs13 ?xg13 ?xh13 ?xc13 ?xi13 ?xt13 ?xk13 ?il13 ?ic13 ?ik13 ?nf13_what ?nf13_most ?xa14 ?xl14 ?xs14 ?xg14 ?xh14 ?xc14 ?xi14 ?xt14 ?xk14 ?il14 ?ic14 ?ik14 ?nf14_item ?xa15 ?xl15 ?xs15 ?xg15 ?xh15 ?xc15 ?xi15 ?xt15 ?xk15 ?il15 ?ic15 ?ik15 ?nf15_line ?nf15_error
    (case a0 => k_is)
    (case l0 => k_is)
    (case c0 => k_is)
    (case k0 => k_is)
    (case a1 => k_is)
    (case l1 => k_is)
    (case c1 => k_is)
    (case k1 => k_is)
    (case a2 => k_is)
    (case l2 => k_is)
    (case c2 => k_is)
    (case k2 => k_is)
    (case a3 => k_is)
    (case l3 => k_is)
    (case c3 => k_is)
    (case k3 => k_is)
    (case a4 => k_is)
    (case l4 => k_is)
    (case c4 => k_is)
    (case k4 => k_is)
    (case a5 => k_is)
    (case l5 => k_is)
    (case c5 => k_is)
    (case k5 => k_is)
    (case a6 => k_is)
    (case l6 => k_is)
    (case c6 => k_is)
    (case k6 => k_is)
    (case z_ValueError => k_is)
    (case z_abs => k_is)
    (case z_int => k_is)
    (case z_isinstance => k_is)
    (case z_len => k_is)
    (case z_range => k_is)
    (case pa => k_is)
    (case pl => k_is)
    (case ehn => k_is)
    (case eht => k_is)
    (case xa0 => k_is)
    (case xl0 => k_is)
    (case xs0 => k_is)
    (case xg0 => k_is)
    (case xh0 => k_is)
    (case xc0 => k_is)
    (case xi0 => k_is)
    (case xt0 => k_is)
    (case xk0 => k_is)
    (case il0 => k_is)
    (case ic0 => k_is)
    (case ik0 => k_is)
    (case nf0_part => k_is)
    (case xa1 => k_is)
    (case xl1 => k_is)
    (case xs1 => k_is)
    (case xg1 => k_is)
    (case xh1 => k_is)
    (case xc1 => k_is)
    (case xi1 => k_is)
    (case xt1 => k_is)
    (case xk1 => k_is)
    (case il1 => k_is)
    (case ic1 => k_is)
    (case ik1 => k_is)
    (case nf1_part => k_is)
    (case xa2 => k_is)
    (case xl2 => k_is)
    (case xs2 => k_is)
    (case xg2 => k_is)
    (case xh2 => k_is)
    (case xc2 => k_is)
    (case xi2 => k_is)
    (case xt2 => k_is)
    (case xk2 => k_is)
    (case il2 => k_is)
    (case ic2 => k_is)
    (case ik2 => k_is)
    (case nf2_part => k_is)
    (case xa3 => k_is)
    (case xl3 => k_is)
    (case xs3 => k_is)
    (case xg3 => k_is)
    (case xh3 => k_is)
    (case xc3 => k_is)
    (case xi3 => k_is)
    (case xt3 => k_is)
    (case xk3 => k_is)
    (case il3 => k_is)
    (case ic3 => k_is)
    (case ik3 => k_is)
    (case nf3_part => k_is)
    (case xa4 => k_is)
    (case xl4 => k_is)
    (case xs4 => k_is)
    (case xg4 => k_is)
    (case xh4 => k_is)
    (case xc4 => k_is)
    (case xi4 => k_is)
    (case xt4 => k_is)
    (case xk4 => k_is)
    (case il4 => k_is)
    (case ic4 => k_is)
    (case ik4 => k_is)
    (case nf4_part => k_is)
    (case xa5 => k_is)
    (case xl5 => k_is)
    (case xs5 => k_is)
    (case xg5 => k_is)
    (case xh5 => k_is)
    (case xc5 => k_is)
    (case xi5 => k_is)
    (case xt5 => k_is)
    (case xk5 => k_is)
    (case il5 => k_is)
    (case ic5 => k_is)
    (case ik5 => k_is)
    (case nf5_part => k_is)
    (case xa6 => k_is)
    (case xl6 => k_is)
    (case xs6 => k_is)
    (case xg6 => k_is)
    (case xh6 => k_is)
    (case xc6 => k_is)
    (case xi6 => k_is)
    (case xt6 => k_is)
    (case xk6 => k_is)
    (case il6 => k_is)
    (case ic6 => k_is)
    (case ik6 => k_is)
    (case nf6_part => k_is)
    (case xa7 => k_is)
    (case xl7 => k_is)
    (case xs7 => k_is)
    (case xg7 => k_is)
    (case xh7 => k_is)
    (case xc7 => k_is)
    (case xi7 => k_is)
    (case xt7 => k_is)
    (case xk7 => k_is)
    (case il7 => k_is)
    (case ic7 => k_is)
    (case ik7 => k_is)
    (case nf7_part => k_is)
    (case xa8 => k_is)
    (case xl8 => k_is)
    (case xs8 => k_is)
    (case xg8 => k_is)
    (case xh8 => k_is)
    (case xc8 => k_is)
    (case xi8 => k_is)
    (case xt8 => k_is)
    (case xk8 => k_is)
    (case il8 => k_is)
    (case ic8 => k_is)
    (case ik8 => k_is)
    (case nf8_part => k_is)
    (case xa9 => k_is)
    (case xl9 => k_is)
    (case xs9 => k_is)
    (case xg9 => k_is)
    (case xh9 => k_is)
    (case xc9 => k_is)
    (case xi9 => k_is)
    (case xt9 => k_is)
    (case xk9 => k_is)
    (case il9 => k_is)
    (case ic9 => k_is)
    (case ik9 => k_is)
    (case nf9_part => k_is)
    (case xa10 => k_is)
    (case xl10 => k_is)
    (case xs10 => k_is)
    (case xg10 => k_is)
    (case xh10 => k_is)
    (case xc10 => k_is)
    (case xi10 => k_is)
    (case xt10 => k_is)
    (case xk10 => k_is)
    (case il10 => k_is)
    (case ic10 => k_is)
    (case ik10 => k_is)
    (case nf10_part => k_is)
    (case xa11 => k_is)
    (case xl11 => k_is)
    (case xs11 => k_is)
    (case xg11 => k_is)
    (case xh11 => k_is)
    (case xc11 => k_is)
    (case xi11 => k_is)
    (case xt11 => k_is)
    (case xk11 => k_is)
    (case il11 => k_is)
    (case ic11 => k_is)
    (case ik11 => k_is)
    (case nf11_value => k_is)
    (case xa12 => k_is)
    (case xl12 => k_is)
    (case xs12 => k_is)
    (case xg12 => k_is)
    (case xh12 => k_is)
    (case xc12 => k_is)
    (case xi12 => k_is)
    (case xt12 => k_is)
    (case xk12 => k_is)
    (case il12 => k_is)
    (case ic12 => k_is)
    (case ik12 => k_is)
    (case nf12_value => k_is)
    (case xa13 => k_is)
    (case xl13 => k_is)
    (case xs13 => k_is)
    (case xg13 => k_is)
    (case xh13 => k_is)
    (case xc13 => k_is)
    (case xi13 => k_is)
    (case xt13 => k_is)
    (case xk13 => k_is)
    (case il13 => k_is)
    (case ic13 => k_is)
    (case ik13 => k_is)
    (case nf13_what => k_is)
    (case nf13_most => k_is)
    (case xa14 => k_is)
    (case xl14 => k_is)
    (case xs14 => k_is)
    (case xg14 => k_is)
    (case xh14 => k_is)
    (case xc14 => k_is)
    (case xi14 => k_is)
    (case xt14 => k_is)
    (case xk14 => k_is)
    (case il14 => k_is)
    (case ic14 => k_is)
    (case ik14 => k_is)
    (case nf14_item => k_is)
    (case xa15 => k_is)
    (case xl15 => k_is)
    (case xs15 => k_is)
    (case xg15 => k_is)
    (case xh15 => k_is)
    (case xc15 => k_is)
    (case xi15 => k_is)
    (case xt15 => k_is)
    (case xk15 => k_is)
    (case il15 => k_is)
    (case ic15 => k_is)
    (case ik15 => k_is)
    (case nf15_line => k_is)
    (case nf15_error => k_is)

