import PyProof.Rows.All
import Wide.All
import OpenK.AllK
import Wide.FinOn
import HandS.ForMost
import HandS.Flow
import HandS.Wide
import HandS.TupAny
import HandS.TupMul
import HandS.Zip
import HandS.Rev
import HandS.IsInst
import HandS.Evl
import KE.GoesEnum
import PyProof.FactsAll.tuple_2
import HandS.Deep
import HandS.More
import KE.GoesMore
import HandS.RevRange
import KE.GoesZip
import HandS.Defaults
import HandS.Style
import KE.KStateDown
import HandS.Ends
import HandS.Words
import HandS.WordsExc
import HandS.Head0
import HandS.Head1
import HandS.Head2
import HandS.HeadEnd
import HandS.HeadHook1
import HandS.HeadHook2
import Q2
import K05B
import KE.KExcSuper
import HandS.ExcOwn
import HandS.TryOnly
import PyProof.FString
import HandS.FStr
import HandS.ExcInit
import HandS.ExcField
import HandS.Conv
import K05S
import PySem.Challenge.RW_freetops_k03_whole_division_and_divisors
set_option Elab.async false
set_option linter.all false
set_option maxRecDepth 100000
set_option maxHeartbeats 2000000
/-! Fz: what a def's text computes on plain data, once and for all. Part A: the wishes, the data, the state. -/
namespace Fz
open PySem PySem.Spec PyProof.Rows L2

/-! ### the best reading of each piece of syntax -/
section
variable (X : Cx)
def wE (e : Expr) : TE := fun σ H Q => ∃ t, PE X e t ∧ t σ H Q
def wT (e : Expr) : TT := fun σ H Q => ∃ t, PT X e t ∧ t σ H Q
def wW (e : Expr) : TT := fun σ H Q => ∃ t, PW X e t ∧ t σ H Q
def wA (es : List Expr) : TA := fun σ H Q => ∃ t, PA X es t ∧ t σ H Q
def wK (ks : List Keyword) : TA := fun σ H Q => ∃ t, PK X ks t ∧ t σ H Q
def wO (e : Option Expr) : TO := fun σ H Q => ∃ t, PO X e t ∧ t σ H Q
def wS (st : Stmt) : TS := fun D σ H => ∃ t, PS X st t ∧ t D σ H
def wSs (st : List Stmt) : TS := fun D σ H => ∃ t, PSs X st t ∧ t D σ H
def wI (tg it : Expr) : TI := fun σ H Q => ∃ t, PI X tg it t ∧ t σ H Q
def wG (tg : Expr) : TG := fun v σ H Q => ∃ t, PG X tg t ∧ t v σ H Q
variable {X}
theorem pe_w {e : Expr} : PE X e (wE X e) := ⟨fun pins s σ H Q I ⟨_, p, q⟩ => p.run pins s σ H Q I q⟩
theorem pt_w {e : Expr} : PT X e (wT X e) := ⟨fun pins s σ H Q I ⟨_, p, q⟩ => p.run pins s σ H Q I q⟩
theorem pw_w {e : Expr} : PW X e (wW X e) := ⟨fun wh pins s σ H Q I ⟨_, p, q⟩ => p.run wh pins s σ H Q I q⟩
theorem pa_w {es : List Expr} : PA X es (wA X es) := ⟨fun pos pins s σ H Q I ⟨_, p, q⟩ => p.run pos pins s σ H Q I q⟩
theorem pk_w {es : List Keyword} : PK X es (wK X es) := ⟨fun pos pins s σ H Q I ⟨_, p, q⟩ => p.run pos pins s σ H Q I q⟩
theorem po_w {e : Option Expr} : PO X e (wO X e) := ⟨fun pins s σ H Q I ⟨_, p, q⟩ => p.run pins s σ H Q I q⟩
theorem ps_w {st : Stmt} : PS X st (wS X st) := ⟨fun pins s σ H D I ⟨_, p, q⟩ => p.run pins s σ H D I q⟩
theorem pss_w {st : List Stmt} : PSs X st (wSs X st) := ⟨fun pins s σ H D I ⟨_, p, q⟩ => p.run pins s σ H D I q⟩
theorem pi_w {tg it : Expr} : PI X tg it (wI X tg it) := ⟨fun pins s σ H Q I ⟨_, p, q⟩ => p.run pins s σ H Q I q⟩
theorem pg_w {tg : Expr} : PG X tg (wG X tg) := ⟨fun pins s σ H v u Q I r ⟨_, p, q⟩ => p.run pins s σ H v u Q I r q⟩
end

/-! ### plain data on the abstract heap -/
abbrev D := PyData
abbrev Ex (G H : Hp) : Prop := Evl.Ex G H
theorem rd_ex {G H : Hp} {a : Addr} {u : HO} (e : Ex G H) (h : Rd G a u) : Rd H a u := Evl.ex_rd e h
mutual
inductive Rp (K : PySem.W.Frag) (G : Hp) : V → D → Prop
  | non : Rp K G .non .none
  | bl (b : Bool) : Rp K G (.bl b) (.bool b)
  | int (i : Int) : Rp K G (.int i) (.int i)
  | str (x : Str) : Rp K G (.str x) (.str x)
  | lst {a : Addr} {xs : List V} {ds : List D} : Rd G a (.lst xs) → Rps K G xs ds → Rp K G (.ref a) (.list ds)
  | tup {a : Addr} {xs : List V} {ds : List D} : SqT K G a xs → Rps K G xs ds → Rp K G (.ref a) (.tuple ds)
  /-- a list that is only cut: the script -/
  | scr {a : Addr} {xs : List V} {ds : List D} : SqL K G a xs → Rps K G xs ds → Rp K G (.ref a) (.dict [(.none, .list ds)])
inductive Rps (K : PySem.W.Frag) (G : Hp) : List V → List D → Prop
  | nil : Rps K G [] []
  | cons {v : V} {vs : List V} {d : D} {ds : List D} : Rp K G v d → Rps K G vs ds → Rps K G (v :: vs) (d :: ds)
end
section
variable {K : PySem.W.Frag} {G H : Hp}
mutual
theorem Rp.mono (e : Ex G H) : ∀ {v : V} {d : D}, Rp K G v d → Rp K H v d
  | _, _, .non => .non
  | _, _, .bl b => .bl b
  | _, _, .int i => .int i
  | _, _, .str x => .str x
  | _, _, .lst h r => .lst (rd_ex e h) (Rps.mono e r)
  | _, _, .tup h r => .tup (Evl.ex_t e h) (Rps.mono e r)
  | _, _, .scr h r => .scr (Evl.ex_l e h) (Rps.mono e r)
theorem Rps.mono (e : Ex G H) : ∀ {vs : List V} {ds : List D}, Rps K G vs ds → Rps K H vs ds
  | _, _, .nil => .nil
  | _, _, .cons h r => .cons (Rp.mono e h) (Rps.mono e r)
end
mutual
theorem Rp.dp (e : Ex G H) : ∀ {v : V} {d : D}, d.canLay0 = true → Rp K G v d → Dp K H v d
  | _, _, _, .non => .non
  | _, _, _, .bl b => .bl b
  | _, _, _, .int i => .int i
  | _, _, _, .str x => .str x
  | _, _, c, .lst h r => .lst (.inl (rd_ex e h)) (Rps.dp e (by simpa [PyData.canLay0] using c) r)
  | _, _, c, .tup h r => .tup (Evl.ex_t e h) (Rps.dp e (by simpa [PyData.canLay0] using c) r)
  | _, _, c, .scr h r => by simp [PyData.canLay0] at c
theorem Rps.dp (e : Ex G H) : ∀ {vs : List V} {ds : List D}, PyData.canLayAll0 ds = true → Rps K G vs ds → DpAll K H vs ds
  | _, _, _, .nil => .nil
  | _, _, c, .cons h r => by
    rw [PyData.canLayAll0, Bool.and_eq_true] at c
    exact .cons (Rp.dp e c.1 h) (Rps.dp e c.2 r)
end
theorem Rps.length : ∀ {vs : List V} {ds : List D}, Rps K G vs ds → vs.length = ds.length
  | _, _, .nil => rfl
  | _, _, .cons _ r => by rw [List.length_cons, List.length_cons, r.length]
theorem Rps.get : ∀ {vs : List V} {ds : List D} {i : Nat} {d : D}, Rps K G vs ds → ds[i]? = some d → ∃ v, vs[i]? = some v ∧ Rp K G v d
  | _, _, _, _, .nil, h => by simp at h
  | _, _, 0, _, .cons h _, e => by simp at e; subst e; exact ⟨_, rfl, h⟩
  | _, _, i + 1, _, .cons _ r, e => by simp at e; obtain ⟨v, h1, h2⟩ := r.get e; exact ⟨v, by simpa using h1, h2⟩
theorem Rps.of : ∀ {vs : List V} {ds : List D} {i : Nat} {v : V}, Rps K G vs ds → vs[i]? = some v → ∃ d, ds[i]? = some d ∧ Rp K G v d
  | _, _, _, _, .nil, h => by simp at h
  | _, _, 0, _, .cons h _, e => by simp at e; subst e; exact ⟨_, rfl, h⟩
  | _, _, i + 1, _, .cons _ r, e => by simp at e; obtain ⟨d, h1, h2⟩ := r.of e; exact ⟨d, by simpa using h1, h2⟩
theorem Rps.append : ∀ {vs us : List V} {ds es : List D}, Rps K G vs ds → Rps K G us es → Rps K G (vs ++ us) (ds ++ es)
  | _, _, _, _, .nil, s => s
  | _, _, _, _, .cons h r, s => .cons h (r.append s)
theorem Rps.set : ∀ {vs : List V} {ds : List D} {v : V} {d : D} (i : Nat), Rps K G vs ds → Rp K G v d → Rps K G (vs.set i v) (ds.set i d)
  | _, _, _, _, _, .nil, _ => .nil
  | _, _, _, _, 0, .cons _ r, q => .cons q r
  | _, _, _, _, i + 1, .cons h r, q => .cons h (r.set i q)
theorem Rps.take : ∀ {vs : List V} {ds : List D} (n : Nat), Rps K G vs ds → Rps K G (vs.take n) (ds.take n)
  | _, _, 0, _ => by rw [List.take_zero, List.take_zero]; exact .nil
  | _, _, _ + 1, .nil => .nil
  | _, _, n + 1, .cons h r => .cons h (r.take n)
theorem Rps.drop : ∀ {vs : List V} {ds : List D} (n : Nat), Rps K G vs ds → Rps K G (vs.drop n) (ds.drop n)
  | _, _, 0, r => r
  | _, _, _ + 1, .nil => .nil
  | _, _, n + 1, .cons _ r => r.drop n
theorem Rps.dropLast : ∀ {vs : List V} {ds : List D}, Rps K G vs ds → Rps K G vs.dropLast ds.dropLast
  | _, _, .nil => .nil
  | _, _, .cons _ .nil => .nil
  | _, _, .cons h (.cons h2 r) => .cons h (Rps.dropLast (.cons h2 r))
theorem Rps.reverse {vs : List V} {ds : List D} (h : Rps K G vs ds) : Rps K G vs.reverse ds.reverse := by
  match vs, ds, h with
  | _, _, .nil => exact .nil
  | v :: vs, d :: ds, .cons h r =>
    rw [List.reverse_cons, List.reverse_cons]
    exact (Rps.reverse r).append (.cons h .nil)
theorem Rps.rep {vs : List V} {ds : List D} (h : Rps K G vs ds) : ∀ k : Nat, Rps K G (List.replicate k vs).flatten (List.replicate k ds).flatten
  | 0 => .nil
  | k + 1 => by
    rw [List.replicate_succ, List.replicate_succ, List.flatten_cons, List.flatten_cons]
    exact h.append (h.rep k)
end

/-! ### the state: slots that hold data, slots that own a list, the bag -/
inductive Sl where
  | no
  | val (d : D)
  | own (l : List D)
  | bag
  | tpo (ds1 l ds2 : List D)
structure En where
  sl : List Sl
  bg : List D
def SlR (K : PySem.W.Frag) (G H : Hp) (ρ : Addr → Option Nat) (β : Option Addr) (i : Nat) (o : Option (Option V)) : Sl → Prop
  | .no => True
  | .val d => ∃ v, o = some (some v) ∧ Rp K G v d
  | .own l => ∃ a vs, o = some (some (.ref a)) ∧ ρ a = some (i + 1) ∧ H a = some (.lst vs) ∧ Rps K G vs l
  | .bag => ∃ a, β = some a ∧ o = some (some (.ref a))
  | .tpo ds1 l ds2 => ∃ t q us1 us2 ws, o = some (some (.ref t)) ∧ SqT K G t (us1 ++ .ref q :: us2) ∧ Rps K G us1 ds1 ∧ Rps K G us2 ds2 ∧ ρ q = some (i + 1) ∧ H q = some (.lst ws) ∧ Rps K G ws l
structure R (K : PySem.W.Frag) (β : Option Addr) (G H : Hp) (ρ : Addr → Option Nat) (σ : L2.St) (e : En) : Prop where
  len : σ.length = e.sl.length
  ex : Ex G H
  ow : ∀ a, ρ a ≠ none → G a = none ∧ H a ≠ none
  sl : ∀ i s, e.sl[i]? = some s → SlR K G H ρ β i σ[i]? s
  bg : ∀ a, β = some a → ρ a = some 0 ∧ ∃ vs, H a = some (.lst vs) ∧ Rps K G vs e.bg
structure Fr (G H : Hp) (ρ : Addr → Option Nat) (G' H' : Hp) (ρ' : Addr → Option Nat) : Prop where
  ex : Ex G G'
  keep : ∀ a o, H a = some o → ρ a = none → H' a = some o ∧ ρ' a = none ∧ (G a = none → G' a = none)
  dom : ∀ a, H' a = none → H a = none
section
variable {K : PySem.W.Frag} {β : Option Addr} {G H G' H' G2 H2 : Hp} {ρ ρ' ρ2 : Addr → Option Nat} {σ : L2.St} {e : En}
theorem Fr.refl : Fr G H ρ G H ρ := ⟨Evl.Ex.refl G, fun a o h r => ⟨h, r, id⟩, fun _ h => h⟩
theorem Fr.trans (a : Fr G H ρ G' H' ρ') (b : Fr G' H' ρ' G2 H2 ρ2) : Fr G H ρ G2 H2 ρ2 :=
  ⟨a.ex.trans b.ex, fun p o h r => by
    obtain ⟨h1, r1, g1⟩ := a.keep p o h r
    obtain ⟨h2, r2, g2⟩ := b.keep p o h1 r1
    exact ⟨h2, r2, fun z => g2 (g1 z)⟩, fun p h => a.dom p (b.dom p h)⟩
/-- a value: plain data, or a list that nobody holds yet -/
def VR (K : PySem.W.Frag) (H0 G H : Hp) (ρ : Addr → Option Nat) (d : D) (v : V) : Bool → Prop
  | false => Rp K G v d
  | true => ∃ a l vs, v = .ref a ∧ d = .list l ∧ H0 a = none ∧ G a = none ∧ ρ a = none ∧ H a = some (.lst vs) ∧ Rps K G vs l
theorem SlR.mono {i : Nat} {o : Option (Option V)} {s : Sl} (x : Ex G G') (hh : ∀ a, ρ a ≠ none → H' a = H a) (h : SlR K G H ρ β i o s) : SlR K G' H' ρ β i o s := by
  cases s with
  | no => exact h
  | bag => exact h
  | val d => obtain ⟨v, h1, h2⟩ := h; exact ⟨v, h1, h2.mono x⟩
  | own l =>
    obtain ⟨a, vs, h1, h2, h3, h4⟩ := h
    exact ⟨a, vs, h1, h2, (hh a (by rw [h2]; simp)).trans h3, h4.mono x⟩
  | tpo ds1 l ds2 =>
    obtain ⟨t, q, us1, us2, ws, h1, h2, h3, h4, h5, h6, h7⟩ := h
    exact ⟨t, q, us1, us2, ws, h1, Evl.ex_t x h2, h3.mono x, h4.mono x, h5, (hh q (by rw [h5]; simp)).trans h6, h7.mono x⟩
/-- a new object that nobody owns -/
theorem R.grow {p : Addr} {o : HO} (r : R K β G H ρ σ e) (hp : H p = none) : R K β G (upd H p o) ρ σ e := by
  have ne : ∀ a, ρ a ≠ none → a ≠ p := fun a h z => (r.ow a h).2 (by rw [z]; exact hp)
  refine ⟨r.len, fun a u h => ?_, fun a h => ⟨(r.ow a h).1, ?_⟩, fun i s h => (r.sl i s h).mono (Evl.Ex.refl G) fun a h => upd_ne (ne a h), fun a h => ?_⟩
  · have := r.ex a u h
    rw [upd_ne (ne_of_none this hp)]
    exact this
  · rw [upd_ne (ne a h)]
    exact (r.ow a h).2
  · obtain ⟨h1, vs, h2, h3⟩ := r.bg a h
    exact ⟨h1, vs, by rw [upd_ne (ne a (by rw [h1]; simp))]; exact h2, h3⟩
theorem Fr.grow {p : Addr} {o : HO} (hp : H p = none) : Fr G H ρ G (upd H p o) ρ :=
  ⟨Evl.Ex.refl G, fun a u h r => ⟨by rw [upd_ne (ne_of_none h hp)]; exact h, r, id⟩, fun a h => by
    by_cases z : a = p
    · rw [z]; exact hp
    · rw [upd_ne z] at h; exact h⟩
theorem R.free {p : Addr} (r : R K β G H ρ σ e) (hp : H p = none) : ρ p = none ∧ G p = none := by
  constructor
  · by_cases h : ρ p = none
    · exact h
    · exact absurd hp (r.ow p h).2
  · cases h : G p with
    | none => rfl
    | some o => rw [r.ex p o h] at hp; cases hp
/-- what stands in H and is nobody's may be locked -/
theorem R.lock {p : Addr} {o : HO} (r : R K β G H ρ σ e) (hp : H p = some o) (hg : G p = none) (hr : ρ p = none) : R K β (upd G p o) H ρ σ e := by
  have x : Ex G (upd G p o) := Evl.Ex.new hg
  refine ⟨r.len, fun a u h => ?_, fun a h => ⟨?_, (r.ow a h).2⟩, fun i s h => (r.sl i s h).mono x fun _ _ => rfl, fun a h => ?_⟩
  · by_cases z : a = p
    · subst z
      rw [upd_same] at h
      rw [hp, h]
    · rw [upd_ne z] at h
      exact r.ex a u h
  · rw [upd_ne (fun z => h (by rw [z]; exact hr))]
    exact (r.ow a h).1
  · obtain ⟨h1, vs, h2, h3⟩ := r.bg a h
    exact ⟨h1, vs, h2, h3.mono x⟩
theorem Fr.lock {p : Addr} {o : HO} (f : Fr G H ρ G' H' ρ') (hp : H p = none) (hg : G' p = none) : Fr G H ρ (upd G' p o) H' ρ' :=
  ⟨f.ex.trans (Evl.Ex.new hg), fun a u h r => by
    obtain ⟨h1, h2, h3⟩ := f.keep a u h r
    exact ⟨h1, h2, fun z => by rw [upd_ne (ne_of_none h hp)]; exact h3 z⟩, f.dom⟩
end
end Fz
set_option Elab.async false
set_option linter.all false
set_option maxRecDepth 100000
set_option maxHeartbeats 2000000
/-! Fz, part B: what expressions evaluate to. -/
namespace Fz
open PySem PySem.Spec PyProof.Rows L2

def isStar : Expr → Bool
  | .Starred .. => true
  | _ => false
def isSet : Expr → Bool
  | .Set .. => true
  | _ => false
def isSlice : Expr → Bool
  | .Slice .. => true
  | _ => false
theorem star_ok {e : Expr} {es : List Expr} {env : Env} (h : isStar e = false) : starEach (e :: es) env = (false, eval e env) :: starEach es env := by
  cases e <;> first | rfl | cases h
theorem stars_ok {pos : Pos} {env : Env} : ∀ {es : List Expr}, es.all (fun e => !isStar e) = true → (backTo pos (starEach es env)).any (·.1) = false
  | [], _ => rfl
  | e :: es, h => by
    rw [List.all_cons, Bool.and_eq_true] at h
    have h1 : isStar e = false := by simpa using h.1
    rw [star_ok h1]
    have ih := stars_ok (pos := pos) (env := env) h.2
    unfold backTo at ih ⊢
    rw [List.map_cons, List.any_cons, ih]
    rfl
theorem mark_ok {op : CmpOp} {b : Expr} (h : isSet b = false) : behindInMarks op b = false := by
  cases b <;> first | rfl | cases h
theorem ix_ok {b : Expr} (h : isSlice b = false) : PlainIx b := by
  intro o i
  cases b <;> first | rfl | cases h

abbrev Own := Addr → Option Nat
section
variable {X : Cx} {β : Option Addr}
def Den (X : Cx) (β : Option Addr) (e : Expr) (a : En) (o : Bool) (d : D) (b : En) : Prop :=
  ∀ (G H : Hp) (ρ : Own) (σ : L2.St) (Q : VK), R X.K β G H ρ σ a →
    (∀ v G' H' ρ', Fr G H ρ G' H' ρ' → R X.K β G' H' ρ' σ b → VR X.K H G' H' ρ' d v o → Q v H') → wE X e σ H Q
def DenA (X : Cx) (β : Option Addr) (es : List Expr) (a : En) (ds : List D) (b : En) : Prop :=
  ∀ (G H : Hp) (ρ : Own) (σ : L2.St) (Q : List V → Hp → Prop), R X.K β G H ρ σ a →
    (∀ vs G' H' ρ', Fr G H ρ G' H' ρ' → R X.K β G' H' ρ' σ b → Rps X.K G' vs ds → Q vs H') → wA X es σ H Q
def DenT (X : Cx) (β : Option Addr) (e : Expr) (a : En) (k : Bool) (b : En) : Prop :=
  ∀ (G H : Hp) (ρ : Own) (σ : L2.St) (Q : Bool → Hp → Prop), R X.K β G H ρ σ a →
    (∀ G' H' ρ', Fr G H ρ G' H' ρ' → R X.K β G' H' ρ' σ b → Q k H') → wT X e σ H Q
/-- a new list that is held is locked -/
theorem Den.fz {e : Expr} {a b : En} {o : Bool} {d : D} (h : Den X β e a o d b) : Den X β e a false d b := by
  cases o with
  | false => exact h
  | true =>
    intro G H ρ σ Q r q
    refine h G H ρ σ Q r fun v G' H' ρ' f r' x => ?_
    obtain ⟨p, l, vs, rfl, rfl, h0, hg, hr, hh, hv⟩ := x
    exact q _ (upd G' p (.lst vs)) H' ρ' (f.lock h0 hg) (r'.lock hh hg hr) (.lst (.inl upd_same) (hv.mono (Evl.Ex.new hg)))

/-! the ends of what makes a value -/
section
variable {K : PySem.W.Frag} {G H : Hp} {ρ : Own} {σ : L2.St} {e : En} {Q : VK}
/-- the continuation at a state -/
def Kn (K : PySem.W.Frag) (β : Option Addr) (G H : Hp) (ρ : Own) (σ : L2.St) (b : En) (o : Bool) (d : D) (Q : VK) : Prop :=
  ∀ v G' H' ρ', Fr G H ρ G' H' ρ' → R K β G' H' ρ' σ b → VR K H G' H' ρ' d v o → Q v H'
theorem Kn.at {o : Bool} {d : D} {b : En} {G1 H1 : Hp} {ρ1 : Own} (q : Kn K β G H ρ σ b o d Q) (f : Fr G H ρ G1 H1 ρ1) : Kn K β G1 H1 ρ1 σ b o d Q := fun v G' H' ρ' f' r' x => by
  refine q v G' H' ρ' (f.trans f') r' ?_
  cases o with
  | false => exact x
  | true =>
    obtain ⟨p, l, vs, h1, h2, h3, h4⟩ := x
    exact ⟨p, l, vs, h1, h2, f.dom p h3, h4⟩
theorem R.newL {vs : List V} {l : List D} (r : R K β G H ρ σ e) (hv : Rps K G vs l) (q : Kn K β G H ρ σ e true (.list l) Q) : ∀ p, H p = none → Q (.ref p) (upd H p (.lst vs)) := fun p hp =>
  q _ G _ ρ (.grow hp) (r.grow hp) ⟨p, l, vs, rfl, rfl, hp, (r.free hp).2, (r.free hp).1, upd_same, hv⟩
theorem R.newT {vs : List V} {l : List D} (r : R K β G H ρ σ e) (hv : Rps K G vs l) (q : Kn K β G H ρ σ e false (.tuple l) Q) : ∀ p, H p = none → Q (.ref p) (upd H p (.tup vs)) := fun p hp => by
  have hg := (r.free hp).2
  refine q _ (upd G p (.tup vs)) _ ρ ((Fr.grow hp).lock hp hg) ((r.grow hp).lock upd_same hg (r.free hp).1) ?_
  exact .tup (.inl (.inl upd_same)) (hv.mono (Evl.Ex.new hg))
theorem R.flat {d : D} {v : V} (r : R K β G H ρ σ e) (q : Kn K β G H ρ σ e false d Q) (h : Rp K G v d) : Q v H := q v G H ρ .refl r h
end

/-! ### names and constants -/
theorem den_int {i : Int} {j : Nat} {pos : Pos} {a : En} : Den X β (.Constant (.int i) j pos) a false (.int i) a := fun G H ρ σ Q r q => ⟨_, pe_int, r.flat q (.int i)⟩
theorem den_bl {b : Bool} {j : Nat} {pos : Pos} {a : En} : Den X β (.Constant (.bool b) j pos) a false (.bool b) a := fun G H ρ σ Q r q => ⟨_, pe_bl, r.flat q (.bl b)⟩
theorem den_non {j : Nat} {pos : Pos} {a : En} : Den X β (.Constant .none j pos) a false .none a := fun G H ρ σ Q r q => ⟨_, pe_non, r.flat q .non⟩
theorem den_str {x : Str} {j : Nat} {pos : Pos} {a : En} : Den X β (.Constant (.str x) j pos) a false (.str x) a := fun G H ρ σ Q r q => ⟨_, pe_str, r.flat q (.str x)⟩
/-- a name as a value: its list is locked -/
def lockS (a : En) (i : Nat) : Option (D × En) :=
  match a.sl[i]? with
  | some (.val d) => some (d, a)
  | some (.own l) => some (.list l, { a with sl := a.sl.set i (.val (.list l)) })
  | _ => none
theorem den_name {x : Str} {pos : Pos} {i : Nat} {a b : En} {d : D} (hN : X.N[i]? = some x) (hv : Vis X.env.scope x) (hd : (x == ("__debug__" : Str)) = false) (hcd : (x == ("__classdict__" : Str)) = false) (h : lockS a i = some (d, b)) : Den X β (.Name x pos) a false d b := by
  intro G H ρ σ Q r q
  unfold lockS at h
  cases e : a.sl[i]? with
  | none => rw [e] at h; cases h
  | some s =>
    rw [e] at h
    have w := r.sl i s e
    cases s with
    | no => cases h
    | bag => cases h
    | tpo _ _ _ => cases h
    | val d0 =>
      cases h
      obtain ⟨v, h1, h2⟩ := w
      exact ⟨_, pe_var hN hv hd hcd, v, h1, r.flat q h2⟩
    | own l =>
      cases h
      obtain ⟨p, vs, h1, h2, h3, h4⟩ := w
      refine ⟨_, pe_var hN hv hd hcd, .ref p, h1, ?_⟩
      have hg : G p = none := (r.ow p (by rw [h2]; simp)).1
      have x : Ex G (upd G p (.lst vs)) := Evl.Ex.new hg
      refine q (.ref p) (upd G p (.lst vs)) H (fun z => if z = p then none else ρ z) ⟨x, fun z o hz hr => ?_, fun _ k => k⟩ ?_ (.lst (.inl upd_same) (h4.mono x))
      · have ne : z ≠ p := fun k => by rw [k, h2] at hr; cases hr
        exact ⟨hz, by simp [ne, hr], fun g => by rw [upd_ne ne]; exact g⟩
      · refine ⟨by rw [r.len]; simp, fun z u hz => ?_, fun z hz => ?_, fun j s hj => ?_, fun z hz => ?_⟩
        · by_cases k : z = p
          · subst k; rw [upd_same] at hz; rw [← hz]; exact h3
          · rw [upd_ne k] at hz; exact r.ex z u hz
        · have ne : z ≠ p := fun k => hz (by simp [k])
          simp only [ne, if_false] at hz
          exact ⟨by rw [upd_ne ne]; exact (r.ow z hz).1, (r.ow z hz).2⟩
        · by_cases k : j = i
          · subst k
            have hl : j < a.sl.length := (List.getElem?_eq_some_iff.mp e).1
            simp only [List.getElem?_set, if_true, hl] at hj
            cases hj
            exact ⟨_, h1, .lst (.inl upd_same) (h4.mono x)⟩
          · simp only [List.getElem?_set, if_neg (Ne.symm k)] at hj
            have w := r.sl j s hj
            cases s with
            | no => trivial
            | bag => exact w
            | val d0 => obtain ⟨v, w1, w2⟩ := w; exact ⟨v, w1, w2.mono x⟩
            | own l' =>
              obtain ⟨p', vs', w1, w2, w3, w4⟩ := w
              have ne : p' ≠ p := fun z => by rw [z, h2] at w2; simp at w2; exact k w2.symm
              exact ⟨p', vs', w1, by simp [ne, w2], w3, w4.mono x⟩
            | tpo ds1 l2 ds2 =>
              obtain ⟨t, p', us1, us2, vs', w1, w2, w3, w4, w5, w6, w7⟩ := w
              have ne : p' ≠ p := fun z => by rw [z, h2] at w5; simp at w5; exact k w5.symm
              exact ⟨t, p', us1, us2, vs', w1, Evl.ex_t x w2, w3.mono x, w4.mono x, by simp [ne, w5], w6, w7.mono x⟩
        · obtain ⟨b1, ws, b2, b3⟩ := r.bg z hz
          have ne : z ≠ p := fun k => by rw [k, h2] at b1; simp at b1
          exact ⟨by simp [ne, b1], ws, b2, b3.mono x⟩

/-! ### arguments, displays -/
theorem dena_nil {a : En} : DenA X β [] a [] a := fun G H ρ σ Q r q => ⟨_, pa_nil, q [] G H ρ .refl r .nil⟩
theorem dena_cons {e : Expr} {es : List Expr} {a b c : En} {o : Bool} {d : D} {ds : List D} (hs : isStar e = false) (h1 : Den X β e a o d b) (h2 : DenA X β es b ds c) : DenA X β (e :: es) a (d :: ds) c := by
  intro G H ρ σ Q r q
  refine ⟨_, pa_cons pe_w pa_w (star_ok hs), h1.fz G H ρ σ _ r fun v G1 H1 ρ1 f1 r1 x1 => h2 G1 H1 ρ1 σ _ r1 fun vs G2 H2 ρ2 f2 r2 x2 => ?_⟩
  exact q (v :: vs) G2 H2 ρ2 (f1.trans f2) r2 (.cons (Rp.mono f2.ex x1) x2)
theorem len_ok {n : Nat} (h : n ≤ 1000000) : n ≤ sizeLine := Nat.le_trans h (by decide)
theorem den_list {es : List Expr} {pos : Pos} {a b : En} {ds : List D} (h : DenA X β es a ds b) (hl : ds.length ≤ 1000000) : Den X β (.List es pos) a true (.list ds) b := by
  intro G H ρ σ Q r q
  refine ⟨_, pe_lst pa_w, h G H ρ σ _ r fun vs G1 H1 ρ1 f1 r1 x1 => ⟨by rw [x1.length]; exact len_ok hl, r1.newL x1 (Kn.at q f1)⟩⟩
theorem den_tuple {es : List Expr} {k : Nat} {pos : Pos} {a b : En} {ds : List D} (h : DenA X β es a ds b) (hl : ds.length ≤ 1000000) : Den X β (.Tuple es k pos) a false (.tuple ds) b := by
  intro G H ρ σ Q r q
  refine ⟨_, pe_tup pa_w, h G H ρ σ _ r fun vs G1 H1 ρ1 f1 r1 x1 => ⟨by rw [x1.length]; exact len_ok hl, r1.newT x1 (Kn.at q f1)⟩⟩

/-! ### operators by values -/
/-- the left value: plain data, or a list just made -/
def VL (K : PySem.W.Frag) (G H : Hp) (x : V) (d : D) : Bool → Prop
  | false => Rp K G x d
  | true => ∃ a l vs, x = .ref a ∧ d = .list l ∧ H a = some (.lst vs) ∧ Rps K G vs l
theorem VR.keep {H0 G H G' H' : Hp} {ρ ρ' : Own} {d : D} {v : V} {o : Bool} (x : VR X.K H0 G H ρ d v o) (f : Fr G H ρ G' H' ρ') : VL X.K G' H' v d o := by
  cases o with
  | false => exact Rp.mono f.ex x
  | true =>
    obtain ⟨a, l, vs, h1, h2, h3, h4, h5, h6, h7⟩ := x
    exact ⟨a, l, vs, h1, h2, (f.keep a _ h6 h5).1, h7.mono f.ex⟩
def V2 (X : Cx) (β : Option Addr) (b : En) (r : R2) (o1 : Bool) (d1 d2 : D) (o : Bool) (d : D) : Prop :=
  ∀ (G H : Hp) (ρ : Own) (σ : L2.St) (x y : V) (Q : VK), R X.K β G H ρ σ b → VL X.K G H x d1 o1 → Rp X.K G y d2 → Kn X.K β G H ρ σ b o d Q → r x y H Q
theorem den_bin {op : Operator} {r : R2} {l e : Expr} {pos : Pos} {a b c : En} {o1 o2 o : Bool} {d1 d2 d : D} (ho : OpR X (binaryOp op) r) (h1 : Den X β l a o1 d1 b) (h2 : Den X β e b o2 d2 c) (hv : V2 X β c r o1 d1 d2 o d) : Den X β (.BinOp l op e pos) a o d c := by
  intro G H ρ σ Q r0 q
  refine ⟨_, pe_op ho pe_w pe_w, h1 G H ρ σ _ r0 fun x G1 H1 ρ1 f1 r1 x1 => h2.fz G1 H1 ρ1 σ _ r1 fun y G2 H2 ρ2 f2 r2 x2 => ?_⟩
  exact hv G2 H2 ρ2 σ x y Q r2 (x1.keep f2) x2 (Kn.at q (f1.trans f2))
theorem den_cmp {op : CmpOp} {r : R2} {l e : Expr} {pos : Pos} {a b c : En} {o1 o2 o : Bool} {d1 d2 d : D} (hm : isSet e = false) (ho : OpR X (compareOp op) r) (h1 : Den X β l a o1 d1 b) (h2 : Den X β e b o2 d2 c) (hv : V2 X β c r o1 d1 d2 o d) :
    Den X β (.Compare l [op] [e] pos) a o d c := by
  intro G H ρ σ Q r0 q
  refine ⟨_, pe_cmpR ho pe_w pe_w (mark_ok hm), h1 G H ρ σ _ r0 fun x G1 H1 ρ1 f1 r1 x1 => h2.fz G1 H1 ρ1 σ _ r1 fun y G2 H2 ρ2 f2 r2 x2 => ?_⟩
  exact hv G2 H2 ρ2 σ x y Q r2 (x1.keep f2) x2 (Kn.at q (f1.trans f2))
def V1 (X : Cx) (β : Option Addr) (b : En) (r : V → Hp → VK → Prop) (d1 : D) (o : Bool) (d : D) : Prop :=
  ∀ (G H : Hp) (ρ : Own) (σ : L2.St) (x : V) (Q : VK), R X.K β G H ρ σ b → Rp X.K G x d1 → Kn X.K β G H ρ σ b o d Q → r x H Q
theorem den_un {op : UnaryOp} {r : V → Hp → VK → Prop} {e : Expr} {pos : Pos} {a b : En} {o1 o : Bool} {d1 d : D} (ho : UnR X (unaryOp op) r) (h1 : Den X β e a o1 d1 b) (hv : V1 X β b r d1 o d) : Den X β (.UnaryOp op e pos) a o d b := by
  intro G H ρ σ Q r0 q
  refine ⟨_, pe_un ho pe_w, h1.fz G H ρ σ _ r0 fun x G1 H1 ρ1 f1 r1 x1 => ?_⟩
  exact hv G1 H1 ρ1 σ x Q r1 x1 (Kn.at q f1)
def VA (X : Cx) (β : Option Addr) (b : En) (r : List V → Hp → VK → Prop) (ds : List D) (o : Bool) (d : D) : Prop :=
  ∀ (G H : Hp) (ρ : Own) (σ : L2.St) (xs : List V) (Q : VK), R X.K β G H ρ σ b → Rps X.K G xs ds → Kn X.K β G H ρ σ b o d Q → r xs H Q
theorem den_callB {id : String} {r : List V → Hp → VK → Prop} {x : Str} {p pos : Pos} {e : Expr} {es : List Expr} {a b : En} {ds : List D} {o : Bool} {d : D} (hs : (e :: es).all (fun e => !isStar e) = true) (hc : CallR X (.builtin id) r) (hg : Gl X x) (hm : X.mg x = none)
    (hv : bootBuiltins x = some (.builtin id)) (hn : x ≠ "__name__") (hdb : (x == ("__debug__" : Str)) = false) (ha : DenA X β (e :: es) a ds b) (h : VA X β b r ds o d) : Den X β (.Call (.Name x p) (e :: es) [] pos) a o d b := by
  intro G H ρ σ Q r0 q
  rw [List.all_cons, Bool.and_eq_true] at hs
  refine ⟨_, pe_callB hc hg hm hv pa_w hn hdb (star_ok (by simpa using hs.1)) (stars_ok hs.2), ha G H ρ σ _ r0 fun vs G1 H1 ρ1 f1 r1 x1 => ?_⟩
  exact h G1 H1 ρ1 σ vs Q r1 x1 (Kn.at q f1)
theorem den_callTy {id : String} {r : List V → Hp → VK → Prop} {x : Str} {p pos : Pos} {e : Expr} {es : List Expr} {a b : En} {ds : List D} {o : Bool} {d : D} (hs : (e :: es).all (fun e => !isStar e) = true) (hc : CallR X (.type id) r) (hg : Gl X x) (hm : X.mg x = none)
    (hv : bootBuiltins x = some (.type id)) (hn : x ≠ "__name__") (hdb : (x == ("__debug__" : Str)) = false) (ha : DenA X β (e :: es) a ds b) (h : VA X β b r ds o d) : Den X β (.Call (.Name x p) (e :: es) [] pos) a o d b := by
  intro G H ρ σ Q r0 q
  rw [List.all_cons, Bool.and_eq_true] at hs
  refine ⟨_, pe_callTy hc hg hm hv pa_w hn hdb (star_ok (by simpa using hs.1)) (stars_ok hs.2), ha G H ρ σ _ r0 fun vs G1 H1 ρ1 f1 r1 x1 => ?_⟩
  exact h G1 H1 ρ1 σ vs Q r1 x1 (Kn.at q f1)
end
end Fz
set_option Elab.async false
set_option linter.all false
set_option maxRecDepth 100000
set_option maxHeartbeats 4000000
/-! Fz, part C: operators and built-ins, by values. -/
namespace Fz
open PySem PySem.Spec PyProof.Rows L2

/-! ### a tuple times an int at or below 1 -/
theorem tup_times_few (l : Addr) (its : Array Value) (n : Nat) (dd : Option Addr) (sl : Array (Option Value)) (x : Int) (u : Tok)
    (c0 : (decide (x < -(2 ^ 63)) || decide (x ≥ 2 ^ 63)) = false) (c1 : (its.isEmpty || x == 1) = false) (c2 : (decide (x ≤ 0) || its.isEmpty) = true) :
    Meets (Builtin.«tuple.__mul__» ⟨[.ref l, .int x u], []⟩) (fun _ RR s => s.heap.get? l = some { cls := .type "tuple", dict := dd, data := .seq its n, slots := sl } ∧
      RR (.ok (.ret (Value.ref s.heap.objs.size))) { s with heap := s.heap.push { cls := Value.type "tuple", data := Data.seq #[] }, toks := s.toks }) :=
  .of_wp fun prog w A RR s h => by
    obtain ⟨hp, g, d, tk, os⟩ := s
    obtain ⟨hl, h⟩ := h
    have f1 := AutoSeq1.idx_int
    wp_walk using wpAny_loadPart' hl
    repeat (first
      | (refine wpAny_ite_false (decide_eq_false (by rw [c0]; exact Bool.false_ne_true)) ?_; wp_walk using wpAny_loadPart' hl)
      | (refine wpAny_ite_false (decide_eq_false (by rw [c1]; exact Bool.false_ne_true)) ?_; wp_walk using wpAny_loadPart' hl)
      | (refine wpAny_ite_true (decide_eq_true c2) ?_; wp_walk using wpAny_loadPart' hl)
      | (refine wpAny_ite_false (decide_eq_false (by decide)) ?_; wp_walk using wpAny_loadPart' hl))
    exact ⟨_, rfl, h⟩
theorem tup_times_same (l : Addr) (its : Array Value) (n : Nat) (dd : Option Addr) (sl : Array (Option Value)) (x : Int) (u : Tok)
    (c0 : (decide (x < -(2 ^ 63)) || decide (x ≥ 2 ^ 63)) = false) (c1 : (its.isEmpty || x == 1) = true) :
    Meets (Builtin.«tuple.__mul__» ⟨[.ref l, .int x u], []⟩) (fun _ RR s => s.heap.get? l = some { cls := .type "tuple", dict := dd, data := .seq its n, slots := sl } ∧
      RR (.ok (.ret (Value.ref l))) s) :=
  .of_wp fun prog w A RR s h => by
    obtain ⟨hp, g, d, tk, os⟩ := s
    obtain ⟨hl, h⟩ := h
    have f1 := AutoSeq1.idx_int
    wp_walk using wpAny_loadPart' hl
    repeat (first
      | (refine wpAny_ite_false (decide_eq_false (by rw [c0]; exact Bool.false_ne_true)) ?_; wp_walk using wpAny_loadPart' hl)
      | (refine wpAny_ite_true (decide_eq_true c1) ?_; wp_walk using wpAny_loadPart' hl))
    exact ⟨_, rfl, h⟩

section
variable {X : Cx}
/-- t * k, any t, any k of a thousand at most -/
def rTimes (K : PySem.W.Frag) : R2 := fun x y H Q => ∃ l k xs, x = .ref l ∧ y = .int k ∧ SqT K H l xs ∧ -(2 ^ 62) < k ∧ k ≤ 1000 ∧ xs.length ≤ 1000 ∧
  ((xs = [] ∨ k = 1) → Q (.ref l) H) ∧ (¬ (xs = [] ∨ k = 1) → ∀ p, H p = none → Q (.ref p) (upd H p (.tup (List.replicate k.toNat xs).flatten)))
theorem op_times : OpR X (binaryOp .Mult) (rTimes X.K) := by
  intro pins s σ H x y v u Q I rx ry h
  obtain ⟨l, k, xs, rfl, rfl, hT, k1, k2, hz, q1, q2⟩ := h
  by_cases big : xs ≠ [] ∧ 2 ≤ k
  · refine op_repT pins s σ H _ _ v u Q I rx ry ⟨l, k, xs, rfl, rfl, hT, big.1, big.2, k2, hz, q2 ?_⟩
    rintro (e | e)
    · exact big.1 e
    · rw [e] at big; exact absurd big.2 (by decide)
  · cases rx
    obtain ⟨t, rfl⟩ := ry
    obtain ⟨its, r, ⟨⟨cls, dd, data, sl⟩, ho, hc, n, hd⟩, hs⟩ := I.tuple hT
    simp only at hc hd
    subst hc hd
    have hle : its.length = xs.length := r.length.symm
    have he : its.toArray.isEmpty = xs.isEmpty := by
      have z := isEmpty_of r
      cases h1 : its.toArray.isEmpty <;> cases h2 : xs.isEmpty <;> simp_all
    have c0 : (decide (k < -(2 ^ 63)) || decide (k ≥ 2 ^ 63)) = false := by
      rw [decide_eq_false (by omega), decide_eq_false (by omega)] <;> rfl
    by_cases same : xs = [] ∨ k = 1
    · have c1 : (its.toArray.isEmpty || k == 1) = true := by
        rw [he]
        rcases same with e | e
        · rw [e]; rfl
        · rw [e]; simp
      refine wpAny_binaryOp_repeat_ref (T := "tuple") (U := "int") (by decide) ⟨_, ho, rfl⟩ (fun s' => typeIs_int s' k t) noFill_tuple_mul F.fills_int_mul F.slot_int_rmul repeat_tuple F.slot_int_index.lookup
        (call_meets F.slot_int_rmul (typeIs_int s k t) F.entry_int_rmul (F.args_int_rmul_2 _ _) (int_rmul_tuple k t l its.toArray n dd sl)
          ⟨ho, rfl, ⟨_, ho, rfl⟩, call_meets F.slot_tuple_mul ⟨_, ho, rfl⟩ F.entry_tuple_mul (F.args_tuple_mul_2 _ _) (tup_times_same l its.toArray n dd sl k t c0 c1) ⟨ho, ?_⟩⟩)
      exact ⟨.ref l, H, I, rfl, q1 same⟩
    · have hne : xs ≠ [] := fun e => same (.inl e)
      have k0 : k ≤ 0 := by
        have a : ¬ 2 ≤ k := fun z => big ⟨hne, z⟩
        have b : k ≠ 1 := fun z => same (.inr z)
        omega
      have hi : its.toArray.isEmpty = false := by
        rw [he]
        cases xs with
        | nil => exact absurd rfl hne
        | cons a b => rfl
      have c1 : (its.toArray.isEmpty || k == 1) = false := by
        rw [hi, Bool.false_or]
        exact beq_eq_false_iff_ne.mpr (by omega)
      have c2 : (decide (k ≤ 0) || its.toArray.isEmpty) = true := by
        rw [decide_eq_true k0]; rfl
      refine wpAny_binaryOp_repeat_ref (T := "tuple") (U := "int") (by decide) ⟨_, ho, rfl⟩ (fun s' => typeIs_int s' k t) noFill_tuple_mul F.fills_int_mul F.slot_int_rmul repeat_tuple F.slot_int_index.lookup
        (call_meets F.slot_int_rmul (typeIs_int s k t) F.entry_int_rmul (F.args_int_rmul_2 _ _) (int_rmul_tuple k t l its.toArray n dd sl)
          ⟨ho, rfl, ⟨_, ho, rfl⟩, call_meets F.slot_tuple_mul ⟨_, ho, rfl⟩ F.entry_tuple_mul (F.args_tuple_mul_2 _ _) (tup_times_few l its.toArray n dd sl k t c0 c1 c2) ⟨ho, ?_⟩⟩)
      have e0 : (List.replicate k.toNat xs).flatten = [] := by
        have : k.toNat = 0 := by omega
        rw [this]; rfl
      have q3 := q2 same s.heap.objs.size (I.hok.fresh (Nat.le_refl _))
      rw [e0] at q3
      exact ⟨.ref s.heap.objs.size, _, I.laid (t' := s.toks) (o := .tup []) (fun b ob q => Heap.get?_push_of_some _ q) (Nat.le_refl _) ⟨Nat.zero_le _, [], .nil, IsTup.new _ _⟩, rfl, q3⟩

/-- two lists that are read, tracked or locked, end to end -/
theorem rd_list {pins : List (Addr × Obj)} {σ : L2.St} {H : Hp} {s : Shared} {l : Addr} {xs : List V} (I : Inv X pins σ H s) (h : Rd H l (.lst xs)) :
    xs.length ≤ sizeLine ∧ ∃ (its : List Value) (n : Nat), Vals xs its ∧ s.heap.get? l = some { cls := .type "list", data := .seq its.toArray n } := by
  rcases h with h | ⟨o, h⟩
  · obtain ⟨z, its, n, r, e⟩ := I.hok l _ h
    exact ⟨z, its, n, r, e⟩
  · obtain ⟨_, z, its, n, r, e⟩ := I.hok l _ h
    exact ⟨z, its, n, r, e⟩
def rJoin : R2 := fun x y H Q => ∃ l b xs zs, x = .ref l ∧ y = .ref b ∧ Rd H l (.lst xs) ∧ Rd H b (.lst zs) ∧ xs.length + zs.length ≤ sizeLine ∧ ∀ p, H p = none → Q (.ref p) (upd H p (.lst (xs ++ zs)))
theorem op_join : OpR X (binaryOp .Add) rJoin := by
  intro pins s σ H x y v u Q I rx ry h
  obtain ⟨l, b, xs, zs, rfl, rfl, h1, h2, hz, q⟩ := h
  cases rx
  cases ry
  obtain ⟨z1, i1, n1, r1, e1⟩ := rd_list I h1
  obtain ⟨z2, i2, n2, r2, e2⟩ := rd_list I h2
  refine PySem.P.add_list e1 e2 ?_ (by rw [List.size_toArray, List.size_toArray, ← r1.length, ← r2.length]; exact hz)
  rw [show i1.toArray ++ i2.toArray = (i1 ++ i2).toArray by simp]
  exact ⟨.ref _, _, I.lnew (t' := s.toks) (r1.append r2) (by rw [List.length_append]; exact hz), rfl, q _ I.fresh⟩
end

/-! ### operators as a function of data -/
def mulB (i j : Int) : Bool := decide (i.natAbs.log2 + j.natAbs.log2 < 1000000)
def divB (j : Int) : Bool := decide (0 < j) && decide (j.natAbs.log2 < 9000)
def szB (n : Nat) : Bool := decide (n ≤ 1000000)
def posB (j : Int) : Bool := decide (0 < j)
def powB (i j : Int) : Bool := decide (0 ≤ j ∧ j ≤ 1000000 ∧ i.natAbs < 2 ^ 64)
def repB (n : Nat) (k : Int) : Bool := decide (-(2 ^ 62) < k ∧ k < 2 ^ 62 ∧ n * k.toNat ≤ 1000000)
def timB (n : Nat) (k : Int) : Bool := decide (-(2 ^ 62) < k ∧ k ≤ 1000 ∧ n ≤ 1000)
theorem szB_le {n : Nat} (h : szB n = true) : n ≤ 1000000 := of_decide_eq_true h
theorem len_okB {n : Nat} (h : szB n = true) : n ≤ sizeLine := len_ok (szB_le h)
def binD : Operator → Bool → D → D → Option (Bool × D)
  | .Add, _, .int i, .int j => some (false, .int (i + j))
  | .Add, _, .list a, .list b => if szB (a.length + b.length) then some (true, .list (a ++ b)) else none
  | .Add, _, .tuple a, .tuple b => if szB (a.length + b.length) then some (false, .tuple (a ++ b)) else none
  | .Add, _, .str a, .str b => if szB (a.length + b.length) then some (false, .str (a ++ b)) else none
  | .Sub, _, .int i, .int j => some (false, .int (i - j))
  | .Mult, _, .int i, .int j => if mulB i j then some (false, .int (i * j)) else none
  | .Mult, true, .list a, .int k => if repB a.length k then some (true, .list (List.replicate k.toNat a).flatten) else none
  | .Mult, _, .tuple a, .int k => if timB a.length k then some (false, .tuple (List.replicate k.toNat a).flatten) else none
  | .FloorDiv, _, .int i, .int j => if divB j then some (false, .int (i / j)) else none
  | .Mod, _, .int i, .int j => if posB j then some (false, .int (i % j)) else none
  | .Pow, _, .int i, .int j => if powB i j then some (false, .int (i ^ j.toNat)) else none
  | _, _, _, _ => none
section
variable {X : Cx} {β : Option Addr}
theorem rd_of {K : PySem.W.Frag} {G H : Hp} {x : V} {l : List D} {o : Bool} (e : Ex G H) (h : VL K G H x (.list l) o) : ∃ a vs, x = .ref a ∧ Rd H a (.lst vs) ∧ Rps K G vs l := by
  cases o with
  | false =>
    cases (show Rp K G x (.list l) from h) with
    | lst h1 h2 => exact ⟨_, _, rfl, rd_ex e h1, h2⟩
  | true =>
    obtain ⟨a, l', vs, h1, h2, h3, h4⟩ := h
    cases h2
    exact ⟨a, vs, h1, .inl h3, h4⟩
theorem rp_of {K : PySem.W.Frag} {G H : Hp} {x : V} {d : D} {o : Bool} (hd : ∀ l, d ≠ .list l) (h : VL K G H x d o) : Rp K G x d := by
  cases o with
  | false => exact h
  | true => obtain ⟨a, l', vs, h1, h2, h3, h4⟩ := h; exact absurd h2 (hd l')
theorem v2_int {C : Int → Int → Prop} {g : Int → Int → V} {d : D} {i j : Int} {o : Bool} {b : En} (hc : C i j) (hg : ∀ K G, Rp K G (g i j) d) : V2 X β b (rI C g) o (.int i) (.int j) false d := fun G H ρ σ x y Q r vx vy q => by
  cases rp_of (by intro l z; cases z) vx
  cases vy
  exact ⟨i, j, rfl, rfl, hc, r.flat q (hg _ _)⟩
theorem v2_int0 {g : Int → Int → V} {d : D} {i j : Int} {o : Bool} {b : En} (hg : ∀ K G, Rp K G (g i j) d) : V2 X β b (rI0 g) o (.int i) (.int j) false d := fun G H ρ σ x y Q r vx vy q => by
  cases rp_of (by intro l z; cases z) vx
  cases vy
  exact ⟨i, j, rfl, rfl, r.flat q (hg _ _)⟩
theorem bin_ok {op : Operator} {o1 o : Bool} {d1 d2 d : D} {b : En} (h : binD op o1 d1 d2 = some (o, d)) : ∃ r, OpR X (binaryOp op) r ∧ V2 X β b r o1 d1 d2 o d := by
  unfold binD at h
  split at h
  · cases h; exact ⟨_, op_add, v2_int0 fun _ _ => .int _⟩
  · split at h
    · rename_i hl
      cases h
      refine ⟨_, op_join, fun G H ρ σ x y Q r vx vy q => ?_⟩
      obtain ⟨p, vs, rfl, h1, h2⟩ := rd_of r.ex vx
      cases vy with
      | lst h3 h4 => exact ⟨_, _, _, _, rfl, rfl, h1, rd_ex r.ex h3, by rw [h2.length, h4.length]; exact len_okB hl, r.newL (h2.append h4) q⟩
    · cases h
  · split at h
    · rename_i hl
      cases h
      refine ⟨_, op_catA, fun G H ρ σ x y Q r vx vy q => ?_⟩
      cases rp_of (by intro l z; cases z) vx with
      | tup h1 h2 =>
        cases vy with
        | tup h3 h4 =>
          refine ⟨_, _, _, _, rfl, rfl, Evl.ex_t r.ex h1, Evl.ex_t r.ex h3, by rw [h2.length, h4.length]; exact len_okB hl, fun e => ?_, fun _ e => ?_, fun _ _ => r.newT (h2.append h4) q⟩
          · subst e
            cases h2
            exact r.flat q (.tup h3 h4)
          · subst e
            cases h4
            exact r.flat q (by rw [List.append_nil]; exact .tup h1 h2)
    · cases h
  · split at h
    · rename_i hl
      cases h
      refine ⟨_, op_add_str, fun G H ρ σ x y Q r vx vy q => ?_⟩
      cases rp_of (by intro l z; cases z) vx
      cases vy
      exact ⟨_, _, rfl, rfl, len_okB hl, r.flat q (.str _)⟩
    · cases h
  · cases h; exact ⟨_, op_sub, v2_int0 fun _ _ => .int _⟩
  · split at h
    · rename_i hc
      cases h
      unfold mulB at hc
      rw [decide_eq_true_eq] at hc
      exact ⟨_, op_mulW, v2_int (show CMulW _ _ from hc) fun _ _ => .int _⟩
    · cases h
  · split at h
    · rename_i hc
      cases h
      have hc := of_decide_eq_true hc
      refine ⟨_, op_rep, fun G H ρ σ x y Q r vx vy q => ?_⟩
      obtain ⟨p, l', vs, rfl, e, h3, h4⟩ := vx
      cases e
      cases vy
      exact ⟨_, _, _, rfl, rfl, h3, by omega, by omega, by rw [h4.length]; exact len_ok hc.2.2, r.newL (h4.rep _) q⟩
    · cases h
  · split at h
    · rename_i hc
      cases h
      have hc := of_decide_eq_true hc
      refine ⟨_, op_times, fun G H ρ σ x y Q r vx vy q => ?_⟩
      cases rp_of (by intro l z; cases z) vx with
      | tup h1 h2 =>
        cases vy
        refine ⟨_, _, _, rfl, rfl, Evl.ex_t r.ex h1, hc.1, hc.2.1, by rw [h2.length]; exact hc.2.2, fun e => ?_, fun _ => r.newT (h2.rep _) q⟩
        rcases e with e | e
        · subst e
          cases h2
          refine r.flat q ?_
          rw [show ∀ n : Nat, (List.replicate n ([] : List D)).flatten = [] from fun n => by simp]
          exact .tup h1 .nil
        · subst e
          refine r.flat q ?_
          rw [show (List.replicate (1 : Int).toNat _).flatten = _ from by rw [show (1 : Int).toNat = 1 from rfl, List.replicate_one, List.flatten_singleton]]
          exact .tup h1 h2
    · cases h
  · split at h
    · rename_i hc
      cases h
      unfold divB at hc
      rw [Bool.and_eq_true, decide_eq_true_eq, decide_eq_true_eq] at hc
      exact ⟨_, op_fdivW, v2_int (show CDivW _ _ from hc) fun _ _ => .int _⟩
    · cases h
  · split at h
    · rename_i hc
      cases h
      exact ⟨_, op_mod, v2_int (of_decide_eq_true hc) fun _ _ => .int _⟩
    · cases h
  · split at h
    · rename_i hc
      cases h
      have hc := of_decide_eq_true hc
      exact ⟨_, op_pow, v2_int (C := CPow) hc fun _ _ => .int _⟩
    · cases h
  · cases h
end
end Fz
set_option Elab.async false
set_option linter.all false
set_option maxRecDepth 100000
set_option maxHeartbeats 4000000
/-! Fz, part D: comparisons, truth, subscripts, slices, built-in functions. -/
namespace Fz
open PySem PySem.Spec PyProof.Rows L2

/-! ### comparisons -/
def shp (d : D) : Bool := SeqAt.shaped d
def cmpD : CmpOp → D → D → Option Bool
  | .Eq, d, e => if shp d && shp e then some (PyData.eqv d e) else none
  | .NotEq, d, e => if shp d && shp e then some (!PyData.eqv d e) else none
  | .Lt, .int i, .int j => some (decide (i < j))
  | .LtE, .int i, .int j => some (decide (i ≤ j))
  | .Gt, .int i, .int j => some (decide (j < i))
  | .GtE, .int i, .int j => some (decide (j ≤ i))
  | .Is, .none, .none => some true
  | .Is, .tuple _, .none => some false
  | .Is, .list _, .none => some false
  | .Is, .int _, .none => some false
  | .Is, .bool _, .none => some false
  | .Is, .str _, .none => some false
  | .IsNot, .none, .none => some false
  | .IsNot, .tuple _, .none => some true
  | .IsNot, .list _, .none => some true
  | .IsNot, .int _, .none => some true
  | .IsNot, .bool _, .none => some true
  | .IsNot, .str _, .none => some true
  | .In, d, .list l => if shp d && shp (.list l) then some (l.any fun z => PyData.eqv z d) else none
  | .NotIn, d, .list l => if shp d && shp (.list l) then some (!l.any fun z => PyData.eqv z d) else none
  | _, _, _ => none
section
variable {X : Cx} {β : Option Addr}
theorem vl_dp {G H : Hp} {x : V} {d : D} {o : Bool} (e : Ex G H) (c : shp d = true) (h : VL X.K G H x d o) : Dp X.K H x d := by
  have c' := SeqAt.canLay_of_shaped c
  cases o with
  | false => exact Rp.dp e c' h
  | true =>
    obtain ⟨a, l, vs, rfl, rfl, h3, h4⟩ := h
    exact .lst (.inl (.inl h3)) (Rps.dp e (by simpa [PyData.canLay0] using c') h4)
theorem vl_non {K : PySem.W.Frag} {G H : Hp} {x : V} {d : D} {o : Bool} (h : VL K G H x d o) (hd : d ≠ .none) : decide (x = .non) = false := by
  cases o with
  | false => cases (show Rp K G x d from h) <;> first | rfl | exact absurd rfl hd
  | true => obtain ⟨a, l, vs, rfl, _⟩ := h; rfl
theorem cmp_ok {k : Nat} {op : CmpOp} {o1 : Bool} {d1 d2 : D} {c : Bool} {b : En} (hr : Room k X.A) (h : cmpD op d1 d2 = some c) : ∃ r, OpR X (compareOp op) r ∧ V2 X β b r o1 d1 d2 false (.bool c) := by
  have hu : X.A.units + 65 < cLine := by have := hr.un; omega
  unfold cmpD at h
  split at h
  · split at h
    · rename_i hc
      cases h
      rw [Bool.and_eq_true] at hc
      exact ⟨_, op_eqD (by omega), fun G H ρ σ x y Q r vx vy q => ⟨_, _, vl_dp r.ex hc.1 vx, Rp.dp r.ex (SeqAt.canLay_of_shaped hc.2) vy, hc.1, hc.2, r.flat q (.bl _)⟩⟩
    · cases h
  · split at h
    · rename_i hc
      cases h
      rw [Bool.and_eq_true] at hc
      exact ⟨_, op_neD (by omega), fun G H ρ σ x y Q r vx vy q => ⟨_, _, vl_dp r.ex hc.1 vx, Rp.dp r.ex (SeqAt.canLay_of_shaped hc.2) vy, hc.1, hc.2, r.flat q (.bl _)⟩⟩
    · cases h
  · cases h; exact ⟨_, op_lt, v2_int0 fun _ _ => .bl _⟩
  · cases h; exact ⟨_, op_le, v2_int0 fun _ _ => .bl _⟩
  · cases h; exact ⟨_, op_gt, v2_int0 fun _ _ => .bl _⟩
  · cases h; exact ⟨_, op_ge, v2_int0 fun _ _ => .bl _⟩
  · cases h
    refine ⟨_, op_isN, fun G H ρ σ x y Q r vx vy q => ?_⟩
    cases vy
    cases rp_of (by intro l z; cases z) vx
    exact ⟨rfl, r.flat q (.bl _)⟩
  · cases h
    refine ⟨_, op_isN, fun G H ρ σ x y Q r vx vy q => ?_⟩
    cases vy
    refine ⟨rfl, ?_⟩
    rw [vl_non vx (fun z => nomatch z)]
    exact r.flat q (.bl _)
  · cases h
    refine ⟨_, op_isN, fun G H ρ σ x y Q r vx vy q => ?_⟩
    cases vy
    refine ⟨rfl, ?_⟩
    rw [vl_non vx (fun z => nomatch z)]
    exact r.flat q (.bl _)
  · cases h
    refine ⟨_, op_isN, fun G H ρ σ x y Q r vx vy q => ?_⟩
    cases vy
    refine ⟨rfl, ?_⟩
    rw [vl_non vx (fun z => nomatch z)]
    exact r.flat q (.bl _)
  · cases h
    refine ⟨_, op_isN, fun G H ρ σ x y Q r vx vy q => ?_⟩
    cases vy
    refine ⟨rfl, ?_⟩
    rw [vl_non vx (fun z => nomatch z)]
    exact r.flat q (.bl _)
  · cases h
    refine ⟨_, op_isN, fun G H ρ σ x y Q r vx vy q => ?_⟩
    cases vy
    refine ⟨rfl, ?_⟩
    rw [vl_non vx (fun z => nomatch z)]
    exact r.flat q (.bl _)
  · cases h
    refine ⟨_, op_notN, fun G H ρ σ x y Q r vx vy q => ?_⟩
    cases vy
    cases rp_of (by intro l z; cases z) vx
    exact ⟨rfl, r.flat q (.bl _)⟩
  · cases h
    refine ⟨_, op_notN, fun G H ρ σ x y Q r vx vy q => ?_⟩
    cases vy
    refine ⟨rfl, ?_⟩
    rw [vl_non vx (fun z => nomatch z)]
    exact r.flat q (.bl _)
  · cases h
    refine ⟨_, op_notN, fun G H ρ σ x y Q r vx vy q => ?_⟩
    cases vy
    refine ⟨rfl, ?_⟩
    rw [vl_non vx (fun z => nomatch z)]
    exact r.flat q (.bl _)
  · cases h
    refine ⟨_, op_notN, fun G H ρ σ x y Q r vx vy q => ?_⟩
    cases vy
    refine ⟨rfl, ?_⟩
    rw [vl_non vx (fun z => nomatch z)]
    exact r.flat q (.bl _)
  · cases h
    refine ⟨_, op_notN, fun G H ρ σ x y Q r vx vy q => ?_⟩
    cases vy
    refine ⟨rfl, ?_⟩
    rw [vl_non vx (fun z => nomatch z)]
    exact r.flat q (.bl _)
  · cases h
    refine ⟨_, op_notN, fun G H ρ σ x y Q r vx vy q => ?_⟩
    cases vy
    refine ⟨rfl, ?_⟩
    rw [vl_non vx (fun z => nomatch z)]
    exact r.flat q (.bl _)
  · split at h
    · rename_i hc
      cases h
      rw [Bool.and_eq_true] at hc
      exact ⟨_, op_inD (by omega), fun G H ρ σ x y Q r vx vy q => ⟨_, _, vl_dp r.ex hc.1 vx, Rp.dp r.ex (SeqAt.canLay_of_shaped hc.2) vy, hc.1, hc.2, r.flat q (.bl _)⟩⟩
    · cases h
  · split at h
    · rename_i hc
      cases h
      rw [Bool.and_eq_true] at hc
      exact ⟨_, op_notInD (by omega), fun G H ρ σ x y Q r vx vy q => ⟨_, _, vl_dp r.ex hc.1 vx, Rp.dp r.ex (SeqAt.canLay_of_shaped hc.2) vy, hc.1, hc.2, r.flat q (.bl _)⟩⟩
    · cases h
  · cases h
end

/-! ### truth -/
def truD : D → Option Bool
  | .none => some false
  | .bool b => some b
  | .int i => some (i != 0)
  | .str x => if szB x.length then some ((x.length : Int) != 0) else none
  | .list l => some (!l.isEmpty)
  | .tuple l => some (!l.isEmpty)
  | .dict _ => none
theorem rps_empty {K : PySem.W.Frag} {G : Hp} {vs : List V} {l : List D} (h : Rps K G vs l) : vs.isEmpty = l.isEmpty := by cases h <;> rfl
theorem tru_of {K : PySem.W.Frag} {G H : Hp} {x : V} {d : D} {k : Bool} {o : Bool} (e : Ex G H) (hx : VL K G H x d o) (h : truD d = some k) : TruV K x H k := by
  cases o with
  | true =>
    obtain ⟨a, l, vs, rfl, rfl, h3, h4⟩ := hx
    cases h
    exact .inl ⟨vs, .inl (.inl h3), by rw [rps_empty h4]⟩
  | false =>
    cases (show Rp K G x d from hx) with
    | non => cases h; rfl
    | bl b => cases h; rfl
    | int i => cases h; rfl
    | str y =>
      have h : (if szB y.length then some ((y.length : Int) != 0) else none) = some k := h
      split at h
      · rename_i hl; cases h; exact ⟨len_okB hl, rfl⟩
      · cases h
    | lst h1 h2 => cases h; exact .inl ⟨_, .inl (rd_ex e h1), by rw [rps_empty h2]⟩
    | tup h1 h2 => cases h; exact .inr (.inl ⟨_, Evl.ex_t e h1, by rw [rps_empty h2]⟩)
    | scr h1 h2 => cases h

/-! ### subscripts, slices -/
def ixD : D → D → Option D
  | .list l, .int i => atI l i
  | .tuple l, .int i => atI l i
  | _, _ => none
theorem atI_rps {K : PySem.W.Frag} {G : Hp} {vs : List V} {l : List D} {i : Int} {d : D} (h : Rps K G vs l) (e : atI l i = some d) : ∃ v, atI vs i = some v ∧ Rp K G v d := by
  unfold atI at e ⊢
  rw [h.length]
  cases z : ixN l.length i with
  | none => rw [z] at e; cases e
  | some j => rw [z] at e; exact h.get e
def cutD (l : List D) (lo hi : Option Int) : List D := (l.drop (HT.sIx l.length 0 lo)).take (HT.sIx l.length l.length hi - HT.sIx l.length 0 lo)
theorem cut_rps {K : PySem.W.Frag} {G : Hp} {vs : List V} {l : List D} (lo hi : Option Int) (h : Rps K G vs l) : Rps K G (cutV vs lo hi) (cutD l lo hi) := by
  unfold cutV cutD
  rw [h.length]
  exact (h.drop _).take _
end Fz
set_option Elab.async false
set_option linter.all false
set_option maxRecDepth 100000
set_option maxHeartbeats 4000000
/-! Fz, part E: names that own lists, subscripts, slices, built-in functions, methods. -/
namespace Fz
open PySem PySem.Spec PyProof.Rows L2

def slotL (e : En) (i : Nat) : Option (List D) :=
  match e.sl[i]? with
  | some (.own l) => some l
  | some .bag => some e.bg
  | _ => none
def putL (e : En) (i : Nat) (l : List D) : En :=
  match e.sl[i]? with
  | some (.own _) => { e with sl := e.sl.set i (.own l) }
  | some .bag => { e with bg := l }
  | _ => e
section
variable {X : Cx} {β : Option Addr} {K : PySem.W.Frag} {G H : Hp} {ρ : Own} {σ : L2.St} {e : En}
theorem R.ownAt {i : Nat} {l : List D} (r : R K β G H ρ σ e) (h : slotL e i = some l) : ∃ p vs, σ[i]? = some (some (.ref p)) ∧ H p = some (.lst vs) ∧ Rps K G vs l ∧ ρ p ≠ none := by
  unfold slotL at h
  cases z : e.sl[i]? with
  | none => rw [z] at h; cases h
  | some s =>
    rw [z] at h
    have w := r.sl i s z
    cases s with
    | no => cases h
    | val d => cases h
    | tpo _ _ _ => cases h
    | own l' =>
      cases h
      obtain ⟨p, vs, h1, h2, h3, h4⟩ := w
      exact ⟨p, vs, h1, h3, h4, by rw [h2]; simp⟩
    | bag =>
      cases h
      obtain ⟨p, h1, h2⟩ := w
      obtain ⟨b1, vs, b2, b3⟩ := r.bg p h1
      exact ⟨p, vs, h2, b2, b3, by rw [b1]; simp⟩
theorem R.put {i : Nat} {l l' : List D} {p : Addr} {vs' : List V} (r : R K β G H ρ σ e) (h : slotL e i = some l) (hp : σ[i]? = some (some (.ref p))) (hv : Rps K G vs' l') :
    R K β G (upd H p (.lst vs')) ρ σ (putL e i l') ∧ Fr G H ρ G (upd H p (.lst vs')) ρ := by
  obtain ⟨p', vs, h1, h2, h3, h4⟩ := r.ownAt h
  rw [hp] at h1
  cases h1
  have hg : G p = none := (r.ow p h4).1
  constructor
  · have ex : Ex G (upd H p (.lst vs')) := r.ex.mut hg
    have ow : ∀ a, ρ a ≠ none → G a = none ∧ upd H p (.lst vs') a ≠ none := fun a ha => ⟨(r.ow a ha).1, by
      by_cases z : a = p
      · rw [z, upd_same]; simp
      · rw [upd_ne z]; exact (r.ow a ha).2⟩
    unfold slotL at h
    unfold putL
    cases z : e.sl[i]? with
    | none => rw [z] at h; cases h
    | some s =>
      rw [z] at h
      have w := r.sl i s z
      have hlt : i < e.sl.length := (List.getElem?_eq_some_iff.mp z).1
      cases s with
      | no => cases h
      | val d => cases h
      | tpo _ _ _ => cases h
      | own l0 =>
        obtain ⟨q, ws, w1, w2, w3, w4⟩ := w
        rw [hp] at w1
        cases w1
        refine ⟨by rw [r.len]; simp, ex, ow, fun j s hj => ?_, fun a ha => ?_⟩
        · by_cases k : j = i
          · subst k
            simp only [List.getElem?_set, if_true, hlt] at hj
            cases hj
            exact ⟨p, vs', hp, w2, upd_same, hv⟩
          · simp only [List.getElem?_set, if_neg (Ne.symm k)] at hj
            have w := r.sl j s hj
            cases s with
            | no => trivial
            | bag => exact w
            | val d0 => exact w
            | own l' =>
              obtain ⟨p', vs', w1, w2', w3, w4⟩ := w
              have ne : p' ≠ p := fun z => by rw [z, w2] at w2'; simp at w2'; exact k w2'.symm
              exact ⟨p', vs', w1, w2', by rw [upd_ne ne]; exact w3, w4⟩
            | tpo ds1 l2 ds2 =>
              obtain ⟨t, p', us1, us2, vs', w1, w2', w3, w4, w5, w6, w7⟩ := w
              have ne : p' ≠ p := fun z => by rw [z, w2] at w5; simp at w5; exact k w5.symm
              exact ⟨t, p', us1, us2, vs', w1, w2', w3, w4, w5, by rw [upd_ne ne]; exact w6, w7⟩
        · obtain ⟨b1, ws', b2, b3⟩ := r.bg a ha
          have ne : a ≠ p := fun k => by rw [k, w2] at b1; simp at b1
          exact ⟨b1, ws', by rw [upd_ne ne]; exact b2, b3⟩
      | bag =>
        obtain ⟨q, w1, w2⟩ := w
        rw [hp] at w2
        cases w2
        obtain ⟨b1, ws', b2, b3⟩ := r.bg p w1
        refine ⟨r.len, ex, ow, fun j s hj => ?_, fun a ha => ?_⟩
        · have w := r.sl j s hj
          cases s with
          | no => trivial
          | bag => exact w
          | val d0 => exact w
          | own l' =>
            obtain ⟨p', vs', w1, w2', w3, w4⟩ := w
            have ne : p' ≠ p := fun z => by rw [z, b1] at w2'; simp at w2'
            exact ⟨p', vs', w1, w2', by rw [upd_ne ne]; exact w3, w4⟩
          | tpo ds1 l2 ds2 =>
            obtain ⟨t, p', us1, us2, vs', w1, w2', w3, w4, w5, w6, w7⟩ := w
            have ne : p' ≠ p := fun z => by rw [z, b1] at w5; simp at w5
            exact ⟨t, p', us1, us2, vs', w1, w2', w3, w4, w5, by rw [upd_ne ne]; exact w6, w7⟩
        · rw [w1] at ha
          cases ha
          exact ⟨b1, vs', upd_same, hv⟩
  · refine ⟨Evl.Ex.refl G, fun a o ha hr => ⟨?_, hr, id⟩, fun a ha => ?_⟩
    · rw [upd_ne (fun z => h4 (by rw [← z]; exact hr))]
      exact ha
    · by_cases z : a = p
      · rw [z, upd_same] at ha; cases ha
      · rw [upd_ne z] at ha; exact ha

/-- the address that a name holds -/
theorem peek {x : Str} {pos : Pos} {i : Nat} {v : V} {Q : VK} (hN : X.N[i]? = some x) (hv : Vis X.env.scope x) (hd : (x == ("__debug__" : Str)) = false) (hcd : (x == ("__classdict__" : Str)) = false) (hp : σ[i]? = some (some v)) (q : Q v H) : wE X (.Name x pos) σ H Q :=
  ⟨_, pe_var hN hv hd hcd, v, hp, q⟩

/-! ### a[i] -/
theorem rIx_ok {G H : Hp} {σ : L2.St} {b : En} {x y : V} {d1 d2 d : D} {o : Bool} {Q : VK} (r : R X.K β G H ρ σ b) (hx : VL X.K G H x d1 o) (hy : Rp X.K G y d2) (h : ixD d1 d2 = some d) (q : Kn X.K β G H ρ σ b false d Q) : rIx X.K x y H Q := by
  unfold ixD at h
  split at h
  · cases hy
    obtain ⟨p, vs, rfl, h1, h2⟩ := rd_of r.ex hx
    obtain ⟨v, e1, e2⟩ := atI_rps h2 h
    exact .inl ⟨p, vs, _, v, rfl, rfl, .inl h1, e1, r.flat q e2⟩
  · cases hy
    cases rp_of (by intro l z; cases z) hx with
    | tup h1 h2 =>
      obtain ⟨v, e1, e2⟩ := atI_rps h2 h
      exact .inr (.inl ⟨_, _, _, v, rfl, rfl, Evl.ex_t r.ex h1, e1, r.flat q e2⟩)
  · cases h
theorem den_ix {e1 e2 : Expr} {pos : Pos} {a b c : En} {o1 o2 : Bool} {d1 d2 d : D} (hs : isSlice e2 = false) (h1 : Den X β e1 a o1 d1 b) (h2 : Den X β e2 b o2 d2 c) (h : ixD d1 d2 = some d) : Den X β (.Subscript e1 e2 pos) a false d c := by
  intro G H ρ σ Q r0 q
  refine ⟨_, pe_ix ix_seq pe_w pe_w (ix_ok hs), h1 G H ρ σ _ r0 fun x G1 H1 ρ1 f1 r1 x1 => h2.fz G1 H1 ρ1 σ _ r1 fun y G2 H2 ρ2 f2 r2 x2 => ?_⟩
  exact rIx_ok r2 (x1.keep f2) x2 h (Kn.at q (f1.trans f2))
theorem den_ixN {x : Str} {e2 : Expr} {pos ps : Pos} {a b : En} {o2 : Bool} {d2 d : D} {i : Nat} {l l' : List D} (hN : X.N[i]? = some x) (hv : Vis X.env.scope x) (hd : (x == ("__debug__" : Str)) = false) (hcd : (x == ("__classdict__" : Str)) = false)
    (hs : isSlice e2 = false) (hl : slotL a i = some l) (h2 : Den X β e2 a o2 d2 b) (hl' : slotL b i = some l') (h : ixD (.list l') d2 = some d) : Den X β (.Subscript (.Name x ps) e2 pos) a false d b := by
  intro G H ρ σ Q r0 q
  obtain ⟨p, vs, p1, p2, p3, p4⟩ := r0.ownAt hl
  refine ⟨_, pe_ix ix_seq pe_w pe_w (ix_ok hs), peek hN hv hd hcd p1 (h2.fz G H ρ σ _ r0 fun y G2 H2 ρ2 f2 r2 x2 => ?_)⟩
  obtain ⟨p', vs', p1', p2', p3', p4'⟩ := r2.ownAt hl'
  rw [p1] at p1'
  cases p1'
  exact rIx_ok (o := true) r2 ⟨p, l', vs', rfl, rfl, p2', p3'⟩ x2 h (Kn.at q f2)

/-! ### a[lo:hi] -/
def DenO (X : Cx) (β : Option Addr) (e : Option Expr) (a : En) (i : Option Int) (b : En) : Prop :=
  ∀ (G H : Hp) (ρ : Own) (σ : L2.St) (Q : Option Int → Hp → Prop), R X.K β G H ρ σ a →
    (∀ G' H' ρ', Fr G H ρ G' H' ρ' → R X.K β G' H' ρ' σ b → Q i H') → wO X e σ H Q
theorem deno_none {a : En} : DenO X β none a none a := fun G H ρ σ Q r q => ⟨_, po_none, q G H ρ .refl r⟩
theorem deno_some {e : Expr} {a b : En} {o : Bool} {i : Int} (h : Den X β e a o (.int i) b) : DenO X β (some e) a (some i) b := fun G H ρ σ Q r q =>
  ⟨_, po_some pe_w, h.fz G H ρ σ _ r fun v G1 H1 ρ1 f1 r1 x1 => by cases (show Rp X.K G1 v (.int i) from x1); exact ⟨i, rfl, q G1 H1 ρ1 f1 r1⟩⟩
def slD : D → Option Int → Option Int → Option (Bool × D)
  | .list l, lo, hi => some (true, .list (cutD l lo hi))
  | .tuple l, lo, hi => some (false, .tuple (cutD l lo hi))
  | .dict [(.none, .list l)], lo, hi => some (true, .list (cutD l lo hi))
  | _, _, _ => none
def rCut (K : PySem.W.Frag) : V → Option Int → Option Int → Hp → VK → Prop := fun x lo hi H Q => rSlL K x lo hi H Q ∨ rSlA K x lo hi H Q
theorem sl_cut : L2.SlR X (rCut X.K) := sl_list.or sl_tupA
theorem cut_whole {l : List D} {lo hi : Option Int} (h1 : HT.sIx l.length 0 lo = 0) (h2 : HT.sIx l.length l.length hi = l.length) : cutD l lo hi = l := by
  unfold cutD
  rw [h1, h2, List.drop_zero, Nat.sub_zero, List.take_length]
theorem rCut_ok {G H : Hp} {σ : L2.St} {b : En} {x : V} {d1 d : D} {o1 o : Bool} {lo hi : Option Int} {Q : VK} (r : R X.K β G H ρ σ b) (hx : VL X.K G H x d1 o1) (h : slD d1 lo hi = some (o, d)) (q : Kn X.K β G H ρ σ b o d Q) : rCut X.K x lo hi H Q := by
  unfold slD at h
  split at h
  · cases h
    obtain ⟨p, vs, rfl, h1, h2⟩ := rd_of r.ex hx
    exact .inl ⟨p, vs, rfl, .inl h1, r.newL (cut_rps lo hi h2) q⟩
  · cases h
    cases rp_of (by intro l z; cases z) hx with
    | tup h1 h2 =>
      refine .inr ⟨_, _, rfl, Evl.ex_t r.ex h1, fun w => ?_, fun _ => r.newT (cut_rps lo hi h2) q⟩
      refine r.flat q ?_
      rw [h2.length] at w
      rw [cut_whole w.1 w.2]
      exact .tup h1 h2
  · cases h
    cases rp_of (by intro l z; cases z) hx with
    | scr h1 h2 => exact .inl ⟨_, _, rfl, Evl.ex_l r.ex h1, r.newL (cut_rps lo hi h2) q⟩
  · cases h
theorem den_sl {e1 : Expr} {lo hi : Option Expr} {pos p2 : Pos} {a b c c' : En} {o1 o : Bool} {d1 d : D} {i j : Option Int} (h1 : Den X β e1 a o1 d1 b) (h2 : DenO X β lo b i c) (h3 : DenO X β hi c j c') (h : slD d1 i j = some (o, d)) :
    Den X β (.Subscript e1 (.Slice lo hi none p2) pos) a o d c' := by
  intro G H ρ σ Q r0 q
  refine ⟨_, pe_slice sl_cut pe_w po_w po_w, h1 G H ρ σ _ r0 fun x G1 H1 ρ1 f1 r1 x1 => h2 G1 H1 ρ1 σ _ r1 fun G2 H2 ρ2 f2 r2 => h3 G2 H2 ρ2 σ _ r2 fun G3 H3 ρ3 f3 r3 => ?_⟩
  exact rCut_ok r3 (x1.keep (f2.trans f3)) h (Kn.at q ((f1.trans f2).trans f3))
theorem den_slN {x : Str} {lo hi : Option Expr} {pos p2 ps : Pos} {a b c : En} {o : Bool} {d : D} {i j : Option Int} {n : Nat} {l l' : List D} (hN : X.N[n]? = some x) (hv : Vis X.env.scope x) (hd : (x == ("__debug__" : Str)) = false) (hcd : (x == ("__classdict__" : Str)) = false)
    (hl : slotL a n = some l) (h2 : DenO X β lo a i b) (h3 : DenO X β hi b j c) (hl' : slotL c n = some l') (h : slD (.list l') i j = some (o, d)) : Den X β (.Subscript (.Name x ps) (.Slice lo hi none p2) pos) a o d c := by
  intro G H ρ σ Q r0 q
  obtain ⟨p, vs, p1, p2, p3, p4⟩ := r0.ownAt hl
  refine ⟨_, pe_slice sl_cut pe_w po_w po_w, peek hN hv hd hcd p1 (h2 G H ρ σ _ r0 fun G2 H2 ρ2 f2 r2 => h3 G2 H2 ρ2 σ _ r2 fun G3 H3 ρ3 f3 r3 => ?_)⟩
  obtain ⟨p', vs', p1', p2', p3', p4'⟩ := r3.ownAt hl'
  rw [p1] at p1'
  cases p1'
  exact rCut_ok (o1 := true) r3 ⟨p, l', vs', rfl, rfl, p2', p3'⟩ h (Kn.at q (f2.trans f3))

/-! ### built-in functions -/
inductive Bi where
  | len | int | abs | list | tuple | all | any | max | min | sum
  deriving DecidableEq
def allB : List D → Option (List Bool)
  | [] => some []
  | .bool b :: r => (allB r).map (b :: ·)
  | _ :: _ => none
def allI : List D → Option (List Int)
  | [] => some []
  | .int b :: r => (allI r).map (b :: ·)
  | _ :: _ => none
theorem allB_vs {vs : List V} {ds : List D} (h : Rps K G vs ds) : ∀ {bs : List Bool}, allB ds = some bs → vs = bs.map V.bl := by
  match vs, ds, h with
  | _, _, .nil => intro bs e; cases e; rfl
  | v :: vs, d :: ds, .cons h r =>
    intro bs e
    cases d with
    | bool b =>
      unfold allB at e
      cases z : allB ds with
      | none => rw [z] at e; cases e
      | some t =>
        rw [z] at e
        cases e
        cases h
        rw [allB_vs r z]
        rfl
    | _ => cases e
theorem allI_vs {vs : List V} {ds : List D} (h : Rps K G vs ds) : ∀ {bs : List Int}, allI ds = some bs → vs = bs.map V.int := by
  match vs, ds, h with
  | _, _, .nil => intro bs e; cases e; rfl
  | v :: vs, d :: ds, .cons h r =>
    intro bs e
    cases d with
    | int b =>
      unfold allI at e
      cases z : allI ds with
      | none => rw [z] at e; cases e
      | some t =>
        rw [z] at e
        cases e
        cases h
        rw [allI_vs r z]
        rfl
    | _ => cases e
def bltD : Bi → List D → Option (Bool × D)
  | .len, [.list l] => some (false, .int l.length)
  | .len, [.tuple l] => some (false, .int l.length)
  | .len, [.str x] => if szB x.length then some (false, .int x.length) else none
  | .int, [.int i] => some (false, .int i)
  | .int, [.bool b] => some (false, .int (if b then 1 else 0))
  | .abs, [.int i] => some (false, .int (if i < 0 then -i else i))
  | .list, [.list l] => some (true, .list l)
  | .list, [.tuple l] => some (true, .list l)
  | .tuple, [.list l] => some (false, .tuple l)
  | .tuple, [.tuple l] => some (false, .tuple l)
  | .all, [.list l] => (allB l).map fun bs => (false, .bool (bs.all id))
  | .any, [.list l] => (allB l).map fun bs => (false, .bool (bs.any id))
  | .max, [.int i, .int j] => some (false, .int (if j > i then j else i))
  | .min, [.int i, .int j] => some (false, .int (if j < i then j else i))
  | .max, [.list l] => (allI l).bind fun ns => ns.max?.map fun m => (false, .int m)
  | .sum, [.list l] => (allI l).map fun ns => (false, .int ns.sum)
  | _, _ => none
def biTab : List (Str × Bi) := [("len", .len), ("int", .int), ("abs", .abs), ("list", .list), ("tuple", .tuple), ("all", .all), ("any", .any), ("max", .max), ("min", .min), ("sum", .sum)]
def biOf (x : Str) : Option Bi := biTab.lookup x
theorem rps1 {vs : List V} {d : D} (h : Rps K G vs [d]) : ∃ v, vs = [v] ∧ Rp K G v d := by
  cases h with
  | cons h1 h2 => cases h2; exact ⟨_, rfl, h1⟩
theorem rps2 {vs : List V} {d d' : D} (h : Rps K G vs [d, d']) : ∃ v v', vs = [v, v'] ∧ Rp K G v d ∧ Rp K G v' d' := by
  cases h with
  | cons h1 h2 => obtain ⟨v, rfl, h3⟩ := rps1 h2; exact ⟨_, _, rfl, h1, h3⟩
end
end Fz
set_option Elab.async false
set_option linter.all false
set_option maxRecDepth 100000
set_option maxHeartbeats 4000000
/-! Fz, part F: calls of built-ins, isinstance, methods, tests. -/
namespace Fz
open PySem PySem.Spec PyProof.Rows L2
section
variable {X : Cx} {β : Option Addr}
def bootP (x : Str) : Bi → Prop
  | .len => bootBuiltins x = some (.builtin "len")
  | .int => bootBuiltins x = some (.type "int")
  | .abs => bootBuiltins x = some (.builtin "abs")
  | .list => bootBuiltins x = some (.type "list")
  | .tuple => bootBuiltins x = some (.type "tuple")
  | .all => bootBuiltins x = some (.builtin "all")
  | .any => bootBuiltins x = some (.builtin "any")
  | .max => bootBuiltins x = some (.builtin "max")
  | .min => bootBuiltins x = some (.builtin "min")
  | .sum => bootBuiltins x = some (.builtin "sum")
theorem boot_fun {x : Str} {k : Bi} (h : biOf x = some k) : x ≠ "__name__" ∧ (x == ("__debug__" : Str)) = false ∧ bootP x k := by
  have key : ∀ p ∈ biTab, p.1 ≠ ("__name__" : Str) ∧ (p.1 == ("__debug__" : Str)) = false ∧ bootP p.1 p.2 := by
    intro p hp
    simp only [biTab, List.mem_cons, List.not_mem_nil, or_false] at hp
    rcases hp with rfl | rfl | rfl | rfl | rfl | rfl | rfl | rfl | rfl | rfl <;> exact ⟨by decide, by decide, by unfold bootP; decide +kernel⟩
  exact key _ (PySem.mem_of_lookup h)
theorem den_blt {x : Str} {p pos : Pos} {e : Expr} {es : List Expr} {a b : En} {ds : List D} {o : Bool} {d : D} {k : Bi} (hs : (e :: es).all (fun e => !isStar e) = true) (hc : X.calm = true) (hg : Gl X x) (hm : X.mg x = none) (hk : biOf x = some k)
    (ha : DenA X β (e :: es) a ds b) (h : bltD k ds = some (o, d)) : Den X β (.Call (.Name x p) (e :: es) [] pos) a o d b := by
  obtain ⟨hn, hdb, hv⟩ := boot_fun hk
  unfold bltD at h
  split at h
  · cases h
    refine den_callB hs call_len_seq hg hm hv hn hdb ha fun G H ρ σ xs Q r hx q => ?_
    obtain ⟨v, rfl, h1⟩ := rps1 hx
    cases h1 with
    | lst h1 h2 => exact ⟨_, _, rfl, .inl (.inl (rd_ex r.ex h1)), by rw [h2.length]; exact r.flat q (.int _)⟩
  · cases h
    refine den_callB hs call_len_seq hg hm hv hn hdb ha fun G H ρ σ xs Q r hx q => ?_
    obtain ⟨v, rfl, h1⟩ := rps1 hx
    cases h1 with
    | tup h1 h2 => exact ⟨_, _, rfl, .inr (Evl.ex_t r.ex h1), by rw [h2.length]; exact r.flat q (.int _)⟩
  · split at h
    · rename_i hl
      cases h
      refine den_callB hs call_len_str hg hm hv hn hdb ha fun G H ρ σ xs Q r hx q => ?_
      obtain ⟨v, rfl, h1⟩ := rps1 hx
      cases h1
      exact ⟨_, rfl, len_okB hl, r.flat q (.int _)⟩
    · cases h
  · cases h
    refine den_callTy hs call_int1 hg hm hv hn hdb ha fun G H ρ σ xs Q r hx q => ?_
    obtain ⟨v, rfl, h1⟩ := rps1 hx
    cases h1
    exact .inl ⟨_, rfl, r.flat q (.int _)⟩
  · cases h
    refine den_callTy hs call_int1 hg hm hv hn hdb ha fun G H ρ σ xs Q r hx q => ?_
    obtain ⟨v, rfl, h1⟩ := rps1 hx
    cases h1
    exact .inr ⟨_, rfl, r.flat q (.int _)⟩
  · cases h
    refine den_callB hs call_abs hg hm hv hn hdb ha fun G H ρ σ xs Q r hx q => ?_
    obtain ⟨v, rfl, h1⟩ := rps1 hx
    cases h1
    exact ⟨_, rfl, r.flat q (.int _)⟩
  · cases h
    refine den_callTy hs call_list_of hg hm hv hn hdb ha fun G H ρ σ xs Q r hx q => ?_
    obtain ⟨v, rfl, h1⟩ := rps1 hx
    cases h1 with
    | lst h1 h2 => exact ⟨_, _, rfl, .inl (.inl (rd_ex r.ex h1)), r.newL h2 q⟩
  · cases h
    refine den_callTy hs call_list_of hg hm hv hn hdb ha fun G H ρ σ xs Q r hx q => ?_
    obtain ⟨v, rfl, h1⟩ := rps1 hx
    cases h1 with
    | tup h1 h2 => exact ⟨_, _, rfl, .inr (Evl.ex_t r.ex h1), r.newL h2 q⟩
  · cases h
    refine den_callTy hs call_tuple_of hg hm hv hn hdb ha fun G H ρ σ xs Q r hx q => ?_
    obtain ⟨v, rfl, h1⟩ := rps1 hx
    cases h1 with
    | lst h1 h2 => exact ⟨_, _, rfl, .inl ⟨.inl (rd_ex r.ex h1), r.newT h2 q⟩⟩
  · cases h
    refine den_callTy hs call_tuple_of hg hm hv hn hdb ha fun G H ρ σ xs Q r hx q => ?_
    obtain ⟨v, rfl, h1⟩ := rps1 hx
    cases h1 with
    | tup h1 h2 => exact ⟨_, _, rfl, .inr ⟨Evl.ex_t r.ex h1, r.flat q (.tup h1 h2)⟩⟩
  · rename_i l
    cases z : allB l with
    | none => rw [z] at h; cases h
    | some bs =>
      rw [z] at h
      cases h
      refine den_callB hs (cr_all hc) hg hm hv hn hdb ha fun G H ρ σ xs Q r hx q => ?_
      obtain ⟨v, rfl, h1⟩ := rps1 hx
      cases h1 with
      | lst h1 h2 =>
        rw [allB_vs h2 z] at h1
        exact ⟨_, bs, rfl, .inl (rd_ex r.ex h1), r.flat q (.bl _)⟩
  · rename_i l
    cases z : allB l with
    | none => rw [z] at h; cases h
    | some bs =>
      rw [z] at h
      cases h
      refine den_callB hs (cr_any hc) hg hm hv hn hdb ha fun G H ρ σ xs Q r hx q => ?_
      obtain ⟨v, rfl, h1⟩ := rps1 hx
      cases h1 with
      | lst h1 h2 =>
        rw [allB_vs h2 z] at h1
        exact ⟨_, bs, rfl, .inl (rd_ex r.ex h1), r.flat q (.bl _)⟩
  · cases h
    refine den_callB hs (call_max2 hc) hg hm hv hn hdb ha fun G H ρ σ xs Q r hx q => ?_
    obtain ⟨v, w, rfl, h1, h2⟩ := rps2 hx
    cases h1
    cases h2
    exact ⟨_, _, rfl, r.flat q (.int _)⟩
  · cases h
    refine den_callB hs (call_min2 hc) hg hm hv hn hdb ha fun G H ρ σ xs Q r hx q => ?_
    obtain ⟨v, w, rfl, h1, h2⟩ := rps2 hx
    cases h1
    cases h2
    exact ⟨_, _, rfl, r.flat q (.int _)⟩
  · rename_i l
    cases z : allI l with
    | none => rw [z] at h; cases h
    | some bs =>
      rw [z] at h
      have h : (bs.max?).map (fun m => (false, PyData.int m)) = some (o, d) := h
      rw [Option.map_eq_some_iff] at h
      obtain ⟨m, hm2, h⟩ := h
      cases h
      obtain ⟨m1, m2⟩ := List.max?_eq_some_iff.mp hm2
      refine den_callB hs (cr_max hc) hg hm hv hn hdb ha fun G H ρ σ xs Q r hx q => ?_
      obtain ⟨v, rfl, h1⟩ := rps1 hx
      cases h1 with
      | lst h1 h2 =>
        rw [allI_vs h2 z] at h1
        refine ⟨_, bs, rfl, .inl (rd_ex r.ex h1), List.length_pos_of_mem m1, fun m' k1 k2 => ?_⟩
        have e : m' = m := Int.le_antisymm (m2 _ k1) (k2 _ m1)
        subst e
        exact r.flat q (.int _)
  · rename_i l
    cases z : allI l with
    | none => rw [z] at h; cases h
    | some bs =>
      rw [z] at h
      cases h
      refine den_callB hs (cr_sum hc) hg hm hv hn hdb ha fun G H ρ σ xs Q r hx q => ?_
      obtain ⟨v, rfl, h1⟩ := rps1 hx
      cases h1 with
      | lst h1 h2 =>
        rw [allI_vs h2 z] at h1
        exact ⟨_, bs, rfl, .inl (rd_ex r.ex h1), r.flat q (.int _)⟩
  · cases h
/-- len of a name that owns a list -/
theorem den_lenN {x y : Str} {p pos py : Pos} {a : En} {i : Nat} {l : List D} (hg : Gl X x) (hm : X.mg x = none) (hk : biOf x = some .len) (hN : X.N[i]? = some y) (hv : Vis X.env.scope y) (hd : (y == ("__debug__" : Str)) = false) (hcd : (y == ("__classdict__" : Str)) = false)
    (hl : slotL a i = some l) : Den X β (.Call (.Name x p) [.Name y py] [] pos) a false (.int l.length) a := by
  obtain ⟨hn, hdb, hb⟩ := boot_fun hk
  intro G H ρ σ Q r0 q
  obtain ⟨p', vs, p1, p2, p3, p4⟩ := r0.ownAt hl
  refine ⟨_, pe_callB call_len_seq hg hm hb (pa_cons pe_w pa_nil) hn hdb, peek hN hv hd hcd p1 ?_⟩
  exact ⟨p', vs, rfl, .inl (.inl (.inl p2)), by rw [p3.length]; exact r0.flat q (.int _)⟩

/-! ### isinstance -/
def tyD : D → String
  | .none => "NoneType"
  | .bool _ => "bool"
  | .int _ => "int"
  | .str _ => "str"
  | .list _ => "list"
  | .tuple _ => "tuple"
  | .dict _ => "dict"
def noTag : D → Bool
  | .dict _ => false
  | _ => true
theorem tyx_of {K : PySem.W.Frag} {G H : Hp} {v : V} {d : D} (e : Ex G H) (hd : noTag d = true) (h : Rp K G v d) : TyX K H v (.type (tyD d)) := by
  cases h with
  | non => exact .base .non
  | bl b => exact .base (.bl b)
  | int i => exact .base (.int i)
  | str x => exact .base (.str x)
  | lst h1 h2 =>
    rcases rd_ex e h1 with z | ⟨o, z⟩
    · exact .base (.lst z)
    · exact .base (.frz z)
  | tup h1 h2 =>
    rcases Evl.ex_t e h1 with (z | ⟨o, z⟩) | ⟨o, its, n, z, c, _⟩
    · exact .base (.tup z)
    · exact .fTuple z
    · exact .kTuple z c
  | scr h1 h2 => cases hd
def isTy (a t : String) : Bool := a == t || (a == "bool" && t == "int")
def tyTab : List (Str × String) := [("int", "int"), ("bool", "bool"), ("str", "str"), ("list", "list"), ("tuple", "tuple")]
def tyOf (x : Str) : Option String := tyTab.lookup x
theorem ty_boot {x : Str} {t : String} (h : tyOf x = some t) : x ≠ "__name__" ∧ (x == ("__debug__" : Str)) = false ∧ bootBuiltins x = some (.type t) ∧ t ∈ ["int", "bool", "str", "list", "tuple"] := by
  have key : ∀ p ∈ tyTab, p.1 ≠ ("__name__" : Str) ∧ (p.1 == ("__debug__" : Str)) = false ∧ bootBuiltins p.1 = some (.type p.2) ∧ p.2 ∈ ["int", "bool", "str", "list", "tuple"] := by
    intro p hp
    simp only [tyTab, List.mem_cons, List.not_mem_nil, or_false] at hp
    rcases hp with rfl | rfl | rfl | rfl | rfl <;> exact ⟨by decide, by decide, by decide +kernel, by decide⟩
  exact key _ (PySem.mem_of_lookup h)
theorem kit_all {K : PySem.W.Frag} {d : D} {t : String} (h : t ∈ ["int", "bool", "str", "list", "tuple"]) : PySem.W.kitOne K (.type (tyD d)) (.type t) = some (isTy (tyD d) t) := by
  have key : ∀ a ∈ ["NoneType", "bool", "int", "str", "list", "tuple", "dict"], ∀ t ∈ ["int", "bool", "str", "list", "tuple"], kitB a t = some (isTy a t) := by decide +kernel
  exact kit_ty (key _ (by cases d <;> simp [tyD]) t h)
def isiD (d : D) (ts : List String) : Bool := ts.any fun t => isTy (tyD d) t
theorem kit_any {K : PySem.W.Frag} {d : D} : ∀ {ts : List String}, (∀ t ∈ ts, t ∈ ["int", "bool", "str", "list", "tuple"]) → PySem.W.kitAny K (.type (tyD d)) (ts.map Value.type) = some (isiD d ts)
  | [], _ => rfl
  | t :: ts, h => by
    refine kitAny_cons (kit_all (h t List.mem_cons_self)) (fun e => ?_) (fun e => ?_)
    · rw [kit_any (ts := ts) fun z hz => h z (List.mem_cons_of_mem _ hz)]
      unfold isiD
      rw [List.any_cons, e, Bool.false_or]
    · unfold isiD
      rw [List.any_cons, e, Bool.true_or]
/-- the classes that a name, or a tuple of names, stands for -/
def tyNames : List Expr → Option (List (Str × String))
  | [] => some []
  | .Name t _ :: r => match tyOf t, tyNames r with
    | some s, some l => some ((t, s) :: l)
    | _, _ => none
  | _ :: _ => none
theorem boot_isinstance : bootBuiltins "isinstance" = some (.builtin "isinstance") := by decide +kernel
theorem wA_types {σ : L2.St} : ∀ {es : List Expr} {l : List (Str × String)} {H : Hp} {Q : List V → Hp → Prop}, tyNames es = some l → (∀ p ∈ l, Gl X p.1 ∧ X.mg p.1 = none) → Q (l.map fun p => V.ty p.2) H → wA X es σ H Q
  | [], l, H, Q, h, _, q => by
    cases h
    exact ⟨_, pa_nil, q⟩
  | .Name t p :: r, l, H, Q, h, hg, q => by
    unfold tyNames at h
    cases z : tyOf t with
    | none => rw [z] at h; cases h
    | some s =>
      rw [z] at h
      cases z2 : tyNames r with
      | none => rw [z2] at h; cases h
      | some l' =>
        rw [z2] at h
        cases h
        obtain ⟨h1, h2, h3, h4⟩ := ty_boot z
        obtain ⟨g1, g2⟩ := hg (t, s) List.mem_cons_self
        refine ⟨_, pa_cons (pe_bltn (v := .ty s) g1 g2 h3 rfl h1 h2) pa_w, ?_⟩
        exact wA_types z2 (fun p hp => hg p (List.mem_cons_of_mem _ hp)) q
theorem vals_ty {ts : List String} : Paired ClsV (ts.map V.ty) (ts.map Value.type) := by
  induction ts with
  | nil => exact .nil
  | cons t ts ih => exact .cons (.ty t) ih
theorem den_isi1 {p pos pt : Pos} {e : Expr} {t : Str} {s : String} {a b : En} {o : Bool} {d : D} (hs : isStar e = false) (hg : Gl X "isinstance") (hm : X.mg "isinstance" = none) (h : tyOf t = some s) (h1 : Gl X t) (h2 : X.mg t = none) (hd : noTag d = true) (he : Den X β e a o d b) :
    Den X β (.Call (.Name "isinstance" p) [e, .Name t pt] [] pos) a false (.bool (isiD d [s])) b := by
  intro G H ρ σ Q r0 q
  obtain ⟨k1, k2, k3, k4⟩ := ty_boot h
  refine ⟨_, pe_callB call_isi hg hm boot_isinstance (pa_cons pe_w (pa_cons (pe_bltn (v := .ty s) h1 h2 k3 rfl k1 k2) pa_nil) (star_ok hs)) (by decide) (by decide) (star_ok hs), he.fz G H ρ σ _ r0 fun v G1 H1 ρ1 f1 r1 x1 => ?_⟩
  refine ⟨v, .ty s, .type (tyD d), .type s, isiD d [s], rfl, .ty s, tyx_of r1.ex hd x1, ?_, r1.flat (Kn.at q f1) (.bl _)⟩
  rw [kit_all k4]
  simp [isiD]
theorem den_isi {p pos pt : Pos} {k : Nat} {e : Expr} {es : List Expr} {l : List (Str × String)} {a b : En} {o : Bool} {d : D} (hs : isStar e = false) (hg : Gl X "isinstance") (hm : X.mg "isinstance" = none) (h : tyNames es = some l) (hl : l.length ≤ 100) (hall : ∀ p ∈ l, Gl X p.1 ∧ X.mg p.1 = none)
    (hty : ∀ p ∈ l, tyOf p.1 = some p.2) (hd : noTag d = true) (he : Den X β e a o d b) :
    Den X β (.Call (.Name "isinstance" p) [e, .Tuple es k pt] [] pos) a false (.bool (isiD d (l.map (·.2)))) b := by
  intro G H ρ σ Q r0 q
  refine ⟨_, pe_callB call_isiT hg hm boot_isinstance (pa_cons pe_w (pa_cons (pe_tup pa_w) pa_nil) (star_ok hs)) (by decide) (by decide) (star_ok hs), he.fz G H ρ σ _ r0 fun v G1 H1 ρ1 f1 r1 x1 => ?_⟩
  refine wA_types h hall ⟨len_ok (by rw [List.length_map]; omega), fun tp hp => ?_⟩
  have e2 : l.map (fun p => V.ty p.2) = (l.map (·.2)).map V.ty := by rw [List.map_map]; rfl
  refine ⟨v, tp, _, .type (tyD d), (l.map (·.2)).map Value.type, isiD d (l.map (·.2)), rfl, upd_same, by rw [e2]; exact vals_ty, tyx_of (r1.ex.trans (Evl.Ex.new hp)) hd x1, kit_any fun t ht => ?_, ?_⟩
  · obtain ⟨p, h1, rfl⟩ := List.mem_map.mp ht
    exact (ty_boot (hty p h1)).2.2.2
  · exact (r1.grow hp).flat (Kn.at q (f1.trans (.grow hp))) (.bl _)

/-! ### methods of a list that a name owns -/
theorem base_ok {x m : Str} {p : Pos} : attributeBase (.Name x p) m X.env (eval (.Name x p) X.env) = eval (.Name x p) X.env := rfl
section
variable {x m : Str} {px pa cp : Pos} {a b : En} {i : Nat} {l : List D}
theorem den_append {e : Expr} {o : Bool} {d : D} (hN : X.N[i]? = some x) (hv : Vis X.env.scope x) (hd : (x == ("__debug__" : Str)) = false) (hcd : (x == ("__classdict__" : Str)) = false) (hs : isStar e = false) (hln : (pa.endLine == cp.line) = true)
    (h0 : (slotL a i).isSome = true) (he : Den X β e a o d b) (hl : slotL b i = some l) (hz : l.length < 1000000) :
    Den X β (.Call (.Attribute (.Name x px) "append" pa) [e] [] cp) a false .none (putL b i (l ++ [d])) := by
  intro G H ρ σ Q r0 q
  obtain ⟨l0, h0⟩ := Option.isSome_iff_exists.mp h0
  obtain ⟨p, vs, p1, p2, p3, p4⟩ := r0.ownAt h0
  have st : starEach [e] X.env = (false, eval e X.env) :: starEach [] X.env := star_ok hs
  refine ⟨_, pe_bm PySem.F.plainAttrs_list PySem.F.slot_list_append PySem.F.type_list_append mt_append pe_w (pa_cons pe_w pa_nil st) base_ok (by rw [st]; rfl) hln st, peek hN hv hd hcd p1 ⟨.inl ⟨rfl, _, .inl (.inl p2)⟩, ?_⟩⟩
  refine he.fz G H ρ σ _ r0 fun v G1 H1 ρ1 f1 r1 x1 => ?_
  obtain ⟨p', vs', q1, q2, q3, q4⟩ := r1.ownAt hl
  rw [p1] at q1
  cases q1
  obtain ⟨r2, f2⟩ := r1.put hl p1 (q3.append (.cons (show Rp X.K G1 v d from x1) .nil))
  exact ⟨p, vs', v, rfl, rfl, q2, Nat.lt_of_lt_of_le (by rw [q3.length]; exact hz) (by decide), r2.flat (Kn.at q (f1.trans f2)) .non⟩
theorem rps_erase {K : PySem.W.Frag} {G : Hp} {vs : List V} {l : List D} (h : Rps K G vs l) (j : Nat) : Rps K G (vs.eraseIdx j) (l.eraseIdx j) := by
  rw [List.eraseIdx_eq_take_drop_succ, List.eraseIdx_eq_take_drop_succ]
  exact (h.take j).append (h.drop (j + 1))
theorem den_popA {e : Expr} {o : Bool} {d : D} {k : Int} (hN : X.N[i]? = some x) (hv : Vis X.env.scope x) (hd : (x == ("__debug__" : Str)) = false) (hcd : (x == ("__classdict__" : Str)) = false) (hs : isStar e = false) (hln : (pa.endLine == cp.line) = true)
    (h0 : (slotL a i).isSome = true) (he : Den X β e a o (.int k) b) (hl : slotL b i = some l) (hk0 : 0 ≤ k) (hk1 : k ≤ 1000000) (hz : l[k.toNat]? = some d) :
    Den X β (.Call (.Attribute (.Name x px) "pop" pa) [e] [] cp) a false d (putL b i (l.eraseIdx k.toNat)) := by
  intro G H ρ σ Q r0 q
  obtain ⟨l0, h0⟩ := Option.isSome_iff_exists.mp h0
  obtain ⟨p, vs, p1, p2, p3, p4⟩ := r0.ownAt h0
  have st : starEach [e] X.env = (false, eval e X.env) :: starEach [] X.env := star_ok hs
  refine ⟨_, pe_bm PySem.F.plainAttrs_list PySem.F.slot_list_pop PySem.F.type_list_pop mt_popAt pe_w (pa_cons pe_w pa_nil st) base_ok (by rw [st]; rfl) hln st, peek hN hv hd hcd p1 ⟨.inl ⟨rfl, _, .inl (.inl p2)⟩, ?_⟩⟩
  refine he.fz G H ρ σ _ r0 fun v G1 H1 ρ1 f1 r1 x1 => ?_
  cases (show Rp X.K G1 v (.int k) from x1)
  obtain ⟨p', vs', q1, q2, q3, q4⟩ := r1.ownAt hl
  rw [p1] at q1
  cases q1
  obtain ⟨w, w1, w2⟩ := q3.get hz
  have hlt : k.toNat < l.length := (List.getElem?_eq_some_iff.mp hz).1
  obtain ⟨r2, f2⟩ := r1.put hl p1 (rps_erase q3 k.toNat)
  refine ⟨p, vs', k, k.toNat, w, rfl, rfl, q2, ?_, ?_, ?_, w1, r2.flat (Kn.at q (f1.trans f2)) (Rp.mono f2.ex w2)⟩
  · exact Int.le_trans (by decide) hk0
  · exact Int.lt_of_le_of_lt hk1 (by decide)
  · rw [q3.length]
    have e1 : (if k < 0 then k + (l.length : Int) else k) = k := if_neg (by omega)
    unfold seqIndex?
    simp only [e1]
    rw [if_pos (by rw [Bool.and_eq_true, decide_eq_true_eq, decide_eq_true_eq]; omega)]
theorem den_ins {e e2 : Expr} {o o2 : Bool} {d : D} {k : Int} {c : En} (hN : X.N[i]? = some x) (hv : Vis X.env.scope x) (hd : (x == ("__debug__" : Str)) = false) (hcd : (x == ("__classdict__" : Str)) = false) (hs : isStar e = false) (hs2 : isStar e2 = false) (hln : (pa.endLine == cp.line) = true)
    (h0 : (slotL a i).isSome = true) (he : Den X β e a o (.int k) b) (he2 : Den X β e2 b o2 d c) (hl : slotL c i = some l) (hk0 : 0 ≤ k) (hk1 : k ≤ 1000000) (hz : l.length < 1000000) :
    Den X β (.Call (.Attribute (.Name x px) "insert" pa) [e, e2] [] cp) a false .none (putL c i (l.take k.toNat ++ [d] ++ l.drop k.toNat)) := by
  intro G H ρ σ Q r0 q
  obtain ⟨l0, h0⟩ := Option.isSome_iff_exists.mp h0
  obtain ⟨p, vs, p1, p2, p3, p4⟩ := r0.ownAt h0
  have st2 : starEach [e2] X.env = (false, eval e2 X.env) :: starEach [] X.env := star_ok hs2
  have st : starEach [e, e2] X.env = (false, eval e X.env) :: starEach [e2] X.env := star_ok hs
  refine ⟨_, pe_bm PySem.F.plainAttrs_list PySem.F.slot_list_insert PySem.F.type_list_insert mt_insert pe_w (pa_cons pe_w (pa_cons pe_w pa_nil st2) st) base_ok (by rw [st, st2]; rfl) hln st (by rw [st2]; rfl), peek hN hv hd hcd p1 ⟨.inl ⟨rfl, _, .inl (.inl p2)⟩, ?_⟩⟩
  refine he.fz G H ρ σ _ r0 fun v G1 H1 ρ1 f1 r1 x1 => ?_
  cases (show Rp X.K G1 v (.int k) from x1)
  refine he2.fz G1 H1 ρ1 σ _ r1 fun w G2 H2 ρ2 f2 r2 x2 => ?_
  obtain ⟨p', vs', q1, q2, q3, q4⟩ := r2.ownAt hl
  rw [p1] at q1
  cases q1
  obtain ⟨r3, f3⟩ := r2.put hl p1 (((q3.take k.toNat).append (.cons (show Rp X.K G2 w d from x2) .nil)).append (q3.drop k.toNat))
  exact ⟨p, vs', k, w, rfl, rfl, q2, Nat.lt_of_lt_of_le (by rw [q3.length]; exact hz) (by decide), hk0, Int.lt_of_le_of_lt hk1 (by decide), r3.flat (Kn.at q ((f1.trans f2).trans f3)) .non⟩
theorem den_pop {d : D} (hN : X.N[i]? = some x) (hv : Vis X.env.scope x) (hd : (x == ("__debug__" : Str)) = false) (hcd : (x == ("__classdict__" : Str)) = false) (hln : (pa.endLine == cp.line) = true)
    (hl : slotL a i = some l) (hz : l[l.length - 1]? = some d) : Den X β (.Call (.Attribute (.Name x px) "pop" pa) [] [] cp) a false d (putL a i l.dropLast) := by
  intro G H ρ σ Q r0 q
  obtain ⟨p, vs, p1, p2, p3, p4⟩ := r0.ownAt hl
  obtain ⟨v, v1, v2⟩ := p3.get hz
  refine ⟨_, pe_bm0 PySem.F.plainAttrs_list PySem.F.slot_list_pop PySem.F.type_list_pop mt_pop pe_w base_ok hln, peek hN hv hd hcd p1 ⟨.inl ⟨rfl, _, .inl (.inl p2)⟩, ?_⟩⟩
  obtain ⟨r2, f2⟩ := r0.put hl p1 p3.dropLast
  exact ⟨p, vs, v, rfl, rfl, p2, by rw [p3.length]; exact v1, r2.flat (Kn.at q f2) v2⟩
end

/-! ### tests -/
theorem dent_not {e : Expr} {pos : Pos} {a b : En} {k : Bool} (h : DenT X β e a k b) : DenT X β (.UnaryOp .Not e pos) a (!k) b := fun G H ρ σ Q r q => ⟨_, pt_not pt_w, h G H ρ σ _ r q⟩
def plainT : Expr → Bool
  | .UnaryOp .. | .BoolOp .. | .IfExp .. | .Compare .. => false
  | _ => true
theorem plainT_ok {e : Expr} (h : plainT e = true) (whole : Sem Value) : isTrue e X.env whole = (do let v ← whole; standAt e.pos; holding [v] (truthy v)) := by
  cases e <;> first | rfl | cases h
theorem dent_val {e : Expr} {a b : En} {o : Bool} {d : D} {k : Bool} (hp : plainT e = true) (h : Den X β e a o d b) (hk : truD d = some k) : DenT X β e a k b := fun G H ρ σ Q r q =>
  ⟨_, pt_truth pe_w (plainT_ok hp), h G H ρ σ _ r fun v G1 H1 ρ1 f1 r1 x1 => ⟨k, tru_of r1.ex (x1.keep .refl) hk, q G1 H1 ρ1 f1 r1⟩⟩
theorem dent_own {x : Str} {px : Pos} {a : En} {i : Nat} {l : List D} (hN : X.N[i]? = some x) (hv : Vis X.env.scope x) (hd : (x == ("__debug__" : Str)) = false) (hcd : (x == ("__classdict__" : Str)) = false) (hl : slotL a i = some l) : DenT X β (.Name x px) a (!l.isEmpty) a := by
  intro G H ρ σ Q r q
  obtain ⟨p, vs, p1, p2, p3, p4⟩ := r.ownAt hl
  exact ⟨_, pt_truth pe_w (plainT_ok rfl), peek hN hv hd hcd p1 ⟨_, .inl ⟨vs, .inl (.inl p2), by rw [rps_empty p3]⟩, q G H ρ .refl r⟩⟩
theorem dent_cmp {op : CmpOp} {r : R2} {l e : Expr} {pos : Pos} {a b c : En} {o1 o2 : Bool} {d1 d2 : D} {k : Bool} (hm : isSet e = false) (ho : OpR X (compareOp op) r) (h1 : Den X β l a o1 d1 b) (h2 : Den X β e b o2 d2 c) (hv : V2 X β c r o1 d1 d2 false (.bool k)) :
    DenT X β (.Compare l [op] [e] pos) a k c := by
  intro G H ρ σ Q r0 q
  refine ⟨_, pt_cmpR ho pe_w pe_w (mark_ok hm), h1 G H ρ σ _ r0 fun x G1 H1 ρ1 f1 r1 x1 => h2.fz G1 H1 ρ1 σ _ r1 fun y G2 H2 ρ2 f2 r2 x2 => ?_⟩
  refine hv G2 H2 ρ2 σ x y _ r2 (x1.keep f2) x2 fun v G' H' ρ' f' r' x' => ?_
  cases (show Rp X.K G' v (.bool k) from x')
  exact ⟨k, rfl, q G' H' ρ' ((f1.trans f2).trans f') r'⟩
theorem dent_cmpO {op : CmpOp} {r : R2} {y : Str} {py : Pos} {e : Expr} {pos : Pos} {a c : En} {i : Nat} {l0 l : List D} {o2 : Bool} {d2 : D} {k : Bool} (hm : isSet e = false) (ho : OpR X (compareOp op) r)
    (hN : X.N[i]? = some y) (hv0 : Vis X.env.scope y) (hdb : (y == ("__debug__" : Str)) = false) (hcd : (y == ("__classdict__" : Str)) = false) (h0 : slotL a i = some l0) (h2 : Den X β e a o2 d2 c) (h3 : slotL c i = some l) (hv : V2 X β c r true (.list l) d2 false (.bool k)) :
    DenT X β (.Compare (.Name y py) [op] [e] pos) a k c := by
  intro G H ρ σ Q r0 q
  obtain ⟨p0, vs0, p1, p2, p3, p4⟩ := r0.ownAt h0
  refine ⟨_, pt_cmpR ho pe_w pe_w (mark_ok hm), peek hN hv0 hdb hcd p1 (h2.fz G H ρ σ _ r0 fun w G2 H2 ρ2 f2 r2 x2 => ?_)⟩
  obtain ⟨p5, vs5, w1, w2, w3, w4⟩ := r2.ownAt h3
  rw [p1] at w1
  cases w1
  refine hv G2 H2 ρ2 σ _ w _ r2 ⟨p0, l, vs5, rfl, rfl, w2, w3⟩ x2 fun v G' H' ρ' f' r' x' => ?_
  cases (show Rp X.K G' v (.bool k) from x')
  exact ⟨k, rfl, q G' H' ρ' (f2.trans f') r'⟩
theorem op_any {f : Value → Value → Sem Value} : OpR X f (fun _ _ _ _ => False) := fun _ _ _ _ _ _ _ _ _ _ _ _ h => h.elim
theorem den_chain {op op' : CmpOp} {r r' : R2} {l e e' : Expr} {pos : Pos} {a b c d0 : En} {o1 o2 o3 : Bool} {d1 d2 d3 : D} {k k2 : Bool} (hm : isSet e' = false) (ho : OpR X (compareOp op) r) (ho' : OpR X (compareOp op') r') (h1 : Den X β l a o1 d1 b) (h2 : Den X β e b o2 d2 c) (hv : V2 X β c r o1 d1 d2 false (.bool k))
    (h3 : k = true → Den X β e' c o3 d3 d0 ∧ V2 X β d0 r' false d2 d3 false (.bool k2)) : Den X β (.Compare l [op, op'] [e, e'] pos) a false (.bool (if k then k2 else false)) (if k then d0 else c) := by
  intro G H ρ σ Q r0 q
  refine ⟨_, pe_chain ho ho' pe_w pe_w pe_w (mark_ok hm), h1 G H ρ σ _ r0 fun x G1 H1 ρ1 f1 r1 x1 => h2.fz G1 H1 ρ1 σ _ r1 fun y G2 H2 ρ2 f2 r2 x2 => ?_⟩
  refine hv G2 H2 ρ2 σ x y _ r2 (x1.keep f2) x2 fun v G3 H3 ρ3 f3 r3 x3 => ?_
  cases (show Rp X.K G3 v (.bool k) from x3)
  refine ⟨k, rfl, ?_⟩
  cases k with
  | false =>
    rw [if_neg (by simp)]
    exact q (.bl false) G3 H3 ρ3 ((f1.trans f2).trans f3) r3 (.bl false)
  | true =>
    rw [if_pos rfl]
    obtain ⟨h4, hv2⟩ := h3 rfl
    exact h4.fz G3 H3 ρ3 σ _ r3 fun z G4 H4 ρ4 f4 r4 x4 => hv2 G4 H4 ρ4 σ y z Q r4 (Rp.mono (f3.trans f4).ex x2) x4 (Kn.at q (((f1.trans f2).trans f3).trans f4))
theorem dent_chain {op op' : CmpOp} {r r' : R2} {l e e' : Expr} {pos : Pos} {a b c d0 : En} {o1 o2 o3 : Bool} {d1 d2 d3 : D} {k k2 : Bool} (hm : isSet e' = false) (ho : OpR X (compareOp op) r) (ho' : OpR X (compareOp op') r') (h1 : Den X β l a o1 d1 b) (h2 : Den X β e b o2 d2 c) (hv : V2 X β c r o1 d1 d2 false (.bool k))
    (h3 : k = true → Den X β e' c o3 d3 d0 ∧ V2 X β d0 r' false d2 d3 false (.bool k2)) : DenT X β (.Compare l [op, op'] [e, e'] pos) a (if k then k2 else false) (if k then d0 else c) := by
  intro G H ρ σ Q r0 q
  refine ⟨_, pt_chain ho ho' pe_w pe_w pe_w (mark_ok hm), h1 G H ρ σ _ r0 fun x G1 H1 ρ1 f1 r1 x1 => h2.fz G1 H1 ρ1 σ _ r1 fun y G2 H2 ρ2 f2 r2 x2 => ?_⟩
  refine hv G2 H2 ρ2 σ x y _ r2 (x1.keep f2) x2 fun v G3 H3 ρ3 f3 r3 x3 => ?_
  cases (show Rp X.K G3 v (.bool k) from x3)
  refine ⟨k, rfl, ?_⟩
  cases k with
  | false =>
    rw [if_neg (by simp)]
    exact ⟨false, rfl, q G3 H3 ρ3 ((f1.trans f2).trans f3) r3⟩
  | true =>
    rw [if_pos rfl]
    obtain ⟨h4, hv2⟩ := h3 rfl
    refine h4.fz G3 H3 ρ3 σ _ r3 fun z G4 H4 ρ4 f4 r4 x4 => hv2 G4 H4 ρ4 σ y z _ r4 (Rp.mono (f3.trans f4).ex x2) x4 fun w G5 H5 ρ5 f5 r5 x5 => ?_
    cases (show Rp X.K G5 w (.bool k2) from x5)
    exact ⟨k2, rfl, q G5 H5 ρ5 ((((f1.trans f2).trans f3).trans f4).trans f5) r5⟩
/-- and, or, as tests: from the first operand on -/
theorem dent_bool1 {op : BoolOp} {e : Expr} {pos : Pos} {a b : En} {k : Bool} (h : DenT X β e a k b) : ∀ G H ρ σ Q, R X.K β G H ρ σ a → (∀ G' H' ρ', Fr G H ρ G' H' ρ' → R X.K β G' H' ρ' σ b → Q k H') → wW X (.BoolOp op [e] pos) σ H Q := fun G H ρ σ Q r q => by
  cases op with
  | And => exact ⟨_, pw_and1 pt_w, h G H ρ σ _ r q⟩
  | Or => exact ⟨_, pw_or1 pt_w, h G H ρ σ _ r q⟩
def DenW (X : Cx) (β : Option Addr) (e : Expr) (a : En) (k : Bool) (b : En) : Prop :=
  ∀ (G H : Hp) (ρ : Own) (σ : L2.St) (Q : Bool → Hp → Prop), R X.K β G H ρ σ a →
    (∀ G' H' ρ', Fr G H ρ G' H' ρ' → R X.K β G' H' ρ' σ b → Q k H') → wW X e σ H Q
theorem DenW.t {e : Expr} {a b : En} {k : Bool} (h : DenW X β e a k b) : DenT X β e a k b := fun G H ρ σ Q r q => ⟨_, PW.pt pw_w, h G H ρ σ _ r q⟩
/-- the first operand decides -/
theorem denw_short {op : BoolOp} {e e2 : Expr} {es : List Expr} {pos : Pos} {a b : En} {k : Bool} (h : DenT X β e a k b) (hk : k = match op with | .And => false | .Or => true) : DenW X β (.BoolOp op (e :: e2 :: es) pos) a k b := fun G H ρ σ Q r q => by
  cases op with
  | And =>
    have hk : k = false := hk
    subst hk
    exact ⟨_, pw_and pt_w pw_w, h G H ρ σ _ r fun G1 H1 ρ1 f1 r1 => by show Q false H1; exact q G1 H1 ρ1 f1 r1⟩
  | Or =>
    have hk : k = true := hk
    subst hk
    exact ⟨_, pw_or pt_w pw_w, h G H ρ σ _ r fun G1 H1 ρ1 f1 r1 => by show Q true H1; exact q G1 H1 ρ1 f1 r1⟩
theorem denw_on {op : BoolOp} {e e2 : Expr} {es : List Expr} {pos : Pos} {a b c : En} {k k2 : Bool} (h : DenT X β e a k b) (hk : k = match op with | .And => true | .Or => false) (h2 : DenW X β (.BoolOp op (e2 :: es) pos) b k2 c) : DenW X β (.BoolOp op (e :: e2 :: es) pos) a k2 c := fun G H ρ σ Q r q => by
  cases op with
  | And =>
    have hk : k = true := hk
    subst hk
    exact ⟨_, pw_and pt_w pw_w, h G H ρ σ _ r fun G1 H1 ρ1 f1 r1 => by
      show wW X _ σ H1 Q
      exact h2 G1 H1 ρ1 σ Q r1 fun G2 H2 ρ2 f2 r2 => q G2 H2 ρ2 (f1.trans f2) r2⟩
  | Or =>
    have hk : k = false := hk
    subst hk
    exact ⟨_, pw_or pt_w pw_w, h G H ρ σ _ r fun G1 H1 ρ1 f1 r1 => by
      show wW X _ σ H1 Q
      exact h2 G1 H1 ρ1 σ Q r1 fun G2 H2 ρ2 f2 r2 => q G2 H2 ρ2 (f1.trans f2) r2⟩
/-! .. as values that are bools -/
theorem den_bool1 {op : BoolOp} {e : Expr} {pos : Pos} {a b : En} {o : Bool} {d : D} (h : Den X β e a o d b) : Den X β (.BoolOp op [e] pos) a o d b := fun G H ρ σ Q r q => ⟨_, pe_one pe_w, h G H ρ σ _ r q⟩
theorem den_short {op : BoolOp} {e e2 : Expr} {es : List Expr} {pos : Pos} {a b : En} {o : Bool} {d : D} {k : Bool} (h : Den X β e a o d b) (ht : truD d = some k) (hk : k = match op with | .And => false | .Or => true) : Den X β (.BoolOp op (e :: e2 :: es) pos) a o d b := fun G H ρ σ Q r q => by
  cases op with
  | And =>
    have hk : k = false := hk
    subst hk
    exact ⟨_, pe_andT pe_w pe_w, h G H ρ σ _ r fun v G1 H1 ρ1 f1 r1 x1 => ⟨false, tru_of r1.ex (x1.keep .refl) ht, by show Q v H1; exact q v G1 H1 ρ1 f1 r1 x1⟩⟩
  | Or =>
    have hk : k = true := hk
    subst hk
    exact ⟨_, pe_orT pe_w pe_w, h G H ρ σ _ r fun v G1 H1 ρ1 f1 r1 x1 => ⟨true, tru_of r1.ex (x1.keep .refl) ht, by show Q v H1; exact q v G1 H1 ρ1 f1 r1 x1⟩⟩
theorem den_on {op : BoolOp} {e e2 : Expr} {es : List Expr} {pos : Pos} {a b c : En} {o o2 : Bool} {d d2 : D} {k : Bool} (h : Den X β e a o d b) (ht : truD d = some k) (hk : k = match op with | .And => true | .Or => false) (h2 : Den X β (.BoolOp op (e2 :: es) pos) b o2 d2 c) :
    Den X β (.BoolOp op (e :: e2 :: es) pos) a o2 d2 c := fun G H ρ σ Q r q => by
  cases op with
  | And =>
    have hk : k = true := hk
    subst hk
    refine ⟨_, pe_andT pe_w pe_w, h G H ρ σ _ r fun v G1 H1 ρ1 f1 r1 x1 => ⟨true, tru_of r1.ex (x1.keep .refl) ht, ?_⟩⟩
    show wE X _ σ H1 Q
    exact h2 G1 H1 ρ1 σ Q r1 (Kn.at q f1)
  | Or =>
    have hk : k = false := hk
    subst hk
    refine ⟨_, pe_orT pe_w pe_w, h G H ρ σ _ r fun v G1 H1 ρ1 f1 r1 x1 => ⟨false, tru_of r1.ex (x1.keep .refl) ht, ?_⟩⟩
    show wE X _ σ H1 Q
    exact h2 G1 H1 ρ1 σ Q r1 (Kn.at q f1)
theorem den_not {e : Expr} {pos : Pos} {a b : En} {o : Bool} {d : D} {k : Bool} (h : Den X β e a o d b) (ht : truD d = some k) : Den X β (.UnaryOp .Not e pos) a false (.bool (!k)) b := fun G H ρ σ Q r q =>
  ⟨_, pe_notT pe_w, h G H ρ σ _ r fun v G1 H1 ρ1 f1 r1 x1 => ⟨k, tru_of r1.ex (x1.keep .refl) ht, r1.flat (Kn.at q f1) (.bl _)⟩⟩
theorem den_neg {e : Expr} {pos : Pos} {a b : En} {o : Bool} {i : Int} (h : Den X β e a o (.int i) b) : Den X β (.UnaryOp .USub e pos) a false (.int (-i)) b :=
  den_un un_neg h fun G H ρ σ x Q r hx q => by
    cases hx
    exact ⟨i, rfl, r.flat q (.int _)⟩
theorem den_if {t e1 e2 : Expr} {pos : Pos} {a b c : En} {k : Bool} {o : Bool} {d : D} (h : DenT X β t a k b) (h1 : Den X β (if k then e1 else e2) b o d c) : Den X β (.IfExp t e1 e2 pos) a o d c := fun G H ρ σ Q r q => by
  refine ⟨_, pe_ifExp pt_w pe_w pe_w, h G H ρ σ _ r fun G1 H1 ρ1 f1 r1 => ?_⟩
  cases k with
  | true => exact h1 G1 H1 ρ1 σ Q r1 (Kn.at q f1)
  | false => exact h1 G1 H1 ρ1 σ Q r1 (Kn.at q f1)
end
end Fz
set_option Elab.async false
set_option linter.all false
set_option maxRecDepth 100000
set_option maxHeartbeats 4000000
/-! Fz, part G: what is walked: enumerate and zip over lists and tuples, from any count. -/
namespace Fz
open PySem PySem.Spec PyProof.Rows L2

/-! ### a list (true) or a tuple (false) that is read -/
def SqX (K : PySem.W.Frag) (H : Hp) (a : Addr) (xs : List V) : Bool → Prop
  | true => SqL K H a xs
  | false => SqT K H a xs
def isX (h : Heap) (a : Addr) (its : Array Value) : Bool → Prop
  | true => h.IsList a its
  | false => h.IsTuple a its
def itX (h : Heap) (it a : Addr) (i : Nat) : Bool → Prop
  | true => h.IsListIter it a i
  | false => h.IsTupleIter it a i
def obX (a : Addr) : Bool → Obj
  | true => { cls := .type "list_iterator", data := .fields #[.ref a, .int 0 0] }
  | false => { cls := .type "tuple_iterator", data := .fields #[.ref a, .int 0 0] }
section
variable {X : Cx} {pins : List (Addr × Obj)} {σ : L2.St} {H : Hp} {s : Shared} {a : Addr} {xs ys : List V}
theorem seqX (k : Bool) (I : Inv X pins σ H s) (h : SqX X.K H a xs k) : ∃ its : List Value, Vals xs its ∧ isX s.heap a its.toArray k ∧ xs.length ≤ sizeLine := by
  cases k with
  | true => obtain ⟨its, r, p, z⟩ := I.list h; exact ⟨its, r, p.isList, z⟩
  | false => exact I.tuple h
theorem injX (k : Bool) (I : Inv X pins σ H s) (h : SqX X.K H a xs k) (h' : SqX X.K H a ys k) : xs = ys := by
  cases k with
  | true => exact I.list_inj h h'
  | false => exact I.tuple_inj h h'
theorem isX_lt (k : Bool) {h : Heap} {its : Array Value} (p : isX h a its k) : a < h.objs.size := by
  cases k with
  | true => obtain ⟨o, ho, _⟩ := p; exact Heap.lt_size ho
  | false => obtain ⟨o, ho, _⟩ := p; exact Heap.lt_size ho
theorem drawsX {P : Program} {w : World} {A : Around} (k : Bool) (hh : A.handled = none) (it t : Addr) (hne : t ≠ it) (its : Array Value) : Draws P w A it [it, t] its.size (fun i v => its[i]? = some v) (fun i h => itX h it t i k ∧ isX h t its k) := by
  cases k with
  | true => exact Draws.list hh it t hne its
  | false => exact Draws.tuple hh it t hne its
theorem beginsX (k : Bool) (t : Addr) (its : Array Value) : Begins (.ref t) (obX t k) fun h => isX h t its k := by
  cases k with
  | true => exact begins_list t its
  | false => exact begins_tuple t its
theorem itX_new (k : Bool) {h : Heap} {it t : Addr} (e : h.get? it = some (obX t k)) : itX h it t 0 k := by
  cases k with
  | true => exact ⟨_, e, rfl, rfl⟩
  | false => exact ⟨_, e, rfl, rfl⟩
theorem itX_obj (k : Bool) {h : Heap} {it t : Addr} {i : Nat} (e : itX h it t i k) : ∃ o, h.get? it = some o ∧ ∀ v, o.data ≠ .cell v := by
  cases k with
  | true => obtain ⟨o, e, c, d⟩ := e; exact ⟨o, e, fun v z => by rw [d] at z; cases z⟩
  | false => obtain ⟨o, e, c, d⟩ := e; exact ⟨o, e, fun v z => by rw [d] at z; cases z⟩
theorem itX_at (k : Bool) {h h' : Heap} {it t : Addr} {i : Nat} (e : itX h it t i k) (q : ∀ o, h.get? it = some o → h'.get? it = some o) : itX h' it t i k := by
  cases k with
  | true => exact Heap.IsListIter.at e q
  | false => exact Heap.IsTupleIter.at e q
end

/-! ### enumerate(x, c) -/
def IteX (K : PySem.W.Frag) (k : Bool) (a : Addr) (c : Int) (n : Nat) : It :=
  ⟨fun i H => i < n ∧ ∃ xs : List V, SqX K H a xs k ∧ xs.length = n,
   fun i H v H' => ∃ T x, v = .ref T ∧ H T = none ∧ H' = upd H T (.tup [.int (c + (i : Nat)), x]) ∧ ∀ xs, SqX K H a xs k → xs[i]? = some x,
   fun i H => n ≤ i ∧ ∃ xs : List V, SqX K H a xs k ∧ xs.length = n⟩
theorem turn_enumX {P : Program} {w : World} {K : PySem.W.Frag} {elts : List Expr} {kk : Nat} {tpos : Pos} (k : Bool) (a e it : Addr) (c : Int) (n : Nat) (hei : e ≠ it) (hea : e ≠ a) (hai : a ≠ it) :
    Turn P w K (.Tuple elts kk tpos) (IteX K k a c n) [e, it] e (fun i h => i ≤ n ∧ (∃ old, IsEnum h e it (c + (i : Nat)) old) ∧ itX h it a i k) where
  mem := by simp
  obj := fun i h st b hb => by
    obtain ⟨_, ⟨old, he⟩, hit⟩ := st
    rcases List.mem_cons.mp hb with rfl | hb
    · exact ⟨_, he, fun v q => nomatch q⟩
    · rw [List.mem_singleton.mp hb]; exact itX_obj k hit
  keep := fun i h h' st q => let ⟨hn, ⟨old, he⟩, hit⟩ := st; ⟨hn, ⟨old, q e (by simp) _ he⟩, itX_at k hit fun o z => q it (by simp) o z⟩
  item := by
    intro X hP hw hK hc i pins s σ H E I hf st hg
    subst hP hw hK
    obtain ⟨_, ⟨old, he⟩, hit⟩ := st
    obtain ⟨hlt, xs, hq, hl⟩ := hg
    obtain ⟨its, rv, p, _⟩ := seqX k I hq
    have hl' := rv.length
    have W := WalksT.enumFrom (A := X.A) c (drawsX (P := X.prog) (w := X.w) (A := X.A.in1) k (I.ok.hd hc) it a hai its.toArray) e hei (by simp [hei, hea]) (by simp)
    refine W.item i s _ E (by rw [List.size_toArray]; omega) ⟨⟨old, he⟩, hit, p⟩ fun T vals h' tk hP hT hTup hMid hk => ?_
    refine ⟨_, rfl, W.go elts kk tpos i T _ _ E hMid fun h'' hSt hk2 => ?_⟩
    obtain ⟨t, u, hu, rfl⟩ := hP
    have hxs : i < xs.length := by omega
    obtain ⟨u', hu', ru⟩ := rv.get (List.getElem?_eq_getElem hxs)
    have hu0 : its[i]? = some u := by simpa using hu
    rw [hu'] at hu0
    cases hu0
    have hTup2 : h''.IsTuple T #[.int (c + (i : Int)) t, u] := by
      obtain ⟨o, h1, h2, h3⟩ := hTup
      exact ⟨o, hk2 T o (W.apart i T h' hMid) h1, h2, h3⟩
    have keep : ∀ b o, b ∉ [e, it] → s.heap.get? b = some o → h''.get? b = some o := fun b o hb z => hk2 b o hb (hk b o hb z)
    have I1 : Inv X pins σ (upd H T (.tup [.int (c + (i : Nat)), xs[i]])) { s with heap := h'', toks := tk } :=
      I.turnedNew keep hf hT ⟨by show 2 ≤ sizeLine; decide, [.int (c + (i : Int)) t, u], .cons ⟨_, rfl⟩ (.cons ru .nil), hTup2⟩
    refine ⟨.ref T, _, I1, rfl, ⟨T, xs[i], rfl, I.hok.fresh hT, rfl, fun ys hy => by rw [injX k I hy hq]; exact List.getElem?_eq_getElem hxs⟩, ⟨hlt, hSt.1, hSt.2.1⟩, fun b hb => ?_⟩
    have hbn := (hf b hb).1
    rw [upd_ne fun z => ?_]
    · exact hbn
    · exact W.apart i T h' hMid (z ▸ hb)
  done := by
    intro X hP hw hK hc i pins s σ H E I hf st hg
    subst hP hw hK
    obtain ⟨hle, ⟨old, he⟩, hit⟩ := st
    obtain ⟨hge, xs, hq, hl⟩ := hg
    have e1 : i = n := by omega
    subst e1
    obtain ⟨its, rv, p, _⟩ := seqX k I hq
    have hl' := rv.length
    have W := WalksT.enumFrom (A := X.A) c (drawsX (P := X.prog) (w := X.w) (A := X.A.in1) k (I.ok.hd hc) it a hai its.toArray) e hei (by simp [hei, hea]) (by simp)
    have e2 : its.toArray.size = i := by rw [List.size_toArray]; omega
    refine W.done s _ E (by rw [e2]; exact ⟨⟨old, he⟩, hit, p⟩) fun h' tk hk => ⟨rfl, I.turnedL hk hf⟩
  self := fun A i s Q E st h => let ⟨_, ⟨_, he⟩, _⟩ := st; wpAny_pyIter_enum he h
def iEnumX (K : PySem.W.Frag) (k : Bool) (ta : TA) : TI := fun σ H RR => ta σ H fun vs H1 => ∃ a c xs, vs = [.ref a, .int c] ∧ SqX K H1 a xs k ∧ -(2 ^ 63) ≤ c ∧ c < 2 ^ 63 ∧ RR (IteX K k a c xs.length) H1
theorem pi_enumX {X : Cx} {e e2 : Expr} {ta : TA} {p pos tpos : Pos} {elts : List Expr} {kk : Nat} (k : Bool) (hg : Gl X "enumerate") (hm : X.mg "enumerate" = none) (ha : PA X [e, e2] ta) (hs : starEach [e, e2] X.env = (false, eval e X.env) :: starEach [e2] X.env)
    (hpl : (backTo pos (starEach [e2] X.env)).any (·.1) = false) : PI X (.Tuple elts kk tpos) (.Call (.Name "enumerate" p) [e, e2] [] pos) (iEnumX X.K k ta) := by
  refine ⟨fun pins s σ H RR I h => ?_⟩
  refine Call_ (ld_blt I hg hm boot_enumerate (PyProof.Rows.callWith_type1 (thn (ha.run pos pins s σ H _ I h) fun us s1 ⟨vs, H1, I1, r1, q1⟩ => ?_) hs hpl))
  obtain ⟨a, c, xs, rfl, hq, c1, c2, q⟩ := q1
  obtain ⟨u1, u2, rfl, ru1, ru2⟩ := Vals.two r1
  cases ru1
  obtain ⟨t, rfl⟩ := ru2
  obtain ⟨its, rv, p', hz⟩ := seqX k I1 hq
  have la := isX_lt k p'
  refine enum_begins (beginsX k a its.toArray) p' c1 c2 fun h' he hob hsz hk => wpAny_pyIter_enum he ?_
  have I2 : Inv X pins σ H1 { s1 with heap := h' } := I1.kept (t' := s1.toks) hk
  refine ⟨s1.heap.objs.size + 1, [s1.heap.objs.size + 1, s1.heap.objs.size], _, _, H1, rfl, I2,
    turn_enumX k a (s1.heap.objs.size + 1) s1.heap.objs.size c xs.length (Nat.succ_ne_self _) (Nat.ne_of_gt (Nat.lt_succ_of_lt la)) (Nat.ne_of_lt la), ⟨Nat.zero_le _, ⟨.none, by rw [show c + ((0 : Nat) : Int) = c by omega]; exact he⟩, itX_new k hob⟩, fun b hb => ?_, q⟩
  have hle : s1.heap.objs.size ≤ b := by
    rcases List.mem_cons.mp hb with rfl | hb
    · exact Nat.le_succ _
    · rw [List.mem_singleton.mp hb]; exact Nat.le_refl _
  exact I1.fpOk hle (I1.hok.fresh hle)
/-! ### zip(x, y) -/
def ItzX (K : PySem.W.Frag) (k1 k2 : Bool) (a b : Addr) (n m : Nat) : It :=
  ⟨fun i H => i < min n m ∧ ∃ xs ys : List V, SqX K H a xs k1 ∧ SqX K H b ys k2 ∧ xs.length = n ∧ ys.length = m,
   fun i H v H' => ∃ T x y, v = .ref T ∧ H T = none ∧ H' = upd H T (.tup [x, y]) ∧ (∀ xs, SqX K H a xs k1 → xs[i]? = some x) ∧ ∀ ys, SqX K H b ys k2 → ys[i]? = some y,
   fun i H => min n m ≤ i ∧ ∃ xs ys : List V, SqX K H a xs k1 ∧ SqX K H b ys k2 ∧ xs.length = n ∧ ys.length = m⟩
structure Apart (z TI TO i1 i2 a b : Addr) : Prop where
  S : ZipSep2 z TI TO i1 i2 [i1, a] [i2, b]
  a1 : a ≠ i1
  b2 : b ≠ i2
theorem turn_zipX {P : Program} {w : World} {K : PySem.W.Frag} {elts : List Expr} {kk : Nat} {tpos : Pos} (k1 k2 : Bool) {z TI TO i1 i2 a b : Addr} (n m : Nat) (D : Apart z TI TO i1 i2 a b) :
    Turn P w K (.Tuple elts kk tpos) (ItzX K k1 k2 a b n m) [z, TI, TO, i1, i2] z (fun i h => i ≤ min n m ∧ IsZip h z TI TO .none ∧ IsTupOf2 h TI (.ref i1) (.ref i2) ∧ (∃ x y, IsTupOf2 h TO x y) ∧ itX h i1 a i k1 ∧ itX h i2 b i k2) where
  mem := by simp
  obj := fun i h st c hc => by
    obtain ⟨_, hz, hTI, ⟨x, y, hTO⟩, h1, h2⟩ := st
    simp only [List.mem_cons, List.not_mem_nil, or_false] at hc
    rcases hc with rfl | rfl | rfl | rfl | rfl
    · exact ⟨_, hz, fun v q => nomatch q⟩
    · exact ⟨_, hTI, fun v q => nomatch q⟩
    · exact ⟨_, hTO, fun v q => nomatch q⟩
    · exact itX_obj k1 h1
    · exact itX_obj k2 h2
  keep := fun i h h' st q => by
    obtain ⟨hn, hz, hTI, ⟨x, y, hTO⟩, h1, h2⟩ := st
    exact ⟨hn, q z (by simp) _ hz, q TI (by simp) _ hTI, ⟨x, y, q TO (by simp) _ hTO⟩, itX_at k1 h1 fun o e => q i1 (by simp) o e, itX_at k2 h2 fun o e => q i2 (by simp) o e⟩
  item := by
    intro X hP hw hK hc i pins s σ H E I hf st hg
    subst hP hw hK
    obtain ⟨_, hz, hTI, hTO, h1, h2⟩ := st
    obtain ⟨hlt, xs, ys, hqx, hqy, lx, ly⟩ := hg
    obtain ⟨its1, rv1, p1, _⟩ := seqX k1 I hqx
    obtain ⟨its2, rv2, p2, _⟩ := seqX k2 I hqy
    have l1 := rv1.length
    have l2 := rv2.length
    have W := WalksT.zipD2 (A := X.A) D.S (drawsX (P := X.prog) (w := X.w) (A := X.A.in1) k1 (I.ok.hd hc) i1 a D.a1 its1.toArray) (drawsX (P := X.prog) (w := X.w) (A := X.A.in1) k2 (I.ok.hd hc) i2 b D.b2 its2.toArray)
    refine W.item i s _ E (by rw [List.size_toArray, List.size_toArray]; omega) ⟨hz, hTI, hTO, ⟨h1, p1⟩, ⟨h2, p2⟩⟩ fun T vals h' tk hP hT hTup hMid hk => ?_
    refine ⟨_, rfl, W.go elts kk tpos i T _ _ E hMid fun h'' hSt hk2 => ?_⟩
    obtain ⟨u1, u2, hu1, hu2, rfl⟩ := hP
    have hx : i < xs.length := by omega
    have hy : i < ys.length := by omega
    obtain ⟨w1, e1, r1⟩ := rv1.get (List.getElem?_eq_getElem hx)
    obtain ⟨w2, e2, r2⟩ := rv2.get (List.getElem?_eq_getElem hy)
    have f1 : its1[i]? = some u1 := by simpa using hu1
    have f2 : its2[i]? = some u2 := by simpa using hu2
    rw [e1] at f1
    rw [e2] at f2
    obtain rfl : w1 = u1 := Option.some.inj f1
    obtain rfl : w2 = u2 := Option.some.inj f2
    have hTup2 : h''.IsTuple T #[w1, w2] := by
      obtain ⟨o, g1, g2, g3⟩ := hTup
      exact ⟨o, hk2 T o (W.apart i T h' hMid) g1, g2, g3⟩
    have sub : ∀ c, c ∉ [z, TI, TO, i1, i2] → c ∉ [z, TO, i1, i2] := fun c hn hm => hn (by
      simp only [List.mem_cons, List.not_mem_nil, or_false] at hm ⊢
      rcases hm with q | q | q | q <;> simp [q])
    have keep : ∀ c o, c ∉ [z, TI, TO, i1, i2] → s.heap.get? c = some o → h''.get? c = some o := fun c o hb q => hk2 c o (sub c hb) (hk c o (sub c hb) q)
    have I1 : Inv X pins σ (upd H T (.tup [xs[i], ys[i]])) { s with heap := h'', toks := tk } :=
      I.turnedNew keep hf hT ⟨by show 2 ≤ sizeLine; decide, [w1, w2], .cons r1 (.cons r2 .nil), hTup2⟩
    refine ⟨.ref T, _, I1, rfl, ⟨T, xs[i], ys[i], rfl, I.hok.fresh hT, rfl, fun l hy => by rw [injX k1 I hy hqx]; exact List.getElem?_eq_getElem hx, fun l hl => by rw [injX k2 I hl hqy]; exact List.getElem?_eq_getElem hy⟩,
      ⟨hlt, hSt.1, hSt.2.1, hSt.2.2.1, hSt.2.2.2.1.1, hSt.2.2.2.2.1⟩, fun c hcm => ?_⟩
    have hlT : c < s.heap.objs.size := by
      simp only [List.mem_cons, List.not_mem_nil, or_false] at hcm
      rcases hcm with q | q | q | q | q
      · rw [q]; exact Heap.lt_size hz
      · rw [q]; exact Heap.lt_size hTI
      · rw [q]; obtain ⟨x, y, hTO⟩ := hTO; exact Heap.lt_size hTO
      · rw [q]; obtain ⟨o, h, _⟩ := itX_obj k1 h1; exact Heap.lt_size h
      · rw [q]; obtain ⟨o, h, _⟩ := itX_obj k2 h2; exact Heap.lt_size h
    rw [upd_ne (Nat.ne_of_lt (Nat.lt_of_lt_of_le hlT hT))]
    exact (hf c hcm).1
  done := by
    intro X hP hw hK hc i pins s σ H E I hf st hg
    subst hP hw hK
    obtain ⟨hle, hz, hTI, hTO, h1, h2⟩ := st
    obtain ⟨hge, xs, ys, hqx, hqy, lx, ly⟩ := hg
    have e1 : i = min n m := by omega
    obtain ⟨its1, rv1, p1, _⟩ := seqX k1 I hqx
    obtain ⟨its2, rv2, p2, _⟩ := seqX k2 I hqy
    have l1 := rv1.length
    have l2 := rv2.length
    have W := WalksT.zipD2 (A := X.A) D.S (drawsX (P := X.prog) (w := X.w) (A := X.A.in1) k1 (I.ok.hd hc) i1 a D.a1 its1.toArray) (drawsX (P := X.prog) (w := X.w) (A := X.A.in1) k2 (I.ok.hd hc) i2 b D.b2 its2.toArray)
    have e2 : min its1.toArray.size its2.toArray.size = i := by rw [List.size_toArray, List.size_toArray]; omega
    have sub : ∀ c, c ∉ [z, TI, TO, i1, i2] → c ∉ [z, TO, i1, i2] := fun c hn hm => hn (by
      simp only [List.mem_cons, List.not_mem_nil, or_false] at hm ⊢
      rcases hm with q | q | q | q <;> simp [q])
    exact W.done s _ E (by rw [e2]; exact ⟨hz, hTI, hTO, ⟨h1, p1⟩, ⟨h2, p2⟩⟩) fun h' tk hk => ⟨rfl, I.turnedL (fun c o hb q => hk c o (sub c hb) q) hf⟩
  self := fun A i s Q E st h => wpAny_pyIter_zip st.2.1 h
def iZipX (K : PySem.W.Frag) (k1 k2 : Bool) (ta : TA) : TI := fun σ H RR => ta σ H fun vs H1 => ∃ a b xs ys, vs = [.ref a, .ref b] ∧ SqX K H1 a xs k1 ∧ SqX K H1 b ys k2 ∧ RR (ItzX K k1 k2 a b xs.length ys.length) H1
theorem pi_zipX {X : Cx} {e e2 : Expr} {ta : TA} {p pos tpos : Pos} {elts : List Expr} {kk : Nat} (k1 k2 : Bool) (hg : Gl X "zip") (hm : X.mg "zip" = none) (ha : PA X [e, e2] ta) (hs : starEach [e, e2] X.env = (false, eval e X.env) :: starEach [e2] X.env)
    (hpl : (backTo pos (starEach [e2] X.env)).any (·.1) = false) : PI X (.Tuple elts kk tpos) (.Call (.Name "zip" p) [e, e2] [] pos) (iZipX X.K k1 k2 ta) := by
  refine ⟨fun pins s σ H RR I h => ?_⟩
  refine Call_ (ld_blt I hg hm PyProof.Rows.boot_zip (PyProof.Rows.callWith_type1 (thn (ha.run pos pins s σ H _ I h) fun us s1 ⟨vs, H1, I1, r1, q1⟩ => ?_) hs hpl))
  obtain ⟨a, b, xs, ys, rfl, hqx, hqy, q⟩ := q1
  obtain ⟨u1, u2, rfl, ru1, ru2⟩ := Vals.two r1
  cases ru1
  cases ru2
  obtain ⟨its1, rv1, p1, _⟩ := seqX k1 I1 hqx
  obtain ⟨its2, rv2, p2, _⟩ := seqX k2 I1 hqy
  have la := isX_lt k1 p1
  have lb := isX_lt k2 p2
  refine zip_begins2 (beginsX k1 a its1.toArray) (beginsX k2 b its2.toArray) p1 p2 fun h' hz hTI hTO h1 h2 hsz hk => wpAny_pyIter_zip hz ?_
  have I2 : Inv X pins σ H1 { s1 with heap := h' } := I1.kept (t' := s1.toks) hk
  have ap : Apart (s1.heap.objs.size + 4) (s1.heap.objs.size + 2) (s1.heap.objs.size + 3) s1.heap.objs.size (s1.heap.objs.size + 1) a b :=
    ⟨zip_sep2 (fun c hc => by rw [List.mem_singleton.mp hc]; exact la) (fun c hc => by rw [List.mem_singleton.mp hc]; exact lb), Nat.ne_of_lt la, Nat.ne_of_lt (Nat.lt_succ_of_lt lb)⟩
  refine ⟨s1.heap.objs.size + 4, [s1.heap.objs.size + 4, s1.heap.objs.size + 2, s1.heap.objs.size + 3, s1.heap.objs.size, s1.heap.objs.size + 1], _, _, H1, rfl, I2, turn_zipX k1 k2 xs.length ys.length ap, ⟨Nat.zero_le _, hz, hTI, ⟨_, _, hTO⟩, itX_new k1 h1, itX_new k2 h2⟩, fun c hcm => ?_, q⟩
  have hle : s1.heap.objs.size ≤ c := by
    simp only [List.mem_cons, List.not_mem_nil, or_false] at hcm
    rcases hcm with q | q | q | q | q <;> rw [q]
    · exact Nat.le_add_right _ _
    · exact Nat.le_add_right _ _
    · exact Nat.le_add_right _ _
    · exact Nat.le_refl _
    · exact Nat.le_add_right _ _
  exact I1.fpOk hle (I1.hok.fresh hle)
end Fz
set_option Elab.async false
set_option linter.all false
set_option maxRecDepth 100000
set_option maxHeartbeats 4000000
/-! Fz, part H: what is walked, as a list of data. -/
namespace Fz
open PySem PySem.Spec PyProof.Rows L2 AutoSeq1

/-! ### enumerate(x) of a list or a tuple -/
theorem enum_new_one {v : Value} {o : Obj} {P : Heap → Prop} (B : Begins v o P) :
    Meets (Builtin.«enumerate.__new__» ⟨[.type "enumerate", v], []⟩) (fun _ RR s => P s.heap ∧
      RR (.ok (.ret (.ref (s.heap.push o).objs.size))) { s with heap := (s.heap.push o).push { cls := .type "enumerate", data := .fields #[.none, .bool false, .ref s.heap.objs.size, rawInt 0, .none, .none] } }) :=
  .of_wp fun prog w A RR s h => by
    obtain ⟨hp, g, d, tk, os⟩ := s
    obtain ⟨h1, h⟩ := h
    have hsub := sub_enumerate
    have q1 : ∀ {A' : Around} {E : Value → Shared → Prop} {Q : Value → Shared → Prop}, Q (.ref hp.objs.size) ⟨hp.push o, g, d, tk, os⟩ → wpAny (model prog w) A' (pyIter v) Q E ⟨hp, g, d, tk, os⟩ :=
      fun q => B.iter prog w _ _ ⟨hp, g, d, tk, os⟩ _ h1 q
    wp_walk using q1
    refine wpAny_stack_any fun st => wpAny_pure ?_
    split
    · rename_i c _ _ _ _ _
      cases (c == Value.type "enumerate") <;> (wp_walk using q1) <;> exact ⟨_, rfl, h⟩
    · wp_walk using q1
      exact ⟨_, rfl, h⟩
theorem enum_one {prog : Program} {w : World} {A : Around} {E : Value → Shared → Prop} {s : Shared} {v : Value} {o : Obj} {P : Heap → Prop} {Q : Value → Shared → Prop} (B : Begins v o P) (h1 : P s.heap)
    (h : ∀ h', IsEnum h' (s.heap.objs.size + 1) s.heap.objs.size 0 .none → h'.get? s.heap.objs.size = some o → h'.objs.size = s.heap.objs.size + 2 →
      (∀ b o, s.heap.get? b = some o → h'.get? b = some o) → Q (.ref (s.heap.objs.size + 1)) { s with heap := h' }) :
    wpAny (model prog w) A (call (.type "enumerate") [v]) Q E s := by
  refine callType_new F.called_enumerate (by decide) (F.typeCall_enumerate_1 _) (F.newCall_enumerate_1 _) (fun obj => F.args_object_init_2 obj _) F.entry_enumerate_new (enum_new_one B) ⟨h1, ?_⟩
  have hz : (s.heap.push o).objs.size = s.heap.objs.size + 1 := Heap.size_push ..
  show _ ∧ _
  rw [hz]
  have he := Heap.get?_push_size (s.heap.push o) (o := { cls := .type "enumerate", data := .fields #[.none, .bool false, .ref s.heap.objs.size, rawInt 0, .none, .none] }) rfl
  rw [hz] at he
  exact ⟨⟨_, he, rfl⟩, h _ he (Heap.get?_push_of_some _ (Heap.get?_push_size _ B.free)) (by rw [Heap.size_push, hz]) fun b o x => Heap.get?_push_of_some _ (Heap.get?_push_of_some _ x)⟩
def iEnum1 (K : PySem.W.Frag) (k : Bool) (ta : TA) : TI := fun σ H RR => ta σ H fun vs H1 => ∃ a xs, vs = [.ref a] ∧ SqX K H1 a xs k ∧ RR (IteX K k a 0 xs.length) H1
theorem pi_enum1 {X : Cx} {e : Expr} {ta : TA} {p pos tpos : Pos} {elts : List Expr} {kk : Nat} (k : Bool) (hg : Gl X "enumerate") (hm : X.mg "enumerate" = none) (ha : PA X [e] ta) (hs : starEach [e] X.env = (false, eval e X.env) :: starEach [] X.env) :
    PI X (.Tuple elts kk tpos) (.Call (.Name "enumerate" p) [e] [] pos) (iEnum1 X.K k ta) := by
  refine ⟨fun pins s σ H RR I h => ?_⟩
  refine Call_ (ld_blt I hg hm boot_enumerate (PyProof.Rows.callWith_type1 (thn (ha.run pos pins s σ H _ I h) fun us s1 ⟨vs, H1, I1, r1, q1⟩ => ?_) hs rfl))
  obtain ⟨a, xs, rfl, hq, q⟩ := q1
  obtain ⟨u1, rfl, ru1⟩ := Vals.one r1
  cases ru1
  obtain ⟨its, rv, p', hz⟩ := seqX k I1 hq
  have la := isX_lt k p'
  refine enum_one (beginsX k a its.toArray) p' fun h' he hob hsz hk => wpAny_pyIter_enum he ?_
  have I2 : Inv X pins σ H1 { s1 with heap := h' } := I1.kept (t' := s1.toks) hk
  refine ⟨s1.heap.objs.size + 1, [s1.heap.objs.size + 1, s1.heap.objs.size], _, _, H1, rfl, I2,
    turn_enumX k a (s1.heap.objs.size + 1) s1.heap.objs.size 0 xs.length (Nat.succ_ne_self _) (Nat.ne_of_gt (Nat.lt_succ_of_lt la)) (Nat.ne_of_lt la), ⟨Nat.zero_le _, ⟨.none, by rw [show (0 : Int) + ((0 : Nat) : Int) = 0 by omega]; exact he⟩, itX_new k hob⟩, fun b hb => ?_, q⟩
  have hle : s1.heap.objs.size ≤ b := by
    rcases List.mem_cons.mp hb with rfl | hb
    · exact Nat.le_succ _
    · rw [List.mem_singleton.mp hb]; exact Nat.le_refl _
  exact I1.fpOk hle (I1.hok.fresh hle)

end Fz
set_option Elab.async false
set_option linter.all false
set_option maxRecDepth 100000
set_option maxHeartbeats 2000000
namespace Fz
open PySem PySem.Spec PyProof.Rows L2
open Sem (wp)
/-- a zip over two, whatever became of the last tuple that it gave out -/
def ZipG (h : Heap) (z TI TO : Addr) : Prop := ∃ f0 f1 : Value, h.get? z = some { cls := .type "zip", data := .fields #[f0, f1, .bool false, .ref TI, .ref TO] } ∧ (f0 = .none ∨ ∃ a : Nat, f0 = rawInt a)
abbrev ZipR (h : Heap) (z TI TO : Addr) (f0 f1 : Value) : Prop := h.get? z = some { cls := .type "zip", data := .fields #[f0, f1, .bool false, .ref TI, .ref TO] }
section
variable {prog : Program} {w : World} {A : Around} {E : Value → Shared → Prop} {s : Shared} {z TI TO i1 i2 : Addr} {fp1 fp2 : List Addr} {n1 n2 i : Nat} {P1 P2 : Nat → Value → Prop} {St1 St2 : Nat → Heap → Prop} {a1 a2 : Value}
theorem alive_any {a : Addr} {Q : Option Obj → Shared → Prop} (h : Q (s.heap.get? a) s) : wpAny (model prog w) A (loadIfAlive a) Q E s := fun _ _ _ => h
theorem zipG_slow {Q : Value → Shared → Prop} (S : ZipSep2 z TI TO i1 i2 fp1 fp2) (D1 : Draws prog w A i1 fp1 n1 P1 St1) (D2 : Draws prog w A i2 fp2 n2 P2 St2) {a : Nat} {f1 : Value} {o : Obj} (ha : s.heap.get? a = some o)
    (hz : ZipR s.heap z TI TO (rawInt a) f1) (hTI : IsTupOf2 s.heap TI (.ref i1) (.ref i2)) (hTO : IsTupOf2 s.heap TO a1 a2) (st1 : St1 i s.heap) (st2 : St2 i s.heap) (hlt1 : i < n1) (hlt2 : i < n2)
    (hQ : ∀ x1 x2 h' tk, P1 i x1 → P2 i x2 → ZipG h' z TI TO → (∃ b1 b2, IsTupOf2 h' TO b1 b2) → St1 (i + 1) h' → St2 (i + 1) h' → IsTupOf2 h' s.heap.objs.size x1 x2 → h'.objs.size = s.heap.objs.size + 1 →
      (∀ c o, c ≠ z → c ≠ TO → c ≠ i1 → c ≠ i2 → s.heap.get? c = some o → h'.get? c = some o) → Q (.ref s.heap.objs.size) { s with heap := h', toks := tk }) :
    wpAny (model prog w) A (Builtin.«zip.__next__» ⟨[.ref z], []⟩) (fun fin s' => ∃ v, fin = .done (.ret v) ∧ Q v s') E s := by
  obtain ⟨hp, g, d, tk0, os⟩ := s
  show wpAny _ _ (field (.ref z) 2 >>= _) _ _ _
  refine wpAny_bind (wpAny_field hz rfl (x := .bool false) rfl ?_)
  show wpAny _ _ (field (.ref z) 3 >>= _) _ _ _
  refine wpAny_bind (wpAny_field hz rfl (x := .ref TI) rfl ?_)
  refine wpAny_bind (wpAny_seqItems hTI rfl ?_)
  show wpAny _ _ (Builtin.SmallTypes.ownedTupleIsFree (.ref z) >>= _) _ _ _
  refine wpAny_bind ?_
  unfold Builtin.SmallTypes.ownedTupleIsFree
  refine wpAny_bind (wpAny_field hz rfl (x := rawInt a) rfl ?_)
  show wpAny _ _ (loadIfAlive a >>= _) _ _ _
  refine wpAny_bind (alive_any ?_)
  show wpAny _ _ ((if (hp.get? a).isNone = true then _ else _) : Sem Bool) _ _ _
  refine wpAny_mono (Q := fun (b : Bool) (s' : Shared) => b = false ∧ ∃ (g0 : Heap) (f : Value), s' = ⟨g0, g, d, tk0, os⟩ ∧ ZipR g0 z TI TO (rawInt a) f ∧ Heap.SameBut z hp g0) ?_ (fun b s' hb => ?_) fun _ _ x => x
  · rw [ha]
    rw [if_neg (by simp)]
    refine wpAny_bind (wpAny_field hz rfl (x := f1) rfl ?_)
    by_cases hf : (f1 != Value.bool true) = true
    · rw [if_pos hf]
      refine wpAny_bind (wpAny_setField_rec hz (by simp) fun g0 hz0 hs0 => wpAny_pure ⟨rfl, g0, .bool true, rfl, hz0, hs0⟩)
    · rw [if_neg hf]
      exact wpAny_pure ⟨rfl, hp, f1, rfl, hz, ⟨rfl, fun _ _ => rfl⟩⟩
  · obtain ⟨rfl, g0, f, rfl, hz0, hs0⟩ := hb
    rw [show (#[Value.ref i1, Value.ref i2] : Array Value) = List.toArray [.ref i1, .ref i2] from rfl]
    simp only [if_false, Bool.false_eq_true, List.forIn_toArray, List.forIn_cons, List.forIn_nil]
    refine wpAny_bind (wpAny_bind (wpAny_bind (wpAny_holding ?_)))
    show wpAny _ _ (Builtin.SmallTypes.nextOf (.ref i1) >>= _) _ _ ⟨g0, g, d, tk0, os⟩
    refine wpAny_bind (D1.item i _ _ _ hlt1 (D1.over st1 hs0 S.zf1) fun x1 p1 tk1 hx1 sn1 hp1 => wpAny_pure ?_)
    replace hp1 : Heap.SameBut i1 g0 p1 := hp1
    refine wpAny_pure ?_
    refine wpAny_bind (wpAny_bind (wpAny_holding ?_))
    show wpAny _ _ (Builtin.SmallTypes.nextOf (.ref i2) >>= _) _ _ ⟨p1, g, d, tk1, os⟩
    refine wpAny_bind (D2.item i _ _ _ hlt2 (D2.over (D2.over st2 hs0 S.zf2) hp1 S.sep1_2) fun x2 p2 tk2 hx2 sn2 hp2 => wpAny_pure ?_)
    replace hp2 : Heap.SameBut i2 p1 p2 := hp2
    refine wpAny_pure (wpAny_pure ?_)
    refine wpAny_bind (wpAny_newTuple (hsz := by show 2 ≤ sizeLine; decide) ?_)
    have hsz : p2.objs.size = hp.objs.size := by rw [hp2.1, hp1.1, hs0.1]
    have hzz : ZipR p2 z TI TO (rawInt a) f := hp2.extBut _ _ S.zi2 (hp1.extBut _ _ S.zi1 hz0)
    have hkk : ∀ c o, c ≠ z → c ≠ TO → c ≠ i1 → c ≠ i2 → hp.get? c = some o → p2.get? c = some o := fun c o cz cT c1 c2 e => hp2.extBut _ _ c2 (hp1.extBut _ _ c1 (hs0.extBut _ _ cz e))
    refine wpAny_pure ⟨_, rfl, ?_⟩
    show Q (.ref p2.objs.size) ⟨p2.push { cls := .type "tuple", data := .seq #[x1, x2] }, g, d, tk2, os⟩
    rw [hsz]
    have up : ∀ c o, p2.get? c = some o → (p2.push { cls := .type "tuple", data := .seq #[x1, x2] }).get? c = some o := fun c o e => Heap.get?_push_of_some _ e
    refine hQ x1 x2 _ tk2 hx1 hx2 ⟨rawInt a, f, up _ _ hzz, .inr ⟨a, rfl⟩⟩ ⟨a1, a2, up _ _ (hp2.extBut _ _ S.Ti2 (hp1.extBut _ _ S.Ti1 (hs0.extBut _ _ S.TOz hTO)))⟩ (D1.frame _ _ _ (D1.over sn1 hp2 S.sep2_1) fun b _ o e => up b o e) (D2.frame _ _ _ sn2 fun b _ o e => up b o e) ?_ (by rw [Heap.size_push, hsz]) fun c o cz cT c1 c2 e => up c o (hkk c o cz cT c1 c2 e)
    show IsTupOf2 _ hp.objs.size x1 x2
    rw [← hsz]
    exact Heap.get?_push_size _ rfl
theorem updT {T : Addr} {x : Value} {k : Nat} {Q : Unit → Shared → Prop} {A1 : Around} {E1 : Value → Shared → Prop} {s1 : Shared} {b1 b2 : Value} (hT : IsTupOf2 s1.heap T b1 b2)
    (h : ∀ h', h'.get? T = some { cls := .type "tuple", data := .seq ((#[b1, b2] : Array Value).setIfInBounds k x) } → Heap.SameBut T s1.heap h' → Q () { s1 with heap := h' }) :
    wpAny (model prog w) A1 (updateSeq T (·.setIfInBounds k x)) Q E1 s1 := updateSeq_IsTupOf2 hT h
theorem zipG_free {Q : Value → Shared → Prop} (S : ZipSep2 z TI TO i1 i2 fp1 fp2) (D1 : Draws prog w A i1 fp1 n1 P1 St1) (D2 : Draws prog w A i2 fp2 n2 P2 St2) {f0 f1 : Value} (hf : f0 = .none ∨ ∃ a : Nat, f0 = rawInt a ∧ s.heap.get? a = none)
    (hz : ZipR s.heap z TI TO f0 f1) (hTI : IsTupOf2 s.heap TI (.ref i1) (.ref i2)) (hTO : IsTupOf2 s.heap TO a1 a2) (st1 : St1 i s.heap) (st2 : St2 i s.heap) (hlt1 : i < n1) (hlt2 : i < n2)
    (hQ : ∀ x1 x2 h' tk, P1 i x1 → P2 i x2 → ZipG h' z TI TO → IsTupOf2 h' TO x1 x2 → St1 (i + 1) h' → St2 (i + 1) h' → IsTupOf2 h' s.heap.objs.size x1 x2 → h'.objs.size = s.heap.objs.size + 1 →
      (∀ c o, c ≠ z → c ≠ TO → c ≠ i1 → c ≠ i2 → s.heap.get? c = some o → h'.get? c = some o) → Q (.ref s.heap.objs.size) { s with heap := h', toks := tk }) :
    wpAny (model prog w) A (Builtin.«zip.__next__» ⟨[.ref z], []⟩) (fun fin s' => ∃ v, fin = .done (.ret v) ∧ Q v s') E s := by
  obtain ⟨hp, g, d, tk0, os⟩ := s
  show wpAny _ _ (field (.ref z) 2 >>= _) _ _ _
  refine wpAny_bind (wpAny_field hz rfl (x := .bool false) rfl ?_)
  show wpAny _ _ (field (.ref z) 3 >>= _) _ _ _
  refine wpAny_bind (wpAny_field hz rfl (x := .ref TI) rfl ?_)
  refine wpAny_bind (wpAny_seqItems hTI rfl ?_)
  show wpAny _ _ (Builtin.SmallTypes.ownedTupleIsFree (.ref z) >>= _) _ _ _
  refine wpAny_bind ?_
  unfold Builtin.SmallTypes.ownedTupleIsFree
  refine wpAny_bind (wpAny_field hz rfl (x := f0) rfl ?_)
  refine wpAny_mono (Q := fun (b : Bool) (s' : Shared) => b = true ∧ s' = ⟨hp, g, d, tk0, os⟩) ?_ (fun b s' hb => ?_) fun _ _ x => x
  · rcases hf with rfl | ⟨a, rfl, ha⟩
    · exact wpAny_pure ⟨rfl, rfl⟩
    · show wpAny _ _ (loadIfAlive a >>= _) _ _ _
      refine wpAny_bind (alive_any ?_)
      show wpAny _ _ ((if (hp.get? a).isNone = true then _ else _) : Sem Bool) _ _ _
      rw [show hp.get? a = none from ha, if_pos (by simp)]
      exact wpAny_pure ⟨rfl, rfl⟩
  obtain ⟨rfl, rfl⟩ := hb
  simp only [if_true]
  refine wpAny_bind (wpAny_rule ?_)
  refine wpAny_bind (wpAny_field hz rfl (x := .ref TO) rfl ?_)
  refine wpAny_bind (wpAny_setField_rec hz (by simp) fun g0 hz0 hs0 => ?_)
  replace hz0 : ZipR g0 z TI TO .ellipsis f1 := hz0
  replace hs0 : Heap.SameBut z hp g0 := hs0
  refine wpAny_bind ?_
  simp only [List.zipIdx_cons, List.zipIdx_nil, List.forIn_cons, List.forIn_nil]
  refine wpAny_bind (wpAny_bind (wpAny_onRaise ?_))
  show wpAny _ _ (Builtin.SmallTypes.nextOf (.ref i1) >>= _) _ _ ⟨g0, g, d, tk0, os⟩
  refine wpAny_bind (D1.item i _ _ _ hlt1 (D1.over st1 hs0 S.zf1) fun x1 p1 tk1 hx1 sn1 hp1 => wpAny_pure ?_)
  replace hp1 : Heap.SameBut i1 g0 p1 := hp1
  have hU1 : IsTupOf2 p1 TO a1 a2 := hp1.extBut _ _ S.Ti1 (hs0.extBut _ _ S.TOz hTO)
  refine wpAny_bind (wpAny_seqItems (s := ⟨p1, g, d, tk1, os⟩) hU1 rfl ?_)
  refine wpAny_bind (updT (s1 := ⟨p1, g, d, tk1, os⟩) hU1 fun g1 hT1 hs1 => ?_)
  replace hT1 : IsTupOf2 g1 TO x1 a2 := hT1
  replace hs1 : Heap.SameBut TO p1 g1 := hs1
  refine wpAny_bind (wpAny_letGo (wpAny_pure ?_))
  refine wpAny_bind (wpAny_bind (wpAny_onRaise ?_))
  show wpAny _ _ (Builtin.SmallTypes.nextOf (.ref i2) >>= _) _ _ ⟨g1, g, d, tk1, os⟩
  refine wpAny_bind (D2.item i _ _ _ hlt2 (D2.over (D2.over (D2.over st2 hs0 S.zf2) hp1 S.sep1_2) hs1 S.Tf2) fun x2 p2 tk2 hx2 sn2 hp2 => wpAny_pure ?_)
  replace hp2 : Heap.SameBut i2 g1 p2 := hp2
  have hU2 : IsTupOf2 p2 TO x1 a2 := hp2.extBut _ _ S.Ti2 hT1
  refine wpAny_bind (wpAny_seqItems (s := ⟨p2, g, d, tk2, os⟩) hU2 rfl ?_)
  refine wpAny_bind (updT (s1 := ⟨p2, g, d, tk2, os⟩) hU2 fun g2 hT2 hs2 => ?_)
  replace hT2 : IsTupOf2 g2 TO x1 x2 := hT2
  replace hs2 : Heap.SameBut TO p2 g2 := hs2
  refine wpAny_bind (wpAny_letGo (wpAny_pure (wpAny_pure ?_)))
  refine wpAny_bind (wpAny_seqItems (s := ⟨g2, g, d, tk2, os⟩) hT2 rfl ?_)
  refine wpAny_bind (wpAny_newTuple ?_)
  have hsz : g2.objs.size = hp.objs.size := by rw [hs2.1, hp2.1, hs1.1, hp1.1, hs0.1]
  have hzz : ZipR g2 z TI TO .ellipsis f1 := (hs2.extBut _ _ S.TOz.symm (hp2.extBut _ _ S.zi2 (hs1.extBut _ _ S.TOz.symm (hp1.extBut _ _ S.zi1 hz0))))
  have hkk : ∀ c o, c ≠ z → c ≠ TO → c ≠ i1 → c ≠ i2 → hp.get? c = some o → g2.get? c = some o := fun c o cz cT c1 c2 e =>
    (hs2.extBut _ _ cT (hp2.extBut _ _ c2 (hs1.extBut _ _ cT (hp1.extBut _ _ c1 (hs0.extBut _ _ cz e)))))
  have hj1 : St1 (i + 1) g2 := (D1.over (D1.over (D1.over sn1 hs1 S.Tf1) hp2 S.sep2_1) hs2 S.Tf1)
  have hj2 : St2 (i + 1) g2 := (D2.over sn2 hs2 S.Tf2)
  have hzlt : z < g2.objs.size := Heap.lt_size hzz
  show wpAny _ _ (Builtin.SmallTypes.ownedTupleHandOut (.ref z) (.ref g2.objs.size) >>= _) _ _ ⟨g2.push { cls := .type "tuple", data := .seq #[x1, x2] }, g, d, tk2, os⟩
  refine wpAny_bind ?_
  unfold Builtin.SmallTypes.ownedTupleHandOut
  have hz6 : ZipR (g2.push { cls := .type "tuple", data := .seq #[x1, x2] }) z TI TO .ellipsis f1 := Heap.get?_push_of_some _ hzz
  refine wpAny_bind (wpAny_setField_rec hz6 (by simp) fun h7 hz7 hs7 => ?_)
  replace hz7 : ZipR h7 z TI TO (rawInt g2.objs.size) f1 := hz7
  refine wpAny_setField_rec hz7 (by simp) fun h8 hz8 hs8 => ?_
  replace hz8 : ZipR h8 z TI TO (rawInt g2.objs.size) (.bool false) := hz8
  replace hs7 : Heap.SameBut z (g2.push { cls := .type "tuple", data := .seq #[x1, x2] }) h7 := hs7
  replace hs8 : Heap.SameBut z h7 h8 := hs8
  have up : ∀ c o, c ≠ z → g2.get? c = some o → h8.get? c = some o := fun c o c1 e => hs8.extBut _ _ c1 (hs7.extBut _ _ c1 (Heap.get?_push_of_some _ e))
  have hT8 : IsTupOf2 h8 g2.objs.size x1 x2 := hs8.extBut _ _ (Nat.ne_of_gt hzlt) (hs7.extBut _ _ (Nat.ne_of_gt hzlt) (Heap.get?_push_size _ rfl))
  have hl8 : h8.objs.size = g2.objs.size + 1 := by rw [hs8.1, hs7.1, Heap.size_push]
  rw [hsz] at hT8 hl8
  refine wpAny_pure ⟨_, rfl, ?_⟩
  show Q (.ref g2.objs.size) ⟨h8, g, d, tk2, os⟩
  rw [hsz]
  exact hQ x1 x2 h8 tk2 hx1 hx2 ⟨_, _, hz8, .inr ⟨_, rfl⟩⟩ (up _ _ S.TOz hT2) (D1.frame _ _ _ hj1 fun b hb o e => up b o (fun q => S.zf1 (q ▸ hb)) e) (D2.frame _ _ _ hj2 fun b hb o e => up b o (fun q => S.zf2 (q ▸ hb)) e) hT8 hl8 fun c o cz cT c1 c2 e => up c o cz (hkk c o cz cT c1 c2 e)
theorem zipG_next {Q : Value → Shared → Prop} (S : ZipSep2 z TI TO i1 i2 fp1 fp2) (D1 : Draws prog w A i1 fp1 n1 P1 St1) (D2 : Draws prog w A i2 fp2 n2 P2 St2)
    (hz : ZipG s.heap z TI TO) (hTI : IsTupOf2 s.heap TI (.ref i1) (.ref i2)) (hTO : ∃ a1 a2, IsTupOf2 s.heap TO a1 a2) (st1 : St1 i s.heap) (st2 : St2 i s.heap) (hlt1 : i < n1) (hlt2 : i < n2)
    (hQ : ∀ x1 x2 h' tk, P1 i x1 → P2 i x2 → ZipG h' z TI TO → (∃ b1 b2, IsTupOf2 h' TO b1 b2) → St1 (i + 1) h' → St2 (i + 1) h' → IsTupOf2 h' s.heap.objs.size x1 x2 → h'.objs.size = s.heap.objs.size + 1 →
      (∀ c o, c ≠ z → c ≠ TO → c ≠ i1 → c ≠ i2 → s.heap.get? c = some o → h'.get? c = some o) → Q (.ref s.heap.objs.size) { s with heap := h', toks := tk }) :
    wpAny (model prog w) A (Builtin.«zip.__next__» ⟨[.ref z], []⟩) (fun fin s' => ∃ v, fin = .done (.ret v) ∧ Q v s') E s := by
  obtain ⟨f0, f1, hr, hf⟩ := hz
  obtain ⟨a1, a2, hTO⟩ := hTO
  rcases hf with rfl | ⟨a, rfl⟩
  · exact zipG_free S D1 D2 (.inl rfl) hr hTI hTO st1 st2 hlt1 hlt2 fun x1 x2 h' tk y1 y2 b1 b2 => hQ x1 x2 h' tk y1 y2 b1 ⟨_, _, b2⟩
  · cases ha : s.heap.get? a with
    | none => exact zipG_free S D1 D2 (.inr ⟨a, rfl, ha⟩) hr hTI hTO st1 st2 hlt1 hlt2 fun x1 x2 h' tk y1 y2 b1 b2 => hQ x1 x2 h' tk y1 y2 b1 ⟨_, _, b2⟩
    | some o => exact zipG_slow S D1 D2 ha hr hTI hTO st1 st2 hlt1 hlt2 hQ
end
end Fz
set_option Elab.async false
set_option linter.all false
set_option maxRecDepth 100000
set_option maxHeartbeats 2000000
namespace Fz
open PySem PySem.Spec PyProof.Rows L2
open Sem (wp)
section
variable {prog : Program} {w : World} {A : Around} {E : Value → Shared → Prop} {s : Shared} {z TI TO i1 i2 : Addr} {fp1 fp2 : List Addr} {n1 n2 i : Nat} {P1 P2 : Nat → Value → Prop} {St1 St2 : Nat → Heap → Prop} {a1 a2 : Value}
theorem zipG_end {Q : PySem.Fin → Shared → Prop} (S : ZipSep2 z TI TO i1 i2 fp1 fp2) (D1 : Draws prog w A i1 fp1 n1 P1 St1) (D2 : Draws prog w A i2 fp2 n2 P2 St2)
    (hz : ZipG s.heap z TI TO) (hTI : IsTupOf2 s.heap TI (.ref i1) (.ref i2)) (hTO : ∃ a1 a2, IsTupOf2 s.heap TO a1 a2) (st1 : St1 i s.heap) (st2 : St2 i s.heap) (hle1 : i ≤ n1) (hle2 : i ≤ n2) (hend : i = n1 ∨ i = n2)
    (hE : ∀ h' tk e, (∀ c o, c ≠ z → c ≠ TO → c ≠ i1 → c ≠ i2 → s.heap.get? c = some o → h'.get? c = some o) → (∃ o, h'.get? e = some o ∧ o.cls = .type "StopIteration") → E (.ref e) { s with heap := h', toks := tk }) :
    wpAny (model prog w) A (Builtin.«zip.__next__» ⟨[.ref z], []⟩) Q E s := by
  obtain ⟨f0, f1, hz, hf⟩ := hz
  obtain ⟨a1, a2, hTO⟩ := hTO
  obtain ⟨hp, g, d, tk0, os⟩ := s
  show wpAny _ _ (field (.ref z) 2 >>= _) _ _ _
  refine wpAny_bind (wpAny_field hz rfl (x := .bool false) rfl ?_)
  show wpAny _ _ (field (.ref z) 3 >>= _) _ _ _
  refine wpAny_bind (wpAny_field hz rfl (x := .ref TI) rfl ?_)
  refine wpAny_bind (wpAny_seqItems hTI rfl ?_)
  show wpAny _ _ (Builtin.SmallTypes.ownedTupleIsFree (.ref z) >>= _) _ _ _
  refine wpAny_bind ?_
  unfold Builtin.SmallTypes.ownedTupleIsFree
  refine wpAny_bind (wpAny_field hz rfl (x := f0) rfl ?_)
  refine wpAny_mono (Q := fun (b : Bool) (s' : Shared) => ∃ (g0 : Heap) (f1' : Value), s' = ⟨g0, g, d, tk0, os⟩ ∧ ZipR g0 z TI TO f0 f1' ∧ Heap.SameBut z hp g0) ?_ (fun b s' hb => ?_) fun _ _ x => x
  · rcases hf with rfl | ⟨a, rfl⟩
    · exact wpAny_pure ⟨hp, f1, rfl, hz, Heap.SameBut.refl _ _⟩
    · show wpAny _ _ (loadIfAlive a >>= _) _ _ _
      refine wpAny_bind (alive_any ?_)
      show wpAny _ _ ((if (hp.get? a).isNone = true then _ else _) : Sem Bool) _ _ _
      by_cases hd : (hp.get? a).isNone = true
      · rw [if_pos hd]
        exact wpAny_pure ⟨hp, f1, rfl, hz, Heap.SameBut.refl _ _⟩
      · rw [if_neg hd]
        refine wpAny_bind (wpAny_field hz rfl (x := f1) rfl ?_)
        by_cases hf : (f1 != Value.bool true) = true
        · rw [if_pos hf]
          exact wpAny_bind (wpAny_setField_rec hz (by simp) fun g0 hz0 hs0 => wpAny_pure ⟨g0, .bool true, rfl, hz0, hs0⟩)
        · rw [if_neg hf]
          exact wpAny_pure ⟨hp, f1, rfl, hz, Heap.SameBut.refl _ _⟩
  obtain ⟨g0, f1', rfl, hz0, hs0⟩ := hb
  clear hz
  cases b with
  | false =>
    rw [show (#[Value.ref i1, Value.ref i2] : Array Value) = List.toArray [.ref i1, .ref i2] from rfl]
    simp only [if_false, Bool.false_eq_true, List.forIn_toArray, List.forIn_cons, List.forIn_nil]
    refine wpAny_bind (wpAny_bind (wpAny_bind (wpAny_holding ?_)))
    show wpAny _ _ (Builtin.SmallTypes.nextOf (.ref i1) >>= _) _ _ ⟨g0, g, d, tk0, os⟩
    by_cases hlt1 : i < n1
    · refine wpAny_bind (D1.item i _ _ _ hlt1 (D1.over st1 hs0 S.zf1) fun x1 p1 tk1 hx1 sn1 hp1 => wpAny_pure ?_)
      replace hp1 : Heap.SameBut i1 g0 p1 := hp1
      refine wpAny_pure ?_
      refine wpAny_bind (wpAny_bind (wpAny_holding ?_))
      show wpAny _ _ (Builtin.SmallTypes.nextOf (.ref i2) >>= _) _ _ ⟨p1, g, d, tk1, os⟩
      have hi2 : i = n2 := by omega
      refine wpAny_bind (D2.done ⟨p1, g, d, tk1, os⟩ _ _ (by rw [← hi2]; exact (D2.over (D2.over st2 hs0 S.zf2) hp1 S.sep1_2)) fun q e hq he => ?_)
      replace hq : Heap.ExtBut i2 p1 q := hq
      exact hE q tk1 e (fun c o cz cT c1 c2 x => hq _ _ c2 (hp1.extBut _ _ c1 (hs0.extBut _ _ cz x))) he
    · have hi1 : i = n1 := by omega
      refine wpAny_bind (D1.done ⟨g0, g, d, tk0, os⟩ _ _ (by rw [← hi1]; exact (D1.over st1 hs0 S.zf1)) fun q e hq he => ?_)
      replace hq : Heap.ExtBut i1 g0 q := hq
      exact hE q tk0 e (fun c o cz cT c1 c2 x => hq _ _ c1 (hs0.extBut _ _ cz x)) he
  | true =>
    simp only [if_true]
    refine wpAny_bind (wpAny_rule ?_)
    refine wpAny_bind (wpAny_field hz0 rfl (x := .ref TO) rfl ?_)
    refine wpAny_bind (wpAny_setField_rec hz0 (by simp) fun k0 hk0 ks0 => ?_)
    replace hk0 : ZipR k0 z TI TO .ellipsis f1' := hk0
    replace ks0 : Heap.SameBut z g0 k0 := ks0
    replace hs0 : Heap.SameBut z hp k0 := Heap.SameBut.trans hs0 ks0
    refine wpAny_bind ?_
    simp only [List.zipIdx_cons, List.zipIdx_nil, List.forIn_cons, List.forIn_nil]
    refine wpAny_bind (wpAny_bind (wpAny_onRaise ?_))
    show wpAny _ _ (Builtin.SmallTypes.nextOf (.ref i1) >>= _) _ _ ⟨k0, g, d, tk0, os⟩
    by_cases hlt1 : i < n1
    · refine wpAny_bind (D1.item i _ _ _ hlt1 (D1.over st1 hs0 S.zf1) fun x1 p1 tk1 hx1 sn1 hp1 => wpAny_pure ?_)
      replace hp1 : Heap.SameBut i1 k0 p1 := hp1
      have hU1 : IsTupOf2 p1 TO a1 a2 := hp1.extBut _ _ S.Ti1 (hs0.extBut _ _ S.TOz hTO)
      refine wpAny_bind (wpAny_seqItems (s := ⟨p1, g, d, tk1, os⟩) hU1 rfl ?_)
      refine wpAny_bind (updT (s1 := ⟨p1, g, d, tk1, os⟩) hU1 fun g1 hT1 hs1 => ?_)
      replace hT1 : IsTupOf2 g1 TO x1 a2 := hT1
      replace hs1 : Heap.SameBut TO p1 g1 := hs1
      refine wpAny_bind (wpAny_letGo (wpAny_pure ?_))
      have hi2 : i = n2 := by omega
      refine wpAny_bind (wpAny_bind (wpAny_onRaise ?_))
      show wpAny _ _ (Builtin.SmallTypes.nextOf (.ref i2) >>= _) _ _ ⟨g1, g, d, tk1, os⟩
      refine wpAny_bind (D2.done ⟨g1, g, d, tk1, os⟩ _ _ (by rw [← hi2]; exact (D2.over (D2.over (D2.over st2 hs0 S.zf2) hp1 S.sep1_2) hs1 S.Tf2)) fun q e hq he => ?_)
      replace hq : Heap.ExtBut i2 g1 q := hq
      obtain ⟨oe, hoe, hce⟩ := he
      replace hoe : q.get? e = some oe := hoe
      have hzq : ZipR q z TI TO .ellipsis f1' := hq _ _ S.zi2 (hs1.extBut _ _ S.TOz.symm (hp1.extBut _ _ S.zi1 hk0))
      have hez : e ≠ z := fun x => by subst x; rw [hzq] at hoe; cases hoe; simp at hce
      refine wpAny_setField_rec (s := ⟨q, g, d, tk1, os⟩) hzq (by simp) fun q' _ hq' => ?_
      replace hq' : Heap.SameBut z q q' := hq'
      exact hE q' tk1 e (fun c o cz cT c1 c2 x => hq'.extBut _ _ cz (hq _ _ c2 (hs1.extBut _ _ cT (hp1.extBut _ _ c1 (hs0.extBut _ _ cz x))))) ⟨oe, hq'.extBut _ _ hez hoe, hce⟩
    · have hi1 : i = n1 := by omega
      refine wpAny_bind (D1.done ⟨k0, g, d, tk0, os⟩ _ _ (by rw [← hi1]; exact (D1.over st1 hs0 S.zf1)) fun q e hq he => ?_)
      replace hq : Heap.ExtBut i1 k0 q := hq
      obtain ⟨oe, hoe, hce⟩ := he
      replace hoe : q.get? e = some oe := hoe
      have hzq : ZipR q z TI TO .ellipsis f1' := hq _ _ S.zi1 hk0
      have hez : e ≠ z := fun x => by subst x; rw [hzq] at hoe; cases hoe; simp at hce
      refine wpAny_setField_rec (s := ⟨q, g, d, tk0, os⟩) hzq (by simp) fun q' _ hq' => ?_
      replace hq' : Heap.SameBut z q q' := hq'
      exact hE q' tk0 e (fun c o cz cT c1 c2 x => hq'.extBut _ _ cz (hq _ _ c1 (hs0.extBut _ _ cz x))) ⟨oe, hq'.extBut _ _ hez hoe, hce⟩
end
end Fz
set_option Elab.async false
set_option linter.all false
set_option maxRecDepth 100000
set_option maxHeartbeats 2000000
namespace Fz
open PySem PySem.Spec PyProof.Rows L2
open Sem (wp)
section
variable {prog : Program} {w : World} {A : Around} {E : Value → Shared → Prop} {s : Shared} {z TI TO i1 i2 : Addr} {fp1 fp2 : List Addr} {n1 n2 i : Nat} {P1 P2 : Nat → Value → Prop} {St1 St2 : Nat → Heap → Prop} {a1 a2 : Value}
/-- a zip's state between two turns -/
structure ZipS (h : Heap) (z TI TO i1 i2 : Addr) (i : Nat) (St1 St2 : Nat → Heap → Prop) : Prop where
  z : ZipG h z TI TO
  ti : IsTupOf2 h TI (.ref i1) (.ref i2)
  to : ∃ a1 a2, IsTupOf2 h TO a1 a2
  s1 : St1 i h
  s2 : St2 i h
theorem nextOf_zip {Q : Value → Shared → Prop} (S : ZipSep2 z TI TO i1 i2 fp1 fp2) (D1 : Draws prog w A.in1 i1 fp1 n1 P1 St1) (D2 : Draws prog w A.in1 i2 fp2 n2 P2 St2)
    (hs : ZipS s.heap z TI TO i1 i2 i St1 St2) (hlt1 : i < n1) (hlt2 : i < n2)
    (hQ : ∀ x1 x2 h' tk, P1 i x1 → P2 i x2 → ZipS h' z TI TO i1 i2 (i + 1) St1 St2 → IsTupOf2 h' s.heap.objs.size x1 x2 → h'.objs.size = s.heap.objs.size + 1 →
      (∀ c o, c ≠ z → c ≠ TO → c ≠ i1 → c ≠ i2 → s.heap.get? c = some o → h'.get? c = some o) → Q (.ref s.heap.objs.size) { s with heap := h', toks := tk }) :
    wpAny (model prog w) A (Builtin.SmallTypes.nextOf (.ref z)) Q E s := by
  obtain ⟨f0, f1, hr, hf⟩ := hs.z
  have hT : s.TypeIs (.ref z) "zip" := ⟨_, hr, rfl⟩
  unfold Builtin.SmallTypes.nextOf
  refine wpAny_bind (wpAny_callSpecial?_slot (name := Str.ofString "__next__") hT F.slot_zip_next
    (wpAny_call_entry F.slot_zip_next hT F.entry_zip_next (zipG_next S D1 D2 hs.z hs.ti hs.to hs.s1 hs.s2 hlt1 hlt2 fun x1 x2 h' tk y1 y2 b1 b2 d1 d2 b5 b6 hk => ?_) (F.args_zip_next_1 _)))
  exact wpAny_pure (hQ x1 x2 h' tk y1 y2 ⟨b1, hk _ _ S.TIz S.TITO S.TIi1 S.TIi2 hs.ti, b2, d1, d2⟩ b5 b6 hk)
theorem nextOf_zip_end {Q : Value → Shared → Prop} (S : ZipSep2 z TI TO i1 i2 fp1 fp2) (D1 : Draws prog w A.in1 i1 fp1 n1 P1 St1) (D2 : Draws prog w A.in1 i2 fp2 n2 P2 St2)
    (hs : ZipS s.heap z TI TO i1 i2 i St1 St2) (hle1 : i ≤ n1) (hle2 : i ≤ n2) (hend : i = n1 ∨ i = n2)
    (hE : ∀ h' tk e, (∀ c o, c ≠ z → c ≠ TO → c ≠ i1 → c ≠ i2 → s.heap.get? c = some o → h'.get? c = some o) → (∃ o, h'.get? e = some o ∧ o.cls = .type "StopIteration") → E (.ref e) { s with heap := h', toks := tk }) :
    wpAny (model prog w) A (Builtin.SmallTypes.nextOf (.ref z)) Q E s := by
  obtain ⟨f0, f1, hr, hf⟩ := hs.z
  have hT : s.TypeIs (.ref z) "zip" := ⟨_, hr, rfl⟩
  unfold Builtin.SmallTypes.nextOf
  exact wpAny_bind (wpAny_callSpecial?_slot (name := Str.ofString "__next__") hT F.slot_zip_next
    (wpAny_call_entry F.slot_zip_next hT F.entry_zip_next (zipG_end S D1 D2 hs.z hs.ti hs.to hs.s1 hs.s2 hle1 hle2 hend hE) (F.args_zip_next_1 _)))
/-- the zip's cells stand through a write elsewhere -/
theorem ZipS.over {h h' : Heap} (S : ZipSep2 z TI TO i1 i2 fp1 fp2) (D1 : Draws prog w A i1 fp1 n1 P1 St1) (D2 : Draws prog w A i2 fp2 n2 P2 St2) (hs : ZipS h z TI TO i1 i2 i St1 St2) (hk : ∀ b ∈ z :: TI :: TO :: (fp1 ++ fp2), ∀ o, h.get? b = some o → h'.get? b = some o) : ZipS h' z TI TO i1 i2 i St1 St2 := by
  obtain ⟨⟨f0, f1, hr, hf⟩, hti, ⟨b1, b2, hto⟩, s1, s2⟩ := hs
  refine ⟨⟨f0, f1, hk z (by simp) _ hr, hf⟩, hk TI (by simp) _ hti, ⟨b1, b2, hk TO (by simp) _ hto⟩, D1.frame _ _ _ s1 fun b hb o e => hk b (by simp [hb]) o e, D2.frame _ _ _ s2 fun b hb o e => hk b (by simp [hb]) o e⟩
theorem enumz_item {e : Addr} {c : Int} {old : Value} {Q : Option Value → Shared → Prop} (S : ZipSep2 z TI TO i1 i2 fp1 fp2) (D1 : Draws prog w A.in1.in1 i1 fp1 n1 P1 St1) (D2 : Draws prog w A.in1.in1 i2 fp2 n2 P2 St2)
    (he : IsEnum s.heap e z c old) (hs : ZipS s.heap z TI TO i1 i2 i St1 St2) (hlt1 : i < n1) (hlt2 : i < n2) (hef : e ∉ z :: TI :: TO :: (fp1 ++ fp2))
    (hQ : ∀ x1 x2 h' tk t, P1 i x1 → P2 i x2 → IsEnumOut h' e z (c + 1) (.ref s.heap.objs.size) (s.heap.objs.size + 1) → ZipS h' z TI TO i1 i2 (i + 1) St1 St2 → IsTupOf2 h' s.heap.objs.size x1 x2 →
      h'.get? (s.heap.objs.size + 1) = some { cls := .type "tuple", data := .seq #[.int c t, .ref s.heap.objs.size] } →
      (∀ b o, b ≠ e → b ≠ z → b ≠ TO → b ≠ i1 → b ≠ i2 → s.heap.get? b = some o → h'.get? b = some o) → Q (some (.ref (s.heap.objs.size + 1))) { s with heap := h', toks := tk }) :
    wpAny (model prog w) A (pyNext (.ref e)) Q E s := by
  obtain ⟨hp, g, d, tk0, os⟩ := s
  have hT : Shared.TypeIs ⟨hp, g, d, tk0, os⟩ (.ref e) "enumerate" := ⟨_, he, rfl⟩
  have nz : e ≠ z := fun q => hef (by simp [q])
  have nTO : e ≠ TO := fun q => hef (by simp [q])
  have n1' : e ≠ i1 := fun q => hef (by simp [q, S.mem1])
  have n2' : e ≠ i2 := fun q => hef (by simp [q, S.mem2])
  unfold pyNext
  refine wpAny_bind (wpAny_attempt (wpAny_callSpecial?_slot (name := Str.ofString "__next__") hT F.slot_enumerate_next
    (wpAny_call_entry F.slot_enumerate_next hT F.entry_enumerate_next ?_ (F.args_enumerate_next_1 _))))
  show wpAny _ _ (field (.ref e) 2 >>= _) _ _ _
  refine wpAny_bind (wpAny_field he rfl (x := .ref z) rfl ?_)
  refine wpAny_bind (nextOf_zip S D1 D2 hs hlt1 hlt2 fun x1 x2 h1 tk hx1 hx2 hs1 hT1 hz1 hk1 => ?_)
  replace hT1 : IsTupOf2 h1 hp.objs.size x1 x2 := hT1
  replace hz1 : h1.objs.size = hp.objs.size + 1 := hz1
  replace hk1 : ∀ c o, c ≠ z → c ≠ TO → c ≠ i1 → c ≠ i2 → hp.get? c = some o → h1.get? c = some o := hk1
  have he1 : IsEnum h1 e z c old := hk1 e _ nz nTO n1' n2' he
  show wpAny _ _ (field (.ref e) 3 >>= _) _ _ ⟨h1, g, d, tk, os⟩
  refine wpAny_bind (wpAny_field he1 rfl (x := rawInt c) rfl ?_)
  show wpAny _ _ (field (.ref e) 4 >>= _) _ _ ⟨h1, g, d, tk, os⟩
  refine wpAny_bind (wpAny_field he1 rfl (x := .none) rfl ?_)
  show wpAny _ _ (mkInt c >>= _) _ _ ⟨h1, g, d, tk, os⟩
  refine wpAny_bind (wpAny_mkInt ?_)
  show wpAny _ _ (setField (.ref e) 3 (rawInt (c + 1)) >>= _) _ _ ⟨h1, g, d, tk + 1, os⟩
  refine wpAny_bind (wpAny_setField_rec he1 (by simp) fun h2 he2 hs2 => ?_)
  replace hs2 : Heap.SameBut e h1 h2 := hs2
  replace he2 : IsEnum h2 e z (c + 1) old := he2
  show wpAny _ _ (setField (.ref e) 4 .none >>= _) _ _ ⟨h2, g, d, tk + 1, os⟩
  refine wpAny_bind (wpAny_setField_rec he2 (by simp) fun h3 he3 hs3 => ?_)
  replace hs3 : Heap.SameBut e h2 h3 := hs3
  replace he3 : IsEnum h3 e z (c + 1) old := he3
  show wpAny _ _ (newTuple [.int c tk, .ref hp.objs.size] >>= _) _ _ ⟨h3, g, d, tk + 1, os⟩
  refine wpAny_bind (wpAny_newTuple ?_)
  have he4 : IsEnum (h3.push { cls := .type "tuple", data := .seq #[.int c tk, .ref hp.objs.size] }) e z (c + 1) old := Heap.get?_push_of_some _ he3
  generalize hh4 : h3.push { cls := .type "tuple", data := .seq #[.int c tk, .ref hp.objs.size] } = h4 at he4
  have hsz : h3.objs.size = hp.objs.size + 1 := by rw [hs3.1, hs2.1, hz1]
  have hel : e < hp.objs.size := Heap.lt_size he
  have ht4 : h4.get? (hp.objs.size + 1) = some { cls := .type "tuple", data := .seq #[.int c tk, .ref hp.objs.size] } := by rw [← hh4, ← hsz]; exact Heap.get?_push_size _ rfl
  have up4 : ∀ b o, b ≠ e → h1.get? b = some o → h4.get? b = some o := fun b o hbe hb => by
    rw [← hh4]; exact Heap.get?_push_of_some _ (hs3.extBut b o hbe (hs2.extBut b o hbe hb))
  show wpAny _ _ (Builtin.SmallTypes.ownedTupleIsFree (.ref e) >>= _) _ _ ⟨h4, g, d, tk + 1, os⟩
  rw [hsz]
  clear hh4 he3 hs3 he2 hs2 hsz h3 h2
  refine wpAny_bind ?_
  · unfold Builtin.SmallTypes.ownedTupleIsFree
    refine wpAny_bind (wpAny_field he4 rfl (x := .none) rfl (wpAny_pure ?_))
    simp only [if_true]
    refine wpAny_bind (wpAny_rule ?_)
    refine wpAny_bind (wpAny_field he4 rfl (x := old) rfl ?_)
    refine wpAny_bind (wpAny_setField_rec he4 (by simp) fun h5 he5 hs5 => ?_)
    replace hs5 : Heap.SameBut e h4 h5 := hs5
    replace he5 : IsEnum h5 e z (c + 1) (.ref hp.objs.size) := he5
    show wpAny _ _ (Builtin.SmallTypes.ownedTupleHandOut (.ref e) (.ref (hp.objs.size + 1)) >>= _) _ _ ⟨h5, g, d, tk + 1, os⟩
    refine wpAny_bind ?_
    · unfold Builtin.SmallTypes.ownedTupleHandOut
      refine wpAny_bind (wpAny_setField_rec he5 (by simp) fun h6 he6 hs6 => ?_)
      replace hs6 : Heap.SameBut e h5 h6 := hs6
      replace he6 : IsEnumOut h6 e z (c + 1) (.ref hp.objs.size) (hp.objs.size + 1) := he6
      refine wpAny_setField_rec he6 (by simp) fun h7 he7 hs7 => ?_
      replace hs7 : Heap.SameBut e h6 h7 := hs7
      replace he7 : IsEnumOut h7 e z (c + 1) (.ref hp.objs.size) (hp.objs.size + 1) := he7
      have up7 : ∀ b o, b ≠ e → h4.get? b = some o → h7.get? b = some o := fun b o hbe hb => hs7.extBut b o hbe (hs6.extBut b o hbe (hs5.extBut b o hbe hb))
      have up : ∀ b o, b ≠ e → h1.get? b = some o → h7.get? b = some o := fun b o hbe hb => up7 b o hbe (up4 b o hbe hb)
      refine wpAny_bind (wpAny_letGo (wpAny_pure ⟨_, rfl, wpAny_pure ?_⟩))
      refine hQ x1 x2 h7 (tk + 1) tk hx1 hx2 he7 (hs1.over S D1 D2 fun b hb o y => up b o (fun q => hef (q ▸ hb)) y) (up _ _ (Nat.ne_of_gt hel) hT1) (up7 _ _ (Nat.ne_of_gt (Nat.lt_succ_of_lt hel)) ht4) fun b o be bz bT b1 b2 y => up b o be (hk1 b o bz bT b1 b2 y)
theorem enumz_end {e : Addr} {c : Int} {old : Value} {Q : Option Value → Shared → Prop} (S : ZipSep2 z TI TO i1 i2 fp1 fp2) (D1 : Draws prog w A.in1.in1 i1 fp1 n1 P1 St1) (D2 : Draws prog w A.in1.in1 i2 fp2 n2 P2 St2)
    (he : IsEnum s.heap e z c old) (hs : ZipS s.heap z TI TO i1 i2 i St1 St2) (hle1 : i ≤ n1) (hle2 : i ≤ n2) (hend : i = n1 ∨ i = n2)
    (hQ : ∀ h' tk, (∀ c o, c ≠ z → c ≠ TO → c ≠ i1 → c ≠ i2 → s.heap.get? c = some o → h'.get? c = some o) → Q none { s with heap := h', toks := tk }) :
    wpAny (model prog w) A (pyNext (.ref e)) Q E s := by
  have hT : s.TypeIs (.ref e) "enumerate" := ⟨_, he, rfl⟩
  unfold pyNext
  refine wpAny_bind (wpAny_attempt (wpAny_callSpecial?_slot (name := Str.ofString "__next__") hT F.slot_enumerate_next
    (wpAny_call_entry F.slot_enumerate_next hT F.entry_enumerate_next ?_ (F.args_enumerate_next_1 _))))
  show wpAny _ _ (field (.ref e) 2 >>= _) _ _ _
  refine wpAny_bind (wpAny_field he rfl (x := .ref z) rfl ?_)
  refine wpAny_bind (nextOf_zip_end S D1 D2 hs hle1 hle2 hend fun h' tk x hk hx' => ?_)
  obtain ⟨o, ho, hc⟩ := hx'
  refine wpAny_bind (wpAny_isInstance (T := "StopIteration") (b := true) ⟨o, ho, hc⟩ isSubtype_stop ?_)
  exact wpAny_pure (hQ _ _ hk)
end
end Fz
set_option Elab.async false
set_option linter.all false
set_option maxRecDepth 100000
set_option maxHeartbeats 4000000
namespace Fz
open PySem PySem.Spec PyProof.Rows L2
open Sem (wp)
section
variable {X : Cx} {pins : List (Addr × Obj)} {σ : L2.St} {H : Hp} {s : Shared} {h' : Heap}
theorem turnedNew2 {t' : Nat} {ch : List Addr} {T1 T2 : Addr} {o1 o2 : HO} (I : Inv X pins σ H s) (k : ∀ b o, b ∉ ch → s.heap.get? b = some o → h'.get? b = some o) (hf : ∀ b ∈ ch, FpOk X pins H b) (hT1 : s.heap.objs.size ≤ T1) (hT2 : s.heap.objs.size ≤ T2)
    (new1 : ObjOk X.prog X.w (upd (upd H T1 o1) T2 o2) h' T1 o1) (new2 : ObjOk X.prog X.w (upd (upd H T1 o1) T2 o2) h' T2 o2) : Inv X pins σ (upd (upd H T1 o1) T2 o2) { s with heap := h', toks := t' } := by
  have hn1 : H T1 = none := I.hok.fresh hT1
  have hn2 : H T2 = none := I.hok.fresh hT2
  have nit : ∀ b u, H b = some u → b ∉ ch := fun b u e z => by
    have q := (hf b z).1
    rw [q] at e; cases e
  have old : ∀ b u, H b = some u → upd (upd H T1 o1) T2 o2 b = some u := fun b u e => by
    rw [upd_ne (ne_of_none e hn2), upd_ne (ne_of_none e hn1)]; exact e
  refine I.step (g' := s.gens) (d' := s.drawn) (ch := ch) (fun b hb => ⟨(hf b hb).2.2.2.1, (hf b hb).2.1, (hf b hb).2.2.2.2.1, (hf b hb).2.2.2.2.2⟩) (fun b o _ _ hc e _ => k b o hc e) (fun b o _ _ hc e _ => ⟨o.slots, k b o hc e⟩)
    (fun b o _ e n => ?_) (fun b o hc e => ⟨o, k b o hc e⟩) (fun b xs e => old b _ e) (fun b o u e => old b _ e) (fun b ps e => ⟨#[], ?_⟩) (fun m hm => ?_) (fun b u e => ?_) I.bare
  · rw [upd_ne (Nat.ne_of_lt (Nat.lt_of_lt_of_le (Heap.lt_size e) hT2)), upd_ne (Nat.ne_of_lt (Nat.lt_of_lt_of_le (Heap.lt_size e) hT1))]; exact n
  · rw [old b _ e]; simp
  · obtain ⟨o, es, ep, ho, r⟩ := hm
    exact ⟨o, es, ep, k _ o (fun z => (hf _ z).2.1 rfl) ho, r⟩
  · by_cases hb2 : b = T2
    · subst hb2
      rw [upd_same] at e
      cases e
      exact new2
    · rw [upd_ne hb2] at e
      by_cases hb1 : b = T1
      · subst hb1
        rw [upd_same] at e
        cases e
        exact new1
      · rw [upd_ne hb1] at e
        refine (I.hok b u e).stay (fun c v hc q => k c v ?_ q) (fun c q => old c _ q) fun c xs q => old c _ q
        rcases hc with z | z
        · rw [z]; exact nit b u e
        · exact nit c _ z
end
/-! ### enumerate(zip(x, y)) -/
def IteZ (K : PySem.W.Frag) (k1 k2 : Bool) (a b : Addr) (n m : Nat) : It :=
  ⟨fun i H => i < min n m ∧ ∃ xs ys : List V, SqX K H a xs k1 ∧ SqX K H b ys k2 ∧ xs.length = n ∧ ys.length = m,
   fun i H v H' => ∃ U T x y, v = .ref T ∧ U ≠ T ∧ H U = none ∧ H T = none ∧ H' = upd (upd H U (.tup [x, y])) T (.tup [.int (i : Nat), .ref U]) ∧ (∀ xs, SqX K H a xs k1 → xs[i]? = some x) ∧ ∀ ys, SqX K H b ys k2 → ys[i]? = some y,
   fun i H => min n m ≤ i ∧ ∃ xs ys : List V, SqX K H a xs k1 ∧ SqX K H b ys k2 ∧ xs.length = n ∧ ys.length = m⟩
structure ApartZ (e z TI TO i1 i2 a b : Addr) : Prop where
  S : ZipSep2 z TI TO i1 i2 [i1, a] [i2, b]
  a1 : a ≠ i1
  b2 : b ≠ i2
  ef : e ∉ z :: TI :: TO :: ([i1, a] ++ [i2, b])
theorem turn_ez {P : Program} {w : World} {K : PySem.W.Frag} {elts : List Expr} {kk : Nat} {tpos : Pos} (k1 k2 : Bool) {e z TI TO i1 i2 a b : Addr} (n m : Nat) (D : ApartZ e z TI TO i1 i2 a b) :
    Turn P w K (.Tuple elts kk tpos) (IteZ K k1 k2 a b n m) [e, z, TI, TO, i1, i2] e (fun i h => i ≤ min n m ∧ (∃ old, IsEnum h e z (i : Nat) old) ∧ ZipS h z TI TO i1 i2 i (fun i h => itX h i1 a i k1) (fun i h => itX h i2 b i k2)) where
  mem := by simp
  obj := fun i h st c hc => by
    obtain ⟨_, ⟨old, he⟩, ⟨⟨f0, f1, hz, _⟩, hTI, ⟨x, y, hTO⟩, h1, h2⟩⟩ := st
    simp only [List.mem_cons, List.not_mem_nil, or_false] at hc
    rcases hc with rfl | rfl | rfl | rfl | rfl | rfl
    · exact ⟨_, he, fun v q => nomatch q⟩
    · exact ⟨_, hz, fun v q => nomatch q⟩
    · exact ⟨_, hTI, fun v q => nomatch q⟩
    · exact ⟨_, hTO, fun v q => nomatch q⟩
    · exact itX_obj k1 h1
    · exact itX_obj k2 h2
  keep := fun i h h' st q => by
    obtain ⟨hn, ⟨old, he⟩, ⟨⟨f0, f1, hz, hf⟩, hTI, ⟨x, y, hTO⟩, h1, h2⟩⟩ := st
    exact ⟨hn, ⟨old, q e (by simp) _ he⟩, ⟨⟨f0, f1, q z (by simp) _ hz, hf⟩, q TI (by simp) _ hTI, ⟨x, y, q TO (by simp) _ hTO⟩, itX_at k1 h1 fun o e => q i1 (by simp) o e, itX_at k2 h2 fun o e => q i2 (by simp) o e⟩⟩
  item := by
    intro X hP hw hK hc i pins s σ H E I hf st hg
    subst hP hw hK
    obtain ⟨_, ⟨old, he⟩, hzs⟩ := st
    obtain ⟨hlt, xs, ys, hqx, hqy, lx, ly⟩ := hg
    obtain ⟨its1, rv1, p1, _⟩ := seqX k1 I hqx
    obtain ⟨its2, rv2, p2, _⟩ := seqX k2 I hqy
    have l1 := rv1.length
    have l2 := rv2.length
    have D1 := drawsX (P := X.prog) (w := X.w) (A := X.A.in1.in1) k1 (I.ok.hd hc) i1 a D.a1 its1.toArray
    have D2 := drawsX (P := X.prog) (w := X.w) (A := X.A.in1.in1) k2 (I.ok.hd hc) i2 b D.b2 its2.toArray
    refine enumz_item D.S D1 D2 he ⟨hzs.z, hzs.ti, hzs.to, ⟨hzs.s1, p1⟩, ⟨hzs.s2, p2⟩⟩ (by rw [List.size_toArray]; omega) (by rw [List.size_toArray]; omega) D.ef fun u1 u2 h1 tk t hu1 hu2 he1 hz1 hU hT hk1 => ?_
    refine ⟨_, rfl, ?_⟩
    refine wpAny_letOwnedTupleGo_enum he1 fun h2 he2 hs2 => ?_
    replace hs2 : Heap.SameBut e h1 h2 := hs2
    have hx : i < xs.length := by omega
    have hy : i < ys.length := by omega
    obtain ⟨w1, e1, r1⟩ := rv1.get (List.getElem?_eq_getElem hx)
    obtain ⟨w2, e2, r2⟩ := rv2.get (List.getElem?_eq_getElem hy)
    have f1 : its1[i]? = some u1 := by simpa using hu1
    have f2 : its2[i]? = some u2 := by simpa using hu2
    rw [e1] at f1
    rw [e2] at f2
    obtain rfl : w1 = u1 := Option.some.inj f1
    obtain rfl : w2 = u2 := Option.some.inj f2
    have hel : e < s.heap.objs.size := Heap.lt_size he
    have hU2 : h2.get? s.heap.objs.size = some { cls := .type "tuple", data := .seq #[w1, w2] } := hs2.extBut _ _ (Nat.ne_of_gt hel) hU
    have hT2 : h2.get? (s.heap.objs.size + 1) = some { cls := .type "tuple", data := .seq #[.int (i : Nat) t, .ref s.heap.objs.size] } := hs2.extBut _ _ (Nat.ne_of_gt (Nat.lt_succ_of_lt hel)) hT
    have keep : ∀ c o, c ∉ [e, z, TI, TO, i1, i2] → s.heap.get? c = some o → h2.get? c = some o := fun c o hb q => by
      simp only [List.mem_cons, List.not_mem_nil, or_false, not_or] at hb
      obtain ⟨ce, cz, cTI, cTO, c1, c2⟩ := hb
      exact hs2.extBut c o ce (hk1 c o ce cz cTO c1 c2 q)
    have I1 : Inv X pins σ (upd (upd H s.heap.objs.size (.tup [xs[i], ys[i]])) (s.heap.objs.size + 1) (.tup [.int (i : Nat), .ref s.heap.objs.size])) { s with heap := h2, toks := tk } :=
      turnedNew2 I keep hf (Nat.le_refl _) (Nat.le_succ _) ⟨by show 2 ≤ sizeLine; decide, [w1, w2], .cons r1 (.cons r2 .nil), ⟨_, hU2, rfl, _, rfl⟩⟩
        ⟨by show 2 ≤ sizeLine; decide, [.int (i : Nat) t, .ref s.heap.objs.size], .cons ⟨_, rfl⟩ (.cons rfl .nil), ⟨_, hT2, rfl, _, rfl⟩⟩
    have hz2 : ZipS h2 z TI TO i1 i2 (i + 1) (fun i h => itX h i1 a i k1) (fun i h => itX h i2 b i k2) := by
      have := hz1.over D.S D1 D2 (h' := h2) fun c hc o q => hs2.extBut c o (fun w => D.ef (w ▸ hc)) q
      exact ⟨this.z, this.ti, this.to, this.s1.1, this.s2.1⟩
    refine ⟨.ref (s.heap.objs.size + 1), _, I1, rfl, ⟨s.heap.objs.size, s.heap.objs.size + 1, xs[i], ys[i], rfl, Nat.ne_of_lt (Nat.lt_succ_self _), I.hok.fresh (Nat.le_refl _), I.hok.fresh (Nat.le_succ _), rfl, fun l hy => by rw [injX k1 I hy hqx]; exact List.getElem?_eq_getElem hx, fun l hl => by rw [injX k2 I hl hqy]; exact List.getElem?_eq_getElem hy⟩,
      ⟨by omega, ⟨_, by rw [show ((i + 1 : Nat) : Int) = (i : Int) + 1 by omega]; exact he2⟩, hz2⟩, fun c hcm => ?_⟩
    have hlT : c < s.heap.objs.size := by
      obtain ⟨⟨f0, f1, hz, _⟩, hTI, ⟨x, y, hTO⟩, q1, q2⟩ := hzs
      simp only [List.mem_cons, List.not_mem_nil, or_false] at hcm
      rcases hcm with q | q | q | q | q | q
      · rw [q]; exact hel
      · rw [q]; exact Heap.lt_size hz
      · rw [q]; exact Heap.lt_size hTI
      · rw [q]; exact Heap.lt_size hTO
      · rw [q]; obtain ⟨o, h, _⟩ := itX_obj k1 q1; exact Heap.lt_size h
      · rw [q]; obtain ⟨o, h, _⟩ := itX_obj k2 q2; exact Heap.lt_size h
    rw [upd_ne (Nat.ne_of_lt (Nat.lt_succ_of_lt hlT)), upd_ne (Nat.ne_of_lt hlT)]
    exact (hf c hcm).1
  done := by
    intro X hP hw hK hc i pins s σ H E I hf st hg
    subst hP hw hK
    obtain ⟨hle, ⟨old, he⟩, hzs⟩ := st
    obtain ⟨hge, xs, ys, hqx, hqy, lx, ly⟩ := hg
    obtain ⟨its1, rv1, p1, _⟩ := seqX k1 I hqx
    obtain ⟨its2, rv2, p2, _⟩ := seqX k2 I hqy
    have l1 := rv1.length
    have l2 := rv2.length
    have D1 := drawsX (P := X.prog) (w := X.w) (A := X.A.in1.in1) k1 (I.ok.hd hc) i1 a D.a1 its1.toArray
    have D2 := drawsX (P := X.prog) (w := X.w) (A := X.A.in1.in1) k2 (I.ok.hd hc) i2 b D.b2 its2.toArray
    refine enumz_end D.S D1 D2 he ⟨hzs.z, hzs.ti, hzs.to, ⟨hzs.s1, p1⟩, ⟨hzs.s2, p2⟩⟩ (by rw [List.size_toArray]; omega) (by rw [List.size_toArray]; omega) (by rw [List.size_toArray, List.size_toArray]; omega) fun h' tk hk => ⟨rfl, I.turnedL (ch := [e, z, TI, TO, i1, i2]) (fun c o hb q => ?_) hf⟩
    simp only [List.mem_cons, List.not_mem_nil, or_false, not_or] at hb
    obtain ⟨ce, cz, cTI, cTO, c1, c2⟩ := hb
    exact hk c o cz cTO c1 c2 q
  self := fun A i s Q E st h => let ⟨_, ⟨_, he⟩, _⟩ := st; wpAny_pyIter_enum he h
end Fz
set_option Elab.async false
set_option linter.all false
set_option maxRecDepth 100000
set_option maxHeartbeats 4000000
namespace Fz
open PySem PySem.Spec PyProof.Rows L2
theorem enum_new_z {z TI TO : Addr} :
    Meets (Builtin.«enumerate.__new__» ⟨[.type "enumerate", .ref z], []⟩) (fun _ RR s => IsZip s.heap z TI TO .none ∧
      RR (.ok (.ret (.ref s.heap.objs.size))) { s with heap := s.heap.push { cls := .type "enumerate", data := .fields #[.none, .bool false, .ref z, rawInt 0, .none, .none] } }) :=
  .of_wp fun prog w A RR s h => by
    obtain ⟨hp, g, d, tk, os⟩ := s
    obtain ⟨h1, h⟩ := h
    have hsub := sub_enumerate
    have q1 : ∀ {A' : Around} {E : Value → Shared → Prop} {Q : Value → Shared → Prop}, Q (.ref z) ⟨hp, g, d, tk, os⟩ → wpAny (model prog w) A' (pyIter (.ref z)) Q E ⟨hp, g, d, tk, os⟩ :=
      fun q => wpAny_pyIter_zip h1 q
    wp_walk using q1
    refine wpAny_stack_any fun st => wpAny_pure ?_
    split
    · rename_i c _ _ _ _ _
      cases (c == Value.type "enumerate") <;> (wp_walk using q1) <;> exact ⟨_, rfl, h⟩
    · wp_walk using q1
      exact ⟨_, rfl, h⟩
theorem enum_z {prog : Program} {w : World} {A : Around} {E : Value → Shared → Prop} {s : Shared} {z TI TO : Addr} {Q : Value → Shared → Prop} (h1 : IsZip s.heap z TI TO .none)
    (h : ∀ h', IsEnum h' s.heap.objs.size z 0 .none → h'.objs.size = s.heap.objs.size + 1 → (∀ b o, s.heap.get? b = some o → h'.get? b = some o) → Q (.ref s.heap.objs.size) { s with heap := h' }) :
    wpAny (model prog w) A (call (.type "enumerate") [.ref z]) Q E s := by
  refine callType_new F.called_enumerate (by decide) (F.typeCall_enumerate_1 _) (F.newCall_enumerate_1 _) (fun obj => F.args_object_init_2 obj _) F.entry_enumerate_new enum_new_z ⟨h1, ?_⟩
  have he := Heap.get?_push_size s.heap (o := { cls := .type "enumerate", data := .fields #[.none, .bool false, .ref z, rawInt 0, .none, .none] }) rfl
  exact ⟨⟨_, he, rfl⟩, h _ he (by rw [Heap.size_push]) fun b o x => Heap.get?_push_of_some _ x⟩
def iEZ (K : PySem.W.Frag) (k1 k2 : Bool) (ta : TA) : TI := fun σ H RR => ta σ H fun vs H1 => ∃ a b xs ys, vs = [.ref a, .ref b] ∧ SqX K H1 a xs k1 ∧ SqX K H1 b ys k2 ∧ RR (IteZ K k1 k2 a b xs.length ys.length) H1
theorem pi_ez {X : Cx} {e1 e2 : Expr} {ta : TA} {p pos p2 pos2 tpos : Pos} {elts : List Expr} {kk : Nat} (k1 k2 : Bool) (hg : Gl X "enumerate") (hm : X.mg "enumerate" = none) (hgz : Gl X "zip") (hmz : X.mg "zip" = none) (ha : PA X [e1, e2] ta)
    (hs : starEach [e1, e2] X.env = (false, eval e1 X.env) :: starEach [e2] X.env) (hpl : (backTo pos2 (starEach [e2] X.env)).any (·.1) = false) :
    PI X (.Tuple elts kk tpos) (.Call (.Name "enumerate" p) [.Call (.Name "zip" p2) [e1, e2] [] pos2] [] pos) (iEZ X.K k1 k2 ta) := by
  refine ⟨fun pins s σ H RR I h => ?_⟩
  refine Call_ (ld_blt I hg hm boot_enumerate (PyProof.Rows.callWith_type1 ?_ rfl rfl))
  show wpAny _ _ (spliced ((false, eval (.Call (.Name "zip" p2) [e1, e2] [] pos2) X.env) :: backTo pos (starEach [] X.env))) _ _ s
  refine Calls.spliced_cons ?_
  refine Call_ (ld_blt I hgz hmz PyProof.Rows.boot_zip (PyProof.Rows.callWith_type1 (thn (ha.run pos2 pins s σ H _ I h) fun us s1 ⟨vs, H1, I1, r1, q1⟩ => ?_) hs hpl))
  obtain ⟨a, b, xs, ys, rfl, hqx, hqy, q⟩ := q1
  obtain ⟨u1, u2, rfl, ru1, ru2⟩ := Vals.two r1
  cases ru1
  cases ru2
  obtain ⟨its1, rv1, p1, _⟩ := seqX k1 I1 hqx
  obtain ⟨its2, rv2, p2, _⟩ := seqX k2 I1 hqy
  have la := isX_lt k1 p1
  have lb := isX_lt k2 p2
  refine zip_begins2 (beginsX k1 a its1.toArray) (beginsX k2 b its2.toArray) p1 p2 fun h' hz hTI hTO h1 h2 hsz hk => ?_
  refine Calls.spliced_nil ?_
  refine enum_z (s := { s1 with heap := h' }) hz fun h'' he hsz2 hk2 => wpAny_pyIter_enum he ?_
  have hsz' : h'.objs.size = s1.heap.objs.size + 5 := hsz
  replace hsz2 : h''.objs.size = h'.objs.size + 1 := hsz2
  replace he : IsEnum h'' h'.objs.size (s1.heap.objs.size + 4) 0 .none := he
  replace hk2 : ∀ b o, h'.get? b = some o → h''.get? b = some o := hk2
  have I2 : Inv X pins σ H1 { s1 with heap := h'' } := I1.kept (t' := s1.toks) fun b u e => hk2 b u (hk b u e)
  have ap : ApartZ h'.objs.size (s1.heap.objs.size + 4) (s1.heap.objs.size + 2) (s1.heap.objs.size + 3) s1.heap.objs.size (s1.heap.objs.size + 1) a b :=
    ⟨zip_sep2 (fun c hc => by rw [List.mem_singleton.mp hc]; exact la) (fun c hc => by rw [List.mem_singleton.mp hc]; exact lb), Nat.ne_of_lt la, Nat.ne_of_lt (Nat.lt_succ_of_lt lb), by
      rw [hsz']
      have key : ∀ k, k < 5 → (s1.heap.objs.size + 5 : Nat) ≠ s1.heap.objs.size + k := fun k hk q => by omega
      have key2 : ∀ c : Nat, c < s1.heap.objs.size → (s1.heap.objs.size + 5 : Nat) ≠ c := fun c hc q => by omega
      intro hin
      simp only [List.mem_cons, List.cons_append, List.nil_append, List.not_mem_nil, or_false] at hin
      rcases hin with q | q | q | q | q | q | q
      · exact key 4 (by decide) q
      · exact key 2 (by decide) q
      · exact key 3 (by decide) q
      · exact key 0 (by decide) q
      · exact key2 a la q
      · exact key 1 (by decide) q
      · exact key2 b lb q⟩
  refine ⟨h'.objs.size, [h'.objs.size, s1.heap.objs.size + 4, s1.heap.objs.size + 2, s1.heap.objs.size + 3, s1.heap.objs.size, s1.heap.objs.size + 1], _, _, H1, rfl, I2, turn_ez k1 k2 xs.length ys.length ap,
    ⟨Nat.zero_le _, ⟨.none, he⟩, ⟨⟨.none, .bool false, hk2 _ _ hz, .inl rfl⟩, hk2 _ _ hTI, ⟨_, _, hk2 _ _ hTO⟩, itX_new k1 (hk2 _ _ h1), itX_new k2 (hk2 _ _ h2)⟩⟩, fun c hcm => ?_, q⟩
  have hle : s1.heap.objs.size ≤ c := by
    simp only [List.mem_cons, List.not_mem_nil, or_false] at hcm
    rcases hcm with q | q | q | q | q | q <;> rw [q]
    · omega
    · omega
    · omega
    · omega
    · exact Nat.le_refl _
    · omega
  exact I1.fpOk hle (I1.hok.fresh hle)
end Fz
set_option Elab.async false
set_option linter.all false
set_option maxRecDepth 100000
set_option maxHeartbeats 4000000
/-! Fz, part I: what is walked, as a list of data; loops and comprehensions. -/
namespace Fz
open PySem PySem.Spec PyProof.Rows L2

/-! ### a walk over data -/
structure Wk (K : PySem.W.Frag) (J : It) (ds : List D) (G : Hp) : Prop where
  stop : ∀ i G1 H, Ex G G1 → Ex G1 H → i = ds.length → J.stop i H
  go : ∀ i G1 H, Ex G G1 → Ex G1 H → i < ds.length → J.go i H
  yld : ∀ i d G1 H x H', Ex G G1 → Ex G1 H → ds[i]? = some d → J.yld i H x H' →
    (H' = H ∧ Rp K G1 x d) ∨ (∃ T vs l, x = .ref T ∧ H T = none ∧ H' = upd H T (.tup vs) ∧ d = .tuple l ∧ Rps K G1 vs l) ∨
      ∃ U T u vs d0 l, x = .ref T ∧ U ≠ T ∧ H U = none ∧ H T = none ∧ H' = upd (upd H U (.tup vs)) T (.tup [u, .ref U]) ∧ d = .tuple [d0, .tuple l] ∧ Rp K G1 u d0 ∧ Rps K G1 vs l
def DenI (X : Cx) (β : Option Addr) (tg it : Expr) (a : En) (ds : List D) (b : En) : Prop :=
  ∀ (G H : Hp) (ρ : Own) (σ : L2.St) (Q : It → Hp → Prop), R X.K β G H ρ σ a →
    (∀ J G' H' ρ', Fr G H ρ G' H' ρ' → R X.K β G' H' ρ' σ b → Wk X.K J ds G' → Q J H') → wI X tg it σ H Q
section
variable {X : Cx} {β : Option Addr} {K : PySem.W.Frag} {G : Hp}
def seqD : D → Option (Bool × List D)
  | .list l => some (true, l)
  | .tuple l => some (false, l)
  | _ => none
theorem seq_rp {v : V} {d : D} {k : Bool} {l : List D} (h : Rp K G v d) (e : seqD d = some (k, l)) : ∃ a vs, v = .ref a ∧ Rps K G vs l ∧ SqX K G a vs k := by
  cases h with
  | lst h1 h2 => cases e; exact ⟨_, _, rfl, h2, .inl h1⟩
  | tup h1 h2 => cases e; exact ⟨_, _, rfl, h2, h1⟩
  | _ => cases e
theorem sqx_mono {H : Hp} {a : Addr} {vs : List V} (e : Ex G H) : ∀ {k : Bool}, SqX K G a vs k → SqX K H a vs k
  | true, h => Evl.ex_l e h
  | false, h => Evl.ex_t e h
theorem wk_seq {a : Addr} {vs : List V} {l : List D} (k : Bool) (h : SqX K G a vs k) (r : Rps K G vs l) : Wk K (if k then Itl K a else Itt K a) l G := by
  have key : ∀ {i : Nat} {d : D} {G1 : Hp}, Ex G G1 → l[i]? = some d → ∃ v, vs[i]? = some v ∧ Rp K G1 v d := fun e q => by
    obtain ⟨v, h1, h2⟩ := r.get q
    exact ⟨v, h1, h2.mono e⟩
  cases k with
  | true =>
    refine ⟨fun i G1 H e1 e2 hi => ⟨vs, sqx_mono (k := true) (e1.trans e2) h, by rw [r.length, hi]; exact Nat.le_refl _⟩, fun i G1 H e1 e2 hi => ?_, fun i d G1 H x H' e1 e2 hd hy => ?_⟩
    · have : i < vs.length := by rw [r.length]; exact hi
      exact ⟨vs, vs[i], sqx_mono (k := true) (e1.trans e2) h, List.getElem?_eq_getElem this⟩
    · obtain ⟨rfl, hy⟩ := hy
      obtain ⟨v, h1, h2⟩ := key e1 hd
      have := hy vs (sqx_mono (k := true) (e1.trans e2) h)
      rw [h1] at this
      cases this
      exact .inl ⟨rfl, h2⟩
  | false =>
    refine ⟨fun i G1 H e1 e2 hi => ⟨vs, sqx_mono (k := false) (e1.trans e2) h, by rw [r.length, hi]; exact Nat.le_refl _⟩, fun i G1 H e1 e2 hi => ?_, fun i d G1 H x H' e1 e2 hd hy => ?_⟩
    · have : i < vs.length := by rw [r.length]; exact hi
      exact ⟨vs, vs[i], sqx_mono (k := false) (e1.trans e2) h, List.getElem?_eq_getElem this⟩
    · obtain ⟨rfl, hy⟩ := hy
      obtain ⟨v, h1, h2⟩ := key e1 hd
      have := hy vs (sqx_mono (k := false) (e1.trans e2) h)
      rw [h1] at this
      cases this
      exact .inl ⟨rfl, h2⟩
theorem deni_seq {tg e : Expr} {a b : En} {o k : Bool} {d : D} {l : List D} (h : Den X β e a o d b) (hk : seqD d = some (k, l)) : DenI X β tg e a l b := by
  intro G H ρ σ Q r q
  cases k with
  | true =>
    refine ⟨_, pi_list pe_w, h.fz G H ρ σ _ r fun v G1 H1 ρ1 f1 r1 x1 => ?_⟩
    obtain ⟨p, vs, rfl, h1, h2⟩ := seq_rp (show Rp X.K G1 v d from x1) hk
    exact ⟨p, rfl, ⟨vs, sqx_mono (k := true) r1.ex h2⟩, q _ G1 H1 ρ1 f1 r1 (wk_seq true h2 h1)⟩
  | false =>
    refine ⟨_, pi_tup pe_w, h.fz G H ρ σ _ r fun v G1 H1 ρ1 f1 r1 x1 => ?_⟩
    obtain ⟨p, vs, rfl, h1, h2⟩ := seq_rp (show Rp X.K G1 v d from x1) hk
    exact ⟨p, rfl, ⟨vs, sqx_mono (k := false) r1.ex h2⟩, q _ G1 H1 ρ1 f1 r1 (wk_seq false h2 h1)⟩
def strD (x : Str) : List D := x.cps.toList.map fun c => .str ⟨#[c]⟩
theorem deni_str {tg e : Expr} {a b : En} {o : Bool} {x : Str} (h : Den X β e a o (.str x) b) : DenI X β tg e a (strD x) b := by
  intro G H ρ σ Q r q
  refine ⟨_, pi_str pe_w, h.fz G H ρ σ _ r fun v G1 H1 ρ1 f1 r1 x1 => ?_⟩
  cases (show Rp X.K G1 v (.str x) from x1)
  refine ⟨x, rfl, q _ G1 H1 ρ1 f1 r1 ⟨fun i G2 H2 e1 e2 hi => ?_, fun i G2 H2 e1 e2 hi => ?_, fun i d G2 H2 y H' e1 e2 hd hy => ?_⟩⟩
  · show x.cps.size ≤ i
    rw [hi]; simp [strD]
  · show i < x.cps.size
    simpa [strD] using hi
  · obtain ⟨rfl, c, hc, rfl⟩ := hy
    have : (strD x)[i]? = some (.str ⟨#[c]⟩) := by
      unfold strD
      rw [List.getElem?_map, Array.getElem?_toList, hc]
      rfl
    rw [this] at hd
    cases hd
    exact .inl ⟨rfl, .str _⟩
/-! ranges -/
def rngD (lo : Int) (n : Nat) : List D := (List.range n).map fun (i : Nat) => .int (lo + (i : Int))
theorem rngD_len (lo : Int) (n : Nat) : (rngD lo n).length = n := by simp [rngD]
theorem rngD_get {lo : Int} {n i : Nat} {d : D} (h : (rngD lo n)[i]? = some d) : d = .int (lo + (i : Int)) := by
  unfold rngD at h
  rw [List.getElem?_map] at h
  cases z : (List.range n)[i]? with
  | none => rw [z] at h; cases h
  | some j =>
    rw [z] at h
    cases h
    have := List.getElem?_eq_some_iff.mp z
    obtain ⟨h1, h2⟩ := this
    rw [List.getElem_range] at h2
    rw [h2]
theorem wk_rng {lo : Int} {n : Nat} : Wk K (Itr lo n) (rngD lo n) G := by
  refine ⟨fun i G1 H e1 e2 hi => ?_, fun i G1 H e1 e2 hi => ?_, fun i d G1 H x H' e1 e2 hd hy => ?_⟩
  · show n ≤ i
    rw [hi, rngD_len]; exact Nat.le_refl _
  · show i < n
    rw [rngD_len] at hi; exact hi
  · obtain ⟨rfl, rfl⟩ := hy
    rw [rngD_get hd]
    exact .inl ⟨rfl, .int _⟩
def b62 (i : Int) : Bool := decide (-(2 ^ 62) ≤ i) && decide (i < 2 ^ 62)
theorem b62_ok {i : Int} (h : b62 i = true) : -(2 ^ 62) ≤ i ∧ i < 2 ^ 62 := by
  unfold b62 at h
  rw [Bool.and_eq_true, decide_eq_true_eq, decide_eq_true_eq] at h
  exact h
theorem deni_rng1 {tg e : Expr} {p pos : Pos} {a b : En} {i : Int} (hs : isStar e = false) (hg : Gl X "range") (hm : X.mg "range" = none) (h : DenA X β [e] a [.int i] b) (hi : b62 i = true) : DenI X β tg (.Call (.Name "range" p) [e] [] pos) a (rngD 0 i.toNat) b := by
  intro G H ρ σ Q r q
  refine ⟨_, pi_range1 hg hm pa_w (star_ok hs), h G H ρ σ _ r fun vs G1 H1 ρ1 f1 r1 x1 => ?_⟩
  obtain ⟨v, rfl, h1⟩ := rps1 x1
  cases h1
  exact ⟨i, rfl, (b62_ok hi).1, (b62_ok hi).2, q _ G1 H1 ρ1 f1 r1 wk_rng⟩
theorem deni_rng2 {tg e e2 : Expr} {p pos : Pos} {a b : En} {i j : Int} (hs : isStar e = false) (hs2 : isStar e2 = false) (hg : Gl X "range") (hm : X.mg "range" = none) (h : DenA X β [e, e2] a [.int i, .int j] b) (hi : b62 i = true) (hj : b62 j = true) :
    DenI X β tg (.Call (.Name "range" p) [e, e2] [] pos) a (rngD i (j - i).toNat) b := by
  intro G H ρ σ Q r q
  refine ⟨_, pi_range2 hg hm pa_w (by rw [star_ok hs, star_ok hs2]; rfl) (star_ok hs2), h G H ρ σ _ r fun vs G1 H1 ρ1 f1 r1 x1 => ?_⟩
  obtain ⟨v, w, rfl, h1, h2⟩ := rps2 x1
  cases h1
  cases h2
  exact ⟨i, j, rfl, ⟨(b62_ok hi).1, (b62_ok hi).2, (b62_ok hj).1, (b62_ok hj).2⟩, q _ G1 H1 ρ1 f1 r1 wk_rng⟩

theorem deni_rng3 {tg e e2 e3 : Expr} {p pos : Pos} {a b : En} {i j : Int} (hs : [e, e2, e3].all (fun e => !isStar e) = true) (hg : Gl X "range") (hm : X.mg "range" = none) (h : DenA X β [e, e2, e3] a [.int i, .int j, .int (-1)] b) (hi : b62 i = true) (hj : b62 j = true) :
    DenI X β tg (.Call (.Name "range" p) [e, e2, e3] [] pos) a (((List.range (i - j).toNat).map fun (m : Nat) => .int (i - (m : Int)))) b := by
  intro G H ρ σ Q r q
  have hs1 := hs
  rw [List.all_cons, Bool.and_eq_true] at hs
  refine ⟨_, pi_range3 hg hm pa_w (star_ok (by simpa using hs.1)) (stars_ok hs.2), h G H ρ σ _ r fun vs G1 H1 ρ1 f1 r1 x1 => ?_⟩
  cases x1 with
  | cons h1 x1 =>
    obtain ⟨v, w, rfl, h2, h3⟩ := rps2 x1
    cases h1
    cases h2
    cases h3
    refine ⟨i, j, -1, (i - j).toNat, rfl, RgC.neg (b62_ok hi).1 (b62_ok hi).2 (b62_ok hj).1 (b62_ok hj).2, q _ G1 H1 ρ1 f1 r1 ⟨fun m G1 H e1 e2 hm => ?_, fun m G1 H e1 e2 hm => ?_, fun m d G1 H x H' e1 e2 hd hy => ?_⟩⟩
    · show _ ≤ m
      rw [hm]; simp
    · show m < _
      simpa using hm
    · obtain ⟨rfl, rfl⟩ := hy
      rw [List.getElem?_map] at hd
      cases z : (List.range (i - j).toNat)[m]? with
      | none => rw [z] at hd; cases hd
      | some m' =>
        rw [z] at hd
        cases hd
        obtain ⟨h1, h2⟩ := List.getElem?_eq_some_iff.mp z
        rw [List.getElem_range] at h2
        subst h2
        refine .inl ⟨rfl, ?_⟩
        rw [show i + (m : Int) * -1 = i - (m : Int) by omega]
        exact .int _
/-! enumerate, zip -/
def enumD (c : Int) : List D → List D
  | [] => []
  | d :: l => .tuple [.int c, d] :: enumD (c + 1) l
theorem enumD_len : ∀ (l : List D) (c : Int), (enumD c l).length = l.length
  | [], _ => rfl
  | d :: l, c => by unfold enumD; rw [List.length_cons, List.length_cons, enumD_len l]
theorem enumD_get : ∀ {l : List D} {c : Int} {i : Nat} {d : D}, (enumD c l)[i]? = some d → ∃ e, l[i]? = some e ∧ d = .tuple [.int (c + (i : Int)), e]
  | [], _, _, _, h => by simp [enumD] at h
  | e :: l, c, 0, d, h => by
    simp only [enumD, List.getElem?_cons_zero, Option.some.injEq] at h
    exact ⟨e, rfl, by rw [← h]; simp⟩
  | e :: l, c, i + 1, d, h => by
    simp only [enumD, List.getElem?_cons_succ] at h
    obtain ⟨e', h1, h2⟩ := enumD_get h
    refine ⟨e', by simpa using h1, ?_⟩
    rw [h2, show c + 1 + (i : Int) = c + ((i + 1 : Nat) : Int) by omega]
theorem wk_enum {a : Addr} {vs : List V} {l : List D} {c : Int} (k : Bool) (h : SqX K G a vs k) (r : Rps K G vs l) : Wk K (IteX K k a c vs.length) (enumD c l) G := by
  refine ⟨fun i G1 H e1 e2 hi => ⟨by rw [hi, enumD_len, r.length]; exact Nat.le_refl _, vs, sqx_mono (e1.trans e2) h, rfl⟩, fun i G1 H e1 e2 hi => ⟨by rw [enumD_len] at hi; rw [r.length]; exact hi, vs, sqx_mono (e1.trans e2) h, rfl⟩, fun i d G1 H x H' e1 e2 hd hy => ?_⟩
  obtain ⟨T, y, rfl, hT, rfl, hy⟩ := hy
  obtain ⟨e, he, rfl⟩ := enumD_get hd
  obtain ⟨v, v1, v2⟩ := r.get he
  have := hy vs (sqx_mono (e1.trans e2) h)
  rw [v1] at this
  cases this
  exact .inr (.inl ⟨T, _, _, rfl, hT, rfl, rfl, .cons (.int _) (.cons (v2.mono e1) .nil)⟩)
theorem deni_enum1 {e : Expr} {elts : List Expr} {kk : Nat} {tpos p pos : Pos} {a b : En} {d : D} {l : List D} {k : Bool} (hs : isStar e = false) (hg : Gl X "enumerate") (hm : X.mg "enumerate" = none) (h : DenA X β [e] a [d] b) (hk : seqD d = some (k, l)) :
    DenI X β (.Tuple elts kk tpos) (.Call (.Name "enumerate" p) [e] [] pos) a (enumD 0 l) b := by
  intro G H ρ σ Q r q
  refine ⟨_, pi_enum1 k hg hm pa_w (star_ok hs), h G H ρ σ _ r fun vs G1 H1 ρ1 f1 r1 x1 => ?_⟩
  obtain ⟨v, rfl, h1⟩ := rps1 x1
  obtain ⟨p', ws, rfl, h2, h3⟩ := seq_rp h1 hk
  exact ⟨p', ws, rfl, sqx_mono r1.ex h3, q _ G1 H1 ρ1 f1 r1 (wk_enum k h3 h2)⟩
theorem deni_enum2 {e e2 : Expr} {elts : List Expr} {kk : Nat} {tpos p pos : Pos} {a b : En} {d : D} {c : Int} {l : List D} {k : Bool} (hs : isStar e = false) (hs2 : isStar e2 = false) (hg : Gl X "enumerate") (hm : X.mg "enumerate" = none) (h : DenA X β [e, e2] a [d, .int c] b) (hk : seqD d = some (k, l)) (hc : b62 c = true) :
    DenI X β (.Tuple elts kk tpos) (.Call (.Name "enumerate" p) [e, e2] [] pos) a (enumD c l) b := by
  intro G H ρ σ Q r q
  refine ⟨_, pi_enumX k hg hm pa_w (star_ok hs) (stars_ok (by simp [hs2])), h G H ρ σ _ r fun vs G1 H1 ρ1 f1 r1 x1 => ?_⟩
  obtain ⟨v, w, rfl, h1, h0⟩ := rps2 x1
  cases h0
  obtain ⟨p', ws, rfl, h2, h3⟩ := seq_rp h1 hk
  have := b62_ok hc
  exact ⟨p', c, ws, rfl, sqx_mono r1.ex h3, by omega, by omega, q _ G1 H1 ρ1 f1 r1 (wk_enum k h3 h2)⟩
def zipD : List D → List D → List D
  | d :: l, e :: m => .tuple [d, e] :: zipD l m
  | _, _ => []
theorem zipD_len : ∀ (l m : List D), (zipD l m).length = min l.length m.length
  | [], m => by simp [zipD]
  | d :: l, [] => by simp [zipD]
  | d :: l, e :: m => by unfold zipD; rw [List.length_cons, List.length_cons, List.length_cons, zipD_len l m]; omega
theorem zipD_get : ∀ {l m : List D} {i : Nat} {d : D}, (zipD l m)[i]? = some d → ∃ e f, l[i]? = some e ∧ m[i]? = some f ∧ d = .tuple [e, f]
  | [], m, _, _, h => by simp [zipD] at h
  | d :: l, [], _, _, h => by simp [zipD] at h
  | e :: l, f :: m, 0, d, h => by
    simp only [zipD, List.getElem?_cons_zero, Option.some.injEq] at h
    exact ⟨e, f, rfl, rfl, h.symm⟩
  | e :: l, f :: m, i + 1, d, h => by
    simp only [zipD, List.getElem?_cons_succ] at h
    obtain ⟨e', f', h1, h2, h3⟩ := zipD_get h
    exact ⟨e', f', by simpa using h1, by simpa using h2, h3⟩
theorem deni_zip {e e2 : Expr} {elts : List Expr} {kk : Nat} {tpos p pos : Pos} {a b : En} {d d2 : D} {l m : List D} {k k2 : Bool} (hs : isStar e = false) (hs2 : isStar e2 = false) (hg : Gl X "zip") (hm : X.mg "zip" = none) (h : DenA X β [e, e2] a [d, d2] b) (hk : seqD d = some (k, l)) (hk2 : seqD d2 = some (k2, m)) :
    DenI X β (.Tuple elts kk tpos) (.Call (.Name "zip" p) [e, e2] [] pos) a (zipD l m) b := by
  intro G H ρ σ Q r q
  refine ⟨_, pi_zipX k k2 hg hm pa_w (star_ok hs) (stars_ok (by simp [hs2])), h G H ρ σ _ r fun vs G1 H1 ρ1 f1 r1 x1 => ?_⟩
  obtain ⟨v, w, rfl, h1, h0⟩ := rps2 x1
  obtain ⟨p1, ws, rfl, h2, h3⟩ := seq_rp h1 hk
  obtain ⟨p2, us, rfl, h4, h5⟩ := seq_rp h0 hk2
  refine ⟨p1, p2, ws, us, rfl, sqx_mono r1.ex h3, sqx_mono r1.ex h5, q _ G1 H1 ρ1 f1 r1 ⟨fun i G2 H2 e1 e2 hi => ⟨?_, ws, us, sqx_mono (e1.trans e2) h3, sqx_mono (e1.trans e2) h5, rfl, rfl⟩, fun i G2 H2 e1 e2 hi => ⟨?_, ws, us, sqx_mono (e1.trans e2) h3, sqx_mono (e1.trans e2) h5, rfl, rfl⟩, fun i d G2 H2 x H' e1 e2 hd hy => ?_⟩⟩
  · rw [hi, zipD_len, h2.length, h4.length]; exact Nat.le_refl _
  · rw [zipD_len] at hi; rw [h2.length, h4.length]; exact hi
  · obtain ⟨T, x, y, rfl, hT, rfl, hx, hy⟩ := hy
    obtain ⟨e, f, g1, g2, rfl⟩ := zipD_get hd
    obtain ⟨v1, w1, w2⟩ := h2.get g1
    obtain ⟨v2, w3, w4⟩ := h4.get g2
    have t1 := hx ws (sqx_mono (e1.trans e2) h3)
    have t2 := hy us (sqx_mono (e1.trans e2) h5)
    rw [w1] at t1
    rw [w3] at t2
    cases t1
    cases t2
    exact .inr (.inl ⟨T, _, _, rfl, hT, rfl, rfl, .cons (w2.mono e1) (.cons (w4.mono e1) .nil)⟩)
theorem deni_ez {e e2 : Expr} {elts : List Expr} {kk : Nat} {tpos p pos p2 pos2 : Pos} {a b : En} {d d2 : D} {l m : List D} {k k2 : Bool} (hs : isStar e = false) (hs2 : isStar e2 = false) (hge : Gl X "enumerate") (hme : X.mg "enumerate" = none) (hg : Gl X "zip") (hm : X.mg "zip" = none) (h : DenA X β [e, e2] a [d, d2] b) (hk : seqD d = some (k, l)) (hk2 : seqD d2 = some (k2, m)) :
    DenI X β (.Tuple elts kk tpos) (.Call (.Name "enumerate" p) [.Call (.Name "zip" p2) [e, e2] [] pos2] [] pos) a (enumD 0 (zipD l m)) b := by
  intro G H ρ σ Q r q
  refine ⟨_, pi_ez k k2 hge hme hg hm pa_w (star_ok hs) (stars_ok (by simp [hs2])), h G H ρ σ _ r fun vs G1 H1 ρ1 f1 r1 x1 => ?_⟩
  obtain ⟨v, w, rfl, h1, h0⟩ := rps2 x1
  obtain ⟨p1, ws, rfl, h2, h3⟩ := seq_rp h1 hk
  obtain ⟨p2, us, rfl, h4, h5⟩ := seq_rp h0 hk2
  refine ⟨p1, p2, ws, us, rfl, sqx_mono r1.ex h3, sqx_mono r1.ex h5, q _ G1 H1 ρ1 f1 r1 ⟨fun i G2 H2 e1 e2 hi => ⟨?_, ws, us, sqx_mono (e1.trans e2) h3, sqx_mono (e1.trans e2) h5, rfl, rfl⟩, fun i G2 H2 e1 e2 hi => ⟨?_, ws, us, sqx_mono (e1.trans e2) h3, sqx_mono (e1.trans e2) h5, rfl, rfl⟩, fun i d G2 H2 x H' e1 e2 hd hy => ?_⟩⟩
  · rw [hi, enumD_len, zipD_len, h2.length, h4.length]; exact Nat.le_refl _
  · rw [enumD_len, zipD_len] at hi; rw [h2.length, h4.length]; exact hi
  · obtain ⟨U, T, x, y, rfl, hne, hU, hT, rfl, hx, hy⟩ := hy
    obtain ⟨z, hz, rfl⟩ := enumD_get hd
    obtain ⟨e, f, g1, g2, rfl⟩ := zipD_get hz
    obtain ⟨v1, w1, w2⟩ := h2.get g1
    obtain ⟨v2, w3, w4⟩ := h4.get g2
    have t1 := hx ws (sqx_mono (e1.trans e2) h3)
    have t2 := hy us (sqx_mono (e1.trans e2) h5)
    rw [w1] at t1
    rw [w3] at t2
    cases t1
    cases t2
    refine .inr (.inr ⟨U, T, .int (i : Nat), _, .int (i : Nat), _, rfl, hne, hU, hT, rfl, by rw [Int.zero_add], .int _, .cons (w2.mono e1) (.cons (w4.mono e1) .nil)⟩)
/-! reversed(range(n)) -/
def revL : D → Option (List D)
  | .int i => if b62 i then some ((List.range i.toNat).map fun (m : Nat) => .int ((i.toNat : Int) - 1 - (m : Int))) else none
  | _ => none
theorem deni_rrg {tg e : Expr} {p p2 pos pos2 : Pos} {a b : En} {o : Bool} {d : D} {l : List D} (hs : isStar e = false) (hg : Gl X "reversed") (hm : X.mg "reversed" = none) (hg2 : Gl X "range") (hm2 : X.mg "range" = none) (h : Den X β e a o d b) (hl : revL d = some l) : DenI X β tg (.Call (.Name "reversed" p) [.Call (.Name "range" p2) [e] [] pos2] [] pos) a l b := by
  intro G H ρ σ Q r q
  unfold revL at hl
  split at hl
  · rename_i i
    split at hl
    · rename_i hi
      cases hl
      refine ⟨_, pi_revR hg hm (prg_1 hg2 hm2 pe_w (star_ok hs)), h.fz G H ρ σ _ r fun v G1 H1 ρ1 f1 r1 x1 => ?_⟩
      cases (show Rp X.K G1 v (.int i) from x1)
      refine ⟨i, rfl, by decide, by decide, (b62_ok hi).1, (b62_ok hi).2, q _ G1 H1 ρ1 f1 r1 ⟨fun m G1 H e1 e2 hm => ?_, fun m G1 H e1 e2 hm => ?_, fun m d G1 H x H' e1 e2 hd hy => ?_⟩⟩
      · show _ ≤ m
        rw [hm]; simp
      · show m < _
        simpa using hm
      · obtain ⟨rfl, rfl⟩ := hy
        rw [List.getElem?_map] at hd
        cases z : (List.range i.toNat)[m]? with
        | none => rw [z] at hd; cases hd
        | some m' =>
          rw [z] at hd
          cases hd
          obtain ⟨h1, h2⟩ := List.getElem?_eq_some_iff.mp z
          rw [List.getElem_range] at h2
          subst h2
          refine .inl ⟨rfl, ?_⟩
          rw [show (0 : Int) + (((i - 0).toNat : Nat) : Int) - 1 + (m : Int) * -1 = (i.toNat : Int) - 1 - (m : Int) by rw [Int.sub_zero]; omega]
          exact .int _
    · cases hl
  · cases hl
/-! reversed(x) -/
theorem deni_rev {tg e : Expr} {p pos : Pos} {a b : En} {o k : Bool} {d : D} {l : List D} (hs : isStar e = false) (hg : Gl X "reversed") (hm : X.mg "reversed" = none) (h : Den X β e a o d b) (hk : seqD d = some (k, l)) : DenI X β tg (.Call (.Name "reversed" p) [e] [] pos) a l.reverse b := by
  intro G H ρ σ Q r q
  refine ⟨_, RT.pi_revA hg hm pe_w (star_ok hs), h.fz G H ρ σ _ r fun v G1 H1 ρ1 f1 r1 x1 => ?_⟩
  obtain ⟨p', vs, rfl, h1, h2⟩ := seq_rp (show Rp X.K G1 v d from x1) hk
  have key : ∀ {i : Nat} {d : D} {G2 : Hp}, Ex G1 G2 → l.reverse[i]? = some d → ∃ v, vs[vs.length - 1 - i]? = some v ∧ Rp X.K G2 v d := fun {i d G2} e q => by
    have hi : i < l.length := by have := (List.getElem?_eq_some_iff.mp q).1; simpa using this
    rw [List.getElem?_reverse hi] at q
    obtain ⟨v, w1, w2⟩ := h1.get q
    exact ⟨v, by rw [h1.length]; exact w1, w2.mono e⟩
  refine ⟨p', vs, rfl, ?_⟩
  cases k with
  | true =>
    refine .inl ⟨Evl.ex_l r1.ex h2, q _ G1 H1 ρ1 f1 r1 ⟨fun i G2 H2 e1 e2 hi => ?_, fun i G2 H2 e1 e2 hi => ?_, fun i d G2 H2 x H' e1 e2 hd hy => ?_⟩⟩
    · show _ ≤ i
      rw [hi, List.length_reverse, h1.length]; exact Nat.le_refl _
    · rw [List.length_reverse] at hi
      have hi' : i < vs.length := by rw [h1.length]; exact hi
      exact ⟨hi', vs, vs[vs.length - 1 - i]'(by omega), Evl.ex_l (e1.trans e2) h2, List.getElem?_eq_getElem _⟩
    · obtain ⟨rfl, hy⟩ := hy
      obtain ⟨v, w1, w2⟩ := key e1 hd
      have t := hy vs (Evl.ex_l (e1.trans e2) h2)
      rw [w1] at t
      cases t
      exact .inl ⟨rfl, w2⟩
  | false =>
    refine .inr ⟨Evl.ex_t r1.ex h2, q _ G1 H1 ρ1 f1 r1 ⟨fun i G2 H2 e1 e2 hi => ?_, fun i G2 H2 e1 e2 hi => ?_, fun i d G2 H2 x H' e1 e2 hd hy => ?_⟩⟩
    · show _ ≤ i
      rw [hi, List.length_reverse, h1.length]; exact Nat.le_refl _
    · rw [List.length_reverse] at hi
      have hi' : i < vs.length := by rw [h1.length]; exact hi
      exact ⟨hi', vs, vs[vs.length - 1 - i]'(by omega), Evl.ex_t (e1.trans e2) h2, List.getElem?_eq_getElem _⟩
    · obtain ⟨rfl, hy⟩ := hy
      obtain ⟨v, w1, w2⟩ := key e1 hd
      have t := hy vs (Evl.ex_t (e1.trans e2) h2)
      rw [w1] at t
      cases t
      exact .inl ⟨rfl, w2⟩
end
end Fz
set_option Elab.async false
set_option linter.all false
set_option maxRecDepth 100000
set_option maxHeartbeats 4000000
/-! Fz, part J: stores, targets, statements. -/
namespace Fz
open PySem PySem.Spec PyProof.Rows L2

inductive SR where
  | nx (e : En)
  | rt (o : Bool) (d : D) (e : En)
  | bk (e : En)
  | ct (e : En)
def slotOf (o : Bool) (d : D) : Sl := match o, d with
  | true, .list l => .own l
  | _, d => .val d
def setS (e : En) (i : Nat) (o : Bool) (d : D) : En := { e with sl := e.sl.set i (slotOf o d) }
section
variable {K : PySem.W.Frag} {β : Option Addr} {G H G0 H0 : Hp} {ρ ρ0 : Own} {σ : L2.St} {e : En}
theorem R.store {i : Nat} {o : Bool} {d : D} {v : V} (r : R K β G H ρ σ e) (hi : i < e.sl.length) (x : VR K H0 G H ρ d v o) (f : Fr G0 H0 ρ0 G H ρ) :
    ∃ ρ', R K β G H ρ' (σ.set i (some v)) (setS e i o d) ∧ Fr G0 H0 ρ0 G H ρ' := by
  have hσ : i < σ.length := by rw [r.len]; exact hi
  cases o with
  | false =>
    refine ⟨ρ, ⟨by simp [setS, r.len], r.ex, r.ow, fun j s hj => ?_, r.bg⟩, f⟩
    by_cases k : j = i
    · subst k
      simp only [setS, List.getElem?_set, if_true, hi, slotOf] at hj
      cases hj
      refine ⟨v, by simp [hσ], x⟩
    · simp only [setS, List.getElem?_set, if_neg (Ne.symm k)] at hj
      have w := r.sl j s hj
      simp only [List.getElem?_set, if_neg (Ne.symm k)]
      exact w
  | true =>
    obtain ⟨p, l, vs, rfl, rfl, h0, hg, hr, hh, hv⟩ := x
    refine ⟨fun z => if z = p then some (i + 1) else ρ z, ⟨by simp [setS, r.len], r.ex, fun z hz => ?_, fun j s hj => ?_, fun z hz => ?_⟩, ⟨f.ex, fun z u hz hρ => ?_, f.dom⟩⟩
    · by_cases k : z = p
      · subst k; exact ⟨hg, by rw [hh]; simp⟩
      · simp only [k, if_false] at hz; exact r.ow z hz
    · by_cases k : j = i
      · subst k
        simp only [setS, List.getElem?_set, if_true, hi, slotOf] at hj
        cases hj
        exact ⟨p, vs, by simp [hσ], by simp, hh, hv⟩
      · simp only [setS, List.getElem?_set, if_neg (Ne.symm k)] at hj
        have w := r.sl j s hj
        simp only [List.getElem?_set, if_neg (Ne.symm k)]
        cases s with
        | no => trivial
        | val d => exact w
        | bag => exact w
        | own l' =>
          obtain ⟨p', vs', w1, w2, w3, w4⟩ := w
          have ne : p' ≠ p := fun z => by rw [z, hr] at w2; cases w2
          exact ⟨p', vs', w1, by simp [ne, w2], w3, w4⟩
        | tpo ds1 l2 ds2 =>
          obtain ⟨t, p', us1, us2, vs', w1, w2, w3, w4, w5, w6, w7⟩ := w
          have ne : p' ≠ p := fun z => by rw [z, hr] at w5; cases w5
          exact ⟨t, p', us1, us2, vs', w1, w2, w3, w4, by simp [ne, w5], w6, w7⟩
    · obtain ⟨b1, ws, b2, b3⟩ := r.bg z hz
      have ne : z ≠ p := fun k => by rw [k, hr] at b1; cases b1
      exact ⟨by simp [ne, b1], ws, b2, b3⟩
    · obtain ⟨h1, h2, h3⟩ := f.keep z u hz hρ
      have ne : z ≠ p := fun k => by rw [k, h0] at hz; cases hz
      exact ⟨h1, by simp [ne, h2], h3⟩
theorem R.storeV {i : Nat} {d : D} {v : V} (r : R K β G H ρ σ e) (hi : i < e.sl.length) (x : Rp K G v d) : R K β G H ρ (σ.set i (some v)) (setS e i false d) := by
  have hσ : i < σ.length := by rw [r.len]; exact hi
  refine ⟨by simp [setS, r.len], r.ex, r.ow, fun j s hj => ?_, r.bg⟩
  by_cases k : j = i
  · subst k
    simp only [setS, List.getElem?_set, if_true, hi, slotOf] at hj
    cases hj
    exact ⟨v, by simp [hσ], x⟩
  · simp only [setS, List.getElem?_set, if_neg (Ne.symm k)] at hj
    have w := r.sl j s hj
    simp only [List.getElem?_set, if_neg (Ne.symm k)]
    exact w

/-! ### targets: a name, or a tuple of names -/
inductive Tg where
  | one (i : Nat)
  | tup (l : List Nat)
  /-- a name and a tuple of names -/
  | pr (i : Nat) (l : List Nat)
def Tg.ix : Tg → List Nat
  | .one i => [i]
  | .tup l => l
  | .pr i l => i :: l
def gNames : List Nat → TGs
  | [] => gNil
  | i :: l => gCons (gName i) (gNames l)
def gOf (K : PySem.W.Frag) : Tg → TG
  | .one i => gName i
  | .tup l => gTup K l.length (gNames l)
  | .pr i l => gTup K 2 (gCons (gName i) (gCons (gTup K l.length (gNames l)) gNil))
def stAll (e : En) : List Nat → List D → Option En
  | [], [] => some e
  | i :: l, d :: ds => if i < e.sl.length then stAll (setS e i false d) l ds else none
  | _, _ => none
def stT (e : En) (t : Tg) (d : D) : Option En :=
  match t with
  | .one i => if i < e.sl.length then some (setS e i false d) else none
  | .tup l => match d with
    | .tuple ds => stAll e l ds
    | _ => none
  | .pr i l => match d with
    | .tuple [x, .tuple ds] => if i < e.sl.length then stAll (setS e i false x) l ds else none
    | _ => none
theorem gNames_ok : ∀ {l : List Nat} {ds : List D} {vs : List V} {σ : L2.St} {e e1 : En} {Q : L2.St → Hp → Prop}, R K β G H ρ σ e → Rps K G vs ds → stAll e l ds = some e1 →
    (∀ σ1, R K β G H ρ σ1 e1 → σ1.length = σ.length → (∀ j, j ∉ l → σ1[j]? = σ[j]?) → Q σ1 H) → gNames l vs σ H Q ∧ vs.length = l.length
  | [], [], _, σ, e, e1, Q, r, .nil, h, q => by
    cases h
    exact ⟨⟨rfl, q σ r rfl fun _ _ => rfl⟩, rfl⟩
  | i :: l, d :: ds, _, σ, e, e1, Q, r, .cons hv hr, h, q => by
    unfold stAll at h
    split at h
    · rename_i hi
      have key := gNames_ok (Q := Q) (r.storeV hi hv) hr h fun σ1 r1 l1 a1 => q σ1 r1 (by rw [l1]; simp) fun j hj => by
        rw [List.mem_cons, not_or] at hj
        rw [a1 j hj.2]
        simp only [List.getElem?_set, if_neg (Ne.symm hj.1)]
      exact ⟨⟨_, _, rfl, key.1⟩, by rw [List.length_cons, List.length_cons, key.2]⟩
    · cases h
  | [], _ :: _, _, _, _, _, _, _, _, h, _ => by cases h
  | _ :: _, [], _, _, _, _, _, _, _, h, _ => by cases h
theorem gOf_ok {t : Tg} {d : D} {v : V} {e1 : En} {Q : L2.St → Hp → Prop} (r : R K β G H ρ σ e) (hv : Rp K G v d) (h : stT e t d = some e1)
    (q : ∀ σ1, R K β G H ρ σ1 e1 → σ1.length = σ.length → (∀ j, j ∉ t.ix → σ1[j]? = σ[j]?) → Q σ1 H) : gOf K t v σ H Q := by
  cases t with
  | one i =>
    unfold stT at h
    simp only at h
    split at h
    · rename_i hi
      cases h
      refine q _ (r.storeV hi hv) (by simp) fun j hj => ?_
      have : j ≠ i := fun z => hj (by simp [Tg.ix, z])
      simp only [List.getElem?_set, if_neg (Ne.symm this)]
    · cases h
  | tup l =>
    cases d with
    | tuple ds =>
      cases hv with
      | tup h1 h2 =>
        have key := gNames_ok r h2 h q
        exact ⟨_, _, rfl, Evl.ex_t r.ex h1, key.2, key.1⟩
    | _ => cases h
  | pr i l =>
    unfold stT at h
    simp only at h
    split at h
    · split at h
      · rename_i x ds hi
        cases hv with
        | tup h1 h2 =>
          cases h2 with
          | cons hx h3 =>
            cases h3 with
            | cons hy h4 =>
              cases h4
              cases hy with
              | tup h5 h6 =>
                have key := gNames_ok (Q := fun σ' H' => gNil [] σ' H' Q) (r.storeV hi hx) h6 h fun σ1 r1 l1 a1 => ⟨rfl, q σ1 r1 (by rw [l1]; simp) fun j hj => by
                  rw [show (Tg.pr i l).ix = i :: l from rfl, List.mem_cons, not_or] at hj
                  rw [a1 j hj.2]
                  simp only [List.getElem?_set, if_neg (Ne.symm hj.1)]⟩
                exact ⟨_, _, rfl, Evl.ex_t r.ex h1, rfl, _, _, rfl, _, _, rfl, ⟨_, _, rfl, Evl.ex_t r.ex h5, key.2, key.1⟩⟩
      · cases h
    · cases h
end

section
variable {X : Cx} {β : Option Addr}
/-- the names of a target and their slots -/
def idxOf (N : List Str) (x : Str) : Option Nat := N.findIdx? (· == x)
theorem idxOf_get {N : List Str} {x : Str} {i : Nat} (h : idxOf N x = some i) : N[i]? = some x := by
  unfold idxOf at h
  rw [List.findIdx?_eq_some_iff_getElem] at h
  obtain ⟨h1, h2, h3⟩ := h
  rw [List.getElem?_eq_getElem h1]
  simp at h2
  rw [h2]
def tgNames (N : List Str) : List Expr → Option (List (Str × Nat))
  | [] => some []
  | .Name x _ :: r => match idxOf N x, tgNames N r with
    | some i, some l => some ((x, i) :: l)
    | _, _ => none
  | _ :: _ => none
def tgOf (N : List Str) : Expr → Option (Tg × List (Str × Nat))
  | .Name x _ => (idxOf N x).map fun i => (.one i, [(x, i)])
  | .Tuple es _ _ => match tgNames N es with
    | some l => some (.tup (l.map (·.2)), l)
    | none => match es with
      | [.Name x _, .Tuple fs _ _] => match idxOf N x, tgNames N fs with
        | some i, some l => some (.pr i (l.map (·.2)), (x, i) :: l)
        | _, _ => none
      | _ => none
  | _ => none
/-- what storing to a name asks of the context -/
def StOk (X : Cx) (x : Str) : Prop := Loc X.env.scope x ∧ (X.fn x = true ∨ X.env.scope.names.lookup x = some .local)
theorem pgs_names {nd : X.N.Nodup} : ∀ {es : List Expr} {l : List (Str × Nat)}, tgNames X.N es = some l → (∀ p ∈ l, StOk X p.1) → PGs X es (gNames (l.map (·.2))) ∧ (assignEach es X.env).length = l.length ∧ (assignEach es X.env).findIdx? (·.1) = none
  | [], l, h, _ => by cases h; exact ⟨pgs_nil, rfl, rfl⟩
  | .Name x p :: r, l, h, hs => by
    unfold tgNames at h
    cases z : idxOf X.N x with
    | none => rw [z] at h; cases h
    | some i =>
      rw [z] at h
      cases z2 : tgNames X.N r with
      | none => rw [z2] at h; cases h
      | some l' =>
        rw [z2] at h
        cases h
        obtain ⟨k1, k2, k3⟩ := pgs_names (nd := nd) z2 fun p hp => hs p (List.mem_cons_of_mem _ hp)
        obtain ⟨s1, s2⟩ := hs (x, i) List.mem_cons_self
        refine ⟨pgs_cons (pg_name nd (idxOf_get z) s1 s2) k1, ?_, ?_⟩
        · show (assignEach r X.env).length + 1 = l'.length + 1
          rw [k2]
        · show List.findIdx? (·.1) ((false, assign (.Name x p) X.env) :: assignEach r X.env) = none
          rw [List.findIdx?_cons, if_neg (by simp), k3]
          rfl
theorem pg_tg {tg : Expr} {t : Tg} {l : List (Str × Nat)} (nd : X.N.Nodup) (hc : X.calm = true) (h : tgOf X.N tg = some (t, l)) (hs : ∀ p ∈ l, StOk X p.1) : PG X tg (gOf X.K t) := by
  unfold tgOf at h
  split at h
  · rename_i x p
    cases z : idxOf X.N x with
    | none => rw [z] at h; cases h
    | some i =>
      rw [z] at h
      cases h
      obtain ⟨s1, s2⟩ := hs (x, i) List.mem_cons_self
      exact pg_name nd (idxOf_get z) s1 s2
  · rename_i es k p
    cases z : tgNames X.N es with
    | none =>
      rw [z] at h
      dsimp only at h
      split at h
      · rename_i x px fs kf pf
        split at h
        · rename_i i l' hi hl
          cases h
          obtain ⟨k1, k2, k3⟩ := pgs_names (nd := nd) hl fun p hp => hs p (List.mem_cons_of_mem _ hp)
          obtain ⟨s1, s2⟩ := hs (x, i) List.mem_cons_self
          exact pg_tup hc (pgs_cons (pg_name nd (idxOf_get hi) s1 s2) (pgs_cons (pg_tup hc k1 (by rw [k2, List.length_map]) k3) pgs_nil)) rfl rfl
        · cases h
      · cases h
    | some l' =>
      rw [z] at h
      cases h
      obtain ⟨k1, k2, k3⟩ := pgs_names (nd := nd) z hs
      exact pg_tup hc k1 (by rw [k2, List.length_map]) k3
  · cases h

/-! ### statements -/
def PostS (K : PySem.W.Frag) (β : Option Addr) (G H : Hp) (ρ : Own) (Dn : Ends) : SR → Prop
  | .nx b => ∀ G' H' ρ' σ', Fr G H ρ G' H' ρ' → R K β G' H' ρ' σ' b → Dn.nx σ' H'
  | .bk b => ∀ G' H' ρ' σ', Fr G H ρ G' H' ρ' → R K β G' H' ρ' σ' b → Dn.bk σ' H'
  | .ct b => ∀ G' H' ρ' σ', Fr G H ρ G' H' ρ' → R K β G' H' ρ' σ' b → Dn.ct σ' H'
  | .rt o d b => ∀ v G' H' ρ' σ', Fr G H ρ G' H' ρ' → R K β G' H' ρ' σ' b → VR K H G' H' ρ' d v o → Dn.rt v H'
theorem VR.back {K : PySem.W.Frag} {H0 H1 G H : Hp} {ρ : Own} {d : D} {v : V} {o : Bool} (x : VR K H1 G H ρ d v o) (f : ∀ p, H1 p = none → H0 p = none) : VR K H0 G H ρ d v o := by
  cases o with
  | false => exact x
  | true => obtain ⟨p, l, vs, h1, h2, h3, h4⟩ := x; exact ⟨p, l, vs, h1, h2, f p h3, h4⟩
theorem PostS.at {K : PySem.W.Frag} {G H G1 H1 : Hp} {ρ ρ1 : Own} {Dn : Ends} {r : SR} (q : PostS K β G H ρ Dn r) (f : Fr G H ρ G1 H1 ρ1) : PostS K β G1 H1 ρ1 Dn r := by
  cases r with
  | nx b => exact fun G' H' ρ' σ' f' r' => q G' H' ρ' σ' (f.trans f') r'
  | bk b => exact fun G' H' ρ' σ' f' r' => q G' H' ρ' σ' (f.trans f') r'
  | ct b => exact fun G' H' ρ' σ' f' r' => q G' H' ρ' σ' (f.trans f') r'
  | rt o d b => exact fun v G' H' ρ' σ' f' r' x => q v G' H' ρ' σ' (f.trans f') r' (x.back f.dom)
def DenS (X : Cx) (β : Option Addr) (st : Stmt) (a : En) (r : SR) : Prop :=
  ∀ (G H : Hp) (ρ : Own) (σ : L2.St) (Dn : Ends), R X.K β G H ρ σ a → PostS X.K β G H ρ Dn r → wS X st Dn σ H
def DenSs (X : Cx) (β : Option Addr) (st : List Stmt) (a : En) (r : SR) : Prop :=
  ∀ (G H : Hp) (ρ : Own) (σ : L2.St) (Dn : Ends), R X.K β G H ρ σ a → PostS X.K β G H ρ Dn r → wSs X st Dn σ H
theorem denss_nil {a : En} : DenSs X β [] a (.nx a) := fun G H ρ σ Dn r q => ⟨_, pss_nil, q G H ρ σ .refl r⟩
theorem denss_cons {st : Stmt} {rest : List Stmt} {a b : En} {r : SR} (h1 : DenS X β st a (.nx b)) (h2 : DenSs X β rest b r) : DenSs X β (st :: rest) a r := fun G H ρ σ Dn r0 q =>
  ⟨_, pss_cons ps_w pss_w, h1 G H ρ σ _ r0 fun G1 H1 ρ1 σ1 f1 r1 => h2 G1 H1 ρ1 σ1 Dn r1 (q.at f1)⟩
theorem denss_stop {st : Stmt} {rest : List Stmt} {a : En} {r : SR} (hr : ∀ b, r ≠ .nx b) (h1 : DenS X β st a r) : DenSs X β (st :: rest) a r := fun G H ρ σ Dn r0 q => by
  refine ⟨_, pss_cons ps_w pss_w, h1 G H ρ σ _ r0 ?_⟩
  cases r with
  | nx b => exact absurd rfl (hr b)
  | bk b => exact q
  | ct b => exact q
  | rt o d b => exact q
theorem dens_pass {pos : Pos} {a : En} : DenS X β (.Pass pos) a (.nx a) := fun G H ρ σ Dn r q => ⟨_, ps_pass, q G H ρ σ .refl r⟩
theorem dens_break {pos : Pos} {a : En} : DenS X β (.Break pos) a (.bk a) := fun G H ρ σ Dn r q => ⟨_, ps_break, q G H ρ σ .refl r⟩
theorem dens_continue {pos : Pos} {a : En} : DenS X β (.Continue pos) a (.ct a) := fun G H ρ σ Dn r q => ⟨_, ps_continue, q G H ρ σ .refl r⟩
theorem dens_ret {e : Expr} {pos : Pos} {a b : En} {o : Bool} {d : D} (h : Den X β e a o d b) : DenS X β (.Return (some e) pos) a (.rt o d b) := fun G H ρ σ Dn r q =>
  ⟨_, ps_ret pe_w, h G H ρ σ _ r fun v G1 H1 ρ1 f1 r1 x1 => q v G1 H1 ρ1 σ f1 r1 x1⟩
theorem dens_retN {pos : Pos} {a : En} : DenS X β (.Return none pos) a (.rt false .none a) := fun G H ρ σ Dn r q => ⟨_, ps_retN, q .non G H ρ σ .refl r .non⟩
theorem dens_if {t : Expr} {A B : List Stmt} {pos : Pos} {a b : En} {k : Bool} {r : SR} (h : DenT X β t a k b) (h1 : DenSs X β (if k then A else B) b r) : DenS X β (.If t A B pos) a r := fun G H ρ σ Dn r0 q => by
  refine ⟨_, ps_if pt_w pss_w pss_w, h G H ρ σ _ r0 fun G1 H1 ρ1 f1 r1 => ?_⟩
  cases k with
  | true => exact h1 G1 H1 ρ1 σ Dn r1 (q.at f1)
  | false => exact h1 G1 H1 ρ1 σ Dn r1 (q.at f1)
def isComp : Expr → Bool
  | .ListComp .. | .SetComp .. | .DictComp .. => true
  | _ => false
theorem swaps_ok {e : Expr} {t : Option Expr} {n : Nat} {env : Env} (h : isComp e = false) : swapsWith e t n env = pure false := by
  cases e <;> first | rfl | cases h
theorem dens_expr {e : Expr} {pos : Pos} {a b : En} {o : Bool} {d : D} (hc : isComp e = false) (h : Den X β e a o d b) : DenS X β (.Expr e pos) a (.nx b) := fun G H ρ σ Dn r q =>
  ⟨_, ps_expr pe_w (swaps_ok hc), h G H ρ σ _ r fun v G1 H1 ρ1 f1 r1 x1 => q G1 H1 ρ1 σ f1 r1⟩
theorem dens_set {x : Str} {px pos : Pos} {e : Expr} {a b : En} {o : Bool} {d : D} {i : Nat} (nd : X.N.Nodup) (hN : idxOf X.N x = some i) (hs : StOk X x) (hsw : swapsWith e (some (.Name x px)) pos.line X.env = pure false) (hi : i < b.sl.length) (h : Den X β e a o d b) :
    DenS X β (.Assign [.Name x px] e pos) a (.nx (setS b i o d)) := fun G H ρ σ Dn r q => by
  refine ⟨_, ps_set nd (idxOf_get hN) hs.1 pe_w hsw hs.2, h G H ρ σ _ r fun v G1 H1 ρ1 f1 r1 x1 => ?_⟩
  obtain ⟨ρ2, r2, f2⟩ := r1.store hi x1 f1
  exact q G1 H1 ρ2 _ f2 r2
theorem dens_tg {tg e : Expr} {pos : Pos} {a b c : En} {o : Bool} {d : D} {t : Tg} {l : List (Str × Nat)} (nd : X.N.Nodup) (hc : X.calm = true) (ht : tgOf X.N tg = some (t, l)) (hs : ∀ p ∈ l, StOk X p.1)
    (h1 : swapsWithSole [tg] e pos.line X.env = pure false) (h2 : swappedStores [tg] e X.env = pure none) (h3 : (assignEach [tg] X.env).map (·.2) = [assign tg X.env]) (h : Den X β e a o d b) (hst : stT b t d = some c) :
    DenS X β (.Assign [tg] e pos) a (.nx c) := fun G H ρ σ Dn r q => by
  refine ⟨_, ps_asg pe_w (pg_tg nd hc ht hs) h1 h2 h3, h.fz G H ρ σ _ r fun v G1 H1 ρ1 f1 r1 x1 => ?_⟩
  exact gOf_ok r1 x1 hst fun σ1 r2 _ _ => q G1 H1 ρ1 σ1 f1 r2
/-- x[i] = e, x a name that owns a list -/
theorem put_ok {o i : Expr} {pos : Pos} (h : isSlice i = false) (v : Value) : assign (.Subscript o i pos) X.env v = (do
    let ov ← holding [v] (eval o X.env); let iv ← holding [v, ov] (eval i X.env); standAt pos; holding [v, ov, iv] (setItem ov iv v); release [v, ov, iv] []) := by
  cases i <;> first | rfl | cases h
theorem dens_put {x : Str} {px pp pos : Pos} {e ei : Expr} {a b c : En} {o o2 : Bool} {d : D} {k : Int} {i j : Nat} {l : List D} (hN : idxOf X.N x = some i) (hv : Vis X.env.scope x) (hd : (x == ("__debug__" : Str)) = false) (hcd : (x == ("__classdict__" : Str)) = false)
    (hsl : isSlice ei = false) (hsw : swapsWith e (some (.Subscript (.Name x px) ei pp)) pos.line X.env = pure false) (h : Den X β e a o d b) (h2 : Den X β ei b o2 (.int k) c) (hb : (slotL b i).isSome = true) (hl : slotL c i = some l) (hj : ixN l.length k = some j) :
    DenS X β (.Assign [.Subscript (.Name x px) ei pp] e pos) a (.nx (putL c i (l.set j d))) := fun G H ρ σ Dn r q => by
  refine ⟨_, ps_asg pe_w (pg_sub pe_w pe_w set_list (put_ok hsl)) hsw rfl rfl, h.fz G H ρ σ _ r fun v G1 H1 ρ1 f1 r1 x1 => ?_⟩
  obtain ⟨l0, hb⟩ := Option.isSome_iff_exists.mp hb
  obtain ⟨p, vs, p1, p2, p3, p4⟩ := r1.ownAt hb
  refine peek (idxOf_get hN) hv hd hcd p1 (h2.fz G1 H1 ρ1 σ _ r1 fun y G2 H2 ρ2 f2 r2 x2 => ?_)
  cases (show Rp X.K G2 y (.int k) from x2)
  obtain ⟨p', vs', q1, q2, q3, q4⟩ := r2.ownAt hl
  rw [p1] at q1
  cases q1
  obtain ⟨r3, f3⟩ := r2.put hl p1 (q3.set j (Rp.mono f2.ex x1))
  exact ⟨p, vs', k, j, rfl, rfl, q2, by rw [q3.length]; exact hj, q G2 _ ρ2 σ ((f1.trans f2).trans f3) r3⟩

/-! ### while -/
def whileL (t : En → Option (Bool × En)) (f : En → Option SR) : Nat → En → Option SR
  | 0, _ => none
  | n + 1, e => match t e with
    | none => none
    | some (false, e1) => some (.nx e1)
    | some (true, e1) => match f e1 with
      | some (.nx e2) => whileL t f n e2
      | some (.ct e2) => whileL t f n e2
      | some (.bk e2) => some (.nx e2)
      | some (.rt o d e2) => some (.rt o d e2)
      | none => none
theorem dens_while {c : Expr} {body : List Stmt} {pos : Pos} {a : En} {r : SR} {n : Nat} {t : En → Option (Bool × En)} {f : En → Option SR} (hp : PassesOwn (model X.prog X.w) X.A X.env X.xe)
    (ht : ∀ e k e1, t e = some (k, e1) → DenT X β c e k e1) (hf : ∀ e r, f e = some r → DenSs X β body e r) (h : whileL t f n a = some r) : DenS X β (.While c body [] pos) a r := fun G H ρ σ Dn r0 q => by
  refine ⟨_, ps_while hp pt_w pss_w, fun m σ' H' => ∃ e G' ρ', Fr G H ρ G' H' ρ' ∧ R X.K β G' H' ρ' σ' e ∧ whileL t f m e = some r, ⟨n, a, G, ρ, .refl, r0, h⟩, ?_⟩
  rintro m σ1 H1 ⟨e, G1, ρ1, f1, r1, h1⟩
  cases m with
  | zero => cases h1
  | succ m =>
    unfold whileL at h1
    cases z : t e with
    | none => rw [z] at h1; cases h1
    | some ke =>
      obtain ⟨k, e1⟩ := ke
      rw [z] at h1
      refine ht e k e1 z G1 H1 ρ1 σ1 _ r1 fun G2 H2 ρ2 f2 r2 => ?_
      cases k with
      | false =>
        cases h1
        exact q G2 H2 ρ2 σ1 (f1.trans f2) r2
      | true =>
        refine ⟨fun σ' H' => ∃ e G' ρ', Fr G H ρ G' H' ρ' ∧ R X.K β G' H' ρ' σ' e ∧ whileL t f m e = some r, fun σ' H' w => ⟨m, Nat.lt_succ_self m, w⟩, ?_⟩
        cases z2 : f e1 with
        | none => simp only [z2] at h1; cases h1
        | some rr =>
          simp only [z2] at h1
          refine hf e1 rr z2 G2 H2 ρ2 σ1 _ r2 ?_
          cases rr with
          | nx e2 => exact fun G3 H3 ρ3 σ3 f3 r3 => ⟨e2, G3, ρ3, (f1.trans f2).trans f3, r3, h1⟩
          | ct e2 => exact fun G3 H3 ρ3 σ3 f3 r3 => ⟨e2, G3, ρ3, (f1.trans f2).trans f3, r3, h1⟩
          | bk e2 => cases h1; exact fun G3 H3 ρ3 σ3 f3 r3 => q G3 H3 ρ3 σ3 ((f1.trans f2).trans f3) r3
          | rt o d e2 => cases h1; exact fun v G3 H3 ρ3 σ3 f3 r3 x3 => q v G3 H3 ρ3 σ3 ((f1.trans f2).trans f3) r3 (x3.back (f1.trans f2).dom)

/-! ### for -/
def forL (f : D → En → Option SR) : List D → En → Option SR
  | [], e => some (.nx e)
  | d :: ds, e => match f d e with
    | some (.nx e2) => forL f ds e2
    | some (.ct e2) => forL f ds e2
    | some (.bk e2) => some (.nx e2)
    | some (.rt o d e2) => some (.rt o d e2)
    | none => none
/-- the item of a turn, locked -/
theorem Wk.turn {K : PySem.W.Frag} {J : It} {ds : List D} {G0 G H : Hp} {ρ : Own} {σ : L2.St} {e : En} {i : Nat} {d : D} {x : V} {H' : Hp} (w : Wk K J ds G0) (e0 : Ex G0 G) (r : R K β G H ρ σ e) (hd : ds[i]? = some d) (hy : J.yld i H x H') :
    ∃ G', Fr G H ρ G' H' ρ ∧ R K β G' H' ρ σ e ∧ Rp K G' x d := by
  rcases w.yld i d G H x H' e0 r.ex hd hy with ⟨rfl, h⟩ | ⟨T, vs, l, rfl, hT, rfl, rfl, h⟩ | ⟨U, T, u, vs, d0, l, rfl, hne, hU, hT, rfl, rfl, hu, h⟩
  · exact ⟨G, .refl, r, h⟩
  · have hg := (r.free hT).2
    exact ⟨upd G T (.tup vs), (Fr.grow hT).lock hT hg, (r.grow hT).lock upd_same hg (r.free hT).1, .tup (.inl (.inl upd_same)) (h.mono (Evl.Ex.new hg))⟩
  · have hg := (r.free hU).2
    have f1 : Fr G H ρ (upd G U (.tup vs)) (upd H U (.tup vs)) ρ := (Fr.grow hU).lock hU hg
    have r1 : R K β (upd G U (.tup vs)) (upd H U (.tup vs)) ρ σ e := (r.grow hU).lock upd_same hg (r.free hU).1
    have hT2 : upd H U (.tup vs) T = none := by rw [upd_ne (Ne.symm hne)]; exact hT
    have hg2 := (r1.free hT2).2
    have x1 : Rp K (upd G U (.tup vs)) (.ref U) (.tuple l) := .tup (.inl (.inl upd_same)) (h.mono (Evl.Ex.new hg))
    refine ⟨upd (upd G U (.tup vs)) T (.tup [u, .ref U]), f1.trans ((Fr.grow hT2).lock hT2 hg2), (r1.grow hT2).lock upd_same hg2 (r1.free hT2).1, .tup (.inl (.inl upd_same)) (.cons (hu.mono ((Evl.Ex.new hg).trans (Evl.Ex.new hg2))) (.cons (x1.mono (Evl.Ex.new hg2)) .nil))⟩
theorem dens_for {tg it : Expr} {body : List Stmt} {pos : Pos} {a b : En} {r : SR} {ds : List D} {t : Tg} {l : List (Str × Nat)} {f : D → En → Option SR} (hp : PassesOwn (model X.prog X.w) X.A X.env X.xe) (nd : X.N.Nodup) (hc : X.calm = true)
    (ht : tgOf X.N tg = some (t, l)) (hs : ∀ p ∈ l, StOk X p.1) (hset : isSet it = false) (hi : DenI X β tg it a ds b) (hf : ∀ d e r, f d e = some r → ∃ e1, stT e t d = some e1 ∧ DenSs X β body e1 r) (h : forL f ds b = some r) :
    DenS X β (.For tg it body [] pos) a r := fun G H ρ σ Dn r0 q => by
  refine ⟨_, ps_for hp hc pi_w (pg_tg nd hc ht hs) pss_w (fun x => by cases it <;> first | rfl | cases hset), hi G H ρ σ _ r0 fun J G1 H1 ρ1 f1 r1 wk => ?_⟩
  refine ⟨fun i m σ' H' => m = ds.length - i ∧ i ≤ ds.length ∧ ∃ e G' ρ', Fr G1 H1 ρ1 G' H' ρ' ∧ R X.K β G' H' ρ' σ' e ∧ forL f (ds.drop i) e = some r, ⟨ds.length, by simp, Nat.zero_le _, b, G1, ρ1, .refl, r1, h⟩, ?_⟩
  rintro i m σ2 H2 ⟨rfl, hle, e, G2, ρ2, f2, r2, h2⟩
  by_cases hlt : i < ds.length
  · have hd : ds[i]? = some ds[i] := List.getElem?_eq_getElem hlt
    rw [List.drop_eq_getElem_cons hlt] at h2
    unfold forL at h2
    refine .inr ⟨wk.go i G2 H2 f2.ex r2.ex hlt, fun σ' H' => i + 1 ≤ ds.length ∧ ∃ e G' ρ', Fr G1 H1 ρ1 G' H' ρ' ∧ R X.K β G' H' ρ' σ' e ∧ forL f (ds.drop (i + 1)) e = some r,
      fun σ' H' w => ⟨ds.length - (i + 1), by omega, rfl, w.1, w.2⟩, fun x H' hy => ?_⟩
    obtain ⟨G3, f3, r3, x3⟩ := wk.turn f2.ex r2 hd hy
    cases z : f ds[i] e with
    | none => rw [z] at h2; cases h2
    | some rr =>
      obtain ⟨e1, st, hb⟩ := hf _ _ _ z
      refine gOf_ok r3 x3 st fun σ4 r4 _ _ => hb G3 H' ρ2 σ4 _ r4 ?_
      rw [z] at h2
      have F : Fr G1 H1 ρ1 G3 H' ρ2 := f2.trans f3
      cases rr with
      | nx e2 => exact fun G5 H5 ρ5 σ5 f5 r5 => ⟨hlt, e2, G5, ρ5, F.trans f5, r5, h2⟩
      | ct e2 => exact fun G5 H5 ρ5 σ5 f5 r5 => ⟨hlt, e2, G5, ρ5, F.trans f5, r5, h2⟩
      | bk e2 => cases h2; exact fun G5 H5 ρ5 σ5 f5 r5 => q G5 H5 ρ5 σ5 ((f1.trans F).trans f5) r5
      | rt o d e2 => cases h2; exact fun v G5 H5 ρ5 σ5 f5 r5 x5 => q v G5 H5 ρ5 σ5 ((f1.trans F).trans f5) r5 (x5.back (f1.trans F).dom)
  · have e1 : i = ds.length := by omega
    subst e1
    rw [List.drop_length] at h2
    cases h2
    exact .inl ⟨wk.stop _ G2 H2 f2.ex r2.ex rfl, q G2 H2 ρ2 σ2 (f1.trans f2) r2⟩
end
end Fz
set_option Elab.async false
set_option linter.all false
set_option maxRecDepth 100000
set_option maxHeartbeats 4000000
/-! Fz, part K: list comprehensions. -/
namespace Fz
open PySem PySem.Spec PyProof.Rows L2

theorem wipe_get (σ : L2.St) : ∀ (vs : List Nat) (j : Nat), j ∉ vs → (wipe σ vs)[j]? = σ[j]?
  | [], _, _ => rfl
  | v :: vs, j, h => by
    rw [List.mem_cons, not_or] at h
    unfold wipe
    rw [List.getElem?_set_ne (Ne.symm h.1), wipe_get σ vs j h.2]
theorem wipe_at (σ : L2.St) : ∀ (vs : List Nat) (j : Nat), j ∈ vs → j < σ.length → (wipe σ vs)[j]? = some none
  | [], _, h, _ => by cases h
  | v :: vs, j, h, hl => by
    unfold wipe
    by_cases e : v = j
    · subst e
      rw [List.getElem?_set_self (by rw [wipe_length]; exact hl)]
    · rw [List.getElem?_set_ne e]
      rcases List.mem_cons.mp h with h | h
      · exact absurd h.symm e
      · exact wipe_at σ vs j h hl
theorem wipe_same {σ τ : L2.St} {vs : List Nat} (hl : σ.length = τ.length) (h : ∀ j, j ∉ vs → σ[j]? = τ[j]?) : wipe σ vs = wipe τ vs := by
  apply List.ext_getElem?
  intro j
  by_cases m : j ∈ vs
  · by_cases hj : j < σ.length
    · rw [wipe_at σ vs j m hj, wipe_at τ vs j m (by rw [← hl]; exact hj)]
    · rw [List.getElem?_eq_none (by rw [wipe_length]; omega), List.getElem?_eq_none (by rw [wipe_length]; omega)]
  · rw [wipe_get σ vs j m, wipe_get τ vs j m, h j m]

def wipeS (sl : List Sl) : List Nat → List Sl
  | [] => sl
  | v :: vs => (wipeS sl vs).set v .no
def wipeE (e : En) (vs : List Nat) : En := { e with sl := wipeS e.sl vs }
def restS (old new : List Sl) : List Nat → List Sl
  | [] => new
  | v :: vs => (restS old new vs).set v (old.getD v .no)
def restE (old new : En) (vs : List Nat) : En := { new with sl := restS old.sl new.sl vs }
theorem wipeS_len (sl : List Sl) : ∀ vs : List Nat, (wipeS sl vs).length = sl.length
  | [] => rfl
  | v :: vs => by unfold wipeS; rw [List.length_set, wipeS_len sl vs]
theorem restS_len (old new : List Sl) : ∀ vs : List Nat, (restS old new vs).length = new.length
  | [] => rfl
  | v :: vs => by unfold restS; rw [List.length_set, restS_len old new vs]
theorem wipeS_get {sl : List Sl} : ∀ {vs : List Nat} {j : Nat} {s : Sl}, (wipeS sl vs)[j]? = some s → s = .no ∨ (j ∉ vs ∧ sl[j]? = some s)
  | [], _, _, h => .inr ⟨by simp, h⟩
  | v :: vs, j, s, h => by
    unfold wipeS at h
    by_cases e : v = j
    · subst e
      rw [List.getElem?_set] at h
      simp only [if_true] at h
      split at h
      · exact .inl (Option.some.inj h).symm
      · cases h
    · rw [List.getElem?_set_ne e] at h
      rcases wipeS_get h with k | ⟨k1, k2⟩
      · exact .inl k
      · exact .inr ⟨by rw [List.mem_cons, not_or]; exact ⟨Ne.symm e, k1⟩, k2⟩
theorem restS_get {old new : List Sl} : ∀ {vs : List Nat} {j : Nat} {s : Sl}, (restS old new vs)[j]? = some s → (j ∈ vs ∧ s = old.getD j .no) ∨ (j ∉ vs ∧ new[j]? = some s)
  | [], _, _, h => .inr ⟨by simp, h⟩
  | v :: vs, j, s, h => by
    unfold restS at h
    by_cases e : v = j
    · subst e
      rw [List.getElem?_set] at h
      simp only [if_true] at h
      split at h
      · exact .inl ⟨List.mem_cons_self, (Option.some.inj h).symm⟩
      · cases h
    · rw [List.getElem?_set_ne e] at h
      rcases restS_get h with ⟨k1, k2⟩ | ⟨k1, k2⟩
      · exact .inl ⟨List.mem_cons_of_mem _ k1, k2⟩
      · exact .inr ⟨by rw [List.mem_cons, not_or]; exact ⟨Ne.symm e, k1⟩, k2⟩
def plainS : Sl → Bool
  | .no => true
  | .val _ => true
  | _ => false
section
variable {K : PySem.W.Frag} {β : Option Addr} {G H G' H' : Hp} {ρ ρ' : Own} {σ τ : L2.St} {e e' : En}
theorem R.wiped {vs : List Nat} (r : R K β G H ρ σ e) : R K β G H ρ (wipe σ vs) (wipeE e vs) := by
  refine ⟨by rw [wipe_length, r.len]; exact (wipeS_len _ _).symm, r.ex, r.ow, fun j s hj => ?_, r.bg⟩
  rcases wipeS_get hj with rfl | ⟨h1, h2⟩
  · trivial
  · rw [wipe_get σ vs j h1]
    exact r.sl j s h2
theorem R.rest {vs : List Nat} (r : R K β G H ρ σ e) (x : Ex G G') (hp : ∀ v ∈ vs, plainS (e.sl.getD v .no) = true) (r' : R K β G' H' ρ' τ e') (hl : τ.length = σ.length) (ha : ∀ j, j ∉ vs → τ[j]? = σ[j]?) : R K β G' H' ρ' σ (restE e e' vs) := by
  refine ⟨?_, r'.ex, r'.ow, fun j s hj => ?_, r'.bg⟩
  · show σ.length = (restS e.sl e'.sl vs).length
    rw [restS_len, ← r'.len, hl]
  · rcases restS_get hj with ⟨h1, h2⟩ | ⟨h1, h2⟩
    · subst h2
      have p := hp j h1
      cases z : e.sl[j]? with
      | none => rw [List.getD_eq_getElem?_getD, z]; trivial
      | some s0 =>
        have w := r.sl j s0 z
        rw [List.getD_eq_getElem?_getD, z] at p ⊢
        simp only [Option.getD_some] at p ⊢
        cases s0 with
        | no => trivial
        | val d => obtain ⟨v, w1, w2⟩ := w; exact ⟨v, w1, w2.mono x⟩
        | own l => cases p
        | bag => cases p
        | tpo _ _ _ => cases p
    · have w := r'.sl j s h2
      rw [← ha j h1]
      exact w
end

/-- the comprehension's loop -/
def lcL (f : D → En → Option (Option D × En)) : List D → En → Option (List D × En)
  | [], e => some ([], e)
  | d :: ds, e => match f d e with
    | none => none
    | some (o, e1) => match lcL f ds e1 with
      | none => none
      | some (l, e2) => some (o.toList ++ l, e2)
section
variable {X : Cx} {β : Option Addr}
/-- a context of the comprehension's block -/
abbrev Bl (X : Cx) (scope : Scope) (s : Shared) (H : Hp) (C : Addr) (cl : List (Str × Addr)) (fp : List Addr) : Cx := X.blk s H scope (compEnvC scope cl C X.env) fp
def DenTs (X : Cx) (β : Option Addr) (es : List Expr) (a : En) (k : Bool) (b : En) : Prop :=
  ∀ (G H : Hp) (ρ : Own) (σ : L2.St) (Q : Bool → Hp → Prop), R X.K β G H ρ σ a →
    (∀ G' H' ρ', Fr G H ρ G' H' ρ' → R X.K β G' H' ρ' σ b → Q k H') → ∃ t, PTs X es t ∧ t σ H Q
theorem dents_nil {a : En} : DenTs X β [] a true a := fun G H ρ σ Q r q => ⟨_, pts_nil, q G H ρ .refl r⟩
theorem dents_one {e : Expr} {a b : En} {k : Bool} (h : DenT X β e a k b) : DenTs X β [e] a k b := fun G H ρ σ Q r q => ⟨_, pts_one pt_w, h G H ρ σ Q r q⟩
/-- one turn: the target, the tests, the element, in the block's contexts -/
def TurnC (X : Cx) (β : Option Addr) (scope : Scope) (t : Tg) (vs : List Nat) (ifs : List Expr) (elt : Expr) (d : D) (e : En) (o : Option D) (e' : En) : Prop :=
  (∀ v ∈ vs, plainS (e.sl.getD v .no) = true) ∧ ∃ e1 k e2, stT (wipeE e vs) t d = some e1 ∧ (∀ s H C cl fp, DenTs (Bl X scope s H C cl fp) β ifs e1 k e2) ∧
    match k with
    | false => o = none ∧ e' = restE e e2 vs
    | true => ∃ e3 d', (∀ s H C cl fp, Den (Bl X scope s H C cl fp) β elt e2 false d' e3) ∧ o = some d' ∧ e' = restE e e3 vs
def wTs (X : Cx) (scope : Scope) (ifs : List Expr) : TT := fun σ H Q => ∀ s H0 C cl fp, ∃ t, PTs (Bl X scope s H0 C cl fp) ifs t ∧ t σ H Q
def wEs (X : Cx) (scope : Scope) (e : Expr) : TE := fun σ H Q => ∀ s H0 C cl fp, wE (Bl X scope s H0 C cl fp) e σ H Q
theorem read_lc {tg it elt : Expr} {ifs : List Expr} {scope : Scope} {a b c : En} {ds l : List D} {t : Tg} {vs : List Nat} {f : D → En → Option (Option D × En)} (hv : ∀ j ∈ t.ix, j ∈ vs) (hi : DenI X β tg it a ds b)
    (hf : ∀ d e o e', f d e = some (o, e') → TurnC X β scope t vs ifs elt d e o e') (h : lcL f ds b = some (l, c)) (hl : ds.length ≤ 1000000) {G H : Hp} {ρ : Own} {σ : L2.St} {Q : VK} (r : R X.K β G H ρ σ a) (q : Kn X.K β G H ρ σ c true (.list l) Q) :
    tLc (wI X tg it) (gOf X.K t) (wTs X scope ifs) (wEs X scope elt) vs σ H Q := by
  refine hi G H ρ σ _ r fun J G1 H1 ρ1 f1 r1 wk => fun Dn hDn => ?_
  have gD : ρ1 Dn = none ∧ G1 Dn = none := r1.free hDn
  refine ⟨fun i m H' => m = ds.length - i ∧ i ≤ ds.length ∧ ∃ e G' ρ' acc done rest, Fr G1 H1 ρ1 G' H' ρ' ∧ R X.K β G' H' ρ' σ e ∧ G' Dn = none ∧ ρ' Dn = none ∧ H' Dn = some (.lst acc) ∧ Rps X.K G' acc done ∧ done.length ≤ i ∧ lcL f (ds.drop i) e = some (rest, c) ∧ l = done ++ rest,
    ⟨ds.length, by simp, Nat.zero_le _, b, G1, ρ1, [], [], l, .grow hDn, r1.grow hDn, gD.2, gD.1, upd_same, .nil, Nat.le_refl _, h, rfl⟩, ?_⟩
  rintro i m H2 ⟨rfl, hle, e, G2, ρ2, acc, done, rest, f2, r2, g2, o2, h2, ha, hdl, hr, hlst⟩
  by_cases hlt : i < ds.length
  · have hd : ds[i]? = some ds[i] := List.getElem?_eq_getElem hlt
    rw [List.drop_eq_getElem_cons hlt] at hr
    unfold lcL at hr
    cases z : f ds[i] e with
    | none => rw [z] at hr; cases hr
    | some oe =>
      obtain ⟨o, e'⟩ := oe
      simp only [z] at hr
      cases z2 : lcL f (ds.drop (i + 1)) e' with
      | none => rw [z2] at hr; cases hr
      | some le =>
        obtain ⟨l2, e2'⟩ := le
        rw [z2] at hr
        simp only [Option.some.injEq, Prod.mk.injEq] at hr
        obtain ⟨hr1, hr2⟩ := hr
        subst hr2
        refine .inr ⟨wk.go i G2 H2 f2.ex r2.ex hlt, fun H' => i + 1 ≤ ds.length ∧ ∃ e G' ρ' acc done rest, Fr G1 H1 ρ1 G' H' ρ' ∧ R X.K β G' H' ρ' σ e ∧ G' Dn = none ∧ ρ' Dn = none ∧ H' Dn = some (.lst acc) ∧ Rps X.K G' acc done ∧ done.length ≤ i + 1 ∧ lcL f (ds.drop (i + 1)) e = some (rest, e2') ∧ l = done ++ rest,
          fun H' w => ⟨ds.length - (i + 1), by omega, rfl, w.1, w.2⟩, fun x H' hy => ?_⟩
        obtain ⟨hp, e1, k, e2, hst, htest, hk⟩ := hf _ _ _ _ z
        obtain ⟨G3, f3, r3, x3⟩ := wk.turn f2.ex r2 hd hy
        have rw3 := r3.wiped (vs := vs)
        refine gOf_ok rw3 x3 hst fun σ4 r4 l4 a4 => ⟨?_, ?_⟩
        · rw [wipe_same (σ := σ4) (τ := wipe σ vs) l4 fun j hj => a4 j fun hm => hj (hv j hm)]
          exact wipe_same (wipe_length σ vs) fun j hj => wipe_get σ vs j hj
        · intro s0 H0 C cl fp
          have l4' : σ4.length = σ.length := by rw [l4, wipe_length]
          have a4' : ∀ j, j ∉ vs → σ4[j]? = σ[j]? := fun j hj => by rw [a4 j fun hm => hj (hv j hm), wipe_get σ vs j hj]
          refine htest s0 H0 C cl fp G3 H' ρ2 σ4 _ r4 fun G5 H5 ρ5 f5 r5 => ?_
          have F5 : Fr G2 H2 ρ2 G5 H5 ρ5 := f3.trans f5
          cases k with
          | false =>
            obtain ⟨rfl, rfl⟩ := hk
            obtain ⟨d1, d2, d3⟩ := F5.keep Dn _ h2 o2
            exact ⟨hlt, _, G5, ρ5, acc, done, l2, f2.trans F5, r3.rest f5.ex hp r5 l4' a4', d3 g2, d2, d1, ha.mono F5.ex, Nat.le_succ_of_le hdl, z2, by rw [hlst, ← hr1]; rfl⟩
          | true =>
            obtain ⟨e3, d', hE, rfl, rfl⟩ := hk
            show wEs X scope elt σ4 H5 _
            intro s1 H1' C1 cl1 fp1
            refine hE s1 H1' C1 cl1 fp1 G5 H5 ρ5 σ4 _ r5 fun v G6 H6 ρ6 f6 r6 x6 => ?_
            have F6 : Fr G2 H2 ρ2 G6 H6 ρ6 := F5.trans f6
            obtain ⟨d1, d2, d3⟩ := F6.keep Dn _ h2 o2
            have r7 : R X.K β G6 H6 ρ6 σ (restE e e3 vs) := r3.rest (f5.trans f6).ex hp r6 l4' a4'
            have hacc : acc.length < sizeLine := by rw [(ha).length]; exact Nat.lt_of_le_of_lt hdl (Nat.lt_of_lt_of_le hlt (len_ok hl))
            have g6 : G6 Dn = none := d3 g2
            have upE : ∀ a, a ≠ Dn → upd H6 Dn (.lst (acc ++ [v])) a = H6 a := fun a h => upd_ne h
            have ne : ∀ a, ρ6 a ≠ none → a ≠ Dn := fun a h z => h (by rw [z]; exact d2)
            have r8 : R X.K β G6 (upd H6 Dn (.lst (acc ++ [v]))) ρ6 σ (restE e e3 vs) := by
              refine ⟨r7.len, r7.ex.mut g6, fun a h => ⟨(r7.ow a h).1, by rw [upE a (ne a h)]; exact (r7.ow a h).2⟩, fun j s hj => (r7.sl j s hj).mono (Evl.Ex.refl _) fun a h => upE a (ne a h), fun a h => ?_⟩
              obtain ⟨b1, ws, b2, b3⟩ := r7.bg a h
              exact ⟨b1, ws, by rw [upE a (ne a (by rw [b1]; simp))]; exact b2, b3⟩
            have ff : Fr G1 H1 ρ1 G6 H6 ρ6 := f2.trans F6
            refine ⟨acc, d1, hacc, hlt, _, G6, ρ6, acc ++ [v], done ++ [d'], l2, ⟨ff.ex, fun a u hu hr => ?_, fun a h => ?_⟩, r8, g6, d2, upd_same, (ha.mono F6.ex).append (.cons x6 .nil), by rw [List.length_append]; exact Nat.succ_le_succ hdl, z2, by rw [hlst, ← hr1]; simp⟩
            · obtain ⟨k1, k2, k3⟩ := ff.keep a u hu hr
              exact ⟨by rw [upE a (ne_of_none hu hDn)]; exact k1, k2, k3⟩
            · by_cases k : a = Dn
              · subst k; rw [upd_same] at h; cases h
              · rw [upE a k] at h; exact ff.dom a h
  · have e1 : i = ds.length := by omega
    subst e1
    rw [List.drop_length] at hr
    simp only [lcL, Option.some.injEq, Prod.mk.injEq] at hr
    obtain ⟨rfl, rfl⟩ := hr
    refine .inl ⟨wk.stop _ G2 H2 f2.ex r2.ex rfl, ?_⟩
    refine q (.ref Dn) G2 H2 ρ2 (f1.trans f2) r2 ⟨Dn, l, acc, rfl, rfl, f1.dom Dn hDn, g2, o2, h2, ?_⟩
    rw [hlst, List.append_nil]
    exact ha
theorem pts_all {scope : Scope} {ifs : List Expr} (s : Shared) (H : Hp) (C : Addr) (cl : List (Str × Addr)) (fp : List Addr) : PTs (Bl X scope s H C cl fp) ifs (wTs X scope ifs) :=
  ⟨fun pins s' σ H' Q I h => by obtain ⟨t, p, q⟩ := h s H C cl fp; exact p.run pins s' σ H' Q I q⟩
theorem pe_all {scope : Scope} {e : Expr} (s : Shared) (H : Hp) (C : Addr) (cl : List (Str × Addr)) (fp : List Addr) : PE (Bl X scope s H C cl fp) e (wEs X scope e) :=
  ⟨fun pins s' σ H' Q I h => by obtain ⟨t, p, q⟩ := h s H C cl fp; exact p.run pins s' σ H' Q I q⟩
theorem den_lc {tg it elt : Expr} {ifs : List Expr} {scope : Scope} {pos : Pos} {own : List (Str × Nat)} {a b c : En} {ds l : List D} {t : Tg} {tl : List (Str × Nat)} {f : D → En → Option (Option D × En)} (nd : X.N.Nodup) (hc : X.calm = true) (hset : isSet it = false)
    (ok : BlkOk X.N X.env.scope scope own) (ht : tgOf X.N tg = some (t, tl)) (hst : ∀ s H C cl fp, ∀ p ∈ tl, StOk (Bl X scope s H C cl fp) p.1) (hv : ∀ j ∈ t.ix, j ∈ own.map (·.2)) (hi : DenI X β tg it a ds b)
    (hf : ∀ d e o e', f d e = some (o, e') → TurnC X β scope t (own.map (·.2)) ifs elt d e o e') (h : lcL f ds b = some (l, c)) (hl : ds.length ≤ 1000000) : Den X β (.ListComp elt [⟨tg, it, ifs, 0⟩] scope pos) a true (.list l) c := fun G H ρ σ Q r q =>
  ⟨_, pe_lc hc nd pi_w ok (fun s H C cl fp => pg_tg (X := Bl X scope s H C cl fp) nd hc ht (hst s H C cl fp)) pts_all pe_all (fun x => by cases it <;> first | rfl | cases hset), read_lc hv hi hf h hl r q⟩
theorem dens_setLc {x : Str} {px spos : Pos} {i : Nat} {tg it elt : Expr} {ifs : List Expr} {scope : Scope} {pos : Pos} {own : List (Str × Nat)} {a b c : En} {ds l : List D} {t : Tg} {tl : List (Str × Nat)} {f : D → En → Option (Option D × En)} (nd : X.N.Nodup) (hc : X.calm = true) (hset : isSet it = false)
    (hN : idxOf X.N x = some i) (hx : X.env.scope.names.lookup x = some .local) (hsw : swapsWith (.ListComp elt [⟨tg, it, ifs, 0⟩] scope pos) (some (.Name x px)) spos.line X.env = pure true) (hic : i < c.sl.length)
    (ok : BlkOk X.N X.env.scope scope own) (ht : tgOf X.N tg = some (t, tl)) (hst : ∀ s H C cl fp, ∀ p ∈ tl, StOk (Bl X scope s H C cl fp) p.1) (hv : ∀ j ∈ t.ix, j ∈ own.map (·.2)) (hi : DenI X β tg it a ds b)
    (hf : ∀ d e o e', f d e = some (o, e') → TurnC X β scope t (own.map (·.2)) ifs elt d e o e') (h : lcL f ds b = some (l, c)) (hl : ds.length ≤ 1000000) :
    DenS X β (.Assign [.Name x px] (.ListComp elt [⟨tg, it, ifs, 0⟩] scope pos) spos) a (.nx (setS c i true (.list l))) := fun G H ρ σ Dn r q =>
  ⟨_, ps_setLc hc nd (idxOf_get hN) hx hsw pi_w ok (fun s H C cl fp => pg_tg (X := Bl X scope s H C cl fp) nd hc ht (hst s H C cl fp)) pts_all pe_all (fun x => by cases it <;> first | rfl | cases hset), read_lc hv hi hf h hl r fun v G1 H1 ρ1 f1 r1 x1 => by
    obtain ⟨ρ2, r2, f2⟩ := r1.store hic x1 f1
    exact q G1 H1 ρ2 _ f2 r2⟩
end
end Fz
set_option Elab.async false
set_option linter.all false
set_option maxRecDepth 100000
set_option maxHeartbeats 4000000
/-! Fz, part L: defs and their calls. -/
namespace Fz
open PySem PySem.Spec PyProof.Rows L2

/-- a way to call with keywords: so many by place, these names, where each parameter's value lies -/
structure Kw where
  n : Nat
  ks : List Str
  perm : List Nat
/-- what a def computes: parameters; whether the first one is a list that it may change; the function -/
structure Fn where
  ps : List Str
  io : Bool
  kws : List Kw
  den : List D → Option (Bool × D × List D)
def r0 (β : Option Addr) : Own := fun a => if β = some a then some 0 else none
def ArgR (K : PySem.W.Frag) (β : Option Addr) (G H : Hp) : Bool → List V → List D → Prop
  | false, vs, ds => β = none ∧ Rps K G vs ds
  | true, vs, ds => ∃ a bs ws vs' ds', β = some a ∧ vs = .ref a :: vs' ∧ ds = .list bs :: ds' ∧ G a = none ∧ H a = some (.lst ws) ∧ Rps K G ws bs ∧ Rps K G vs' ds'
def spD (K : PySem.W.Frag) (fn : Fn) : Sp := fun vs H Q _ => ∃ (G : Hp) (β : Option Addr) (ds : List D) (o : Bool) (d : D) (l : List D),
  fn.den ds = some (o, d, l) ∧ vs.length = fn.ps.length ∧ Ex G H ∧ ArgR K β G H fn.io vs ds ∧
  ∀ v G' H' ρ', Fr G H (r0 β) G' H' ρ' → Ex G' H' → (∀ a, β = some a → G' a = none ∧ ∃ ws, H' a = some (.lst ws) ∧ Rps K G' ws l) → VR K H G' H' ρ' d v o → Q v H'
def vals : List D → List Sl
  | [] => []
  | d :: l => .val d :: vals l
theorem vals_len : ∀ l, (vals l).length = l.length
  | [] => rfl
  | _ :: l => by unfold vals; rw [List.length_cons, List.length_cons, vals_len l]
theorem vals_get : ∀ {l : List D} {i : Nat} {s : Sl}, (vals l)[i]? = some s → ∃ d, l[i]? = some d ∧ s = .val d
  | [], _, _, h => by simp [vals] at h
  | d :: l, 0, s, h => by simp only [vals, List.getElem?_cons_zero, Option.some.injEq] at h; exact ⟨d, rfl, h.symm⟩
  | d :: l, i + 1, s, h => by simp only [vals, List.getElem?_cons_succ] at h; obtain ⟨e, h1, h2⟩ := vals_get h; exact ⟨e, by simpa using h1, h2⟩
/-- the slots at a def's start -/
def en0 (n : Nat) : Bool → List D → En
  | true, .list b :: r => ⟨.bag :: vals r ++ List.replicate (n - (r.length + 1)) .no, b⟩
  | _, ds => ⟨vals ds ++ List.replicate (n - ds.length) .no, []⟩
theorem rep_get {n i : Nat} {s : Sl} (h : (List.replicate n Sl.no)[i]? = some s) : s = .no := by
  rw [List.getElem?_replicate] at h
  split at h
  · exact (Option.some.inj h).symm
  · cases h
theorem start_get {N : List Str} {vs : List V} {i : Nat} {v : V} (h : vs[i]? = some v) : (L2.start N vs)[i]? = some (some v) := by
  have hi : i < vs.length := (List.getElem?_eq_some_iff.mp h).1
  unfold L2.start
  rw [List.getElem?_append_left (by simpa using hi), List.getElem?_map, h]
  rfl
theorem start_len {N : List Str} {vs : List V} (h : vs.length ≤ N.length) : (L2.start N vs).length = N.length := by
  unfold L2.start
  rw [List.length_append, List.length_map, List.length_replicate]
  omega
theorem start_R {K : PySem.W.Frag} {β : Option Addr} {G H : Hp} {N : List Str} {io : Bool} {vs : List V} {ds : List D} (hl : vs.length ≤ N.length) (ex : Ex G H) (h : ArgR K β G H io vs ds) : R K β G H (r0 β) (L2.start N vs) (en0 N.length io ds) := by
  cases io with
  | false =>
    obtain ⟨rfl, hr⟩ := h
    have e0 : en0 N.length false ds = ⟨vals ds ++ List.replicate (N.length - ds.length) .no, []⟩ := by cases ds <;> rfl
    rw [e0]
    refine ⟨?_, ex, fun a ha => absurd rfl ha, fun i s hs => ?_, fun a ha => by cases ha⟩
    · rw [start_len hl]
      show _ = (vals ds ++ List.replicate (N.length - ds.length) Sl.no).length
      rw [List.length_append, vals_len, List.length_replicate, ← hr.length]
      omega
    · have hs : (vals ds ++ List.replicate (N.length - ds.length) Sl.no)[i]? = some s := hs
      by_cases hi : i < (vals ds).length
      · rw [List.getElem?_append_left hi] at hs
        obtain ⟨d, h1, rfl⟩ := vals_get hs
        obtain ⟨v, h2, h3⟩ := hr.get h1
        exact ⟨v, start_get h2, h3⟩
      · rw [List.getElem?_append_right (by omega)] at hs
        rw [rep_get hs]
        trivial
  | true =>
    obtain ⟨a, bs, ws, vs', ds', rfl, rfl, rfl, hg, hh, hw, hr⟩ := h
    have e0 : en0 N.length true (.list bs :: ds') = ⟨.bag :: vals ds' ++ List.replicate (N.length - (ds'.length + 1)) .no, bs⟩ := rfl
    rw [e0]
    rw [List.length_cons] at hl
    refine ⟨?_, ex, fun b hb => ?_, fun i s hs => ?_, fun b hb => ?_⟩
    · rw [start_len (by rw [List.length_cons]; exact hl)]
      show _ = (Sl.bag :: vals ds' ++ List.replicate (N.length - (ds'.length + 1)) Sl.no).length
      rw [List.length_append, List.length_cons, vals_len, List.length_replicate, ← hr.length]
      omega
    · unfold r0 at hb
      by_cases k : some a = some b
      · cases k
        exact ⟨hg, by rw [hh]; simp⟩
      · rw [if_neg k] at hb; exact absurd rfl hb
    · have hs : (Sl.bag :: (vals ds' ++ List.replicate (N.length - (ds'.length + 1)) Sl.no))[i]? = some s := hs
      cases i with
      | zero => cases hs; exact ⟨a, rfl, start_get rfl⟩
      | succ i =>
        rw [List.getElem?_cons_succ] at hs
        by_cases hi : i < (vals ds').length
        · rw [List.getElem?_append_left hi] at hs
          obtain ⟨d, h1, rfl⟩ := vals_get hs
          obtain ⟨v, h2, h3⟩ := hr.get h1
          exact ⟨v, start_get (by rw [List.getElem?_cons_succ]; exact h2), h3⟩
        · rw [List.getElem?_append_right (by omega)] at hs
          rw [rep_get hs]
          trivial
    · cases hb
      exact ⟨by simp [r0], ws, hh, hw⟩

/-! ### a def by its body -/
/-- what a body's end hands back -/
def endD : SR → Option (Bool × D × List D)
  | .nx e => some (false, .none, e.bg)
  | .rt o d e => some (o, d, e.bg)
  | _ => none
/-- the context of a def's body -/
structure Ctx (P : Program) (w : World) (K : PySem.W.Frag) (mg : Str → Option Value) (base : Heap) (N : List Str) (k : Nat) (sc : Scope) (X : Cx) : Prop where
  prog : X.prog = P
  w : X.w = w
  K : X.K = K
  mg : X.mg = mg
  base : X.base = base
  N : X.N = N
  calm : X.calm = true
  room : Room k X.A
  sc : X.env.scope = sc
  fn : ∀ x, X.fn x = true
  po : PassesOwn (model X.prog X.w) X.A X.env X.xe
theorem fn_ok {P : Program} {w : World} {K : PySem.W.Frag} {mg : Str → Option Value} {base : Heap} {x qual : Str} {st : Stmt} {f : Addr} {fd : FuncData} {N : List Str} {k : Nat} {fn : Fn} (F : L2.Fun K x qual st f fd) (S : FnScope N fn.ps (defScope st))
    (hb : ∀ (X : Cx) (β : Option Addr), Ctx P w K mg base N k (defScope st) X → ∀ ds z, fn.den ds = some z → ∃ r, DenSs X β (defBody st) (en0 N.length fn.io ds) r ∧ endD r = some z) :
    FnOk P w K mg base CX0 (k + 1) f fd fn.ps (spD K fn) := by
  have hpl : fn.ps.length ≤ N.length := by have := congrArg List.length S.pre; rw [List.length_take] at this; omega
  refine F.ok S (fun vs H Q E h => ?_) (fun cdv A outer s H vs Q E hr h => ?_)
  · obtain ⟨G, β, ds, o, d, l, h1, h2, _⟩ := h
    exact h2
  · obtain ⟨G, β, ds, o, d, l, h1, h2, ex, ha, q⟩ := h
    obtain ⟨r, hd, he⟩ := hb (cxOf CX0 P w K mg base N qual (defScope st) f cdv A outer s H E).nox β ⟨rfl, rfl, rfl, rfl, rfl, rfl, rfl, hr, rfl, fun _ => rfl, PassesOwn.never⟩ ds _ h1
    refine ⟨_, pss_w, hd G H (r0 β) (L2.start N vs) _ (start_R (by rw [h2]; exact hpl) ex ha) ?_⟩
    cases r with
    | nx e =>
      cases he
      intro G' H' ρ' σ' f' r'
      refine q .non G' H' ρ' f' r'.ex (fun a e => ?_) .non
      obtain ⟨b1, ws, b2, b3⟩ := r'.bg a e
      exact ⟨(r'.ow a (by rw [b1]; simp)).1, ws, b2, b3⟩
    | rt o e b =>
      cases he
      intro v G' H' ρ' σ' f' r' x
      refine q v G' H' ρ' f' r'.ex (fun a e => ?_) x
      obtain ⟨b1, ws, b2, b3⟩ := r'.bg a e
      exact ⟨(r'.ow a (by rw [b1]; simp)).1, ws, b2, b3⟩
    | bk e => cases he
    | ct e => cases he

/-! ### the state behind a call -/
section
variable {K : PySem.W.Frag} {β : Option Addr} {G H G' H' : Hp} {ρ ρ' : Own} {σ : L2.St} {e : En}
theorem R.called (r : R K β G H ρ σ e) (f : Fr G H (r0 none) G' H' ρ') (ex : Ex G' H') : R K β G' H' ρ σ e ∧ Fr G H ρ G' H' ρ := by
  have kp : ∀ a, ρ a ≠ none → H' a = H a ∧ G' a = none := fun a ha => by
    obtain ⟨h1, h2⟩ := r.ow a ha
    cases z : H a with
    | none => exact absurd z h2
    | some u =>
      obtain ⟨k1, k2, k3⟩ := f.keep a u z rfl
      exact ⟨k1, k3 h1⟩
  refine ⟨⟨r.len, ex, fun a ha => ⟨(kp a ha).2, by rw [(kp a ha).1]; exact (r.ow a ha).2⟩, fun i s hs => (r.sl i s hs).mono f.ex fun a ha => (kp a ha).1, fun a ha => ?_⟩, ⟨f.ex, fun a u ha hr => ?_, f.dom⟩⟩
  · obtain ⟨b1, ws, b2, b3⟩ := r.bg a ha
    exact ⟨b1, ws, by rw [(kp a (by rw [b1]; simp)).1]; exact b2, b3.mono f.ex⟩
  · obtain ⟨k1, k2, k3⟩ := f.keep a u ha rfl
    exact ⟨k1, hr, k3⟩
theorem R.calledIo {i : Nat} {l l' : List D} {p : Addr} {vs' : List V} (r : R K β G H ρ σ e) (h : slotL e i = some l) (hp : σ[i]? = some (some (.ref p))) (f : Fr G H (r0 (some p)) G' H' ρ') (ex : Ex G' H')
    (hg : G' p = none) (hh : H' p = some (.lst vs')) (hv : Rps K G' vs' l') : R K β G' H' ρ σ (putL e i l') ∧ Fr G H ρ G' H' ρ := by
  obtain ⟨p', vs, h1, h2, h3, h4⟩ := r.ownAt h
  rw [hp] at h1
  cases h1
  have kp : ∀ a, ρ a ≠ none → a ≠ p → H' a = H a ∧ G' a = none := fun a ha ne => by
    obtain ⟨h1, h2⟩ := r.ow a ha
    cases z : H a with
    | none => exact absurd z h2
    | some u =>
      obtain ⟨k1, k2, k3⟩ := f.keep a u z (by simp [r0, Ne.symm ne])
      exact ⟨k1, k3 h1⟩
  -- the same slots over the heap behind the call, with p as it was
  have r1 : R K β G' (upd H' p (.lst vs)) ρ σ e := by
    refine ⟨r.len, ex.mut hg, fun a ha => ?_, fun j s hs => (r.sl j s hs).mono f.ex fun a ha => ?_, fun a ha => ?_⟩
    · by_cases z : a = p
      · rw [z]; exact ⟨hg, by rw [upd_same]; simp⟩
      · exact ⟨(kp a ha z).2, by rw [upd_ne z, (kp a ha z).1]; exact (r.ow a ha).2⟩
    · by_cases z : a = p
      · rw [z, upd_same, h2]
      · rw [upd_ne z, (kp a ha z).1]
    · obtain ⟨b1, ws, b2, b3⟩ := r.bg a ha
      refine ⟨b1, ws, ?_, b3.mono f.ex⟩
      by_cases z : a = p
      · rw [z] at b2 ⊢; rw [upd_same, ← h2, b2]
      · rw [upd_ne z, (kp a (by rw [b1]; simp) z).1]; exact b2
  obtain ⟨r2, _⟩ := r1.put h hp hv
  rw [upd_upd, show upd H' p (.lst vs') = H' from funext fun a => by
    by_cases z : a = p
    · rw [z, upd_same, hh]
    · rw [upd_ne z]] at r2
  refine ⟨r2, ⟨f.ex, fun a u ha hr => ?_, f.dom⟩⟩
  have ne : a ≠ p := fun z => h4 (by rw [← z]; exact hr)
  obtain ⟨k1, k2, k3⟩ := f.keep a u ha (by simp [r0, Ne.symm ne])
  exact ⟨k1, hr, k3⟩
end

/-! ### calls -/
def arr {α : Type} (perm : List Nat) (us ws : List α) : List α := perm.filterMap fun i => (us ++ ws)[i]?
theorem arr_rps {K : PySem.W.Frag} {G : Hp} {vs zs : List V} {ds es : List D} (h1 : Rps K G vs ds) (h2 : Rps K G zs es) : ∀ perm : List Nat, Rps K G (arr perm vs zs) (arr perm ds es)
  | [] => .nil
  | i :: perm => by
    have h := h1.append h2
    have ih := arr_rps h1 h2 perm
    unfold arr at ih ⊢
    rw [List.filterMap_cons, List.filterMap_cons]
    cases z : (ds ++ es)[i]? with
    | none =>
      have : (vs ++ zs)[i]? = none := by
        rw [List.getElem?_eq_none_iff] at z ⊢
        rw [h.length]; exact z
      rw [this]
      exact ih
    | some d =>
      obtain ⟨v, k1, k2⟩ := h.get z
      rw [k1]
      exact .cons k2 ih
theorem arr_vals {vs zs : List V} {us ws : List Value} (h1 : Vals vs us) (h2 : Vals zs ws) : ∀ perm : List Nat, Vals (arr perm vs zs) (arr perm us ws)
  | [] => .nil
  | i :: perm => by
    have h := h1.append h2
    have ih := arr_vals h1 h2 perm
    unfold arr at ih ⊢
    rw [List.filterMap_cons, List.filterMap_cons]
    cases z : (vs ++ zs)[i]? with
    | none => rw [h.none_of z]; exact ih
    | some v =>
      obtain ⟨u, k1, k2⟩ := h.get z
      rw [k1]
      exact .cons k2 ih
/-- a def of the text that a context can call -/
structure FnAt (X : Cx) (k : Nat) (x : Str) (fn : Fn) : Prop where
  ex : ∃ f fd, X.mg x = some (.ref f) ∧ PySem.W.keepIn X.K (.ref f) = true ∧ FnOk X.prog X.w X.K X.mg X.base CX0 k f fd fn.ps (spD X.K fn) ∧ Binds X.K fd fn.ps [] ∧
    ∀ kw ∈ fn.kws, KBn X.K fd fn.ps kw.n kw.ks (arr kw.perm) (arr kw.perm)
  nd : (x == ("__debug__" : Str)) = false
section
variable {X : Cx} {β : Option Addr} {k : Nat} {x : Str} {fn : Fn}
theorem sp_plain {b : En} {ds : List D} {o : Bool} {d : D} {l : List D} {G H : Hp} {ρ : Own} {σ : L2.St} {vs : List V} {Q : VK} {E : XK} (hio : fn.io = false) (hd : fn.den ds = some (o, d, l)) (hl : ds.length = fn.ps.length) (r : R X.K β G H ρ σ b) (hx : Rps X.K G vs ds) (q : Kn X.K β G H ρ σ b o d Q) : spD X.K fn vs H Q E := by
  refine ⟨G, none, ds, o, d, l, hd, by rw [hx.length]; exact hl, r.ex, by rw [hio]; exact ⟨rfl, hx⟩, fun v G' H' ρ' f ex _ x => ?_⟩
  obtain ⟨r', f'⟩ := r.called f ex
  refine q v G' H' ρ f' r' ?_
  cases o with
  | false => exact x
  | true =>
    obtain ⟨p, l', ws, h1, h2, h3, h4, h5, h6, h7⟩ := x
    exact ⟨p, l', ws, h1, h2, h3, h4, (r.free h3).1, h6, h7⟩
theorem den_call0 {p pos : Pos} {a : En} {o : Bool} {d : D} {l : List D} (F : FnAt X k x fn) (hr : Room k X.A) (hg : Gl X x) (hio : fn.io = false) (hd : fn.den [] = some (o, d, l)) (hl : fn.ps.length = 0) : Den X β (.Call (.Name x p) [] [] pos) a o d a := by
  intro G H ρ σ Q r q
  obtain ⟨f, fd, hm, hk, Fk, hb, _⟩ := F.ex
  exact ⟨_, pe_call0 (E := E0) Fk hr hg hm hk hb .nil pass0 F.nd, sp_plain (E := E0) hio hd hl.symm r .nil q⟩
theorem den_call {p pos : Pos} {e : Expr} {es : List Expr} {a b : En} {ds : List D} {o : Bool} {d : D} {l : List D} (F : FnAt X k x fn) (hr : Room k X.A) (hg : Gl X x) (hs : (e :: es).all (fun e => !isStar e) = true) (hio : fn.io = false) (ha : DenA X β (e :: es) a ds b) (hd : fn.den ds = some (o, d, l)) (hl : ds.length = fn.ps.length) :
    Den X β (.Call (.Name x p) (e :: es) [] pos) a o d b := by
  intro G H ρ σ Q r q
  obtain ⟨f, fd, hm, hk, Fk, hb, _⟩ := F.ex
  rw [List.all_cons, Bool.and_eq_true] at hs
  refine ⟨_, pe_call Fk hr hg hm hk hb .nil pass0 pa_w F.nd (star_ok (by simpa using hs.1)) (stars_ok hs.2), ha G H ρ σ _ r fun vs G1 H1 ρ1 f1 r1 x1 => ?_⟩
  rw [List.append_nil]
  exact sp_plain hio hd hl r1 x1 (Kn.at q f1)
/-- the first argument a list that the def may change -/
theorem den_callIo {y : Str} {p pos py : Pos} {es : List Expr} {a b : En} {i : Nat} {bs : List D} {ds : List D} {o : Bool} {d : D} {l : List D} (F : FnAt X k x fn) (hr : Room k X.A) (hg : Gl X x) (hs : es.all (fun e => !isStar e) = true) (hio : fn.io = true)
    (hN : X.N[i]? = some y) (hv : Vis X.env.scope y) (hdb : (y == ("__debug__" : Str)) = false) (hcd : (y == ("__classdict__" : Str)) = false) (h0 : (slotL a i).isSome = true) (ha : DenA X β es a ds b) (hb : slotL b i = some bs) (hd : fn.den (.list bs :: ds) = some (o, d, l)) (hl : ds.length + 1 = fn.ps.length) :
    Den X β (.Call (.Name x p) (.Name y py :: es) [] pos) a o d (putL b i l) := by
  intro G H ρ σ Q r q
  obtain ⟨f, fd, hm, hk, Fk, hbd, _⟩ := F.ex
  obtain ⟨l0, h0⟩ := Option.isSome_iff_exists.mp h0
  obtain ⟨p0, vs0, p1, p2, p3, p4⟩ := r.ownAt h0
  refine ⟨_, pe_call Fk hr hg hm hk hbd .nil pass0 (pa_cons pe_w pa_w) F.nd rfl (stars_ok hs), peek hN hv hdb hcd p1 (ha G H ρ σ _ r fun vs G1 H1 ρ1 f1 r1 x1 => ?_)⟩
  show spD X.K fn (V.ref p0 :: vs ++ []) H1 _ E0
  rw [List.append_nil]
  obtain ⟨p', ws, q1, q2, q3, q4⟩ := r1.ownAt hb
  rw [p1] at q1
  cases q1
  have hg1 : G1 p0 = none := (r1.ow p0 q4).1
  refine ⟨G1, some p0, .list bs :: ds, o, d, l, hd, by rw [List.length_cons, x1.length]; exact hl, r1.ex, by rw [hio]; exact ⟨p0, bs, ws, vs, ds, rfl, rfl, rfl, hg1, q2, q3, x1⟩, fun v G' H' ρ' f ex hbag x => ?_⟩
  obtain ⟨g', ws', k1, k2⟩ := hbag p0 rfl
  obtain ⟨r', f'⟩ := r1.calledIo hb p1 f ex g' k1 k2
  refine Kn.at q f1 v G' H' ρ1 f' r' ?_
  cases o with
  | false => exact x
  | true =>
    obtain ⟨p, l', ws, h1, h2, h3, h4, h5, h6, h7⟩ := x
    exact ⟨p, l', ws, h1, h2, h3, h4, (r1.free h3).1, h6, h7⟩

/-! ### calls with keywords -/
def kwNames : List Keyword → Option (List Str)
  | [] => some []
  | ⟨some x, _, _⟩ :: r => (kwNames r).map (x :: ·)
  | ⟨none, _, _⟩ :: _ => none
theorem kw_ok {pos : Pos} {env : Env} : ∀ {kws : List Keyword} {ks : List Str}, kwNames kws = some ks →
    (backToKw pos (keywordEach kws env)).all (·.1.isSome) = true ∧ (backToKw pos (keywordEach kws env)).filterMap (·.1) = ks ∧ (backToKw pos (keywordEach kws env)).any (·.1.isNone) = false
  | [], ks, h => by cases h; exact ⟨rfl, rfl, rfl⟩
  | ⟨some x, e, p⟩ :: r, ks, h => by
    unfold kwNames at h
    cases z : kwNames r with
    | none => rw [z] at h; cases h
    | some l =>
      rw [z] at h
      cases h
      obtain ⟨h1, h2, h3⟩ := kw_ok (pos := pos) (env := env) z
      unfold backToKw at h1 h2 h3 ⊢
      simp only [keywordEach, List.map_cons, List.all_cons, List.filterMap_cons, List.any_cons, h1, h2, h3, Option.isSome_some, Option.isNone_some, Bool.and_self, Bool.or_self, and_self]
  | ⟨none, e, p⟩ :: r, ks, h => by cases h
def DenK (X : Cx) (β : Option Addr) (kws : List Keyword) (a : En) (ds : List D) (b : En) : Prop :=
  ∀ (G H : Hp) (ρ : Own) (σ : L2.St) (Q : List V → Hp → Prop), R X.K β G H ρ σ a →
    (∀ vs G' H' ρ', Fr G H ρ G' H' ρ' → R X.K β G' H' ρ' σ b → Rps X.K G' vs ds → Q vs H') → wK X kws σ H Q
theorem denk_nil {a : En} : DenK X β [] a [] a := fun G H ρ σ Q r q => ⟨_, pk_nil, q [] G H ρ .refl r .nil⟩
theorem denk_cons {nm : Option Str} {e : Expr} {kp : Pos} {kws : List Keyword} {a b c : En} {o : Bool} {d : D} {ds : List D} (h1 : Den X β e a o d b) (h2 : DenK X β kws b ds c) : DenK X β (⟨nm, e, kp⟩ :: kws) a (d :: ds) c := by
  intro G H ρ σ Q r q
  refine ⟨_, pk_cons pe_w pk_w, h1.fz G H ρ σ _ r fun v G1 H1 ρ1 f1 r1 x1 => h2 G1 H1 ρ1 σ _ r1 fun vs G2 H2 ρ2 f2 r2 x2 => ?_⟩
  exact q (v :: vs) G2 H2 ρ2 (f1.trans f2) r2 (.cons (Rp.mono f2.ex x1) x2)
theorem pe_names {f : Addr} {fd : FuncData} {sp : Sp} {ps ks : List Str} {kws : List Keyword} {tk : TA} {p pos : Pos} {g : List Value → List Value → List Value} {gV : List V → List V → List V} (Fk : FnOk X.prog X.w X.K X.mg X.base CX0 k f fd ps sp) (hr : Room k X.A) (hg : Gl X x) (hm : X.mg x = some (.ref f)) (hk : PySem.W.keepIn X.K (.ref f) = true)
    (hb : KBn X.K fd ps 0 ks g gV) (hkw : PK X kws tk) (hn : kwNames kws = some ks) (hdb : (x == ("__debug__" : Str)) = false) :
    PE X (.Call (.Name x p) [] kws pos) (fun σ H Q => tk σ H fun zs H2 => zs.length = ks.length ∧ sp (gV [] zs) H2 Q E0) := by
  obtain ⟨h1, h2, h3⟩ := kw_ok (pos := pos) (env := X.env) hn
  refine ⟨fun pins s σ H Q I h => wpAny_Call_Name_kw (ld_glob I hg hm ?_ hdb)⟩
  refine PySem.W.callWith_KW0 (h₀ := X.base) I.ok.mod.kin hk h1 (thn (hkw.run pos pins s σ H _ I h) fun ws s2 ⟨zs, H2, I2, rz, l2, q2⟩ => ⟨I2.kIn, ?_⟩) (by rw [h3]; rfl)
  rw [h2]
  exact run_fnN (vs := []) Fk hr hb pass0 I2 .nil rz rfl l2 q2
theorem den_callK {p pos : Pos} {es : List Expr} {kws : List Keyword} {kw : Kw} {a b c : En} {ds es' : List D} {o : Bool} {d : D} {l : List D} (F : FnAt X k x fn) (hr : Room k X.A) (hg : Gl X x) (hs : es.all (fun e => !isStar e) = true) (hio : fn.io = false)
    (hkw : kw ∈ fn.kws) (hn : kwNames kws = some kw.ks) (hpos : es.length = kw.n) (ha : DenA X β es a ds b) (hA : ds.length = es.length) (hka : DenK X β kws b es' c) (hkl : es'.length = kw.ks.length)
    (hd : fn.den (arr kw.perm ds es') = some (o, d, l)) (hl : (arr kw.perm ds es').length = fn.ps.length) (h0 : es = [] → ds = [] ∧ a = b) : Den X β (.Call (.Name x p) es kws pos) a o d c := by
  intro G H ρ σ Q r q
  obtain ⟨f, fd, hm, hk, Fk, hb, hKw⟩ := F.ex
  have kb := hKw kw hkw
  cases es with
  | nil =>
    obtain ⟨rfl, rfl⟩ := h0 rfl
    have e0 : kw.n = 0 := hpos.symm
    rw [e0] at kb
    refine ⟨_, pe_names Fk hr hg hm hk kb pk_w hn F.nd, hka G H ρ σ _ r fun zs G2 H2 ρ2 f2 r2 x2 => ⟨by rw [x2.length]; exact hkl, ?_⟩⟩
    exact sp_plain hio hd hl r2 (arr_rps .nil x2 kw.perm) (Kn.at q f2)
  | cons e es =>
    obtain ⟨h1, h2, h3⟩ := kw_ok (pos := pos) (env := X.env) hn
    have hs0 := hs
    rw [List.all_cons, Bool.and_eq_true] at hs
    refine ⟨_, pe_callN Fk hr hg hm hk kb pass0 pa_w pk_w h1 h2 F.nd (star_ok (by simpa using hs.1)) (by rw [h3, stars_ok hs0]; rfl), ha G H ρ σ _ r fun vs G1 H1 ρ1 f1 r1 x1 => hka G1 H1 ρ1 σ _ r1 fun zs G2 H2 ρ2 f2 r2 x2 => ⟨by rw [x1.length, hA]; exact hpos, by rw [x2.length]; exact hkl, ?_⟩⟩
    exact sp_plain hio hd hl r2 (arr_rps (x1.mono f2.ex) x2 kw.perm) (Kn.at q (f1.trans f2))
end
end Fz
set_option Elab.async false
set_option linter.all false
set_option maxRecDepth 100000
set_option maxHeartbeats 4000000
/-! Fz: an own list lent to a def. -/
namespace Fz
open PySem PySem.Spec PyProof.Rows L2
/-- data without lists, to a depth -/
def noL : Nat → D → Bool
  | _, .none => true
  | _, .bool _ => true
  | _, .int _ => true
  | _, .str _ => true
  | n + 1, .tuple l => l.all (noL n)
  | _, _ => false
def hide (G : Hp) (p : Addr) : Hp := fun a => if a = p then none else G a
section
variable {K : PySem.W.Frag} {G : Hp} {p : Addr} {ws : List V}
theorem sqt_hide {a : Addr} {xs : List V} (hp : G p = some (.lst ws)) (h : SqT K G a xs) : SqT K (hide G p) a xs := by
  rcases h with h | h
  · refine .inl ?_
    have ne : a ≠ p := by
      rintro rfl
      rcases h with h | ⟨o, h⟩
      · rw [hp] at h; cases h
      · rw [hp] at h; cases h
    rcases h with h | ⟨o, h⟩
    · exact .inl (by unfold hide; rw [if_neg ne]; exact h)
    · exact .inr ⟨o, by unfold hide; rw [if_neg ne]; exact h⟩
  · exact .inr h
theorem rps_hide {n : Nat} (ih : ∀ v d, noL n d = true → Rp K G v d → Rp K (hide G p) v d) : ∀ (vs : List V) (ds : List D), ds.all (noL n) = true → Rps K G vs ds → Rps K (hide G p) vs ds
  | _, _, _, .nil => .nil
  | _, _, h, .cons x r => by
    rw [List.all_cons, Bool.and_eq_true] at h
    exact .cons (ih _ _ h.1 x) (rps_hide ih _ _ h.2 r)
theorem rp_hide (hp : G p = some (.lst ws)) : ∀ (n : Nat) (v : V) (d : D), noL n d = true → Rp K G v d → Rp K (hide G p) v d
  | 0, v, d, h, x => by
    cases x with
    | non => exact .non
    | bl b => exact .bl b
    | int i => exact .int i
    | str s => exact .str s
    | lst _ _ => cases h
    | tup _ _ => cases h
    | scr _ _ => cases h
  | n + 1, v, d, h, x => by
    cases x with
    | non => exact .non
    | bl b => exact .bl b
    | int i => exact .int i
    | str s => exact .str s
    | lst _ _ => cases h
    | tup h1 h2 => exact .tup (sqt_hide hp h1) (rps_hide (fun v d => rp_hide hp n v d) _ _ h h2)
    | scr _ _ => cases h
end
section
variable {X : Cx} {β : Option Addr} {k : Nat} {x : Str} {fn : Fn}
theorem sp_lent {b : En} {i : Nat} {ds es bs : List D} {d : D} {l : List D} {G H : Hp} {ρ : Own} {σ : L2.St} {us vs : List V} {p : Addr} {Q : VK} {E : XK} (hio : fn.io = false) (hd : fn.den (ds ++ .list bs :: es) = some (false, d, l)) (hl : (ds ++ .list bs :: es).length = fn.ps.length) (hn : noL 3 d = true)
    (r : R X.K β G H ρ σ b) (hu : Rps X.K G us ds) (hv : Rps X.K G vs es) (hb : slotL b i = some bs) (hp : σ[i]? = some (some (.ref p))) (q : Kn X.K β G H ρ σ b false d Q) : spD X.K fn (us ++ .ref p :: vs) H Q E := by
  obtain ⟨p', ws, q1, q2, q3, q4⟩ := r.ownAt hb
  rw [hp] at q1
  cases q1
  have hg : G p = none := (r.ow p q4).1
  have x0 : Ex G (upd G p (.lst ws)) := Evl.Ex.new hg
  have x1 : Ex (upd G p (.lst ws)) H := fun a o ha => by
    by_cases z : a = p
    · subst z
      rw [upd_same] at ha
      rw [q2, ha]
    · rw [upd_ne z] at ha
      exact r.ex a o ha
  have hx : Rps X.K (upd G p (.lst ws)) (us ++ .ref p :: vs) (ds ++ .list bs :: es) := (hu.mono x0).append (.cons (.lst (Rd.of upd_same) (q3.mono x0)) (hv.mono x0))
  refine ⟨upd G p (.lst ws), none, ds ++ .list bs :: es, false, d, l, hd, by rw [hx.length]; exact hl, x1, by rw [hio]; exact ⟨rfl, hx⟩, fun v G' H' ρ' f ex _ y => ?_⟩
  have gp : G' p = some (.lst ws) := f.ex p _ upd_same
  have kp : ∀ a u, H a = some u → H' a = some u ∧ (G a = none → hide G' p a = none) := fun a u ha => by
    obtain ⟨k1, _, k3⟩ := f.keep a u ha rfl
    refine ⟨k1, fun z => ?_⟩
    unfold hide
    by_cases e : a = p
    · rw [if_pos e]
    · rw [if_neg e]
      exact k3 (by rw [upd_ne e]; exact z)
  have kh : ∀ a, ρ a ≠ none → H' a = H a ∧ hide G' p a = none := fun a ha => by
    obtain ⟨h1, h2⟩ := r.ow a ha
    cases z : H a with
    | none => exact absurd z h2
    | some u =>
      obtain ⟨k1, k2⟩ := kp a u z
      exact ⟨k1, k2 h1⟩
  have x2 : Ex G (hide G' p) := fun a o ha => by
    have ne : a ≠ p := fun e => by rw [e, hg] at ha; cases ha
    unfold hide
    rw [if_neg ne]
    exact f.ex a o (by rw [upd_ne ne]; exact ha)
  have x3 : Ex (hide G' p) H' := fun a o ha => by
    unfold hide at ha
    split at ha
    · cases ha
    · exact ex a o ha
  have r' : R X.K β (hide G' p) H' ρ σ b := ⟨r.len, x3, fun a ha => ⟨(kh a ha).2, by rw [(kh a ha).1]; exact (r.ow a ha).2⟩, fun i s hs => (r.sl i s hs).mono x2 fun a ha => (kh a ha).1, fun a ha => by
    obtain ⟨b1, ws, b2, b3⟩ := r.bg a ha
    exact ⟨b1, ws, by rw [(kh a (by rw [b1]; simp)).1]; exact b2, b3.mono x2⟩⟩
  exact q v _ H' ρ ⟨x2, fun a u ha hr => ⟨(kp a u ha).1, hr, (kp a u ha).2⟩, f.dom⟩ r' (rp_hide gp 3 v d hn y)
/-- f(xs, ..), xs an own list -/
theorem den_lent0 {y : Str} {p pos py : Pos} {es : List Expr} {a b : En} {i : Nat} {bs ds : List D} {d : D} {l : List D} (F : FnAt X k x fn) (hr : Room k X.A) (hg : Gl X x) (hs : es.all (fun e => !isStar e) = true) (hio : fn.io = false)
    (hN : X.N[i]? = some y) (hv : Vis X.env.scope y) (hdb : (y == ("__debug__" : Str)) = false) (hcd : (y == ("__classdict__" : Str)) = false) (h0 : (slotL a i).isSome = true) (ha : DenA X β es a ds b) (hb : slotL b i = some bs) (hd : fn.den (.list bs :: ds) = some (false, d, l)) (hl : ds.length + 1 = fn.ps.length) (hn : noL 3 d = true) :
    Den X β (.Call (.Name x p) (.Name y py :: es) [] pos) a false d b := by
  intro G H ρ σ Q r q
  obtain ⟨f, fd, hm, hk, Fk, hbd, _⟩ := F.ex
  obtain ⟨l0, h0⟩ := Option.isSome_iff_exists.mp h0
  obtain ⟨p0, vs0, p1, p2, p3, p4⟩ := r.ownAt h0
  refine ⟨_, pe_call Fk hr hg hm hk hbd .nil pass0 (pa_cons pe_w pa_w) F.nd rfl (stars_ok hs), peek hN hv hdb hcd p1 (ha G H ρ σ _ r fun vs G1 H1 ρ1 f1 r1 x1 => ?_)⟩
  show spD X.K fn (V.ref p0 :: vs ++ []) H1 _ E0
  rw [List.append_nil]
  exact sp_lent (us := []) (ds := []) hio hd hl hn r1 .nil x1 hb p1 (Kn.at q f1)
/-- f(e, xs, ..) -/
theorem den_lent1 {y : Str} {p pos py : Pos} {e0 : Expr} {es : List Expr} {a b c : En} {i : Nat} {bs ds : List D} {o0 : Bool} {d0 d : D} {l : List D} (F : FnAt X k x fn) (hr : Room k X.A) (hg : Gl X x) (hs0 : isStar e0 = false) (hs : es.all (fun e => !isStar e) = true) (hio : fn.io = false)
    (hN : X.N[i]? = some y) (hv : Vis X.env.scope y) (hdb : (y == ("__debug__" : Str)) = false) (hcd : (y == ("__classdict__" : Str)) = false) (he : Den X β e0 a o0 d0 b) (h0 : (slotL b i).isSome = true) (ha : DenA X β es b ds c) (hb : slotL c i = some bs) (hd : fn.den (d0 :: .list bs :: ds) = some (false, d, l)) (hl : ds.length + 2 = fn.ps.length) (hn : noL 3 d = true) :
    Den X β (.Call (.Name x p) (e0 :: .Name y py :: es) [] pos) a false d c := by
  intro G H ρ σ Q r q
  obtain ⟨f, fd, hm, hk, Fk, hbd, _⟩ := F.ex
  obtain ⟨l0, h0⟩ := Option.isSome_iff_exists.mp h0
  have st1 : starEach (.Name y py :: es) X.env = (false, eval (.Name y py) X.env) :: starEach es X.env := star_ok rfl
  refine ⟨_, pe_call Fk hr hg hm hk hbd .nil pass0 (pa_cons pe_w (pa_cons pe_w pa_w st1) (star_ok hs0)) F.nd (star_ok hs0) (stars_ok (by rw [List.all_cons]; exact hs)), ?_⟩
  refine he.fz G H ρ σ _ r fun v0 G0 H0 ρ0 f0 r0' x0 => ?_
  obtain ⟨p0, vs0, p1, p2, p3, p4⟩ := r0'.ownAt h0
  refine peek hN hv hdb hcd p1 (ha G0 H0 ρ0 σ _ r0' fun vs G1 H1 ρ1 f1 r1 x1 => ?_)
  show spD X.K fn (v0 :: V.ref p0 :: vs ++ []) H1 _ E0
  rw [List.append_nil]
  exact sp_lent (us := [v0]) (ds := [d0]) hio hd (by simp only [List.cons_append, List.nil_append, List.length_cons]; omega) hn r1 (.cons ((show Rp X.K G0 v0 d0 from x0).mono f1.ex) .nil) x1 hb p1 (Kn.at (Kn.at q f0) f1)
/-- f(e, e', xs, ..) -/
theorem den_lent2 {y : Str} {p pos py : Pos} {e0 e1 : Expr} {es : List Expr} {a a1 b c : En} {i : Nat} {bs ds : List D} {o0 o1 : Bool} {d0 d1 d : D} {l : List D} (F : FnAt X k x fn) (hr : Room k X.A) (hg : Gl X x) (hs0 : isStar e0 = false) (hs1 : isStar e1 = false) (hs : es.all (fun e => !isStar e) = true) (hio : fn.io = false)
    (hN : X.N[i]? = some y) (hv : Vis X.env.scope y) (hdb : (y == ("__debug__" : Str)) = false) (hcd : (y == ("__classdict__" : Str)) = false) (he : Den X β e0 a o0 d0 a1) (he1 : Den X β e1 a1 o1 d1 b) (h0 : (slotL b i).isSome = true) (ha : DenA X β es b ds c) (hb : slotL c i = some bs) (hd : fn.den (d0 :: d1 :: .list bs :: ds) = some (false, d, l)) (hl : ds.length + 3 = fn.ps.length) (hn : noL 3 d = true) :
    Den X β (.Call (.Name x p) (e0 :: e1 :: .Name y py :: es) [] pos) a false d c := by
  intro G H ρ σ Q r q
  obtain ⟨f, fd, hm, hk, Fk, hbd, _⟩ := F.ex
  obtain ⟨l0, h0⟩ := Option.isSome_iff_exists.mp h0
  have st1 : starEach (.Name y py :: es) X.env = (false, eval (.Name y py) X.env) :: starEach es X.env := star_ok rfl
  refine ⟨_, pe_call Fk hr hg hm hk hbd .nil pass0 (pa_cons pe_w (pa_cons pe_w (pa_cons pe_w pa_w st1) (star_ok hs1)) (star_ok hs0)) F.nd (star_ok hs0) (stars_ok (by rw [List.all_cons, List.all_cons, hs1]; exact hs)), ?_⟩
  refine he.fz G H ρ σ _ r fun v0 G0 H0 ρ0 f0 r0' x0 => ?_
  refine he1.fz G0 H0 ρ0 σ _ r0' fun v1 G9 H9 ρ9 f9 r9 x9 => ?_
  obtain ⟨p0, vs0, p1, p2, p3, p4⟩ := r9.ownAt h0
  refine peek hN hv hdb hcd p1 (ha G9 H9 ρ9 σ _ r9 fun vs G1 H1 ρ1 f1 r1 x1 => ?_)
  show spD X.K fn (v0 :: v1 :: V.ref p0 :: vs ++ []) H1 _ E0
  rw [List.append_nil]
  exact sp_lent (us := [v0, v1]) (ds := [d0, d1]) hio hd (by simp only [List.cons_append, List.nil_append, List.length_cons]; omega) hn r1 (.cons (((show Rp X.K G0 v0 d0 from x0).mono f9.ex).mono f1.ex) (.cons ((show Rp X.K G9 v1 d1 from x9).mono f1.ex) .nil)) x1 hb p1 (Kn.at (Kn.at (Kn.at q f0) f9) f1)
end
end Fz
set_option Elab.async false
set_option linter.all false
set_option maxRecDepth 100000
set_option maxHeartbeats 4000000
/-! Fz, part M: the text with its names resolved; what it computes; how the text is resolved. -/
namespace Fz
open PySem PySem.Spec PyProof.Rows L2

/-- the number that a name stands for -/
def valI (e : En) (i : Nat) : Option Int := match e.sl[i]? with
  | some (.val (.int k)) => some k
  | _ => none
def intV : D → Option Int
  | .int k => some k
  | _ => none
mutual
inductive RE where
  | int (i : Int) | bl (b : Bool) | non | str (x : Str)
  | nm (i : Nat)
  | bin (op : Operator) (a b : RE)
  | neg (a : RE) | not (a : RE)
  | bop (op : BoolOp) (a b : RE)
  | ife (t : RT) (a b : RE)
  | cmp (op : CmpOp) (a b : RE)
  | chn (op op' : CmpOp) (a b c : RE)
  | ix (a b : RE) | ixn (i : Nat) (b : RE)
  | sl (a : RE) (lo hi : Option RE) | sln (i : Nat) (lo hi : Option RE)
  | blt (k : Bi) (es : List RE) | lenn (i : Nat)
  | isi (a : RE) (ts : List String)
  | lst (es : List RE) | tup (es : List RE)
  | app (j : Nat) (es : List RE) | appio (j i : Nat) (es : List RE) | appk (j m : Nat) (es ks : List RE)
  | lent0 (j i : Nat) (es : List RE) | lent1 (j : Nat) (a : RE) (i : Nat) (es : List RE) | lent2 (j : Nat) (a b : RE) (i : Nat) (es : List RE)
  | lc (t : Tg) (vs : List Nat) (it : RI) (tt : Option RT) (e : RE)
  | push (i : Nat) (e : RE) | popA (i : Nat) (e : RE) | ins (i : Nat) (a b : RE) | pop (i : Nat)
inductive RT where
  | nt (a : RT)
  | bop (op : BoolOp) (a b : RT)
  | cmp (op : CmpOp) (a b : RE)
  | chn (op op' : CmpOp) (a b c : RE)
  | cmpo (op : CmpOp) (i : Nat) (b : RE)
  | val (e : RE)
  | nm (i : Nat)
inductive RI where
  | seq (e : RE) | rng (es : List RE) | enu (es : List RE) | zip (a b : RE) | ez (a b : RE) | rev (e : RE) | rrg (e : RE)
end
inductive RS where
  | set (i : Nat) (e : RE)
  | tgt (t : Tg) (e : RE)
  | par (is : List Nat) (es : List RE)
  | put (i : Nat) (ei e : RE)
  | put2 (i : Nat) (e1 e2 e : RE)
  | pro (i j : Nat) (e1 e2 : RE)
  | aug (s : Bool) (i : Nat) (e : RE)
  | ret (e : RE) | retn
  | ife (t : RT) (a b : List RS)
  | whl (t : RT) (b : List RS)
  | for (t : Tg) (it : RI) (b : List RS)
  | ex (e : RE)
  | pass | brk | cnt | never

/-- the defs that may be called; how far a while is followed -/
structure Tb where
  N : List Str
  fs : List (Str × Fn)
  W : Nat

/-! ### what it computes -/
def itemsD (o : D) : Option (List D) := match o with
  | .list l => some l
  | .tuple l => some l
  | .str x => some (strD x)
  | _ => none
def rngL : List D → Option (List D)
  | [.int i] => if b62 i then some (rngD 0 i.toNat) else none
  | [.int i, .int j] => if b62 i && b62 j then some (rngD i (j - i).toNat) else none
  | [.int i, .int j, .int c] => if b62 i && b62 j && (c == -1) then some ((List.range (i - j).toNat).map fun (m : Nat) => .int (i - (m : Int))) else none
  | _ => none
def enuL : List D → Option (List D)
  | [d] => (seqD d).map fun k => enumD 0 k.2
  | [d, .int c] => if b62 c then (seqD d).map fun k => enumD c k.2 else none
  | _ => none
def opStop (op : BoolOp) (k : Bool) : Bool := match op with
  | .And => !k
  | .Or => k
section
variable (T : Tb)
mutual
def evE : Nat → RE → En → Option (Bool × D × En)
  | 0, _, _ => none
  | _ + 1, .int i, e => some (false, .int i, e)
  | _ + 1, .bl b, e => some (false, .bool b, e)
  | _ + 1, .non, e => some (false, .none, e)
  | _ + 1, .str x, e => some (false, .str x, e)
  | _ + 1, .nm i, e => (lockS e i).bind fun p => some (false, p.1, p.2)
  | n + 1, .bin op a b, e => (evE n a e).bind fun p => (evE n b p.2.2).bind fun q => (binD op p.1 p.2.1 q.2.1).bind fun z => some (z.1, z.2, q.2.2)
  | n + 1, .neg a, e => (evE n a e).bind fun p => match p.2.1 with
    | .int i => some (false, .int (-i), p.2.2)
    | _ => none
  | n + 1, .not a, e => (evE n a e).bind fun p => (truD p.2.1).bind fun k => some (false, .bool (!k), p.2.2)
  | n + 1, .bop op a b, e => (evE n a e).bind fun p => (truD p.2.1).bind fun k => if opStop op k then some p else evE n b p.2.2
  | n + 1, .ife t a b, e => (evT n t e).bind fun p => if p.1 then evE n a p.2 else evE n b p.2
  | n + 1, .cmp op a b, e => (evE n a e).bind fun p => (evE n b p.2.2).bind fun q => (cmpD op p.2.1 q.2.1).bind fun k => some (false, .bool k, q.2.2)
  | n + 1, .chn op op' a b c, e => (evE n a e).bind fun p => (evE n b p.2.2).bind fun q => (cmpD op p.2.1 q.2.1).bind fun k => if k then (evE n c q.2.2).bind fun r => (cmpD op' q.2.1 r.2.1).bind fun k2 => some (false, .bool k2, r.2.2) else some (false, .bool false, q.2.2)
  | n + 1, .ix a b, e => (evE n a e).bind fun p => (evE n b p.2.2).bind fun q => (ixD p.2.1 q.2.1).bind fun d => some (false, d, q.2.2)
  | n + 1, .ixn i b, e => match slotL e i with
    | some _ => (evE n b e).bind fun q => (slotL q.2.2 i).bind fun l => (ixD (.list l) q.2.1).bind fun d => some (false, d, q.2.2)
    | none => (lockS e i).bind fun p => (evE n b p.2).bind fun q => (ixD p.1 q.2.1).bind fun d => some (false, d, q.2.2)
  | n + 1, .sl a lo hi, e => (evE n a e).bind fun p => (evO n lo p.2.2).bind fun q => (evO n hi q.2).bind fun r => (slD p.2.1 q.1 r.1).bind fun z => some (z.1, z.2, r.2)
  | n + 1, .sln i lo hi, e => match slotL e i with
    | some _ => (evO n lo e).bind fun q => (evO n hi q.2).bind fun r => (slotL r.2 i).bind fun l => (slD (.list l) q.1 r.1).bind fun z => some (z.1, z.2, r.2)
    | none => (lockS e i).bind fun p => (evO n lo p.2).bind fun q => (evO n hi q.2).bind fun r => (slD p.1 q.1 r.1).bind fun z => some (z.1, z.2, r.2)
  | n + 1, .blt k es, e => (evA n es e).bind fun p => (bltD k p.1).bind fun z => some (z.1, z.2, p.2)
  | _ + 1, .lenn i, e => match slotL e i with
    | some l => some (false, .int l.length, e)
    | none => (lockS e i).bind fun p => (bltD .len [p.1]).bind fun z => some (z.1, z.2, p.2)
  | n + 1, .isi a ts, e => (evE n a e).bind fun p => if noTag p.2.1 then some (false, .bool (isiD p.2.1 ts), p.2.2) else none
  | n + 1, .lst es, e => (evA n es e).bind fun p => if szB p.1.length then some (true, .list p.1, p.2) else none
  | n + 1, .tup es, e => (evA n es e).bind fun p => if szB p.1.length then some (false, .tuple p.1, p.2) else none
  | n + 1, .app j es, e => (evA n es e).bind fun p => (T.fs[j]?).bind fun f => if f.2.io = false ∧ p.1.length = f.2.ps.length then (f.2.den p.1).bind fun z => some (z.1, z.2.1, p.2) else none
  | n + 1, .appio j i es, e => (slotL e i).bind fun _ => (evA n es e).bind fun p => (slotL p.2 i).bind fun bs => (T.fs[j]?).bind fun f =>
      if f.2.io = true ∧ p.1.length + 1 = f.2.ps.length then (f.2.den (.list bs :: p.1)).bind fun z => some (z.1, z.2.1, putL p.2 i z.2.2) else none
  | n + 1, .lent0 j i es, e => (slotL e i).bind fun _ => (evA n es e).bind fun p => (slotL p.2 i).bind fun bs => (T.fs[j]?).bind fun f =>
      if f.2.io = false ∧ p.1.length + 1 = f.2.ps.length then (f.2.den (.list bs :: p.1)).bind fun z => if z.1 = false ∧ noL 3 z.2.1 = true then some (false, z.2.1, p.2) else none else none
  | n + 1, .lent1 j a i es, e => (evE n a e).bind fun w => (slotL w.2.2 i).bind fun _ => (evA n es w.2.2).bind fun p => (slotL p.2 i).bind fun bs => (T.fs[j]?).bind fun f =>
      if f.2.io = false ∧ p.1.length + 2 = f.2.ps.length then (f.2.den (w.2.1 :: .list bs :: p.1)).bind fun z => if z.1 = false ∧ noL 3 z.2.1 = true then some (false, z.2.1, p.2) else none else none
  | n + 1, .lent2 j a b i es, e => (evE n a e).bind fun w => (evE n b w.2.2).bind fun u => (slotL u.2.2 i).bind fun _ => (evA n es u.2.2).bind fun p => (slotL p.2 i).bind fun bs => (T.fs[j]?).bind fun f =>
      if f.2.io = false ∧ p.1.length + 3 = f.2.ps.length then (f.2.den (w.2.1 :: u.2.1 :: .list bs :: p.1)).bind fun z => if z.1 = false ∧ noL 3 z.2.1 = true then some (false, z.2.1, p.2) else none else none
  | n + 1, .appk j m es ks, e => (evA n es e).bind fun p => (evA n ks p.2).bind fun q => (T.fs[j]?).bind fun f => (f.2.kws[m]?).bind fun kw =>
      if f.2.io = false ∧ p.1.length = es.length ∧ q.1.length = kw.ks.length ∧ (arr kw.perm p.1 q.1).length = f.2.ps.length then (f.2.den (arr kw.perm p.1 q.1)).bind fun z => some (z.1, z.2.1, q.2) else none
  | n + 1, .lc t vs it tt x, e => (evI n it e).bind fun p => if szB p.1.length then (lcL (evC n t vs tt x) p.1 p.2).bind fun z => some (true, .list z.1, z.2) else none
  | n + 1, .push i x, e => (slotL e i).bind fun _ => (evE n x e).bind fun p => (slotL p.2.2 i).bind fun l => if szB (l.length + 1) then some (false, .none, putL p.2.2 i (l ++ [p.2.1])) else none
  | _ + 1, .pop i, e => (slotL e i).bind fun l => (l[l.length - 1]?).bind fun d => some (false, d, putL e i l.dropLast)
  | n + 1, .popA i x, e => (slotL e i).bind fun _ => (evE n x e).bind fun p => (slotL p.2.2 i).bind fun l => (intV p.2.1).bind fun k => if 0 ≤ k then if k ≤ 1000000 then (l[k.toNat]?).bind fun d => some (false, d, putL p.2.2 i (l.eraseIdx k.toNat)) else none else none
  | n + 1, .ins i x y, e => (slotL e i).bind fun _ => (evE n x e).bind fun p => (evE n y p.2.2).bind fun q => (slotL q.2.2 i).bind fun l => (intV p.2.1).bind fun k => if 0 ≤ k then if k ≤ 1000000 then if szB (l.length + 1) then some (false, .none, putL q.2.2 i (l.take k.toNat ++ [q.2.1] ++ l.drop k.toNat)) else none else none else none
/-- one turn of a comprehension -/
def evC : Nat → Tg → List Nat → Option RT → RE → D → En → Option (Option D × En)
  | 0, _, _, _, _, _, _ => none
  | n + 1, t, vs, tt, x, d, e => if vs.all (fun v => plainS (e.sl.getD v .no)) then
      (stT (wipeE e vs) t d).bind fun e1 => (evTo n tt e1).bind fun p => if p.1 then (evE n x p.2).bind fun q => some (some q.2.1, restE e q.2.2 vs) else some (none, restE e p.2 vs)
    else none
def evTo : Nat → Option RT → En → Option (Bool × En)
  | 0, _, _ => none
  | _ + 1, none, e => some (true, e)
  | n + 1, some t, e => evT n t e
def evO : Nat → Option RE → En → Option (Option Int × En)
  | 0, _, _ => none
  | _ + 1, none, e => some (none, e)
  | n + 1, some a, e => (evE n a e).bind fun p => match p.2.1 with
    | .int i => some (some i, p.2.2)
    | _ => none
def evA : Nat → List RE → En → Option (List D × En)
  | 0, _, _ => none
  | _ + 1, [], e => some ([], e)
  | n + 1, a :: es, e => (evE n a e).bind fun p => (evA n es p.2.2).bind fun q => some (p.2.1 :: q.1, q.2)
def evT : Nat → RT → En → Option (Bool × En)
  | 0, _, _ => none
  | n + 1, .nt a, e => (evT n a e).bind fun p => some (!p.1, p.2)
  | n + 1, .bop op a b, e => (evT n a e).bind fun p => if opStop op p.1 then some p else evT n b p.2
  | n + 1, .cmp op a b, e => (evE n a e).bind fun p => (evE n b p.2.2).bind fun q => (cmpD op p.2.1 q.2.1).bind fun k => some (k, q.2.2)
  | n + 1, .chn op op' a b c, e => (evE n a e).bind fun p => (evE n b p.2.2).bind fun q => (cmpD op p.2.1 q.2.1).bind fun k => if k then (evE n c q.2.2).bind fun r => (cmpD op' q.2.1 r.2.1).bind fun k2 => some (k2, r.2.2) else some (false, q.2.2)
  | n + 1, .cmpo op i b, e => (slotL e i).bind fun _ => (evE n b e).bind fun q => (slotL q.2.2 i).bind fun l => (cmpD op (.list l) q.2.1).bind fun k => some (k, q.2.2)
  | n + 1, .val a, e => (evE n a e).bind fun p => (truD p.2.1).bind fun k => some (k, p.2.2)
  | _ + 1, .nm i, e => match slotL e i with
    | some l => some (!l.isEmpty, e)
    | none => (lockS e i).bind fun p => (truD p.1).bind fun k => some (k, p.2)
def evI : Nat → RI → En → Option (List D × En)
  | 0, _, _ => none
  | n + 1, .seq a, e => (evE n a e).bind fun p => (itemsD p.2.1).bind fun l => some (l, p.2.2)
  | n + 1, .rng es, e => (evA n es e).bind fun p => (rngL p.1).bind fun l => some (l, p.2)
  | n + 1, .enu es, e => (evA n es e).bind fun p => (enuL p.1).bind fun l => some (l, p.2)
  | n + 1, .zip a b, e => (evE n a e).bind fun p => (evE n b p.2.2).bind fun q => (seqD p.2.1).bind fun l => (seqD q.2.1).bind fun m => some (zipD l.2 m.2, q.2.2)
  | n + 1, .ez a b, e => (evE n a e).bind fun p => (evE n b p.2.2).bind fun q => (seqD p.2.1).bind fun l => (seqD q.2.1).bind fun m => some (enumD 0 (zipD l.2 m.2), q.2.2)
  | n + 1, .rev a, e => (evE n a e).bind fun p => (seqD p.2.1).bind fun l => some (l.2.reverse, p.2.2)
  | n + 1, .rrg a, e => (evE n a e).bind fun p => (revL p.2.1).bind fun l => some (l, p.2.2)
end
mutual
def evS : Nat → RS → En → Option SR
  | 0, _, _ => none
  | n + 1, .set i a, e => (evE T n a e).bind fun p => if i < p.2.2.sl.length then some (.nx (setS p.2.2 i p.1 p.2.1)) else none
  | n + 1, .tgt t a, e => (evE T n a e).bind fun p => (stT p.2.2 t p.2.1).bind fun z => some (.nx z)
  | n + 1, .par is es, e => (evA T n es e).bind fun p => (stAll p.2 is p.1).bind fun z => some (.nx z)
  | n + 1, .put i b a, e => (evE T n a e).bind fun p => (slotL p.2.2 i).bind fun _ => (evE T n b p.2.2).bind fun q => match q.2.1 with
    | .int k => (slotL q.2.2 i).bind fun l => (ixN l.length k).bind fun j => some (.nx (putL q.2.2 i (l.set j p.2.1)))
    | _ => none
  | n + 1, .put2 i b1 b2 a, e => (evE T n a e).bind fun p => match p.2.1 with
    | .tuple [d1, d2] => (slotL p.2.2 i).bind fun _ => (evE T n b1 p.2.2).bind fun q => match q.2.1 with
      | .int k => (slotL q.2.2 i).bind fun l => (ixN l.length k).bind fun j => (evE T n b2 (putL q.2.2 i (l.set j d1))).bind fun q2 => match q2.2.1 with
        | .int k2 => (slotL q2.2.2 i).bind fun l2 => (ixN l2.length k2).bind fun j2 => some (.nx (putL q2.2.2 i (l2.set j2 d2)))
        | _ => none
      | _ => none
    | _ => none
  | n + 1, .ret a, e => (evE T n a e).bind fun p => some (.rt p.1 p.2.1 p.2.2)
  | _ + 1, .retn, e => some (.rt false .none e)
  | n + 1, .ife t a b, e => (evT T n t e).bind fun p => if p.1 then evSs n a p.2 else evSs n b p.2
  | n + 1, .whl t b, e => whileL (evT T n t) (evSs n b) T.W e
  | n + 1, .for t it b, e => (evI T n it e).bind fun p => forL (fun d e => (stT e t d).bind fun e1 => evSs n b e1) p.1 p.2
  | n + 1, .ex a, e => (evE T n a e).bind fun p => some (.nx p.2.2)
  | _ + 1, .pass, e => some (.nx e)
  | _ + 1, .brk, e => some (.bk e)
  | _ + 1, .cnt, e => some (.ct e)
  | _ + 1, .never, _ => none
  | n + 1, .aug s i a, e => (valI e i).bind fun k => (evE T n a e).bind fun p => (intV p.2.1).bind fun m => if i < p.2.2.sl.length then some (.nx (setS p.2.2 i false (.int (if s then k - m else k + m)))) else none
  | n + 1, .pro i j p q, e => (evE T n p e).bind fun y => (evE T n q y.2.2).bind fun z => if i < z.2.2.sl.length then if j < z.2.2.sl.length then some (.nx (setS (setS z.2.2 i false y.2.1) j z.1 z.2.1)) else none else none
def evSs : Nat → List RS → En → Option SR
  | 0, _, _ => none
  | _ + 1, [], e => some (.nx e)
  | n + 1, s :: ss, e => (evS n s e).bind fun r => match r with
    | .nx e1 => evSs n ss e1
    | r => some r
end
end

/-! ### resolving -/
/-- the names of built-ins that the text uses -/
def bltNames : List Str := ["len", "int", "abs", "list", "tuple", "all", "any", "max", "min", "sum", "isinstance", "range", "enumerate", "zip", "reversed", "bool", "str"]
def nameOk (x : Str) : Bool := !(x == ("__debug__" : Str)) && !(x == ("__classdict__" : Str))
def slotN (T : Tb) (sc : Scope) (x : Str) : Option Nat := match sc.names.lookup x with
  | some .local => if nameOk x then idxOf T.N x else none
  | some .cell => if nameOk x then idxOf T.N x else none
  | some .free => if nameOk x then idxOf T.N x else none
  | _ => none
def isGl (sc : Scope) (x : Str) : Bool := match sc.names.lookup x with
  | some .globalImplicit => true
  | _ => false
def isBlt (sc : Scope) (x : Str) : Bool := isGl sc x && bltNames.contains x
def fnIx (T : Tb) (x : Str) : Option Nat := T.fs.findIdx? (fun p => p.1 == x)
def kwIx (kws : List Kw) (n : Nat) (ks : List Str) : Option Nat := kws.findIdx? (fun k => k.n == n && k.ks == ks)
def stoOk (raw : Scope) (x : Str) : Bool := match raw.names.lookup x with
  | some .local => true
  | some .cell => true
  | _ => false
end Fz
set_option Elab.async false
set_option linter.all false
set_option maxRecDepth 100000
set_option maxHeartbeats 4000000
/-! Fz, part N: a check that the resolved text is the text; contexts. -/
namespace Fz
open PySem PySem.Spec PyProof.Rows L2

def noStars (es : List Expr) : Bool := es.all fun e => !isStar e
def isIsi (sc : Scope) (f : Str) : Bool := isBlt sc f && (f == ("isinstance" : Str))
def tyBlt (sc : Scope) (l : List (Str × String)) : Bool := l.all fun p => isBlt sc p.1 && (tyOf p.1 == some p.2)
def fnBlt (sc : Scope) (f : Str) (x : Str) : Bool := isBlt sc f && (f == x)
section
variable (T : Tb)
mutual
def ckE : Nat → Scope → Expr → RE → Bool
  | 0, _, _, _ => false
  | n + 1, sc, e, r => match r with
    | .int j => match e with
      | .Constant (.int i) _ _ => i == j
      | _ => false
    | .bl c => match e with
      | .Constant (.bool b) _ _ => b == c
      | _ => false
    | .non => match e with
      | .Constant .none _ _ => true
      | _ => false
    | .str y => match e with
      | .Constant (.str x) _ _ => x == y
      | _ => false
    | .nm i => match e with
      | .Name x _ => slotN T sc x == some i
      | _ => false
    | .bin op' a b => match e with
      | .BinOp l op q _ => decide (op = op') && ckE n sc l a && ckE n sc q b
      | _ => false
    | .neg a => match e with
      | .UnaryOp .USub x _ => ckE n sc x a
      | _ => false
    | .not a => match e with
      | .UnaryOp .Not x _ => ckE n sc x a
      | _ => false
    | .bop op' a b => match e with
      | .BoolOp op [x, y] _ => decide (op = op') && ckE n sc x a && ckE n sc y b
      | .BoolOp op (x :: y :: z :: rest) pos => decide (op = op') && ckE n sc x a && ckE n sc (.BoolOp op (y :: z :: rest) pos) b
      | _ => false
    | .ife t a b => match e with
      | .IfExp c x y _ => ckT n sc c t && ckE n sc x a && ckE n sc y b
      | _ => false
    | .cmp op' a b => match e with
      | .Compare l [op] [q] _ => decide (op = op') && !isSet q && ckE n sc l a && ckE n sc q b
      | _ => false
    | .chn op1 op2 a b c => match e with
      | .Compare l [op, op'] [q, q'] _ => decide (op = op1) && decide (op' = op2) && !isSet q' && ckE n sc l a && ckE n sc q b && ckE n sc q' c
      | _ => false
    | .ix a b => match e with
      | .Subscript x i _ => !isSlice i && ckE n sc x a && ckE n sc i b
      | _ => false
    | .ixn j b => match e with
      | .Subscript (.Name x _) i _ => (slotN T sc x == some j) && !isSlice i && ckE n sc i b
      | _ => false
    | .sl a lo' hi' => match e with
      | .Subscript x (.Slice lo hi none _) _ => ckE n sc x a && ckO n sc lo lo' && ckO n sc hi hi'
      | _ => false
    | .sln j lo' hi' => match e with
      | .Subscript (.Name x _) (.Slice lo hi none _) _ => (slotN T sc x == some j) && ckO n sc lo lo' && ckO n sc hi hi'
      | _ => false
    | .blt k es => match e with
      | .Call (.Name f _) (a :: args) [] _ => isBlt sc f && (biOf f == some k) && noStars (a :: args) && ckA n sc (a :: args) es
      | _ => false
    | .lenn i => match e with
      | .Call (.Name f _) [.Name y _] [] _ => isBlt sc f && (biOf f == some .len) && (slotN T sc y == some i)
      | _ => false
    | .isi a ts => match e with
      | .Call (.Name f _) [x, .Name t _] [] _ => isIsi sc f && !isStar x && isBlt sc t && (match tyOf t with | some s => ts == [s] | none => false) && ckE n sc x a
      | .Call (.Name f _) [x, .Tuple es _ _] [] _ => isIsi sc f && !isStar x && (match tyNames es with | some l => tyBlt sc l && decide (l.length ≤ 100) && (ts == l.map (·.2)) | none => false) && ckE n sc x a
      | _ => false
    | .lst es => match e with
      | .List xs _ => noStars xs && ckA n sc xs es
      | _ => false
    | .tup es => match e with
      | .Tuple xs _ _ => noStars xs && ckA n sc xs es
      | _ => false
    | .app j es => match e with
      | .Call (.Name f _) args [] _ => isGl sc f && (match T.fs[j]? with | some p => p.1 == f | none => false) && noStars args && ckA n sc args es
      | _ => false
    | .appio j i es => match e with
      | .Call (.Name f _) (.Name y _ :: args) [] _ => isGl sc f && (match T.fs[j]? with | some p => p.1 == f | none => false) && (slotN T sc y == some i) && noStars args && ckA n sc args es
      | _ => false
    | .lent0 j i es => match e with
      | .Call (.Name f _) (.Name y _ :: args) [] _ => isGl sc f && (match T.fs[j]? with | some p => p.1 == f | none => false) && (slotN T sc y == some i) && noStars args && ckA n sc args es
      | _ => false
    | .lent1 j a i es => match e with
      | .Call (.Name f _) (x :: .Name y _ :: args) [] _ => isGl sc f && (match T.fs[j]? with | some p => p.1 == f | none => false) && (slotN T sc y == some i) && noStars args && ckA n sc args es && !isStar x && ckE n sc x a
      | _ => false
    | .lent2 j a b i es => match e with
      | .Call (.Name f _) (x :: x' :: .Name y _ :: args) [] _ => isGl sc f && (match T.fs[j]? with | some p => p.1 == f | none => false) && (slotN T sc y == some i) && noStars args && ckA n sc args es && !isStar x && ckE n sc x a && !isStar x' && ckE n sc x' b
      | _ => false
    | .appk j m es ks => match e with
      | .Call (.Name f _) args kws _ => isGl sc f && (match T.fs[j]? with
          | some p => (p.1 == f) && (match p.2.kws[m]? with
            | some kw => (kw.n == args.length) && (kwNames kws == some kw.ks)
            | none => false)
          | none => false) && noStars args && ckA n sc args es && ckK n sc kws ks
      | _ => false
    | .lc t vs it' tt x => match e with
      | .ListComp elt [⟨tg, it, ifs, 0⟩] scope _ => !isSet it && (match tgOf T.N tg with
          | some (t', tl) => decide (t'.ix = t.ix) && (match t', t with | .one _, .one _ => true | .tup _, .tup _ => true | .pr _ _, .pr _ _ => true | _, _ => false) && (tl.map (·.2) == vs) && (t.ix.all fun j => vs.contains j) && blkC T.N sc scope tl && tl.all (fun p => stoOk scope p.1)
          | none => false) && ckI n sc tg it it' && ckTo n (relS scope sc) ifs tt && ckE n (relS scope sc) elt x
      | _ => false
    | .push i a => match e with
      | .Call (.Attribute (.Name x _) m pa) [y] [] cp => (m == ("append" : Str)) && (slotN T sc x == some i) && !isStar y && (pa.endLine == cp.line) && ckE n sc y a
      | _ => false
    | .popA i a => match e with
      | .Call (.Attribute (.Name x _) m pa) [y] [] cp => (m == ("pop" : Str)) && (slotN T sc x == some i) && !isStar y && (pa.endLine == cp.line) && ckE n sc y a
      | _ => false
    | .ins i a b => match e with
      | .Call (.Attribute (.Name x _) m pa) [y, z] [] cp => (m == ("insert" : Str)) && (slotN T sc x == some i) && !isStar y && !isStar z && (pa.endLine == cp.line) && ckE n sc y a && ckE n sc z b
      | _ => false
    | .pop i => match e with
      | .Call (.Attribute (.Name x _) m pa) [] [] cp => (m == ("pop" : Str)) && (slotN T sc x == some i) && (pa.endLine == cp.line)
      | _ => false
def ckO : Nat → Scope → Option Expr → Option RE → Bool
  | 0, _, _, _ => false
  | _ + 1, _, none, none => true
  | n + 1, sc, some e, some r => ckE n sc e r
  | _ + 1, _, _, _ => false
def ckA : Nat → Scope → List Expr → List RE → Bool
  | 0, _, _, _ => false
  | _ + 1, _, [], [] => true
  | n + 1, sc, e :: es, r :: rs => ckE n sc e r && ckA n sc es rs
  | _ + 1, _, _, _ => false
def ckK : Nat → Scope → List Keyword → List RE → Bool
  | 0, _, _, _ => false
  | _ + 1, _, [], [] => true
  | n + 1, sc, ⟨_, e, _⟩ :: es, r :: rs => ckE n sc e r && ckK n sc es rs
  | _ + 1, _, _, _ => false
def ckTo : Nat → Scope → List Expr → Option RT → Bool
  | 0, _, _, _ => false
  | _ + 1, _, [], none => true
  | n + 1, sc, [e], some r => ckT n sc e r
  | _ + 1, _, _, _ => false
def ckT : Nat → Scope → Expr → RT → Bool
  | 0, _, _, _ => false
  | n + 1, sc, e, r => match r with
    | .nt a => match e with
      | .UnaryOp .Not x _ => ckT n sc x a
      | _ => false
    | .bop op' a b => match e with
      | .BoolOp op [x, y] _ => decide (op = op') && ckT n sc x a && ckT n sc y b
      | .BoolOp op (x :: y :: z :: rest) pos => decide (op = op') && ckT n sc x a && ckT n sc (.BoolOp op (y :: z :: rest) pos) b
      | _ => false
    | .cmp op' a b => match e with
      | .Compare l [op] [q] _ => decide (op = op') && !isSet q && ckE n sc l a && ckE n sc q b
      | _ => false
    | .chn op1 op2 a b c => match e with
      | .Compare l [op, op'] [q, q'] _ => decide (op = op1) && decide (op' = op2) && !isSet q' && ckE n sc l a && ckE n sc q b && ckE n sc q' c
      | _ => false
    | .cmpo op' i b => match e with
      | .Compare (.Name x _) [op] [q] _ => decide (op = op') && !isSet q && (slotN T sc x == some i) && ckE n sc q b
      | _ => false
    | .val a => plainT e && ckE n sc e a
    | .nm i => match e with
      | .Name x _ => slotN T sc x == some i
      | _ => false
def ckI : Nat → Scope → Expr → Expr → RI → Bool
  | 0, _, _, _, _ => false
  | n + 1, sc, tg, e, r => match r with
    | .seq a => ckE n sc e a
    | .rng rs => match e with
      | .Call (.Name f _) args [] _ => fnBlt sc f "range" && noStars args && ckA n sc args rs
      | _ => false
    | .enu rs => match e, tg with
      | .Call (.Name f _) args [] _, .Tuple _ _ _ => fnBlt sc f "enumerate" && noStars args && ckA n sc args rs
      | _, _ => false
    | .zip a b => match e, tg with
      | .Call (.Name f _) [x, y] [] _, .Tuple _ _ _ => fnBlt sc f "zip" && !isStar x && !isStar y && ckE n sc x a && ckE n sc y b
      | _, _ => false
    | .ez a b => match e, tg with
      | .Call (.Name f _) [.Call (.Name g _) [x, y] [] _] [] _, .Tuple _ _ _ => fnBlt sc f "enumerate" && fnBlt sc g "zip" && !isStar x && !isStar y && ckE n sc x a && ckE n sc y b
      | _, _ => false
    | .rrg a => match e with
      | .Call (.Name f _) [.Call (.Name g _) [x] [] _] [] _ => fnBlt sc f "reversed" && fnBlt sc g "range" && !isStar x && ckE n sc x a
      | _ => false
    | .rev a => match e with
      | .Call (.Name f _) [x] [] _ => fnBlt sc f "reversed" && !isStar x && ckE n sc x a
      | _ => false
end
end

/-! ### a context for a scope -/
structure Cok (T : Tb) (k : Nat) (sc : Scope) (X : Cx) : Prop where
  N : X.N = T.N
  nd : T.N.Nodup
  calm : X.calm = true
  room : Room k X.A
  sc : X.env.scope = sc
  blt : ∀ x, bltNames.contains x = true → X.mg x = none
  fns : ∀ (j : Nat) (p : Str × Fn), T.fs[j]? = some p → FnAt X k p.1 p.2
section
variable {T : Tb} {k : Nat} {sc : Scope} {X : Cx}
theorem Cok.slot (c : Cok T k sc X) {x : Str} {i : Nat} (h : slotN T sc x = some i) : idxOf X.N x = some i ∧ Vis X.env.scope x ∧ (x == ("__debug__" : Str)) = false ∧ (x == ("__classdict__" : Str)) = false := by
  have key : ∀ (q : sc.names.lookup x = some .local ∨ sc.names.lookup x = some .cell ∨ sc.names.lookup x = some .free), (if nameOk x then idxOf T.N x else none) = some i → idxOf X.N x = some i ∧ Vis X.env.scope x ∧ (x == ("__debug__" : Str)) = false ∧ (x == ("__classdict__" : Str)) = false := fun q h => by
    split at h
    · rename_i ok
      unfold nameOk at ok
      rw [Bool.and_eq_true] at ok
      exact ⟨by rw [c.N]; exact h, by rw [c.sc]; exact q, by simpa using ok.1, by simpa using ok.2⟩
    · cases h
  unfold slotN at h
  split at h
  · exact key (.inl (by assumption)) h
  · exact key (.inr (.inl (by assumption))) h
  · exact key (.inr (.inr (by assumption))) h
  · cases h
theorem Cok.gl (c : Cok T k sc X) {x : Str} (h : isGl sc x = true) : Gl X x := by
  unfold isGl at h
  split at h
  · rename_i q
    show X.env.scope.names.lookup x = some .globalImplicit
    rw [c.sc]; exact q
  · cases h
theorem Cok.bltG (c : Cok T k sc X) {x : Str} (h : isBlt sc x = true) : Gl X x ∧ X.mg x = none := by
  unfold isBlt at h
  rw [Bool.and_eq_true] at h
  exact ⟨c.gl h.1, c.blt x h.2⟩
theorem relS_look {scope sc : Scope} {x : Str} : (relS scope sc).names.lookup x = (scope.names.lookup x).map fun k => if (k == .free && sc.kind == .function && sc.names.lookup x == some .cell) then .cell else k := by
  show (scope.names.map fun p => match p with | (n, k) => if (k == .free && sc.kind == .function && sc.names.lookup n == some .cell) then (n, NameKind.cell) else (n, k)).lookup x = _
  induction scope.names with
  | nil => rfl
  | cons p r ih =>
    obtain ⟨y, k⟩ := p
    rw [List.map_cons]
    show List.lookup x ((if (k == .free && sc.kind == .function && sc.names.lookup y == some .cell) then (y, NameKind.cell) else (y, k)) :: _) = _
    have e2 : (if (k == .free && sc.kind == .function && sc.names.lookup y == some .cell) then (y, NameKind.cell) else (y, k)) = (y, if (k == .free && sc.kind == .function && sc.names.lookup y == some .cell) then NameKind.cell else k) := by
      split <;> rfl
    rw [e2, List.lookup_cons, List.lookup_cons]
    cases b : (x == y) with
    | true =>
      have : x = y := by simpa using b
      subst this
      rfl
    | false => exact ih
theorem Cok.bl (c : Cok T k sc X) (scope : Scope) (s : Shared) (H : Hp) (C : Addr) (cl : List (Str × Addr)) (fp : List Addr) : Cok T k (relS scope sc) (Bl X scope s H C cl fp) :=
  ⟨c.N, c.nd, c.calm, c.room, by rw [← c.sc]; rfl, c.blt, fun j p h => ⟨(c.fns j p h).ex, (c.fns j p h).nd⟩⟩
theorem stok_bl {scope : Scope} {s : Shared} {H : Hp} {C : Addr} {cl : List (Str × Addr)} {fp : List Addr} {x : Str} (h : stoOk scope x = true) : StOk (Bl X scope s H C cl fp) x := by
  unfold stoOk at h
  have look : (Bl X scope s H C cl fp).env.scope.names.lookup x = (scope.names.lookup x).map fun k => if (k == .free && X.env.scope.kind == .function && X.env.scope.names.lookup x == some .cell) then .cell else k := relS_look
  split at h
  · rename_i q
    rw [q] at look
    exact ⟨.inl look, .inr look⟩
  · rename_i q
    rw [q] at look
    refine ⟨.inr look, .inl ?_⟩
    show (scope.names.lookup x == some .cell) = true
    rw [q]; rfl
  · cases h
end
end Fz
set_option Elab.async false
set_option linter.all false
set_option maxRecDepth 100000
set_option maxHeartbeats 8000000
/-! Fz, part O: what is computed is what runs: expressions. -/
namespace Fz
open PySem PySem.Spec PyProof.Rows L2

structure Snd (T : Tb) (k n : Nat) : Prop where
  E : ∀ {sc : Scope} {X : Cx} {β : Option Addr} {e : Expr} {r : RE} {m : Nat} {a : En} {z : Bool × D × En}, Cok T k sc X → ckE T n sc e r = true → evE T m r a = some z → Den X β e a z.1 z.2.1 z.2.2
  A : ∀ {sc : Scope} {X : Cx} {β : Option Addr} {e : List Expr} {r : List RE} {m : Nat} {a : En} {z : List D × En}, Cok T k sc X → ckA T n sc e r = true → noStars e = true → evA T m r a = some z → DenA X β e a z.1 z.2 ∧ z.1.length = e.length ∧ r.length = e.length ∧ (e = [] → z.1 = [] ∧ a = z.2)
  Kw : ∀ {sc : Scope} {X : Cx} {β : Option Addr} {e : List Keyword} {r : List RE} {m : Nat} {a : En} {z : List D × En}, Cok T k sc X → ckK T n sc e r = true → evA T m r a = some z → DenK X β e a z.1 z.2
  O : ∀ {sc : Scope} {X : Cx} {β : Option Addr} {e : Option Expr} {r : Option RE} {m : Nat} {a : En} {z : Option Int × En}, Cok T k sc X → ckO T n sc e r = true → evO T m r a = some z → DenO X β e a z.1 z.2
  To : ∀ {sc : Scope} {X : Cx} {β : Option Addr} {e : List Expr} {r : Option RT} {m : Nat} {a : En} {z : Bool × En}, Cok T k sc X → ckTo T n sc e r = true → evTo T m r a = some z → DenTs X β e a z.1 z.2
  Tt : ∀ {sc : Scope} {X : Cx} {β : Option Addr} {e : Expr} {r : RT} {m : Nat} {a : En} {z : Bool × En}, Cok T k sc X → ckT T n sc e r = true → evT T m r a = some z → DenT X β e a z.1 z.2
  Tw : ∀ {sc : Scope} {X : Cx} {β : Option Addr} {e : Expr} {r : RT} {m : Nat} {a : En} {z : Bool × En}, Cok T k sc X → ckT T n sc e r = true → evT T m r a = some z → (∃ op es pos, e = .BoolOp op es pos) → DenW X β e a z.1 z.2
  I : ∀ {sc : Scope} {X : Cx} {β : Option Addr} {tg e : Expr} {r : RI} {m : Nat} {a : En} {z : List D × En}, Cok T k sc X → ckI T n sc tg e r = true → evI T m r a = some z → DenI X β tg e a z.1 z.2
section
variable {T : Tb} {k n : Nat}
theorem snd_zero : Snd T k 0 := by
  refine ⟨?_, ?_, ?_, ?_, ?_, ?_, ?_, ?_⟩ <;> intros <;> simp only [ckE, ckA, ckK, ckO, ckTo, ckT, ckI, Bool.false_eq_true] at * <;> contradiction
theorem stop_and : ∀ {op : BoolOp} {k : Bool}, opStop op k = true → k = match op with | .And => false | .Or => true
  | .And, false, _ => rfl
  | .And, true, h => by cases h
  | .Or, false, h => by cases h
  | .Or, true, _ => rfl
theorem stop_on : ∀ {op : BoolOp} {k : Bool}, ¬ opStop op k = true → k = match op with | .And => true | .Or => false
  | .And, false, h => absurd rfl h
  | .And, true, _ => rfl
  | .Or, false, _ => rfl
  | .Or, true, h => absurd rfl h
theorem idx_of {X : Cx} {sc : Scope} (c : Cok T k sc X) {x : Str} {i : Nat} (h : slotN T sc x = some i) : X.N[i]? = some x := idxOf_get (c.slot h).1
/-- a turn of a comprehension -/
theorem turn_ok {sc scope : Scope} {X : Cx} {β : Option Addr} {t : Tg} {vs : List Nat} {ifs : List Expr} {elt : Expr} {tt : Option RT} {x : RE} {m : Nat} {d : D} {e : En} {o : Option D} {e' : En} (S : Snd T k n) (c : Cok T k sc X) (h1 : ckTo T n (relS scope sc) ifs tt = true) (h2 : ckE T n (relS scope sc) elt x = true)
    (h : evC T m t vs tt x d e = some (o, e')) : TurnC X β scope t vs ifs elt d e o e' := by
  cases m with
  | zero => simp only [evC] at h; cases h
  | succ m =>
    simp only [evC] at h
    split at h
    · rename_i hp
      simp only [Option.bind_eq_some_iff] at h
      obtain ⟨e1, hst, p, ht, hk⟩ := h
      refine ⟨List.all_eq_true.mp hp, e1, p.1, p.2, hst, fun s H C cl fp => S.To (c.bl scope s H C cl fp) h1 ht, ?_⟩
      cases hk1 : p.1 with
      | false =>
        rw [hk1] at hk
        simp only [Bool.false_eq_true, if_false, Option.some.injEq, Prod.mk.injEq] at hk
        exact ⟨hk.1.symm, hk.2.symm⟩
      | true =>
        rw [hk1] at hk
        simp only [if_true, Option.bind_eq_some_iff, Option.some.injEq, Prod.mk.injEq] at hk
        obtain ⟨q, hq, k1, k2⟩ := hk
        exact ⟨q.2.2, q.2.1, fun s H C cl fp => (S.E (c.bl scope s H C cl fp) h2 hq).fz, k1.symm, k2.symm⟩
    · cases h
theorem snd_E (S : Snd T k n) {sc : Scope} {X : Cx} {β : Option Addr} {e : Expr} {r : RE} {m : Nat} {a : En} {z : Bool × D × En} (c : Cok T k sc X) (hc : ckE T (n + 1) sc e r = true) (hv : evE T m r a = some z) : Den X β e a z.1 z.2.1 z.2.2 := by
  cases m with
  | zero => simp only [evE] at hv; cases hv
  | succ m =>
  cases r with
  | int j =>
    simp only [ckE] at hc
    split at hc
    · simp only [evE, Option.some.injEq] at hv
      subst hv
      rw [beq_iff_eq] at hc
      subst hc
      exact den_int
    · cases hc
  | bl j =>
    simp only [ckE] at hc
    split at hc
    · simp only [evE, Option.some.injEq] at hv
      subst hv
      rw [beq_iff_eq] at hc
      subst hc
      exact den_bl
    · cases hc
  | non =>
    simp only [ckE] at hc
    split at hc
    · simp only [evE, Option.some.injEq] at hv
      subst hv
      exact den_non
    · cases hc
  | str j =>
    simp only [ckE] at hc
    split at hc
    · simp only [evE, Option.some.injEq] at hv
      subst hv
      rw [beq_iff_eq] at hc
      subst hc
      exact den_str
    · cases hc
  | nm i =>
    simp only [ckE] at hc
    split at hc
    · rw [beq_iff_eq] at hc
      simp only [evE, Option.bind_eq_some_iff, Option.some.injEq] at hv
      obtain ⟨p, hp, rfl⟩ := hv
      dsimp only
      obtain ⟨q1, q2, q3, q4⟩ := c.slot hc
      exact den_name (idxOf_get q1) q2 q3 q4 hp
    · cases hc
  | bin op' p q =>
    simp only [ckE] at hc
    split at hc
    · simp only [Bool.and_eq_true, decide_eq_true_eq] at hc
      obtain ⟨⟨rfl, h1⟩, h2⟩ := hc
      simp only [evE, Option.bind_eq_some_iff, Option.some.injEq] at hv
      obtain ⟨z1, e1, z2, e2, z3, e3, rfl⟩ := hv
      dsimp only
      obtain ⟨rr, ho, hr⟩ := bin_ok (X := X) (β := β) (b := z2.2.2) e3
      exact den_bin ho (S.E c h1 e1) (S.E c h2 e2) hr
    · cases hc
  | neg p =>
    simp only [ckE] at hc
    split at hc
    · simp only [evE, Option.bind_eq_some_iff] at hv
      obtain ⟨⟨o, d, b⟩, e1, hv⟩ := hv
      simp only at hv
      split at hv
      · cases hv
        exact den_neg (S.E c hc e1)
      · cases hv
    · cases hc
  | not p =>
    simp only [ckE] at hc
    split at hc
    · simp only [evE, Option.bind_eq_some_iff, Option.some.injEq] at hv
      obtain ⟨z1, e1, z2, e2, rfl⟩ := hv
      dsimp only
      exact den_not (S.E c hc e1) e2
    · cases hc
  | bop op' p q =>
    simp only [ckE] at hc
    split at hc
    · simp only [Bool.and_eq_true, decide_eq_true_eq] at hc
      obtain ⟨⟨rfl, h1⟩, h2⟩ := hc
      simp only [evE, Option.bind_eq_some_iff] at hv
      obtain ⟨z1, e1, z2, e2, hv⟩ := hv
      split at hv
      · rename_i hs
        cases hv
        try dsimp only
        exact den_short (S.E c h1 e1) e2 (stop_and hs)
      · rename_i hs
        exact den_on (S.E c h1 e1) e2 (stop_on hs) (den_bool1 (S.E c h2 hv))
    · simp only [Bool.and_eq_true, decide_eq_true_eq] at hc
      obtain ⟨⟨rfl, h1⟩, h2⟩ := hc
      simp only [evE, Option.bind_eq_some_iff] at hv
      obtain ⟨z1, e1, z2, e2, hv⟩ := hv
      split at hv
      · rename_i hs
        cases hv
        try dsimp only
        exact den_short (S.E c h1 e1) e2 (stop_and hs)
      · rename_i hs
        exact den_on (S.E c h1 e1) e2 (stop_on hs) (S.E c h2 hv)
    · cases hc
  | ife t p q =>
    simp only [ckE] at hc
    split at hc
    · simp only [Bool.and_eq_true] at hc
      obtain ⟨⟨h0, h1⟩, h2⟩ := hc
      simp only [evE, Option.bind_eq_some_iff] at hv
      obtain ⟨⟨kk, b⟩, e1, hv⟩ := hv
      cases kk with
      | true => exact den_if (k := true) (S.Tt c h0 e1) (S.E c h1 hv)
      | false => exact den_if (k := false) (S.Tt c h0 e1) (S.E c h2 hv)
    · cases hc
  | cmp op' p q =>
    simp only [ckE] at hc
    split at hc
    · simp only [Bool.and_eq_true, decide_eq_true_eq, Bool.not_eq_true'] at hc
      obtain ⟨⟨⟨rfl, h0⟩, h1⟩, h2⟩ := hc
      simp only [evE, Option.bind_eq_some_iff, Option.some.injEq] at hv
      obtain ⟨z1, e1, z2, e2, z3, e3, rfl⟩ := hv
      dsimp only
      obtain ⟨rr, ho, hr⟩ := cmp_ok (X := X) (β := β) (b := z2.2.2) (o1 := z1.1) c.room e3
      exact den_cmp h0 ho (S.E c h1 e1) (S.E c h2 e2) hr
    · cases hc
  | chn op1 op2 p q c3 =>
    simp only [ckE] at hc
    split at hc
    · simp only [Bool.and_eq_true, decide_eq_true_eq, Bool.not_eq_true'] at hc
      obtain ⟨⟨⟨⟨⟨rfl, rfl⟩, h0⟩, h1⟩, h2⟩, h3⟩ := hc
      simp only [evE, Option.bind_eq_some_iff] at hv
      obtain ⟨z1, e1, z2, e2, k, e3, hv⟩ := hv
      obtain ⟨rr, ho, hr⟩ := cmp_ok (X := X) (β := β) (b := z2.2.2) (o1 := z1.1) c.room e3
      cases k with
      | false =>
        rw [if_neg (by simp)] at hv
        cases hv
        dsimp only
        exact den_chain (k := false) (k2 := false) (o3 := false) (d3 := .none) (d0 := z2.2.2) h0 ho op_any (S.E c h1 e1) (S.E c h2 e2) hr (fun h => by cases h)
      | true =>
        rw [if_pos rfl] at hv
        simp only [Option.bind_eq_some_iff, Option.some.injEq] at hv
        obtain ⟨z3, e4, k2, e5, rfl⟩ := hv
        obtain ⟨rr2, ho2, hr2⟩ := cmp_ok (X := X) (β := β) (b := z3.2.2) (o1 := false) c.room e5
        dsimp only
        exact den_chain (k := true) h0 ho ho2 (S.E c h1 e1) (S.E c h2 e2) hr (fun _ => ⟨S.E c h3 e4, hr2⟩)
    · cases hc
  | ix p q =>
    simp only [ckE] at hc
    split at hc
    · simp only [Bool.and_eq_true, Bool.not_eq_true'] at hc
      obtain ⟨⟨h0, h1⟩, h2⟩ := hc
      simp only [evE, Option.bind_eq_some_iff, Option.some.injEq] at hv
      obtain ⟨z1, e1, z2, e2, z3, e3, rfl⟩ := hv
      dsimp only
      exact den_ix h0 (S.E c h1 e1) (S.E c h2 e2) e3
    · cases hc
  | ixn i q =>
    simp only [ckE] at hc
    split at hc
    · simp only [Bool.and_eq_true, Bool.not_eq_true', beq_iff_eq] at hc
      obtain ⟨⟨h0, h1⟩, h2⟩ := hc
      obtain ⟨q1, q2, q3, q4⟩ := c.slot h0
      simp only [evE] at hv
      split at hv
      · rename_i l hl
        simp only [Option.bind_eq_some_iff, Option.some.injEq] at hv
        obtain ⟨z1, e1, z2, e2, z3, e3, rfl⟩ := hv
        dsimp only
        exact den_ixN (idxOf_get q1) q2 q3 q4 h1 hl (S.E c h2 e1) e2 e3
      · simp only [Option.bind_eq_some_iff, Option.some.injEq] at hv
        obtain ⟨z1, e1, z2, e2, z3, e3, rfl⟩ := hv
        dsimp only
        exact den_ix h1 (den_name (idxOf_get q1) q2 q3 q4 e1) (S.E c h2 e2) e3
    · cases hc
  | sl p lo hi =>
    simp only [ckE] at hc
    split at hc
    · simp only [Bool.and_eq_true] at hc
      obtain ⟨⟨h0, h1⟩, h2⟩ := hc
      simp only [evE, Option.bind_eq_some_iff, Option.some.injEq] at hv
      obtain ⟨z1, e1, z2, e2, z3, e3, z4, e4, rfl⟩ := hv
      dsimp only
      exact den_sl (S.E c h0 e1) (S.O c h1 e2) (S.O c h2 e3) e4
    · cases hc
  | sln i lo hi =>
    simp only [ckE] at hc
    split at hc
    · simp only [Bool.and_eq_true, beq_iff_eq] at hc
      obtain ⟨⟨h0, h1⟩, h2⟩ := hc
      obtain ⟨q1, q2, q3, q4⟩ := c.slot h0
      simp only [evE] at hv
      split at hv
      · rename_i l hl
        simp only [Option.bind_eq_some_iff, Option.some.injEq] at hv
        obtain ⟨z2, e2, z3, e3, z5, e5, z4, e4, rfl⟩ := hv
        dsimp only
        exact den_slN (idxOf_get q1) q2 q3 q4 hl (S.O c h1 e2) (S.O c h2 e3) e5 e4
      · simp only [Option.bind_eq_some_iff, Option.some.injEq] at hv
        obtain ⟨z1, e1, z2, e2, z3, e3, z4, e4, rfl⟩ := hv
        dsimp only
        exact den_sl (den_name (idxOf_get q1) q2 q3 q4 e1) (S.O c h1 e2) (S.O c h2 e3) e4
    · cases hc
  | blt kk es =>
    simp only [ckE] at hc
    split at hc
    · simp only [Bool.and_eq_true, beq_iff_eq] at hc
      obtain ⟨⟨⟨h0, h1⟩, h2⟩, h3⟩ := hc
      obtain ⟨g1, g2⟩ := c.bltG h0
      simp only [evE, Option.bind_eq_some_iff, Option.some.injEq] at hv
      obtain ⟨z1, e1, z2, e2, rfl⟩ := hv
      dsimp only
      exact den_blt h2 c.calm g1 g2 h1 (S.A c h3 h2 e1).1 e2
    · cases hc
  | lenn i =>
    simp only [ckE] at hc
    split at hc
    · simp only [Bool.and_eq_true, beq_iff_eq] at hc
      obtain ⟨⟨h0, h1⟩, h2⟩ := hc
      obtain ⟨g1, g2⟩ := c.bltG h0
      obtain ⟨q1, q2, q3, q4⟩ := c.slot h2
      simp only [evE] at hv
      split at hv
      · rename_i l hl
        cases hv
        try dsimp only
        exact den_lenN g1 g2 h1 (idxOf_get q1) q2 q3 q4 hl
      · simp only [Option.bind_eq_some_iff, Option.some.injEq] at hv
        obtain ⟨z1, e1, z2, e2, rfl⟩ := hv
        dsimp only
        exact den_blt rfl c.calm g1 g2 h1 (dena_cons rfl (den_name (idxOf_get q1) q2 q3 q4 e1) dena_nil) e2
    · cases hc
  | isi p ts =>
    simp only [ckE] at hc
    simp only [evE, Option.bind_eq_some_iff] at hv
    obtain ⟨z1, e1, hv⟩ := hv
    split at hv
    case isFalse => cases hv
    rename_i htag
    cases hv
    dsimp only
    have isx : ∀ {f : Str}, isIsi sc f = true → Gl X f ∧ X.mg f = none ∧ f = "isinstance" := fun {f} h => by
      unfold isIsi at h
      rw [Bool.and_eq_true, beq_iff_eq] at h
      exact ⟨(c.bltG h.1).1, (c.bltG h.1).2, h.2⟩
    split at hc
    · simp only [Bool.and_eq_true, Bool.not_eq_true'] at hc
      obtain ⟨⟨⟨⟨h0, h1⟩, h2⟩, h3⟩, h4⟩ := hc
      obtain ⟨g1, g2, rfl⟩ := isx h0
      obtain ⟨g3, g4⟩ := c.bltG h2
      split at h3
      · rename_i s hs
        rw [beq_iff_eq] at h3
        subst h3
        exact den_isi1 h1 g1 g2 hs g3 g4 htag (S.E c h4 e1)
      · cases h3
    · simp only [Bool.and_eq_true, Bool.not_eq_true'] at hc
      obtain ⟨⟨⟨h0, h1⟩, h3⟩, h4⟩ := hc
      obtain ⟨g1, g2, rfl⟩ := isx h0
      split at h3
      · rename_i l hl
        simp only [Bool.and_eq_true, decide_eq_true_eq, beq_iff_eq] at h3
        obtain ⟨⟨h5, h6⟩, rfl⟩ := h3
        unfold tyBlt at h5
        rw [List.all_eq_true] at h5
        refine den_isi h1 g1 g2 hl h6 (fun p hp => c.bltG ?_) (fun p hp => ?_) htag (S.E c h4 e1)
        · have := h5 p hp; rw [Bool.and_eq_true] at this; exact this.1
        · have := h5 p hp; rw [Bool.and_eq_true, beq_iff_eq] at this; exact this.2
      · cases h3
    · cases hc
  | lst es =>
    simp only [ckE] at hc
    split at hc
    · simp only [Bool.and_eq_true] at hc
      simp only [evE, Option.bind_eq_some_iff] at hv
      obtain ⟨z1, e1, hv⟩ := hv
      split at hv
      · rename_i hl
        cases hv
        try dsimp only
        exact den_list (S.A c hc.2 hc.1 e1).1 (szB_le hl)
      · cases hv
    · cases hc
  | tup es =>
    simp only [ckE] at hc
    split at hc
    · simp only [Bool.and_eq_true] at hc
      simp only [evE, Option.bind_eq_some_iff] at hv
      obtain ⟨z1, e1, hv⟩ := hv
      split at hv
      · rename_i hl
        cases hv
        try dsimp only
        exact den_tuple (S.A c hc.2 hc.1 e1).1 (szB_le hl)
      · cases hv
    · cases hc
  | app j es =>
    simp only [ckE] at hc
    split at hc
    · rename_i f p args pos
      simp only [Bool.and_eq_true] at hc
      obtain ⟨⟨⟨h0, h1⟩, h2⟩, h3⟩ := hc
      simp only [evE, Option.bind_eq_some_iff] at hv
      obtain ⟨z1, e1, ff, e2, hv⟩ := hv
      split at hv
      · rename_i hl
        simp only [Option.bind_eq_some_iff, Option.some.injEq] at hv
        obtain ⟨⟨o, d, l⟩, e3, rfl⟩ := hv
        dsimp only
        rw [e2] at h1
        simp only [beq_iff_eq] at h1
        subst h1
        obtain ⟨k1, k2, k3, k4⟩ := S.A (β := β) c h3 h2 e1
        cases args with
        | nil =>
          obtain ⟨w1, w2⟩ := k4 rfl
          rw [w1] at e3 hl
          subst w2
          exact den_call0 (c.fns j ff e2) c.room (c.gl h0) hl.1 e3 hl.2.symm
        | cons x xs => exact den_call (c.fns j ff e2) c.room (c.gl h0) h2 hl.1 k1 e3 hl.2
      · cases hv
    · cases hc
  | appio j i es =>
    simp only [ckE] at hc
    split at hc
    · rename_i f p y py args pos
      simp only [Bool.and_eq_true, beq_iff_eq] at hc
      obtain ⟨⟨⟨⟨h0, h1⟩, h4⟩, h2⟩, h3⟩ := hc
      obtain ⟨q1, q2, q3, q4⟩ := c.slot h4
      simp only [evE, Option.bind_eq_some_iff] at hv
      obtain ⟨l0, e0, z1, e1, bs, e4, ff, e2, hv⟩ := hv
      split at hv
      · rename_i hl
        simp only [Option.bind_eq_some_iff, Option.some.injEq] at hv
        obtain ⟨⟨o, d, l⟩, e3, rfl⟩ := hv
        dsimp only
        rw [e2] at h1
        simp only [beq_iff_eq] at h1
        subst h1
        exact den_callIo (c.fns j ff e2) c.room (c.gl h0) h2 hl.1 (idxOf_get q1) q2 q3 q4 (by rw [e0]; rfl) (S.A c h3 h2 e1).1 e4 e3 hl.2
      · cases hv
    · cases hc
  | lent0 j i es =>
    simp only [ckE] at hc
    split at hc
    · rename_i f p y py args pos
      simp only [Bool.and_eq_true, beq_iff_eq] at hc
      obtain ⟨⟨⟨⟨h0, h1⟩, h4⟩, h2⟩, h3⟩ := hc
      obtain ⟨q1, q2, q3, q4⟩ := c.slot h4
      simp only [evE, Option.bind_eq_some_iff] at hv
      obtain ⟨l0, e0, z1, e1, bs, e4, ff, e2, hv⟩ := hv
      split at hv
      · rename_i hl
        simp only [Option.bind_eq_some_iff] at hv
        obtain ⟨⟨o, d, l⟩, e3, hv⟩ := hv
        split at hv
        · rename_i hn
          cases hv
          dsimp only at hn e3 ⊢
          obtain ⟨hn1, hn2⟩ := hn
          subst hn1
          rw [e2] at h1
          simp only [beq_iff_eq] at h1
          subst h1
          exact den_lent0 (c.fns j ff e2) c.room (c.gl h0) h2 hl.1 (idxOf_get q1) q2 q3 q4 (by rw [e0]; rfl) (S.A c h3 h2 e1).1 e4 e3 hl.2 hn2
        · cases hv
      · cases hv
    · cases hc
  | lent1 j x0 i es =>
    simp only [ckE] at hc
    split at hc
    · rename_i f p xe y py args pos
      simp only [Bool.and_eq_true, beq_iff_eq, Bool.not_eq_true'] at hc
      obtain ⟨⟨⟨⟨⟨⟨h0, h1⟩, h4⟩, h2⟩, h3⟩, h5⟩, h6⟩ := hc
      obtain ⟨q1, q2, q3, q4⟩ := c.slot h4
      simp only [evE, Option.bind_eq_some_iff] at hv
      obtain ⟨⟨o0, d0, w0⟩, e5, l0, e0, z1, e1, bs, e4, ff, e2, hv⟩ := hv
      split at hv
      · rename_i hl
        simp only [Option.bind_eq_some_iff] at hv
        obtain ⟨⟨o, d, l⟩, e3, hv⟩ := hv
        split at hv
        · rename_i hn
          cases hv
          dsimp only at hn e3 e0 e1 ⊢
          obtain ⟨hn1, hn2⟩ := hn
          subst hn1
          rw [e2] at h1
          simp only [beq_iff_eq] at h1
          subst h1
          exact den_lent1 (c.fns j ff e2) c.room (c.gl h0) h5 h2 hl.1 (idxOf_get q1) q2 q3 q4 (S.E c h6 e5) (by rw [e0]; rfl) (S.A c h3 h2 e1).1 e4 e3 hl.2 hn2
        · cases hv
      · cases hv
    · cases hc
  | lent2 j x0 x1 i es =>
    simp only [ckE] at hc
    split at hc
    · rename_i f p xe xe' y py args pos
      simp only [Bool.and_eq_true, beq_iff_eq, Bool.not_eq_true'] at hc
      obtain ⟨⟨⟨⟨⟨⟨⟨⟨h0, h1⟩, h4⟩, h2⟩, h3⟩, h5⟩, h6⟩, h7⟩, h8⟩ := hc
      obtain ⟨q1, q2, q3, q4⟩ := c.slot h4
      simp only [evE, Option.bind_eq_some_iff] at hv
      obtain ⟨⟨o0, d0, w0⟩, e5, ⟨o1, d1, w1⟩, e6, l0, e0, z1, e1, bs, e4, ff, e2, hv⟩ := hv
      split at hv
      · rename_i hl
        simp only [Option.bind_eq_some_iff] at hv
        obtain ⟨⟨o, d, l⟩, e3, hv⟩ := hv
        split at hv
        · rename_i hn
          cases hv
          dsimp only at hn e3 e0 e1 e6 ⊢
          obtain ⟨hn1, hn2⟩ := hn
          subst hn1
          rw [e2] at h1
          simp only [beq_iff_eq] at h1
          subst h1
          exact den_lent2 (c.fns j ff e2) c.room (c.gl h0) h5 h7 h2 hl.1 (idxOf_get q1) q2 q3 q4 (S.E c h6 e5) (S.E c h8 e6) (by rw [e0]; rfl) (S.A c h3 h2 e1).1 e4 e3 hl.2 hn2
        · cases hv
      · cases hv
    · cases hc
  | appk j mm es ks =>
    simp only [ckE] at hc
    split at hc
    · rename_i f p args kws pos
      simp only [Bool.and_eq_true] at hc
      obtain ⟨⟨⟨⟨h0, h1⟩, h2⟩, h3⟩, h4⟩ := hc
      simp only [evE, Option.bind_eq_some_iff] at hv
      obtain ⟨z1, e1, z2, e2, ff, e3, kw, e4, hv⟩ := hv
      split at hv
      · rename_i hl
        simp only [Option.bind_eq_some_iff, Option.some.injEq] at hv
        obtain ⟨⟨o, d, l⟩, e5, rfl⟩ := hv
        dsimp only
        rw [e3] at h1
        simp only [Bool.and_eq_true, beq_iff_eq] at h1
        obtain ⟨h1, h5⟩ := h1
        subst h1
        rw [e4] at h5
        simp only [Bool.and_eq_true, beq_iff_eq] at h5
        obtain ⟨k1, k2, k3, k4⟩ := S.A (β := β) c h3 h2 e1
        exact den_callK (c.fns j ff e3) c.room (c.gl h0) h2 hl.1 (List.mem_of_getElem? e4) h5.2 h5.1.symm k1 (by rw [k2]) (S.Kw c h4 e2) hl.2.2.1 e5 hl.2.2.2 k4
      · cases hv
    · cases hc
  | lc t vs it' tt x =>
    simp only [ckE] at hc
    split at hc
    · rename_i elt tg it ifs scope pos
      simp only [Bool.and_eq_true, Bool.not_eq_true'] at hc
      obtain ⟨⟨⟨⟨h0, h1⟩, h2⟩, h3⟩, h4⟩ := hc
      split at h1
      · rename_i t' tl ht
        simp only [Bool.and_eq_true, decide_eq_true_eq, beq_iff_eq, List.all_eq_true] at h1
        obtain ⟨⟨⟨⟨⟨g1, g2⟩, g3⟩, g4⟩, g5⟩, g6⟩ := h1
        have et : t' = t := by
          cases t' <;> cases t <;> simp_all [Tg.ix]
        subst et
        subst g3
        simp only [evE, Option.bind_eq_some_iff] at hv
        obtain ⟨z1, e1, hv⟩ := hv
        split at hv
        · rename_i hl
          simp only [Option.bind_eq_some_iff, Option.some.injEq] at hv
          obtain ⟨z2, e2, rfl⟩ := hv
          dsimp only
          rw [← c.N] at ht
          exact den_lc (tl := tl) (own := tl) (by rw [c.N]; exact c.nd) c.calm h0 (blkOk_by (by rw [c.N, c.sc]; exact g5)) ht (fun s H C cl fp p hp => stok_bl (g6 p hp)) (fun j hj => by simpa using g4 j hj) (S.I c h2 e1)
            (fun d e o e' hh => turn_ok S c h3 h4 hh) e2 (szB_le hl)
        · cases hv
      · cases h1
    · cases hc
  | push i p =>
    simp only [ckE] at hc
    split at hc
    · simp only [Bool.and_eq_true, beq_iff_eq, Bool.not_eq_true'] at hc
      obtain ⟨⟨⟨⟨rfl, h1⟩, h2⟩, h3⟩, h4⟩ := hc
      obtain ⟨q1, q2, q3, q4⟩ := c.slot h1
      simp only [evE, Option.bind_eq_some_iff] at hv
      obtain ⟨l0, e0, z1, e1, l, e2, hv⟩ := hv
      split at hv
      · rename_i hl
        cases hv
        try dsimp only
        exact den_append (idxOf_get q1) q2 q3 q4 h2 (by rw [beq_iff_eq]; exact h3) (by rw [e0]; rfl) (S.E c h4 e1) e2 (szB_le hl)
      · cases hv
    · cases hc
  | popA i p =>
    simp only [ckE] at hc
    split at hc
    · simp only [Bool.and_eq_true, beq_iff_eq, Bool.not_eq_true'] at hc
      obtain ⟨⟨⟨⟨rfl, h1⟩, h2⟩, h3⟩, h4⟩ := hc
      obtain ⟨q1, q2, q3, q4⟩ := c.slot h1
      simp only [evE, Option.bind_eq_some_iff] at hv
      obtain ⟨l0, e0, ⟨o1, d1, b1⟩, e1, l, e2, k, e3, hv⟩ := hv
      dsimp only at e2 e3 hv
      split at hv
      · rename_i hk0
        split at hv
        · rename_i hk1
          simp only [Option.bind_eq_some_iff] at hv
          obtain ⟨d, e4, hv⟩ := hv
          cases hv
          cases d1 with
          | int k' =>
            cases e3
            exact den_popA (idxOf_get q1) q2 q3 q4 h2 (by rw [beq_iff_eq]; exact h3) (by rw [e0]; rfl) (S.E c h4 e1) e2 hk0 hk1 e4
          | _ => cases e3
        · cases hv
      · cases hv
    · cases hc
  | ins i p y =>
    simp only [ckE] at hc
    split at hc
    · simp only [Bool.and_eq_true, beq_iff_eq, Bool.not_eq_true'] at hc
      obtain ⟨⟨⟨⟨⟨⟨rfl, h1⟩, h2⟩, h5⟩, h3⟩, h4⟩, h6⟩ := hc
      obtain ⟨q1, q2, q3, q4⟩ := c.slot h1
      simp only [evE, Option.bind_eq_some_iff] at hv
      obtain ⟨l0, e0, ⟨o1, d1, b1⟩, e1, ⟨o2, d2, b2⟩, e5, l, e2, k, e3, hv⟩ := hv
      dsimp only at e2 e3 e5 hv
      split at hv
      · rename_i hk0
        split at hv
        · rename_i hk1
          split at hv
          · rename_i hl
            cases hv
            cases d1 with
            | int k' =>
              cases e3
              exact den_ins (idxOf_get q1) q2 q3 q4 h2 h5 (by rw [beq_iff_eq]; exact h3) (by rw [e0]; rfl) (S.E c h4 e1) (S.E c h6 e5) e2 hk0 hk1 (szB_le hl)
            | _ => cases e3
          · cases hv
        · cases hv
      · cases hv
    · cases hc
  | pop i =>
    simp only [ckE] at hc
    split at hc
    · simp only [Bool.and_eq_true, beq_iff_eq] at hc
      obtain ⟨⟨rfl, h1⟩, h3⟩ := hc
      obtain ⟨q1, q2, q3, q4⟩ := c.slot h1
      simp only [evE, Option.bind_eq_some_iff, Option.some.injEq] at hv
      obtain ⟨l, e2, d, e3, rfl⟩ := hv
      dsimp only
      exact den_pop (idxOf_get q1) q2 q3 q4 (by rw [beq_iff_eq]; exact h3) e2 e3
    · cases hc
end
end Fz
set_option Elab.async false
set_option linter.all false
set_option maxRecDepth 100000
set_option maxHeartbeats 8000000
/-! Fz, part P: the other pieces, and all of them. -/
namespace Fz
open PySem PySem.Spec PyProof.Rows L2
section
variable {T : Tb} {k n : Nat}
theorem stars_cons {e : Expr} {es : List Expr} (h : noStars (e :: es) = true) : isStar e = false ∧ noStars es = true := by
  unfold noStars at h ⊢
  rw [List.all_cons, Bool.and_eq_true] at h
  exact ⟨by simpa using h.1, h.2⟩
theorem snd_A (S : Snd T k n) {sc : Scope} {X : Cx} {β : Option Addr} {e : List Expr} {r : List RE} {m : Nat} {a : En} {z : List D × En} (c : Cok T k sc X) (hc : ckA T (n + 1) sc e r = true) (hs : noStars e = true) (hv : evA T m r a = some z) :
    DenA X β e a z.1 z.2 ∧ z.1.length = e.length ∧ r.length = e.length ∧ (e = [] → z.1 = [] ∧ a = z.2) := by
  cases m with
  | zero => simp only [evA] at hv; cases hv
  | succ m =>
  cases e with
  | nil =>
    cases r with
    | nil =>
      simp only [evA, Option.some.injEq] at hv
      subst hv
      exact ⟨dena_nil, rfl, rfl, fun _ => ⟨rfl, rfl⟩⟩
    | cons y ys => simp only [ckA] at hc; cases hc
  | cons x xs =>
    cases r with
    | nil => simp only [ckA] at hc; cases hc
    | cons y ys =>
      simp only [ckA, Bool.and_eq_true] at hc
      simp only [evA, Option.bind_eq_some_iff, Option.some.injEq] at hv
      obtain ⟨z1, e1, z2, e2, rfl⟩ := hv
      obtain ⟨s1, s2⟩ := stars_cons hs
      obtain ⟨k1, k2, k3, k4⟩ := S.A (β := β) c hc.2 s2 e2
      exact ⟨dena_cons s1 (S.E c hc.1 e1) k1, by simp [k2], by simp [k3], fun h => by cases h⟩
theorem snd_K (S : Snd T k n) {sc : Scope} {X : Cx} {β : Option Addr} {e : List Keyword} {r : List RE} {m : Nat} {a : En} {z : List D × En} (c : Cok T k sc X) (hc : ckK T (n + 1) sc e r = true) (hv : evA T m r a = some z) : DenK X β e a z.1 z.2 := by
  cases m with
  | zero => simp only [evA] at hv; cases hv
  | succ m =>
  cases e with
  | nil =>
    cases r with
    | nil =>
      simp only [evA, Option.some.injEq] at hv
      subst hv
      exact denk_nil
    | cons y ys => simp only [ckK] at hc; cases hc
  | cons x xs =>
    obtain ⟨nm, x, kp⟩ := x
    cases r with
    | nil => simp only [ckK] at hc; cases hc
    | cons y ys =>
      simp only [ckK, Bool.and_eq_true] at hc
      simp only [evA, Option.bind_eq_some_iff, Option.some.injEq] at hv
      obtain ⟨z1, e1, z2, e2, rfl⟩ := hv
      exact denk_cons (S.E c hc.1 e1) (S.Kw c hc.2 e2)
theorem snd_O (S : Snd T k n) {sc : Scope} {X : Cx} {β : Option Addr} {e : Option Expr} {r : Option RE} {m : Nat} {a : En} {z : Option Int × En} (c : Cok T k sc X) (hc : ckO T (n + 1) sc e r = true) (hv : evO T m r a = some z) : DenO X β e a z.1 z.2 := by
  cases m with
  | zero => simp only [evO] at hv; cases hv
  | succ m =>
  cases e with
  | none =>
    cases r with
    | none =>
      simp only [evO, Option.some.injEq] at hv
      subst hv
      exact deno_none
    | some y => simp only [ckO] at hc; cases hc
  | some x =>
    cases r with
    | none => simp only [ckO] at hc; cases hc
    | some y =>
      simp only [ckO] at hc
      simp only [evO, Option.bind_eq_some_iff] at hv
      obtain ⟨⟨o, d, b⟩, e1, hv⟩ := hv
      dsimp only at hv
      split at hv
      · cases hv
        exact deno_some (S.E c hc e1)
      · cases hv
theorem snd_To (S : Snd T k n) {sc : Scope} {X : Cx} {β : Option Addr} {e : List Expr} {r : Option RT} {m : Nat} {a : En} {z : Bool × En} (c : Cok T k sc X) (hc : ckTo T (n + 1) sc e r = true) (hv : evTo T m r a = some z) : DenTs X β e a z.1 z.2 := by
  cases m with
  | zero => simp only [evTo] at hv; cases hv
  | succ m =>
  match e, r, hc with
  | [], none, hc =>
    simp only [evTo, Option.some.injEq] at hv
    subst hv
    exact dents_nil
  | [x], some y, hc =>
    simp only [ckTo] at hc
    simp only [evTo] at hv
    exact dents_one (S.Tt c hc hv)
  | [], some _, hc => exact absurd hc (show ¬ false = true from Bool.false_ne_true)
  | [_], none, hc => exact absurd hc (show ¬ false = true from Bool.false_ne_true)
  | _ :: _ :: _, none, hc => exact absurd hc (show ¬ false = true from Bool.false_ne_true)
  | _ :: _ :: _, some _, hc => exact absurd hc (show ¬ false = true from Bool.false_ne_true)
/-- and, or, by what is known of the operands -/
theorem snd_W (S : Snd T k n) {sc : Scope} {X : Cx} {β : Option Addr} {e : Expr} {r : RT} {m : Nat} {a : En} {z : Bool × En} (c : Cok T k sc X) (hc : ckT T (n + 1) sc e r = true) (hv : evT T m r a = some z) (hb : ∃ op es pos, e = .BoolOp op es pos) : DenW X β e a z.1 z.2 := by
  obtain ⟨op0, es0, pos0, rfl⟩ := hb
  cases m with
  | zero => simp only [evT] at hv; cases hv
  | succ m =>
  cases r with
  | bop op' p q =>
    simp only [ckT] at hc
    split at hc
    · rename_i x y he
      cases he
      simp only [Bool.and_eq_true, decide_eq_true_eq] at hc
      obtain ⟨⟨rfl, h1⟩, h2⟩ := hc
      simp only [evT, Option.bind_eq_some_iff] at hv
      obtain ⟨z1, e1, hv⟩ := hv
      split at hv
      · rename_i hs
        cases hv
        exact denw_short (S.Tt c h1 e1) (stop_and hs)
      · rename_i hs
        exact denw_on (S.Tt c h1 e1) (stop_on hs) (dent_bool1 (S.Tt c h2 hv))
    · rename_i x y w rest pos he
      cases he
      simp only [Bool.and_eq_true, decide_eq_true_eq] at hc
      obtain ⟨⟨rfl, h1⟩, h2⟩ := hc
      simp only [evT, Option.bind_eq_some_iff] at hv
      obtain ⟨z1, e1, hv⟩ := hv
      split at hv
      · rename_i hs
        cases hv
        exact denw_short (S.Tt c h1 e1) (stop_and hs)
      · rename_i hs
        exact denw_on (S.Tt c h1 e1) (stop_on hs) (S.Tw c h2 hv ⟨_, _, _, rfl⟩)
    · cases hc
  | nt p => simp only [ckT] at hc; cases hc
  | cmp op' p q => simp only [ckT] at hc; cases hc
  | chn op1 op2 p q c3 => simp only [ckT] at hc; cases hc
  | cmpo op' i q =>
    simp only [ckT] at hc
    cases hc
  | val p => simp only [ckT, plainT, Bool.false_and] at hc; cases hc
  | nm i => simp only [ckT] at hc; cases hc
theorem snd_T (S : Snd T k n) {sc : Scope} {X : Cx} {β : Option Addr} {e : Expr} {r : RT} {m : Nat} {a : En} {z : Bool × En} (c : Cok T k sc X) (hc : ckT T (n + 1) sc e r = true) (hv : evT T m r a = some z) : DenT X β e a z.1 z.2 := by
  have hc0 := hc
  have hv0 := hv
  cases m with
  | zero => simp only [evT] at hv; cases hv
  | succ m =>
  cases r with
  | nt p =>
    simp only [ckT] at hc
    split at hc
    · simp only [evT, Option.bind_eq_some_iff, Option.some.injEq] at hv
      obtain ⟨z1, e1, rfl⟩ := hv
      exact dent_not (S.Tt c hc e1)
    · cases hc
  | bop op' p q =>
    refine (snd_W S c hc0 hv0 ?_).t
    simp only [ckT] at hc
    split at hc
    · exact ⟨_, _, _, rfl⟩
    · exact ⟨_, _, _, rfl⟩
    · cases hc
  | cmp op' p q =>
    simp only [ckT] at hc
    split at hc
    · simp only [Bool.and_eq_true, decide_eq_true_eq, Bool.not_eq_true'] at hc
      obtain ⟨⟨⟨rfl, h0⟩, h1⟩, h2⟩ := hc
      simp only [evT, Option.bind_eq_some_iff, Option.some.injEq] at hv
      obtain ⟨z1, e1, z2, e2, z3, e3, rfl⟩ := hv
      obtain ⟨rr, ho, hr⟩ := cmp_ok (X := X) (β := β) (b := z2.2.2) (o1 := z1.1) c.room e3
      exact dent_cmp h0 ho (S.E c h1 e1) (S.E c h2 e2) hr
    · cases hc
  | chn op1 op2 p q c3 =>
    simp only [ckT] at hc
    split at hc
    · simp only [Bool.and_eq_true, decide_eq_true_eq, Bool.not_eq_true'] at hc
      obtain ⟨⟨⟨⟨⟨rfl, rfl⟩, h0⟩, h1⟩, h2⟩, h3⟩ := hc
      simp only [evT, Option.bind_eq_some_iff] at hv
      obtain ⟨z1, e1, z2, e2, k, e3, hv⟩ := hv
      obtain ⟨rr, ho, hr⟩ := cmp_ok (X := X) (β := β) (b := z2.2.2) (o1 := z1.1) c.room e3
      cases k with
      | false =>
        rw [if_neg (by simp)] at hv
        cases hv
        dsimp only
        exact dent_chain (k := false) (k2 := false) (o3 := false) (d3 := .none) (d0 := z2.2.2) h0 ho op_any (S.E c h1 e1) (S.E c h2 e2) hr (fun h => by cases h)
      | true =>
        rw [if_pos rfl] at hv
        simp only [Option.bind_eq_some_iff, Option.some.injEq] at hv
        obtain ⟨z3, e4, k2, e5, rfl⟩ := hv
        obtain ⟨rr2, ho2, hr2⟩ := cmp_ok (X := X) (β := β) (b := z3.2.2) (o1 := false) c.room e5
        dsimp only
        exact dent_chain (k := true) h0 ho ho2 (S.E c h1 e1) (S.E c h2 e2) hr (fun _ => ⟨S.E c h3 e4, hr2⟩)
    · cases hc
  | cmpo op' i q =>
    simp only [ckT] at hc
    split at hc
    · simp only [Bool.and_eq_true, decide_eq_true_eq, Bool.not_eq_true', beq_iff_eq] at hc
      obtain ⟨⟨⟨rfl, h0⟩, h1⟩, h2⟩ := hc
      obtain ⟨q1, q2, q3, q4⟩ := c.slot h1
      simp only [evT, Option.bind_eq_some_iff, Option.some.injEq] at hv
      obtain ⟨l0, e0, z2, e2, l, e1, z3, e3, rfl⟩ := hv
      obtain ⟨rr, ho, hr⟩ := cmp_ok (X := X) (β := β) (b := z2.2.2) (o1 := true) c.room e3
      exact dent_cmpO h0 ho (idxOf_get q1) q2 q3 q4 e0 (S.E c h2 e2) e1 hr
    · cases hc
  | val p =>
    simp only [ckT, Bool.and_eq_true] at hc
    simp only [evT, Option.bind_eq_some_iff, Option.some.injEq] at hv
    obtain ⟨z1, e1, z2, e2, rfl⟩ := hv
    exact dent_val hc.1 (S.E c hc.2 e1) e2
  | nm i =>
    simp only [ckT] at hc
    split at hc
    · rw [beq_iff_eq] at hc
      obtain ⟨q1, q2, q3, q4⟩ := c.slot hc
      simp only [evT] at hv
      split at hv
      · rename_i l hl
        cases hv
        exact dent_own (idxOf_get q1) q2 q3 q4 hl
      · simp only [Option.bind_eq_some_iff, Option.some.injEq] at hv
        obtain ⟨z1, e1, z2, e2, rfl⟩ := hv
        exact dent_val rfl (den_name (idxOf_get q1) q2 q3 q4 e1) e2
    · cases hc
theorem fnb {sc : Scope} {X : Cx} {f x : Str} (c : Cok T k sc X) (h : fnBlt sc f x = true) : Gl X f ∧ X.mg f = none ∧ f = x := by
  unfold fnBlt at h
  rw [Bool.and_eq_true, beq_iff_eq] at h
  exact ⟨(c.bltG h.1).1, (c.bltG h.1).2, h.2⟩
theorem snd_I (S : Snd T k n) {sc : Scope} {X : Cx} {β : Option Addr} {tg e : Expr} {r : RI} {m : Nat} {a : En} {z : List D × En} (c : Cok T k sc X) (hc : ckI T (n + 1) sc tg e r = true) (hv : evI T m r a = some z) : DenI X β tg e a z.1 z.2 := by
  cases m with
  | zero => simp only [evI] at hv; cases hv
  | succ m =>
  cases r with
  | seq p =>
    simp only [ckI] at hc
    simp only [evI, Option.bind_eq_some_iff, Option.some.injEq] at hv
    obtain ⟨⟨o, d, b⟩, e1, l, e2, rfl⟩ := hv
    have h := S.E (β := β) c hc e1
    dsimp only at e2 h ⊢
    unfold itemsD at e2
    split at e2
    · cases e2; exact deni_seq h rfl
    · cases e2; exact deni_seq h rfl
    · cases e2; exact deni_str h
    · cases e2
  | rng rs =>
    simp only [ckI] at hc
    split at hc
    · rename_i f p args pos
      simp only [Bool.and_eq_true] at hc
      obtain ⟨⟨h0, h1⟩, h2⟩ := hc
      obtain ⟨g1, g2, rfl⟩ := fnb c h0
      simp only [evI, Option.bind_eq_some_iff, Option.some.injEq] at hv
      obtain ⟨⟨ds, b⟩, e1, l, e2, rfl⟩ := hv
      obtain ⟨k1, k2, k3, k4⟩ := S.A (β := β) c h2 h1 e1
      dsimp only at e2 k1 k2 ⊢
      unfold rngL at e2
      split at e2
      · rename_i i
        split at e2
        · rename_i hb
          cases e2
          obtain ⟨x, rfl⟩ : ∃ x, args = [x] := by
            match args, k2 with
            | [x], _ => exact ⟨x, rfl⟩
          exact deni_rng1 (stars_cons h1).1 g1 g2 k1 hb
        · cases e2
      · rename_i i j
        split at e2
        · rename_i hb
          cases e2
          rw [Bool.and_eq_true] at hb
          obtain ⟨x, y, rfl⟩ : ∃ x y, args = [x, y] := by
            match args, k2 with
            | [x, y], _ => exact ⟨x, y, rfl⟩
          exact deni_rng2 (stars_cons h1).1 (stars_cons (stars_cons h1).2).1 g1 g2 k1 hb.1 hb.2
        · cases e2
      · rename_i i j cc
        split at e2
        · rename_i hb
          cases e2
          simp only [Bool.and_eq_true, beq_iff_eq] at hb
          obtain ⟨⟨hb1, hb2⟩, rfl⟩ := hb
          obtain ⟨x, y, w, rfl⟩ : ∃ x y w, args = [x, y, w] := by
            match args, k2 with
            | [x, y, w], _ => exact ⟨x, y, w, rfl⟩
          exact deni_rng3 h1 g1 g2 k1 hb1 hb2
        · cases e2
      · cases e2
    · cases hc
  | enu rs =>
    simp only [ckI] at hc
    split at hc
    · rename_i f p args pos elts kk tpos
      simp only [Bool.and_eq_true] at hc
      obtain ⟨⟨h0, h1⟩, h2⟩ := hc
      obtain ⟨g1, g2, rfl⟩ := fnb c h0
      simp only [evI, Option.bind_eq_some_iff, Option.some.injEq] at hv
      obtain ⟨⟨ds, b⟩, e1, l, e2, rfl⟩ := hv
      obtain ⟨k1, k2, k3, k4⟩ := S.A (β := β) c h2 h1 e1
      dsimp only at e2 k1 k2 ⊢
      unfold enuL at e2
      split at e2
      · rename_i d
        cases hd : seqD d with
        | none => rw [hd] at e2; cases e2
        | some q =>
          rw [hd] at e2
          cases e2
          obtain ⟨x, rfl⟩ : ∃ x, args = [x] := by
            match args, k2 with
            | [x], _ => exact ⟨x, rfl⟩
          exact deni_enum1 (stars_cons h1).1 g1 g2 k1 hd
      · rename_i d cc
        split at e2
        · rename_i hb
          cases hd : seqD d with
          | none => rw [hd] at e2; cases e2
          | some q =>
            rw [hd] at e2
            cases e2
            obtain ⟨x, y, rfl⟩ : ∃ x y, args = [x, y] := by
              match args, k2 with
              | [x, y], _ => exact ⟨x, y, rfl⟩
            exact deni_enum2 (stars_cons h1).1 (stars_cons (stars_cons h1).2).1 g1 g2 k1 hd hb
        · cases e2
      · cases e2
    · cases hc
  | zip p q =>
    simp only [ckI] at hc
    split at hc
    · simp only [Bool.and_eq_true, Bool.not_eq_true'] at hc
      obtain ⟨⟨⟨⟨h0, h1⟩, h2⟩, h3⟩, h4⟩ := hc
      obtain ⟨g1, g2, rfl⟩ := fnb c h0
      simp only [evI, Option.bind_eq_some_iff, Option.some.injEq] at hv
      obtain ⟨z1, e1, z2, e2, l1, e3, l2, e4, rfl⟩ := hv
      exact deni_zip h1 h2 g1 g2 (dena_cons h1 (S.E c h3 e1) (dena_cons h2 (S.E c h4 e2) dena_nil)) e3 e4
    · cases hc
  | ez p q =>
    simp only [ckI] at hc
    split at hc
    · simp only [Bool.and_eq_true, Bool.not_eq_true'] at hc
      obtain ⟨⟨⟨⟨⟨h0, h00⟩, h1⟩, h2⟩, h3⟩, h4⟩ := hc
      obtain ⟨g1, g2, rfl⟩ := fnb c h0
      obtain ⟨g3, g4, rfl⟩ := fnb c h00
      simp only [evI, Option.bind_eq_some_iff, Option.some.injEq] at hv
      obtain ⟨z1, e1, z2, e2, l1, e3, l2, e4, rfl⟩ := hv
      exact deni_ez h1 h2 g1 g2 g3 g4 (dena_cons h1 (S.E c h3 e1) (dena_cons h2 (S.E c h4 e2) dena_nil)) e3 e4
    · cases hc
  | rrg p =>
    simp only [ckI] at hc
    split at hc
    · simp only [Bool.and_eq_true, Bool.not_eq_true'] at hc
      obtain ⟨⟨⟨h0, h2⟩, h1⟩, h3⟩ := hc
      obtain ⟨g1, g2, rfl⟩ := fnb c h0
      obtain ⟨g3, g4, rfl⟩ := fnb c h2
      simp only [evI, Option.bind_eq_some_iff, Option.some.injEq, Prod.mk.injEq] at hv
      obtain ⟨z1, e1, l1, e3, rfl, rfl⟩ := hv
      exact deni_rrg h1 g1 g2 g3 g4 (S.E c h3 e1) e3
    · cases hc
  | rev p =>
    simp only [ckI] at hc
    split at hc
    · simp only [Bool.and_eq_true, Bool.not_eq_true'] at hc
      obtain ⟨⟨h0, h1⟩, h3⟩ := hc
      obtain ⟨g1, g2, rfl⟩ := fnb c h0
      simp only [evI, Option.bind_eq_some_iff, Option.some.injEq] at hv
      obtain ⟨z1, e1, l1, e3, rfl⟩ := hv
      exact deni_rev h1 g1 g2 (S.E c h3 e1) e3
    · cases hc
theorem snd_all (T : Tb) (k : Nat) : ∀ n, Snd T k n
  | 0 => snd_zero
  | n + 1 => by
    have S := snd_all T k n
    exact ⟨fun c h v => snd_E S c h v, fun c h s v => snd_A S c h s v, fun c h v => snd_K S c h v, fun c h v => snd_O S c h v, fun c h v => snd_To S c h v, fun c h v => snd_T S c h v, fun c h v b => snd_W S c h v b, fun c h v => snd_I S c h v⟩
end
end Fz
set_option Elab.async false
set_option linter.all false
set_option maxRecDepth 100000
set_option maxHeartbeats 8000000
/-! Fz, part Q: statements, defs. -/
namespace Fz
open PySem PySem.Spec PyProof.Rows L2

def swNames (sc : Scope) (ts : List Expr) : List Str := ts.filterMap fun t => match t with
  | .Name x q => if sc.names.lookup x == some .local && q.line == (ts.head?.map (·.pos.line)).getD 0 then some x else none
  | _ => none
/-- what a pair of tuples is: none of the two ways | stored in order | from the right -/
def swF (sc : Scope) (ts vs : List Expr) : Option (Option (List Str)) :=
  if (!(ts.length == 2 || ts.length == 3) || vs.length != ts.length) = true then some none
  else if vs.any isStar = true then some none
  else if ((swNames sc ts).length != ts.length || (swNames sc ts).eraseDups.length != (swNames sc ts).length) = true then some none
  else if vs.all (foldedForSure 8) = true then some none
  else if vs.all (constantsAlone 8) = true then none
  else some (some (swNames sc ts))
theorem sw_tab {env : Env} {ts vs : List Expr} {k k2 : Nat} {p p2 : Pos} {r : Option (List Str)} (hk : env.scope.kind = .function) (h : swF env.scope ts vs = some r) : swappedStores [.Tuple ts k p] (.Tuple vs k2 p2) env = pure r := by
  have hb : env.blockKind = .function := by unfold Env.blockKind; rw [hk]; rfl
  unfold swappedStores
  unfold swF at h
  simp only [hb, bne_self_eq_false, Bool.or_false]
  have es : ∀ f : Expr → Bool, (∀ e, f e = isStar e) → vs.any f = vs.any isStar := fun f hf => by rw [show f = isStar from funext hf]
  have en : ∀ f : Expr → Option Str, (∀ t, f t = (match t with | .Name x q => if env.scope.names.lookup x == some .local && q.line == (ts.head?.map (·.pos.line)).getD 0 then some x else none | _ => none)) → ts.filterMap f = swNames env.scope ts := fun f hf => by rw [funext hf]; rfl
  split at h
  · rename_i c1
    cases h
    rw [if_pos c1]
  · rename_i c1
    rw [if_neg c1, es _ (fun e => by cases e <;> rfl)]
    split at h
    · rename_i c2
      cases h
      rw [if_pos c2]
    · rename_i c2
      rw [if_neg c2]
      split at h
      · rename_i c3
        cases h
        rw [en _ (fun e => by cases e <;> rfl), if_pos c3]
      · rename_i c3
        rw [en _ (fun e => by cases e <;> rfl), if_neg c3]
        split at h
        · rename_i c4
          cases h
          rw [if_pos c4]
        · rename_i c4
          rw [if_neg c4]
          split at h
          · cases h
          · rename_i c5
            cases h
            rw [if_neg c5]

section
variable {X : Cx} {β : Option Addr}
theorem swaps_tup {e : Expr} {ts : List Expr} {q : Nat} {p : Pos} {l : Nat} {env : Env} : swapsWithSole [.Tuple ts q p] e l env = pure false := by
  show swapsWith e (some (.Tuple ts q p)) l env = pure false
  cases e <;> rfl
/-- x[i], x[j] = a pair -/
theorem dens_put2 {x y : Str} {px pp py pq pt pos p2 : Pos} {ei ej : Expr} {vs : List Expr} {kt k2 : Nat} {a b c c2 : En} {o o2 o3 : Bool} {d1 d2 : D} {k m : Int} {i j j2 : Nat} {l l2 : List D} (hc : X.calm = true)
    (hN : idxOf X.N x = some i) (hv : Vis X.env.scope x) (hd : (x == ("__debug__" : Str)) = false) (hcd : (x == ("__classdict__" : Str)) = false)
    (hN2 : idxOf X.N y = some i) (hv2 : Vis X.env.scope y) (hd2 : (y == ("__debug__" : Str)) = false) (hcd2 : (y == ("__classdict__" : Str)) = false)
    (hsl : isSlice ei = false) (hsl2 : isSlice ej = false) (hw : swappedStores [.Tuple [.Subscript (.Name x px) ei pp, .Subscript (.Name y py) ej pq] kt pt] (.Tuple vs k2 p2) X.env = pure none)
    (h : Den X β (.Tuple vs k2 p2) a o (.tuple [d1, d2]) b) (h1 : Den X β ei b o2 (.int k) c) (hb : (slotL b i).isSome = true) (hl : slotL c i = some l) (hj : ixN l.length k = some j)
    (h2 : Den X β ej (putL c i (l.set j d1)) o3 (.int m) c2) (hl2 : slotL c2 i = some l2) (hj2 : ixN l2.length m = some j2) :
    DenS X β (.Assign [.Tuple [.Subscript (.Name x px) ei pp, .Subscript (.Name y py) ej pq] kt pt] (.Tuple vs k2 p2) pos) a (.nx (putL c2 i (l2.set j2 d2))) := fun G H ρ σ Dn r q => by
  refine ⟨_, ps_asg pe_w (pg_tup (n := 2) hc (pgs_cons (pg_sub pe_w pe_w set_list (put_ok hsl)) (pgs_cons (pg_sub pe_w pe_w set_list (put_ok hsl2)) pgs_nil)) rfl rfl) swaps_tup hw rfl, h.fz G H ρ σ _ r fun v G1 H1 ρ1 f1 r1 x1 => ?_⟩
  cases (show Rp X.K G1 v (.tuple [d1, d2]) from x1) with
  | tup ht hs =>
    rename_i p0 xs
    cases hs with
    | cons y1 hs =>
      cases hs with
      | cons y2 hs =>
        cases hs
        refine ⟨_, _, rfl, Evl.ex_t r1.ex ht, rfl, _, _, rfl, ?_⟩
        obtain ⟨l0, hb⟩ := Option.isSome_iff_exists.mp hb
        obtain ⟨p, us, p1, p2, p3, p4⟩ := r1.ownAt hb
        refine peek (idxOf_get hN) hv hd hcd p1 (h1.fz G1 H1 ρ1 σ _ r1 fun y G2 H2 ρ2 f2 r2 x2 => ?_)
        cases (show Rp X.K G2 y (.int k) from x2)
        obtain ⟨p', vs', q1, q2, q3, q4⟩ := r2.ownAt hl
        rw [p1] at q1
        cases q1
        obtain ⟨r3, f3⟩ := r2.put hl p1 (q3.set j (Rp.mono f2.ex y1))
        refine ⟨p, vs', k, j, rfl, rfl, q2, by rw [q3.length]; exact hj, ?_⟩
        refine ⟨_, _, rfl, ?_⟩
        refine peek (idxOf_get hN2) hv2 hd2 hcd2 p1 (h2.fz G2 _ ρ2 σ _ r3 fun y G4 H4 ρ4 f4 r4 x4 => ?_)
        cases (show Rp X.K G4 y (.int m) from x4)
        obtain ⟨p', vs2, s1, s2, s3, s4⟩ := r4.ownAt hl2
        rw [p1] at s1
        cases s1
        obtain ⟨r5, f5⟩ := r4.put hl2 p1 (s3.set j2 (Rp.mono f4.ex (Rp.mono f2.ex y2)))
        refine ⟨p, vs2, m, j2, rfl, rfl, s2, by rw [s3.length]; exact hj2, rfl, ?_⟩
        exact q G4 _ ρ4 σ ((((f1.trans f2).trans f3).trans f4).trans f5) r5
theorem dens_par2 {x y : Str} {e1 e2 : Expr} {px py pt pt2 pos : Pos} {kt k2 : Nat} {a b c : En} {ds : List D} {i j : Nat} (hc : X.calm = true) (nd : X.N.Nodup) (h1 : idxOf X.N x = some i) (h2 : idxOf X.N y = some j) (hij : i ≠ j)
    (hx : X.env.scope.names.lookup x = some .local) (hy : X.env.scope.names.lookup y = some .local) (hw : swappedStores [.Tuple [.Name x px, .Name y py] kt pt] (.Tuple [e1, e2] k2 pt2) X.env = pure (some [x, y]))
    (ha : DenA X β [e1, e2] a ds b) (hs : stAll b [i, j] ds = some c) : DenS X β (.Assign [.Tuple [.Name x px, .Name y py] kt pt] (.Tuple [e1, e2] k2 pt2) pos) a (.nx c) := fun G H ρ σ Dn r q => by
  refine ⟨_, ps_par hc nd (idxOf_get h1) (idxOf_get h2) hij hx hy pa_w hw rfl, ha G H ρ σ _ r fun vs G1 H1 ρ1 f1 r1 x1 => ?_⟩
  match ds, hs, x1 with
  | [d1, d2], hs, .cons (v := v) x1 (.cons (v := w) x2 .nil) =>
    simp only [stAll] at hs
    split at hs
    · rename_i hi
      split at hs
      · rename_i hj
        cases hs
        exact ⟨v, w, rfl, q G1 H1 ρ1 _ f1 ((r1.storeV hi x1).storeV hj x2)⟩
      · cases hs
    · cases hs
  | [_], hs, _ => simp [stAll] at hs
  | _ :: _ :: _ :: _, hs, _ => simp [stAll] at hs
theorem dens_aug {x : Str} {px pos : Pos} {op : Operator} {e : Expr} {a b : En} {o s : Bool} {i : Nat} {k m : Int} (nd : X.N.Nodup) (hN : idxOf X.N x = some i) (hs : StOk X x) (hop : (match op with | .Add => !s | .Sub => s | _ => false) = true) (hk : valI a i = some k) (h : Den X β e a o (.int m) b) (hi : i < b.sl.length) :
    DenS X β (.AugAssign (.Name x px) op e pos) a (.nx (setS b i false (.int (if s then k - m else k + m)))) := fun G H ρ σ Dn r q => by
  have hsl : a.sl[i]? = some (.val (.int k)) := by
    unfold valI at hk
    split at hk
    · rename_i h
      cases hk
      exact h
    · cases hk
  obtain ⟨v, hv, hr⟩ := r.sl i _ hsl
  cases hr
  cases op with
  | Add =>
    cases s with
    | true => cases hop
    | false =>
      refine ⟨_, ps_aug nd (idxOf_get hN) hs.1 pe_w ip_add hs.2, ⟨_, hv, h.fz G H ρ σ _ r fun v G1 H1 ρ1 f1 r1 x1 => ?_⟩⟩
      cases (show Rp X.K G1 v (.int m) from x1)
      exact ⟨k, m, rfl, rfl, q G1 H1 ρ1 _ f1 (r1.storeV hi (.int _))⟩
  | Sub =>
    cases s with
    | false => cases hop
    | true =>
      refine ⟨_, ps_aug nd (idxOf_get hN) hs.1 pe_w ip_sub hs.2, ⟨_, hv, h.fz G H ρ σ _ r fun v G1 H1 ρ1 f1 r1 x1 => ?_⟩⟩
      cases (show Rp X.K G1 v (.int m) from x1)
      exact ⟨k, m, rfl, rfl, q G1 H1 ρ1 _ f1 (r1.storeV hi (.int _))⟩
  | _ => cases hop
theorem dens_pro {x y : Str} {e1 e2 : Expr} {px py pt pt2 pos : Pos} {kt k2 : Nat} {a b c : En} {o1 o2 : Bool} {d1 d2 : D} {i j : Nat} (hc : X.calm = true) (nd : X.N.Nodup) (h1 : idxOf X.N x = some i) (h2 : idxOf X.N y = some j) (hij : i ≠ j)
    (hx : X.env.scope.names.lookup x = some .local) (hy : X.env.scope.names.lookup y = some .local) (hw : swappedStores [.Tuple [.Name x px, .Name y py] kt pt] (.Tuple [e1, e2] k2 pt2) X.env = pure (some [x, y]))
    (s1 : isStar e1 = false) (s2 : isStar e2 = false) (g1 : Den X β e1 a o1 d1 b) (g2 : Den X β e2 b o2 d2 c) (hi : i < c.sl.length) (hj : j < c.sl.length) : DenS X β (.Assign [.Tuple [.Name x px, .Name y py] kt pt] (.Tuple [e1, e2] k2 pt2) pos) a (.nx (setS (setS c i false d1) j o2 d2)) := fun G H ρ σ Dn r q => by
  refine ⟨_, ps_par hc nd (idxOf_get h1) (idxOf_get h2) hij hx hy (pa_cons pe_w (pa_cons pe_w pa_nil (star_ok s2)) (star_ok s1)) hw rfl, g1.fz G H ρ σ _ r fun v G1 H1 ρ1 f1 r1 x1 => g2 G1 H1 ρ1 σ _ r1 fun w G2 H2 ρ2 f2 r2 x2 => ?_⟩
  obtain ⟨ρ3, r3, f3⟩ := (r2.storeV hi (Rp.mono f2.ex x1)).store (i := j) (by simpa [setS] using hj) x2 f2
  exact ⟨v, w, rfl, q G2 H2 ρ3 _ (f1.trans f3) r3⟩
theorem dens_par3 {x y u : Str} {e1 e2 e3 : Expr} {px py pu pt pt2 pos : Pos} {kt k2 : Nat} {a b c : En} {ds : List D} {i j l : Nat} (hc : X.calm = true) (nd : X.N.Nodup) (h1 : idxOf X.N x = some i) (h2 : idxOf X.N y = some j) (h3 : idxOf X.N u = some l) (hij : i ≠ j) (hil : i ≠ l) (hjl : j ≠ l)
    (hx : X.env.scope.names.lookup x = some .local) (hy : X.env.scope.names.lookup y = some .local) (hu : X.env.scope.names.lookup u = some .local)
    (hw : swappedStores [.Tuple [.Name x px, .Name y py, .Name u pu] kt pt] (.Tuple [e1, e2, e3] k2 pt2) X.env = pure (some [x, y, u]))
    (ha : DenA X β [e1, e2, e3] a ds b) (hs : stAll b [i, j, l] ds = some c) : DenS X β (.Assign [.Tuple [.Name x px, .Name y py, .Name u pu] kt pt] (.Tuple [e1, e2, e3] k2 pt2) pos) a (.nx c) := fun G H ρ σ Dn r q => by
  refine ⟨_, ps_par3 hc nd (idxOf_get h1) (idxOf_get h2) (idxOf_get h3) hij hil hjl hx hy hu pa_w hw rfl, ha G H ρ σ _ r fun vs G1 H1 ρ1 f1 r1 x1 => ?_⟩
  match ds, hs, x1 with
  | [d1, d2, d3], hs, .cons (v := v) x1 (.cons (v := w) x2 (.cons (v := v3) x3 .nil)) =>
    simp only [stAll] at hs
    split at hs
    · rename_i hi
      split at hs
      · rename_i hj
        split at hs
        · rename_i hl
          cases hs
          exact ⟨v, w, v3, rfl, q G1 H1 ρ1 _ f1 (((r1.storeV hi x1).storeV hj x2).storeV hl x3)⟩
        · cases hs
      · cases hs
    · cases hs
  | [_], hs, _ => simp [stAll] at hs
  | [_, _], hs, _ => simp [stAll] at hs
  | _ :: _ :: _ :: _ :: _, hs, _ => simp [stAll] at hs
end

/-! ### the check of statements -/
def locB (sc : Scope) (x : Str) : Bool := match sc.names.lookup x with
  | some .local => true
  | _ => false
theorem locB_ok {sc : Scope} {x : Str} (h : locB sc x = true) : sc.names.lookup x = some .local := by
  unfold locB at h
  split at h
  · assumption
  · cases h
def tgEq : Tg → Tg → Bool
  | .one i, .one j => i == j
  | .tup l, .tup m => l == m
  | .pr i l, .pr j m => (i == j) && (l == m)
  | _, _ => false
theorem tgEq_ok {t u : Tg} (h : tgEq t u = true) : t = u := by
  cases t <;> cases u <;> simp_all [tgEq]
def ckTg (T : Tb) (sc : Scope) (tg : Expr) (t : Tg) : Bool := match tgOf T.N tg with
  | some (t', tl) => tgEq t' t && tl.all fun p => stoOk sc p.1
  | none => false
def parN (T : Tb) (sc : Scope) (x : Str) (i : Nat) : Bool := (idxOf T.N x == some i) && locB sc x
section
variable (T : Tb)
mutual
def ckS : Nat → Scope → Stmt → RS → Bool
  | 0, _, _, _ => false
  | n + 1, sc, st, r => match r with
    | .set i a => match st with
      | .Assign [.Name x _] e _ => (idxOf T.N x == some i) && stoOk sc x && ckE T n sc e a
      | _ => false
    | .tgt t a => match st with
      | .Assign [.Tuple ts k p] e _ => ckTg T sc (.Tuple ts k p) t && (match e with
        | .Tuple vs _ _ => swF sc ts vs == some none
        | _ => true) && ckE T n sc e a
      | _ => false
    | .par is es => match st with
      | .Assign [.Tuple [.Name x px, .Name y py] _ _] (.Tuple [e1, e2] _ _) _ => (match is with
        | [i, j] => parN T sc x i && parN T sc y j && (i != j)
        | _ => false) && (swF sc [.Name x px, .Name y py] [e1, e2] == some (some [x, y])) && noStars [e1, e2] && ckA T n sc [e1, e2] es
      | .Assign [.Tuple [.Name x px, .Name y py, .Name u pu] _ _] (.Tuple [e1, e2, e3] _ _) _ => (match is with
        | [i, j, l] => parN T sc x i && parN T sc y j && parN T sc u l && (i != j) && (i != l) && (j != l)
        | _ => false) && (swF sc [.Name x px, .Name y py, .Name u pu] [e1, e2, e3] == some (some [x, y, u])) && noStars [e1, e2, e3] && ckA T n sc [e1, e2, e3] es
      | _ => false
    | .put i b a => match st with
      | .Assign [.Subscript (.Name x _) ei _] e _ => (slotN T sc x == some i) && !isSlice ei && !isComp e && ckE T n sc ei b && ckE T n sc e a
      | _ => false
    | .put2 i b1 b2 a => match st with
      | .Assign [.Tuple [.Subscript (.Name x px) ei pp, .Subscript (.Name y py) ej pq] _ _] (.Tuple vs k2 p2) _ => (slotN T sc x == some i) && (slotN T sc y == some i) && !isSlice ei && !isSlice ej && (swF sc [.Subscript (.Name x px) ei pp, .Subscript (.Name y py) ej pq] vs == some none) && ckE T n sc ei b1 && ckE T n sc ej b2 && ckE T n sc (.Tuple vs k2 p2) a
      | _ => false
    | .ret a => match st with
      | .Return (some e) _ => ckE T n sc e a
      | _ => false
    | .retn => match st with
      | .Return none _ => true
      | _ => false
    | .ife t A B => match st with
      | .If c p q _ => ckT T n sc c t && ckSs n sc p A && ckSs n sc q B
      | _ => false
    | .whl t b => match st with
      | .While c body [] _ => ckT T n sc c t && ckSs n sc body b
      | _ => false
    | .for t it b => match st with
      | .For tg iter body [] _ => ckTg T sc tg t && !isSet iter && ckI T n sc tg iter it && ckSs n sc body b
      | _ => false
    | .ex a => match st with
      | .Expr e _ => !isComp e && ckE T n sc e a
      | _ => false
    | .pass => match st with
      | .Pass _ => true
      | _ => false
    | .brk => match st with
      | .Break _ => true
      | _ => false
    | .cnt => match st with
      | .Continue _ => true
      | _ => false
    | .never => true
    | .aug s i a => match st with
      | .AugAssign (.Name x _) op e _ => (idxOf T.N x == some i) && stoOk sc x && (match op with | .Add => !s | .Sub => s | _ => false) && ckE T n sc e a
      | _ => false
    | .pro i j p q => match st with
      | .Assign [.Tuple [.Name x px, .Name y py] _ _] (.Tuple [e1, e2] _ _) _ => parN T sc x i && parN T sc y j && (i != j) && (swF sc [.Name x px, .Name y py] [e1, e2] == some (some [x, y])) && noStars [e1, e2] && ckE T n sc e1 p && ckE T n sc e2 q
      | _ => false
def ckSs : Nat → Scope → List Stmt → List RS → Bool
  | 0, _, _, _ => false
  | _ + 1, _, [], [] => true
  | n + 1, sc, s :: ss, r :: rs => ckS n sc s r && ckSs n sc ss rs
  | _ + 1, _, _, _ => false
end
end
/-- a def's own context -/
structure Cos (T : Tb) (k : Nat) (sc : Scope) (X : Cx) : Prop where
  ok : Cok T k sc X
  kind : sc.kind = .function
  fn : ∀ x, X.fn x = true
  po : PassesOwn (model X.prog X.w) X.A X.env X.xe
section
variable {T : Tb} {k : Nat}
theorem Cos.sto {sc : Scope} {X : Cx} (c : Cos T k sc X) {x : Str} (h : stoOk sc x = true) : StOk X x := by
  unfold stoOk at h
  split at h
  · exact ⟨.inl (by rw [c.ok.sc]; assumption), .inl (c.fn x)⟩
  · exact ⟨.inr (by rw [c.ok.sc]; assumption), .inl (c.fn x)⟩
  · cases h
theorem Cos.tg {sc : Scope} {X : Cx} (c : Cos T k sc X) {tg : Expr} {t : Tg} (h : ckTg T sc tg t = true) : ∃ tl, tgOf X.N tg = some (t, tl) ∧ ∀ p ∈ tl, StOk X p.1 := by
  unfold ckTg at h
  split at h
  · rename_i t' tl ht
    rw [Bool.and_eq_true, List.all_eq_true] at h
    have := tgEq_ok h.1
    subst this
    exact ⟨tl, by rw [c.ok.N]; exact ht, fun p hp => c.sto (h.2 p hp)⟩
  · cases h
theorem Cos.par {sc : Scope} {X : Cx} (c : Cos T k sc X) {x : Str} {i : Nat} (h : parN T sc x i = true) : idxOf X.N x = some i ∧ X.env.scope.names.lookup x = some .local := by
  unfold parN at h
  rw [Bool.and_eq_true, beq_iff_eq] at h
  exact ⟨by rw [c.ok.N]; exact h.1, by rw [c.ok.sc]; exact locB_ok h.2⟩
theorem swaps_lc {elt : Expr} {gs : List Comprehension} {scope : Scope} {pos px : Pos} {x : Str} {l : Nat} {env : Env} : swapsWith (.ListComp elt gs scope pos) (some (.Name x px)) l env = pure (env.blockKind == .function && env.kindOf x == some .local && px.line == pos.line && !(scope.names.any fun p => p.1 == x && (p.2 == .local || p.2 == .cell))) := rfl
theorem set_ok {n m : Nat} {sc : Scope} {X : Cx} {β : Option Addr} {x : Str} {px pos : Pos} {e : Expr} {r : RE} {i : Nat} {a : En} {z : Bool × D × En} (c : Cos T k sc X) (hi : idxOf T.N x = some i) (hs : stoOk sc x = true) (hc : ckE T n sc e r = true) (hv : evE T m r a = some z) (hl : i < z.2.2.sl.length) :
    DenS X β (.Assign [.Name x px] e pos) a (.nx (setS z.2.2 i z.1 z.2.1)) := by
  have hi' : idxOf X.N x = some i := by rw [c.ok.N]; exact hi
  have nd : X.N.Nodup := by rw [c.ok.N]; exact c.ok.nd
  have plain : swapsWith e (some (.Name x px)) pos.line X.env = pure false → DenS X β (.Assign [.Name x px] e pos) a (.nx (setS z.2.2 i z.1 z.2.1)) := fun h => dens_set nd hi' (c.sto hs) h hl ((snd_all T k n).E c.ok hc hv)
  by_cases hcomp : isComp e = false
  · exact plain (swaps_ok hcomp)
  · cases e with
    | ListComp elt gs scope epos =>
      cases hb : (X.env.blockKind == .function && X.env.kindOf x == some .local && px.line == epos.line && !(scope.names.any fun p => p.1 == x && (p.2 == .local || p.2 == .cell))) with
      | false => exact plain (by rw [swaps_lc, hb])
      | true =>
        have hx : X.env.scope.names.lookup x = some .local := by
          simp only [Bool.and_eq_true, beq_iff_eq] at hb
          exact hb.1.1.2
        cases n with
        | zero => simp only [ckE] at hc; cases hc
        | succ n =>
        cases r with
        | lc t vs it' tt y =>
          cases m with
          | zero => simp only [evE] at hv; cases hv
          | succ m =>
          have S := snd_all T k n
          simp only [ckE] at hc
          split at hc
          · rename_i elt' tg it ifs scope' pos' he
            cases he
            simp only [Bool.and_eq_true, Bool.not_eq_true'] at hc
            obtain ⟨⟨⟨⟨h0, h1⟩, h2⟩, h3⟩, h4⟩ := hc
            split at h1
            · rename_i t' tl ht
              simp only [Bool.and_eq_true, decide_eq_true_eq, beq_iff_eq, List.all_eq_true] at h1
              obtain ⟨⟨⟨⟨⟨g1, g2⟩, g3⟩, g4⟩, g5⟩, g6⟩ := h1
              have et : t' = t := by
                cases t' <;> cases t <;> simp_all [Tg.ix]
              subst et
              subst g3
              simp only [evE, Option.bind_eq_some_iff] at hv
              obtain ⟨z1, e1, hv⟩ := hv
              split at hv
              · rename_i hl1
                simp only [Option.bind_eq_some_iff, Option.some.injEq] at hv
                obtain ⟨z2, e2, rfl⟩ := hv
                dsimp only at hl ⊢
                rw [← c.ok.N] at ht
                exact dens_setLc (tl := tl) (own := tl) nd c.ok.calm h0 hi' hx (by rw [swaps_lc, hb]) hl (blkOk_by (by rw [c.ok.N, c.ok.sc]; exact g5)) ht (fun s H C cl fp p hp => stok_bl (g6 p hp)) (fun j hj => by simpa using g4 j hj) (S.I c.ok h2 e1)
                  (fun d e o e' hh => turn_ok S c.ok h3 h4 hh) e2 (szB_le hl1)
              · cases hv
            · cases h1
          · cases hc
        | _ => simp only [ckE] at hc; cases hc
    | SetComp _ _ _ _ =>
      cases n with
      | zero => simp only [ckE] at hc; cases hc
      | succ n => cases r <;> simp only [ckE] at hc <;> cases hc
    | DictComp _ _ _ _ _ =>
      cases n with
      | zero => simp only [ckE] at hc; cases hc
      | succ n => cases r <;> simp only [ckE] at hc <;> cases hc
    | _ => exact absurd rfl hcomp
end
end Fz
set_option Elab.async false
set_option linter.all false
set_option maxRecDepth 100000
set_option maxHeartbeats 8000000
/-! Fz, part R: statements and defs: what is computed is what runs. -/
namespace Fz
open PySem PySem.Spec PyProof.Rows L2
section
variable {T : Tb} {k : Nat}
structure SndS (T : Tb) (k n : Nat) : Prop where
  S : ∀ {sc : Scope} {X : Cx} {β : Option Addr} {st : Stmt} {r : RS} {m : Nat} {a : En} {z : SR}, Cos T k sc X → ckS T n sc st r = true → evS T m r a = some z → DenS X β st a z
  Ss : ∀ {sc : Scope} {X : Cx} {β : Option Addr} {st : List Stmt} {r : List RS} {m : Nat} {a : En} {z : SR}, Cos T k sc X → ckSs T n sc st r = true → evSs T m r a = some z → DenSs X β st a z
theorem sndS_S {n : Nat} (Sn : SndS T k n) {sc : Scope} {X : Cx} {β : Option Addr} {st : Stmt} {r : RS} {m : Nat} {a : En} {z : SR} (c : Cos T k sc X) (hc : ckS T (n + 1) sc st r = true) (hv : evS T m r a = some z) : DenS X β st a z := by
  have E := snd_all T k n
  have nd : X.N.Nodup := by rw [c.ok.N]; exact c.ok.nd
  cases m with
  | zero => simp only [evS] at hv; cases hv
  | succ m =>
  cases r with
  | set i p =>
    simp only [ckS] at hc
    split at hc
    · simp only [Bool.and_eq_true, beq_iff_eq] at hc
      simp only [evS, Option.bind_eq_some_iff] at hv
      obtain ⟨z1, e1, hv⟩ := hv
      split at hv
      · rename_i hl
        cases hv
        exact set_ok c hc.1.1 hc.1.2 hc.2 e1 hl
      · cases hv
    · cases hc
  | tgt t p =>
    simp only [ckS] at hc
    split at hc
    · rename_i ts kk pt e pos
      simp only [Bool.and_eq_true] at hc
      obtain ⟨⟨h0, h1⟩, h2⟩ := hc
      obtain ⟨tl, g1, g2⟩ := c.tg h0
      simp only [evS, Option.bind_eq_some_iff, Option.some.injEq] at hv
      obtain ⟨z1, e1, z2, e2, rfl⟩ := hv
      refine dens_tg nd c.ok.calm g1 g2 swaps_tup ?_ rfl (E.E c.ok h2 e1) e2
      split at h1
      · rw [beq_iff_eq] at h1
        exact sw_tab (by rw [c.ok.sc]; exact c.kind) (by rw [c.ok.sc]; exact h1)
      · rename_i hne
        cases e <;> first | rfl | exact absurd rfl (hne _ _ _)
    · cases hc
  | par is es =>
    simp only [ckS] at hc
    split at hc
    · simp only [Bool.and_eq_true] at hc
      obtain ⟨⟨⟨h0, h1⟩, h2⟩, h3⟩ := hc
      simp only [evS, Option.bind_eq_some_iff, Option.some.injEq] at hv
      obtain ⟨z1, e1, z2, e2, rfl⟩ := hv
      split at h0
      · rename_i i j
        simp only [Bool.and_eq_true, bne_iff_ne, ne_eq] at h0
        obtain ⟨⟨p1, p2⟩, p3⟩ := h0
        obtain ⟨q1, q2⟩ := c.par p1
        obtain ⟨q3, q4⟩ := c.par p2
        rw [beq_iff_eq] at h1
        exact dens_par2 c.ok.calm nd q1 q3 p3 q2 q4 (sw_tab (by rw [c.ok.sc]; exact c.kind) (by rw [c.ok.sc]; exact h1)) (E.A c.ok h3 h2 e1).1 e2
      · cases h0
    · simp only [Bool.and_eq_true] at hc
      obtain ⟨⟨⟨h0, h1⟩, h2⟩, h3⟩ := hc
      simp only [evS, Option.bind_eq_some_iff, Option.some.injEq] at hv
      obtain ⟨z1, e1, z2, e2, rfl⟩ := hv
      split at h0
      · rename_i i j l
        simp only [Bool.and_eq_true, bne_iff_ne, ne_eq] at h0
        obtain ⟨⟨⟨⟨⟨p1, p2⟩, p4⟩, p3⟩, p5⟩, p6⟩ := h0
        obtain ⟨q1, q2⟩ := c.par p1
        obtain ⟨q3, q4⟩ := c.par p2
        obtain ⟨q5, q6⟩ := c.par p4
        rw [beq_iff_eq] at h1
        exact dens_par3 c.ok.calm nd q1 q3 q5 p3 p5 p6 q2 q4 q6 (sw_tab (by rw [c.ok.sc]; exact c.kind) (by rw [c.ok.sc]; exact h1)) (E.A c.ok h3 h2 e1).1 e2
      · cases h0
    · cases hc
  | put i b p =>
    simp only [ckS] at hc
    split at hc
    · simp only [Bool.and_eq_true, beq_iff_eq, Bool.not_eq_true'] at hc
      obtain ⟨⟨⟨⟨h0, h1⟩, h2⟩, h3⟩, h4⟩ := hc
      obtain ⟨q1, q2, q3, q4⟩ := c.ok.slot h0
      simp only [evS, Option.bind_eq_some_iff] at hv
      obtain ⟨z1, e1, l0, e2, ⟨o2, d2, b2⟩, e3, hv⟩ := hv
      dsimp only at hv
      split at hv
      · simp only [Option.bind_eq_some_iff, Option.some.injEq] at hv
        obtain ⟨l, e4, j, e5, rfl⟩ := hv
        exact dens_put q1 q2 q3 q4 h1 (swaps_ok h2) (E.E c.ok h4 e1) (E.E c.ok h3 e3) (by rw [e2]; rfl) e4 e5
      · cases hv
    · cases hc
  | put2 i b1 b2 p =>
    simp only [ckS] at hc
    split at hc
    · simp only [Bool.and_eq_true, beq_iff_eq, Bool.not_eq_true'] at hc
      obtain ⟨⟨⟨⟨⟨⟨⟨h0, h0'⟩, h1⟩, h1'⟩, h2⟩, h3⟩, h3'⟩, h4⟩ := hc
      obtain ⟨q1, q2, q3, q4⟩ := c.ok.slot h0
      obtain ⟨q1', q2', q3', q4'⟩ := c.ok.slot h0'
      simp only [evS, Option.bind_eq_some_iff] at hv
      obtain ⟨⟨o1, d0, b0⟩, e1, hv⟩ := hv
      dsimp only at hv
      split at hv
      · simp only [Option.bind_eq_some_iff] at hv
        obtain ⟨l0, e2, ⟨o2, d2, b2⟩, e3, hv⟩ := hv
        dsimp only at hv
        split at hv
        · simp only [Option.bind_eq_some_iff] at hv
          obtain ⟨l, e4, j, e5, ⟨o3, d3, b3⟩, e6, hv⟩ := hv
          dsimp only at hv
          split at hv
          · simp only [Option.bind_eq_some_iff, Option.some.injEq] at hv
            obtain ⟨l2, e7, j2, e8, rfl⟩ := hv
            exact dens_put2 c.ok.calm q1 q2 q3 q4 q1' q2' q3' q4' h1 h1' (sw_tab (by rw [c.ok.sc]; exact c.kind) (by rw [c.ok.sc]; exact h2)) (E.E c.ok h4 e1) (E.E c.ok h3 e3) (by rw [e2]; rfl) e4 e5 (E.E c.ok h3' e6) e7 e8
          · cases hv
        · cases hv
      · cases hv
    · cases hc
  | ret p =>
    simp only [ckS] at hc
    split at hc
    · simp only [evS, Option.bind_eq_some_iff, Option.some.injEq] at hv
      obtain ⟨z1, e1, rfl⟩ := hv
      exact dens_ret (E.E c.ok hc e1)
    · cases hc
  | retn =>
    simp only [ckS] at hc
    split at hc
    · simp only [evS, Option.some.injEq] at hv
      subst hv
      exact dens_retN
    · cases hc
  | ife t A B =>
    simp only [ckS] at hc
    split at hc
    · simp only [Bool.and_eq_true] at hc
      obtain ⟨⟨h0, h1⟩, h2⟩ := hc
      simp only [evS, Option.bind_eq_some_iff] at hv
      obtain ⟨⟨kk, b⟩, e1, hv⟩ := hv
      cases kk with
      | true => exact dens_if (k := true) (E.Tt c.ok h0 e1) (Sn.Ss c h1 hv)
      | false => exact dens_if (k := false) (E.Tt c.ok h0 e1) (Sn.Ss c h2 hv)
    · cases hc
  | whl t b =>
    simp only [ckS] at hc
    split at hc
    · simp only [Bool.and_eq_true] at hc
      simp only [evS] at hv
      exact dens_while c.po (fun e kk e1 h => E.Tt c.ok hc.1 h) (fun e rr h => Sn.Ss c hc.2 h) hv
    · cases hc
  | «for» t it b =>
    simp only [ckS] at hc
    split at hc
    · simp only [Bool.and_eq_true, Bool.not_eq_true'] at hc
      obtain ⟨⟨⟨h0, h1⟩, h2⟩, h3⟩ := hc
      obtain ⟨tl, g1, g2⟩ := c.tg h0
      simp only [evS, Option.bind_eq_some_iff] at hv
      obtain ⟨z1, e1, hv⟩ := hv
      refine dens_for c.po nd c.ok.calm g1 g2 h1 (E.I c.ok h2 e1) (fun d e rr h => ?_) hv
      simp only [Option.bind_eq_some_iff] at h
      obtain ⟨e2, w1, w2⟩ := h
      exact ⟨e2, w1, Sn.Ss c h3 w2⟩
    · cases hc
  | ex p =>
    simp only [ckS] at hc
    split at hc
    · simp only [Bool.and_eq_true, Bool.not_eq_true'] at hc
      simp only [evS, Option.bind_eq_some_iff, Option.some.injEq] at hv
      obtain ⟨z1, e1, rfl⟩ := hv
      exact dens_expr hc.1 (E.E c.ok hc.2 e1)
    · cases hc
  | pass =>
    simp only [ckS] at hc
    split at hc
    · simp only [evS, Option.some.injEq] at hv
      subst hv
      exact dens_pass
    · cases hc
  | brk =>
    simp only [ckS] at hc
    split at hc
    · simp only [evS, Option.some.injEq] at hv
      subst hv
      exact dens_break
    · cases hc
  | cnt =>
    simp only [ckS] at hc
    split at hc
    · simp only [evS, Option.some.injEq] at hv
      subst hv
      exact dens_continue
    · cases hc
  | aug s i p =>
    simp only [ckS] at hc
    split at hc
    · simp only [Bool.and_eq_true, beq_iff_eq] at hc
      obtain ⟨⟨⟨h0, h1⟩, h2⟩, h3⟩ := hc
      simp only [evS, Option.bind_eq_some_iff] at hv
      obtain ⟨k, ek, ⟨o, d, b⟩, e1, m, em, hv⟩ := hv
      dsimp only at em hv
      split at hv
      · rename_i hl
        cases hv
        cases d with
        | int m' =>
          cases em
          exact dens_aug nd (by rw [c.ok.N]; exact h0) (c.sto h1) h2 ek (E.E c.ok h3 e1) hl
        | _ => cases em
      · cases hv
    · cases hc
  | pro i j p q =>
    simp only [ckS] at hc
    split at hc
    · simp only [Bool.and_eq_true, bne_iff_ne, ne_eq] at hc
      obtain ⟨⟨⟨⟨⟨⟨p1, p2⟩, p3⟩, h1⟩, h2⟩, h3⟩, h4⟩ := hc
      simp only [evS, Option.bind_eq_some_iff] at hv
      obtain ⟨⟨o1, d1, b1⟩, e1, ⟨o2, d2, b2⟩, e2, hv⟩ := hv
      dsimp only at hv
      split at hv
      · rename_i hi
        split at hv
        · rename_i hj
          cases hv
          obtain ⟨q1, q2⟩ := c.par p1
          obtain ⟨q3, q4⟩ := c.par p2
          rw [beq_iff_eq] at h1
          simp only [noStars, List.all_cons, List.all_nil, Bool.and_true, Bool.and_eq_true, Bool.not_eq_true'] at h2
          exact dens_pro c.ok.calm nd q1 q3 p3 q2 q4 (sw_tab (by rw [c.ok.sc]; exact c.kind) (by rw [c.ok.sc]; exact h1)) h2.1 h2.2 (E.E c.ok h3 e1) (E.E c.ok h4 e2) hi hj
        · cases hv
      · cases hv
    · cases hc
  | never =>
    simp only [evS] at hv
    cases hv
theorem sndS_Ss {n : Nat} (Sn : SndS T k n) {sc : Scope} {X : Cx} {β : Option Addr} {st : List Stmt} {r : List RS} {m : Nat} {a : En} {z : SR} (c : Cos T k sc X) (hc : ckSs T (n + 1) sc st r = true) (hv : evSs T m r a = some z) : DenSs X β st a z := by
  cases m with
  | zero => simp only [evSs] at hv; cases hv
  | succ m =>
  cases st with
  | nil =>
    cases r with
    | nil =>
      simp only [evSs, Option.some.injEq] at hv
      subst hv
      exact denss_nil
    | cons y ys => exact absurd hc (show ¬ false = true from Bool.false_ne_true)
  | cons s ss =>
    cases r with
    | nil => exact absurd hc (show ¬ false = true from Bool.false_ne_true)
    | cons y ys =>
      simp only [ckSs, Bool.and_eq_true] at hc
      simp only [evSs, Option.bind_eq_some_iff] at hv
      obtain ⟨rr, e1, hv⟩ := hv
      cases rr with
      | nx e2 => exact denss_cons (Sn.S c hc.1 e1) (Sn.Ss c hc.2 hv)
      | rt o d e2 => cases hv; exact denss_stop (fun b h => by cases h) (Sn.S c hc.1 e1)
      | bk e2 => cases hv; exact denss_stop (fun b h => by cases h) (Sn.S c hc.1 e1)
      | ct e2 => cases hv; exact denss_stop (fun b h => by cases h) (Sn.S c hc.1 e1)
theorem sndS_all (T : Tb) (k : Nat) : ∀ n, SndS T k n
  | 0 => { S := fun _ h _ => absurd h (show ¬ false = true from Bool.false_ne_true), Ss := fun _ h _ => absurd h (show ¬ false = true from Bool.false_ne_true) }
  | n + 1 => ⟨fun c h v => sndS_S (sndS_all T k n) c h v, fun c h v => sndS_Ss (sndS_all T k n) c h v⟩

/-! ### a def of the text -/
/-- what a def of the module's text is at run time, for the table -/
structure Env1 (P : Program) (w : World) (K : PySem.W.Frag) (mg : Str → Option Value) (base : Heap) (k : Nat) (x : Str) (fn : Fn) : Prop where
  ex : ∃ f fd, mg x = some (.ref f) ∧ PySem.W.keepIn K (.ref f) = true ∧ FnOk P w K mg base CX0 k f fd fn.ps (spD K fn) ∧ Binds K fd fn.ps [] ∧
    ∀ kw ∈ fn.kws, KBn K fd fn.ps kw.n kw.ks (arr kw.perm) (arr kw.perm)
  nd : (x == ("__debug__" : Str)) = false
/-- the result of a def by its resolved body -/
def runD (T : Tb) (n : Nat) (io : Bool) (b : List RS) (ds : List D) : Option (Bool × D × List D) := (evSs T n b (en0 T.N.length io ds)).bind endD
theorem def_ok {P : Program} {w : World} {K : PySem.W.Frag} {mg : Str → Option Value} {base : Heap} {x qual : Str} {st : Stmt} {f : Addr} {fd : FuncData} {n : Nat} {fn : Fn} {b : List RS} (F : L2.Fun K x qual st f fd) (S : FnScope T.N fn.ps (defScope st))
    (hb : ∀ y, bltNames.contains y = true → mg y = none) (hf : ∀ (j : Nat) (p : Str × Fn), T.fs[j]? = some p → Env1 P w K mg base k p.1 p.2) (hc : ckSs T n (defScope st) (defBody st) b = true)
    (hd : ∀ ds z, fn.den ds = some z → ∃ m, runD T m fn.io b ds = some z) : FnOk P w K mg base CX0 (k + 1) f fd fn.ps (spD K fn) := by
  refine fn_ok F S fun X β C ds z hz => ?_
  obtain ⟨m, hm⟩ := hd ds z hz
  unfold runD at hm
  rw [Option.bind_eq_some_iff] at hm
  obtain ⟨r, h1, h2⟩ := hm
  obtain ⟨c1, c2, c3, c4, c5, c6, c7, c8, c9, c10, c11⟩ := C
  subst c1 c2 c3 c4 c5
  refine ⟨r, (sndS_all T k n).Ss ⟨⟨c6, S.nd, c7, c8, c9, hb, fun j p hp => ⟨(hf j p hp).ex, (hf j p hp).nd⟩⟩, S.kind, c10, c11⟩ hc h1, h2⟩
end
end Fz
set_option Elab.async false
set_option linter.all false
set_option maxRecDepth 100000
set_option maxHeartbeats 4000000
/-! Fz, part S: ints and lists of ints as data; steps; sizes. -/
namespace Fz
open PySem PySem.Spec PyProof.Rows L2
/-! ### lists of ints as data -/
def I (f : List Int) : List D := f.map PyData.int
@[simp] theorem I_len (f : List Int) : (I f).length = f.length := by simp [I]
@[simp] theorem I_nil : I [] = [] := rfl
@[simp] theorem I_cons (x : Int) (f : List Int) : I (x :: f) = .int x :: I f := rfl
@[simp] theorem I_app (f g : List Int) : I (f ++ g) = I f ++ I g := by simp [I]
@[simp] theorem I_emp (f : List Int) : (I f).isEmpty = f.isEmpty := by cases f <;> rfl
@[simp] theorem allI_I : ∀ f : List Int, allI (I f) = some f
  | [] => rfl
  | x :: f => by
    show (allI (I f)).map (x :: ·) = _
    rw [allI_I f]
    rfl
theorem I_get (f : List Int) (i : Nat) : (I f)[i]? = (f[i]?).map PyData.int := by simp [I]
theorem I_take (f : List Int) (i : Nat) : (I f).take i = I (f.take i) := by simp [I]
theorem I_drop (f : List Int) (i : Nat) : (I f).drop i = I (f.drop i) := by simp [I]
theorem I_set (f : List Int) (i : Nat) (x : Int) : (I f).set i (.int x) = I (f.set i x) := by simp [I]
theorem I_rev (f : List Int) : (I f).reverse = I f.reverse := by simp [I]
theorem zip_I : ∀ f g : List Int, zipD (I f) (I g) = (f.zip g).map fun q => .tuple [.int q.1, .int q.2]
  | [], _ => rfl
  | _ :: _, [] => rfl
  | x :: f, y :: g => by
    show PyData.tuple [.int x, .int y] :: zipD (I f) (I g) = PyData.tuple [.int x, .int y] :: ((f.zip g).map fun q => PyData.tuple [.int q.1, .int q.2])
    rw [zip_I f g]
/-! ### loops over typed lists -/
theorem lcL_pure {α : Type} {F : D → En → Option (Option D × En)} {e : En} (g : α → D) (h : α → D) : ∀ {xs : List α}, (∀ x ∈ xs, F (g x) e = some (some (h x), e)) → lcL F (xs.map g) e = some (xs.map h, e)
  | [], _ => rfl
  | x :: xs, H => by
    show lcL F (g x :: xs.map g) e = _
    unfold lcL
    rw [H x List.mem_cons_self]
    simp only
    rw [lcL_pure g h fun y hy => H y (List.mem_cons_of_mem _ hy)]
    rfl
theorem forL_fold {α γ : Type} {F : D → En → Option SR} (g : α → D) (st : γ → En) (k : γ → α → γ) (P : γ → Prop) : ∀ {xs : List α} {c : γ}, P c → (∀ x ∈ xs, ∀ c, P c → F (g x) (st c) = some (.nx (st (k c x))) ∧ P (k c x)) → forL F (xs.map g) (st c) = some (.nx (st (xs.foldl k c))) ∧ P (xs.foldl k c)
  | [], c, hc, _ => ⟨rfl, hc⟩
  | x :: xs, c, hc, H => by
    show forL F (g x :: xs.map g) (st c) = _ ∧ _
    unfold forL
    obtain ⟨h1, h2⟩ := H x List.mem_cons_self c hc
    rw [h1]
    exact forL_fold g st k P h2 fun y hy => H y (List.mem_cons_of_mem _ hy)
/-! ### steps -/
section
variable {T : Tb} {n : Nat} {e e1 e2 : En}
theorem while_step {t : En → Option (Bool × En)} {f : En → Option SR} {r : SR} (ht : t e = some (true, e1)) (hf : f e1 = some (.nx e2)) (h : whileL t f n e2 = some r) : whileL t f (n + 1) e = some r := by
  unfold whileL
  rw [ht]
  dsimp only
  rw [hf]
  exact h
theorem while_end {t : En → Option (Bool × En)} {f : En → Option SR} (ht : t e = some (false, e1)) : whileL t f (n + 1) e = some (.nx e1) := by
  unfold whileL
  rw [ht]
theorem ss_nx {s : RS} {ss : List RS} {r : SR} (h1 : evS T n s e = some (.nx e1)) (h2 : evSs T n ss e1 = some r) : evSs T (n + 1) (s :: ss) e = some r := by
  rw [evSs, h1]
  exact h2
theorem ss_rt {s : RS} {ss : List RS} {o : Bool} {d : D} (h1 : evS T n s e = some (.rt o d e1)) : evSs T (n + 1) (s :: ss) e = some (.rt o d e1) := by
  rw [evSs, h1]
  rfl
theorem s_whl {t : RT} {b : List RS} {r : SR} (h : whileL (evT T n t) (evSs T n b) T.W e = some r) : evS T (n + 1) (.whl t b) e = some r := h
theorem s_for {t : Tg} {it : RI} {b : List RS} {r : SR} {ds : List D} (hi : evI T n it e = some (ds, e1)) (h : forL (fun d e => (stT e t d).bind fun e1 => evSs T n b e1) ds e1 = some r) : evS T (n + 1) (.for t it b) e = some r := by
  rw [evS, hi]
  exact h
theorem s_set {i : Nat} {a : RE} {o : Bool} {d : D} (h : evE T n a e = some (o, d, e1)) (hl : i < e1.sl.length) : evS T (n + 1) (.set i a) e = some (.nx (setS e1 i o d)) := by
  rw [evS, h]
  show (if i < e1.sl.length then _ else _) = _
  rw [if_pos hl]
theorem s_ret {a : RE} {o : Bool} {d : D} (h : evE T n a e = some (o, d, e1)) : evS T (n + 1) (.ret a) e = some (.rt o d e1) := by
  rw [evS, h]
  rfl
theorem s_ife {t : RT} {A B : List RS} {k : Bool} {r : SR} (h : evT T n t e = some (k, e1)) (h2 : evSs T n (if k then A else B) e1 = some r) : evS T (n + 1) (.ife t A B) e = some r := by
  rw [evS, h]
  cases k <;> exact h2
theorem e_lc {t : Tg} {vs : List Nat} {it : RI} {tt : Option RT} {x : RE} {ds l : List D} (hi : evI T n it e = some (ds, e1)) (hl : szB ds.length = true) (h : lcL (evC T n t vs tt x) ds e1 = some (l, e2)) : evE T (n + 1) (.lc t vs it tt x) e = some (true, .list l, e2) := by
  rw [evE, hi]
  show (if szB ds.length then _ else _) = _
  rw [if_pos hl, h]
  rfl
theorem e_bin {op : Operator} {a b : RE} {o1 o2 o : Bool} {d1 d2 d : D} (h1 : evE T n a e = some (o1, d1, e1)) (h2 : evE T n b e1 = some (o2, d2, e2)) (h : binD op o1 d1 d2 = some (o, d)) : evE T (n + 1) (.bin op a b) e = some (o, d, e2) := by
  rw [evE, h1]
  show (evE T n b e1).bind _ = _
  rw [h2]
  show (binD op o1 d1 d2).bind _ = _
  rw [h]
  rfl
theorem e_blt {k : Bi} {es : List RE} {ds : List D} {o : Bool} {d : D} (h1 : evA T n es e = some (ds, e1)) (h : bltD k ds = some (o, d)) : evE T (n + 1) (.blt k es) e = some (o, d, e1) := by
  rw [evE, h1]
  show (bltD k ds).bind _ = _
  rw [h]
  rfl
theorem e_app {j : Nat} {es : List RE} {ds : List D} {o : Bool} {d : D} {l : List D} {p : Str × Fn} (h1 : evA T n es e = some (ds, e1)) (hf : T.fs[j]? = some p) (hio : p.2.io = false) (hl : ds.length = p.2.ps.length) (h : p.2.den ds = some (o, d, l)) : evE T (n + 1) (.app j es) e = some (o, d, e1) := by
  rw [evE, h1]
  show (T.fs[j]?).bind _ = _
  rw [hf]
  show (if _ ∧ _ then _ else _) = _
  rw [if_pos ⟨hio, hl⟩, h]
  rfl
theorem e_appio {j i : Nat} {es : List RE} {ds b0 bs l : List D} {o : Bool} {d : D} {p : Str × Fn} (h0 : slotL e i = some b0) (h1 : evA T n es e = some (ds, e1)) (hb : slotL e1 i = some bs) (hf : T.fs[j]? = some p) (hio : p.2.io = true) (hl : ds.length + 1 = p.2.ps.length) (h : p.2.den (.list bs :: ds) = some (o, d, l)) :
    evE T (n + 1) (.appio j i es) e = some (o, d, putL e1 i l) := by
  rw [evE, h0]
  show (evA T n es e).bind _ = _
  rw [h1]
  show (slotL e1 i).bind _ = _
  rw [hb]
  show (T.fs[j]?).bind _ = _
  rw [hf]
  show (if _ ∧ _ then _ else _) = _
  rw [if_pos ⟨hio, hl⟩, h]
  rfl
theorem a_cons {a : RE} {es : List RE} {o : Bool} {d : D} {ds : List D} (h1 : evE T n a e = some (o, d, e1)) (h2 : evA T n es e1 = some (ds, e2)) : evA T (n + 1) (a :: es) e = some (d :: ds, e2) := by
  rw [evA, h1]
  show (evA T n es e1).bind _ = _
  rw [h2]
  rfl
theorem a_nil : evA T (n + 1) [] e = some ([], e) := rfl
end

/-! ### sizes, by omega -/
theorem szB_of {n : Nat} (h : n ≤ 1000000) : szB n = true := decide_eq_true h
theorem posB_of {j : Int} (h : 0 < j) : posB j = true := decide_eq_true h
theorem b62_of {i : Int} (h1 : -4611686018427387904 ≤ i) (h2 : i < 4611686018427387904) : b62 i = true := by
  unfold b62
  rw [Bool.and_eq_true, decide_eq_true_eq, decide_eq_true_eq]
  exact ⟨by omega, by omega⟩
theorem mulB_of {x y : Int} (h1 : -1000000000000000000000000000000000000000000000000 < x) (h2 : x < 1000000000000000000000000000000000000000000000000) (h3 : -1000000000000000000000000000000000000000000000000 < y) (h4 : y < 1000000000000000000000000000000000000000000000000) : mulB x y = true := by
  unfold mulB
  rw [decide_eq_true_eq]
  exact wide_mul (a := 200) (b := 200) (by omega) (by omega) (by decide) (by decide) (by decide)
theorem divB_of {j : Int} (h : 0 < j) (h2 : j < 1000000000000000000000000000000000000000000000000) : divB j = true := by
  unfold divB
  rw [Bool.and_eq_true, decide_eq_true_eq, decide_eq_true_eq]
  exact wide_div (i := 0) (b := 200) h (by omega) (by decide) (by decide)
theorem powB_of {i j : Int} (h1 : 0 ≤ j) (h2 : j ≤ 1000000) (h3 : -18446744073709551616 < i) (h4 : i < 18446744073709551616) : powB i j = true := decide_eq_true ⟨h1, h2, by omega⟩
theorem repB_one {k : Int} (h1 : -4611686018427387904 < k) (h2 : k ≤ 1000000) : repB 1 k = true := decide_eq_true ⟨by omega, by omega, by omega⟩
theorem timB_one {k : Int} (h1 : -4611686018427387904 < k) (h2 : k ≤ 1000) : timB 1 k = true := decide_eq_true ⟨by omega, by omega, by omega⟩
theorem flat_one {α : Type} (x : α) : ∀ n : Nat, (List.replicate n [x]).flatten = List.replicate n x
  | 0 => rfl
  | n + 1 => by rw [List.replicate_succ, List.flatten_cons, flat_one x n]; rfl
theorem I_rep (x : Int) (n : Nat) : List.replicate n (PyData.int x) = I (List.replicate n x) := by simp [I]
/-! ### items -/
theorem atI_0 {α : Type} (l : List α) : atI l 0 = l[0]? := by
  unfold atI ixN
  cases l <;> simp
theorem atI_k {α : Type} (l : List α) (k : Nat) : atI l (k : Int) = l[k]? := by
  by_cases h : k < l.length
  · rw [List.getElem?_eq_getElem h]
    exact atI_nat (List.getElem?_eq_getElem h)
  · unfold atI ixN
    rw [if_pos (by omega), if_neg (by omega), List.getElem?_eq_none (by omega)]
    rfl
theorem atI_1 {α : Type} (l : List α) : atI l 1 = l[1]? := atI_k l 1
theorem atI_2 {α : Type} (l : List α) : atI l 2 = l[2]? := atI_k l 2
theorem atI_3 {α : Type} (l : List α) : atI l 3 = l[3]? := atI_k l 3
theorem atI_4 {α : Type} (l : List α) : atI l 4 = l[4]? := atI_k l 4
theorem atI_I {f : List Int} {i : Int} (h1 : 0 ≤ i) (h2 : i < f.length) : atI (I f) i = some (.int (f.getD i.toNat 0)) := by
  obtain ⟨k, rfl⟩ := Int.eq_ofNat_of_zero_le h1
  rw [atI_k, I_get]
  have hk : k < f.length := by omega
  rw [List.getElem?_eq_getElem hk, List.getD_eq_getElem?_getD, Int.toNat_natCast, List.getElem?_eq_getElem hk]
  rfl
theorem atI_last1 {α : Type} (l : List α) : atI l (-1) = l.getLast? := by
  rcases List.eq_nil_or_concat l with rfl | ⟨m, y, rfl⟩
  · rfl
  · rw [List.concat_eq_append, atI_last, List.getLast?_append]
    rfl
theorem I_last (f : List Int) : (I f).getLast? = (f.getLast?).map PyData.int := by simp [I]
theorem ixN_of {n : Nat} {i : Int} (h1 : 0 ≤ i) (h2 : i < n) : ixN n i = some i.toNat := by
  unfold ixN
  rw [if_pos h1, if_pos h2]
theorem cut_from {f : List Int} {i : Int} (h : 0 ≤ i) : Fz.cutD (I f) (some i) none = I (f.drop i.toNat) := by
  obtain ⟨n, rfl⟩ := Int.eq_ofNat_of_zero_le h
  unfold Fz.cutD
  rw [HT.sIx_nat, HT.sIx_none, I_len, I_drop, I_take, Int.toNat_natCast]
  congr 1
  rw [List.take_of_length_le (by rw [List.length_drop]; omega)]
  by_cases h : n ≤ f.length
  · rw [Nat.min_eq_left h]
  · rw [Nat.min_eq_right (by omega), List.drop_length, List.drop_eq_nil_of_le (by omega)]
theorem cut_to {f : List Int} {i : Int} (h : 0 ≤ i) : Fz.cutD (I f) none (some i) = I (f.take i.toNat) := by
  obtain ⟨n, rfl⟩ := Int.eq_ofNat_of_zero_le h
  unfold Fz.cutD
  rw [HT.sIx_nat, HT.sIx_none, I_len, List.drop_zero, Nat.sub_zero, I_take, Int.toNat_natCast]
  congr 1
  by_cases h : n ≤ f.length
  · rw [Nat.min_eq_left h]
  · rw [Nat.min_eq_right (by omega), List.take_length, List.take_of_length_le (by omega)]
/-! ### equality -/
theorem eqv_int (a b : Int) : PyData.eqv (.int a) (.int b) = (a == b) := rfl
theorem eqv_none : PyData.eqv .none .none = true := rfl
theorem shp_int (a : Int) : shp (.int a) = true := rfl
theorem shp_bool (a : Bool) : shp (.bool a) = true := rfl
theorem shp_none : shp .none = true := rfl
theorem eqvAll_I : ∀ f g : List Int, PyData.eqvAll (I f) (I g) = (f == g)
  | [], [] => rfl
  | [], _ :: _ => rfl
  | _ :: _, [] => rfl
  | x :: f, y :: g => by
    show (PyData.eqv (.int x) (.int y) && PyData.eqvAll (I f) (I g)) = _
    rw [eqvAll_I f g, eqv_int]
    rfl
theorem eqv_tup (f g : List Int) : PyData.eqv (.tuple (I f)) (.tuple (I g)) = (f == g) := eqvAll_I f g
theorem eqv_lst (f g : List Int) : PyData.eqv (.list (I f)) (.list (I g)) = (f == g) := eqvAll_I f g
theorem run_of {T : Tb} {io : Bool} {b : List RS} {ds : List D} {o : Bool} {d : D} {e : En} {n : Nat} (h : evSs T n b (en0 T.N.length io ds) = some (.rt o d e)) : runD T n io b ds = some (o, d, e.bg) := by
  unfold runD
  rw [h]
  rfl
theorem allI_eq {l : List D} {ns : List Int} (h : allI l = some ns) : l = I ns := by
  induction l generalizing ns with
  | nil => cases h; rfl
  | cons x l ih =>
    cases x with
    | int i =>
      unfold allI at h
      cases z : allI l with
      | none => rw [z] at h; cases h
      | some t => rw [z] at h; cases h; rw [ih z]; rfl
    | _ => cases h
theorem seqI {d : D} {q : Bool × List D} {ns : List Int} (_ : seqD d = some q) (h2 : allI q.2 = some ns) : q.2 = I ns := allI_eq h2
theorem items_of {d : D} {q : Bool × List D} (h : seqD d = some q) : itemsD d = some q.2 := by
  cases d <;> cases h <;> rfl
end Fz
set_option Elab.async false
set_option linter.all false
set_option maxRecDepth 100000
set_option maxHeartbeats 4000000
/-! Fz, part T: the evaluator's rows as equations, for a rewriter that goes outside in. -/
namespace Fz
open PySem PySem.Spec PyProof.Rows L2
/-- a bind whose second part a rewriter leaves alone till the first one is known: another argument's type speaks of it -/
def obind {α β : Type} (f : α → Option β) (_ : f = f) (a : Option α) : Option β := a.bind f
theorem bind_o {α β : Type} (a : Option α) (f : α → Option β) : a.bind f = obind f rfl a := rfl
theorem obind_some {α β : Type} (f : α → Option β) (h : f = f) (v : α) : obind f h (some v) = f v := rfl
def bodyF (T : Tb) (n : Nat) (t : Tg) (b : List RS) : D → En → Option SR := fun d e => (stT e t d).bind fun e1 => evSs T n b e1
def goOn (T : Tb) (n : Nat) (ss : List RS) (r : SR) : Option SR := match r with
    | .nx e1 => evSs T n ss e1
    | r => some r
def pairD : D → Option (D × D)
  | .tuple [x, y] => some (x, y)
  | _ => none
section
variable {T : Tb} {n : Nat} {e : En}
theorem q_int {i : Int} : evE T (n + 1) (.int i) e = some (false, .int i, e) := rfl
theorem q_bl {b : Bool} : evE T (n + 1) (.bl b) e = some (false, .bool b, e) := rfl
theorem q_non : evE T (n + 1) .non e = some (false, .none, e) := rfl
theorem q_nm {i : Nat} : evE T (n + 1) (.nm i) e = (lockS e i).bind fun p => some (false, p.1, p.2) := rfl
theorem q_bin {op : Operator} {a b : RE} : evE T (n + 1) (.bin op a b) e = (evE T n a e).bind fun p => (evE T n b p.2.2).bind fun q => (binD op p.1 p.2.1 q.2.1).bind fun z => some (z.1, z.2, q.2.2) := rfl
def negD : D → Option D
  | .int i => some (.int (-i))
  | _ => none
theorem q_neg {a : RE} : evE T (n + 1) (.neg a) e = (evE T n a e).bind fun p => (negD p.2.1).bind fun d => some (false, d, p.2.2) := by
  rw [evE]
  congr 1
  funext p
  obtain ⟨o, d, e⟩ := p
  cases d <;> rfl
theorem q_negI {i : Int} : negD (.int i) = some (.int (-i)) := rfl
theorem q_not {a : RE} : evE T (n + 1) (.not a) e = (evE T n a e).bind fun p => (truD p.2.1).bind fun k => some (false, .bool (!k), p.2.2) := rfl
theorem q_bop {op : BoolOp} {a b : RE} : evE T (n + 1) (.bop op a b) e = (evE T n a e).bind fun p => (truD p.2.1).bind fun k => if opStop op k then some p else evE T n b p.2.2 := rfl
theorem q_ife {t : RT} {a b : RE} : evE T (n + 1) (.ife t a b) e = (evT T n t e).bind fun p => if p.1 then evE T n a p.2 else evE T n b p.2 := rfl
theorem q_cmp {op : CmpOp} {a b : RE} : evE T (n + 1) (.cmp op a b) e = (evE T n a e).bind fun p => (evE T n b p.2.2).bind fun q => (cmpD op p.2.1 q.2.1).bind fun k => some (false, .bool k, q.2.2) := rfl
theorem q_ix {a b : RE} : evE T (n + 1) (.ix a b) e = (evE T n a e).bind fun p => (evE T n b p.2.2).bind fun q => (ixD p.2.1 q.2.1).bind fun d => some (false, d, q.2.2) := rfl
/-- the slot of a name, whether it is own -/
def atS (e : En) (i : Nat) : Option (Bool × D × En) := match slotL e i with
  | some l => some (true, .list l, e)
  | none => (lockS e i).bind fun p => some (false, p.1, p.2)
def reS (e : En) (i : Nat) (o : Bool) (d : D) : Option D := match o with
  | true => (slotL e i).bind fun l => some (.list l)
  | false => some d
theorem q_ixn {i : Nat} {b : RE} : evE T (n + 1) (.ixn i b) e = (atS e i).bind fun p => (evE T n b p.2.2).bind fun q => (reS q.2.2 i p.1 p.2.1).bind fun l => (ixD l q.2.1).bind fun d => some (false, d, q.2.2) := by
  rw [evE]
  unfold atS
  cases slotL e i with
  | none => simp only; cases lockS e i <;> rfl
  | some l =>
    simp only [Option.bind_some]
    congr 1
    funext q
    show _ = ((slotL q.2.2 i).bind fun l => some (PyData.list l)).bind _
    cases slotL q.2.2 i <;> rfl
theorem q_sl {a : RE} {lo hi : Option RE} : evE T (n + 1) (.sl a lo hi) e = (evE T n a e).bind fun p => (evO T n lo p.2.2).bind fun q => (evO T n hi q.2).bind fun r => (slD p.2.1 q.1 r.1).bind fun z => some (z.1, z.2, r.2) := rfl
theorem q_sln {i : Nat} {lo hi : Option RE} : evE T (n + 1) (.sln i lo hi) e = (atS e i).bind fun p => (evO T n lo p.2.2).bind fun q => (evO T n hi q.2).bind fun r => (reS r.2 i p.1 p.2.1).bind fun l => (slD l q.1 r.1).bind fun z => some (z.1, z.2, r.2) := by
  rw [evE]
  unfold atS
  cases slotL e i with
  | none => simp only; cases lockS e i <;> rfl
  | some l =>
    simp only [Option.bind_some]
    congr 1
    funext q
    congr 1
    funext r
    show _ = ((slotL r.2 i).bind fun l => some (PyData.list l)).bind _
    cases slotL r.2 i <;> rfl
theorem q_blt {k : Bi} {es : List RE} : evE T (n + 1) (.blt k es) e = (evA T n es e).bind fun p => (bltD k p.1).bind fun z => some (z.1, z.2, p.2) := rfl
theorem q_lenn {i : Nat} : evE T (n + 1) (.lenn i) e = (atS e i).bind fun p => (bltD .len [p.2.1]).bind fun z => some (z.1, z.2, p.2.2) := by
  rw [evE]
  unfold atS
  cases slotL e i with
  | none => simp only; cases lockS e i <;> rfl
  | some l => rfl
theorem q_isi {a : RE} {ts : List String} : evE T (n + 1) (.isi a ts) e = (evE T n a e).bind fun p => if noTag p.2.1 then some (false, .bool (isiD p.2.1 ts), p.2.2) else none := rfl
theorem q_lst {es : List RE} : evE T (n + 1) (.lst es) e = (evA T n es e).bind fun p => if szB p.1.length then some (true, .list p.1, p.2) else none := rfl
theorem q_tup {es : List RE} : evE T (n + 1) (.tup es) e = (evA T n es e).bind fun p => if szB p.1.length then some (false, .tuple p.1, p.2) else none := rfl
/-- a call, from its promise -/
def callF (f : Str × Fn) (ds : List D) : Option (Bool × D) := if f.2.io = false ∧ ds.length = f.2.ps.length then (f.2.den ds).bind fun z => some (z.1, z.2.1) else none
theorem q_app {j : Nat} {es : List RE} : evE T (n + 1) (.app j es) e = (evA T n es e).bind fun p => (T.fs[j]?).bind fun f => (callF f p.1).bind fun z => some (z.1, z.2, p.2) := by
  rw [evE]
  congr 1
  funext p
  congr 1
  funext f
  unfold callF
  split
  · cases f.2.den p.1 <;> rfl
  · rfl
def callB (f : Str × Fn) (bs : List D) (ds : List D) : Option (Bool × D × List D) := if f.2.io = true ∧ ds.length + 1 = f.2.ps.length then f.2.den (.list bs :: ds) else none
theorem q_appio {j i : Nat} {es : List RE} : evE T (n + 1) (.appio j i es) e = (slotL e i).bind fun _ => (evA T n es e).bind fun p => (slotL p.2 i).bind fun bs => (T.fs[j]?).bind fun f => (callB f bs p.1).bind fun z => some (z.1, z.2.1, putL p.2 i z.2.2) := by
  rw [evE]
  congr 1
  funext _
  congr 1
  funext p
  congr 1
  funext bs
  congr 1
  funext f
  unfold callB
  split
  · rfl
  · rfl
def callK (f : Str × Fn) (m : Nat) (k : Nat) (as bs : List D) : Option (Bool × D) := (f.2.kws[m]?).bind fun kw => if f.2.io = false ∧ as.length = k ∧ bs.length = kw.ks.length ∧ (arr kw.perm as bs).length = f.2.ps.length then (f.2.den (arr kw.perm as bs)).bind fun z => some (z.1, z.2.1) else none
theorem q_appk {j m : Nat} {es ks : List RE} : evE T (n + 1) (.appk j m es ks) e = (evA T n es e).bind fun p => (evA T n ks p.2).bind fun q => (T.fs[j]?).bind fun f => (callK f m es.length p.1 q.1).bind fun z => some (z.1, z.2, q.2) := by
  rw [evE]
  congr 1
  funext p
  congr 1
  funext q
  congr 1
  funext f
  unfold callK
  cases f.2.kws[m]? with
  | none => rfl
  | some kw =>
    show (if _ then _ else _) = (if _ then _ else _ : Option _).bind _
    split
    · cases f.2.den (arr kw.perm p.1 q.1) <;> rfl
    · rfl
theorem q_lc {t : Tg} {vs : List Nat} {it : RI} {tt : Option RT} {x : RE} : evE T (n + 1) (.lc t vs it tt x) e = (evI T n it e).bind fun p => if szB p.1.length then (lcL (evC T n t vs tt x) p.1 p.2).bind fun z => some (true, .list z.1, z.2) else none := rfl
theorem q_popA {i : Nat} {x : RE} : evE T (n + 1) (.popA i x) e = (slotL e i).bind fun _ => (evE T n x e).bind fun p => (slotL p.2.2 i).bind fun l => (intV p.2.1).bind fun k => if 0 ≤ k then if k ≤ 1000000 then (l[k.toNat]?).bind fun d => some (false, d, putL p.2.2 i (l.eraseIdx k.toNat)) else none else none := rfl
theorem q_ins {i : Nat} {x y : RE} : evE T (n + 1) (.ins i x y) e = (slotL e i).bind fun _ => (evE T n x e).bind fun p => (evE T n y p.2.2).bind fun q => (slotL q.2.2 i).bind fun l => (intV p.2.1).bind fun k => if 0 ≤ k then if k ≤ 1000000 then if szB (l.length + 1) then some (false, .none, putL q.2.2 i (l.take k.toNat ++ [q.2.1] ++ l.drop k.toNat)) else none else none else none := rfl
theorem q_push {i : Nat} {x : RE} : evE T (n + 1) (.push i x) e = (slotL e i).bind fun _ => (evE T n x e).bind fun p => (slotL p.2.2 i).bind fun l => if szB (l.length + 1) then some (false, .none, putL p.2.2 i (l ++ [p.2.1])) else none := rfl
theorem q_pop {i : Nat} : evE T (n + 1) (.pop i) e = (slotL e i).bind fun l => (l[l.length - 1]?).bind fun d => some (false, d, putL e i l.dropLast) := rfl
theorem q_evc {t : Tg} {vs : List Nat} {tt : Option RT} {x : RE} {d : D} : evC T (n + 1) t vs tt x d e = if vs.all (fun v => plainS (e.sl.getD v .no)) then (stT (wipeE e vs) t d).bind fun e1 => (evTo T n tt e1).bind fun p => if p.1 then (evE T n x p.2).bind fun q => some (some q.2.1, restE e q.2.2 vs) else some (none, restE e p.2 vs) else none := rfl
theorem q_to0 : evTo T (n + 1) none e = some (true, e) := rfl
theorem q_to1 {t : RT} : evTo T (n + 1) (some t) e = evT T n t e := rfl
def intD : D → Option Int
  | .int i => some i
  | _ => none
theorem q_o0 : evO T (n + 1) none e = some (none, e) := rfl
theorem q_o1 {a : RE} : evO T (n + 1) (some a) e = (evE T n a e).bind fun p => (intD p.2.1).bind fun i => some (some i, p.2.2) := by
  rw [evO]
  congr 1
  funext p
  obtain ⟨o, d, e⟩ := p
  cases d <;> rfl
theorem q_intD {i : Int} : intD (.int i) = some i := rfl
theorem q_a0 : evA T (n + 1) [] e = some ([], e) := rfl
theorem q_a1 {a : RE} {es : List RE} : evA T (n + 1) (a :: es) e = (evE T n a e).bind fun p => (evA T n es p.2.2).bind fun q => some (p.2.1 :: q.1, q.2) := rfl
theorem q_tnt {a : RT} : evT T (n + 1) (.nt a) e = (evT T n a e).bind fun p => some (!p.1, p.2) := rfl
theorem q_tbop {op : BoolOp} {a b : RT} : evT T (n + 1) (.bop op a b) e = (evT T n a e).bind fun p => if opStop op p.1 then some p else evT T n b p.2 := rfl
theorem q_tcmp {op : CmpOp} {a b : RE} : evT T (n + 1) (.cmp op a b) e = (evE T n a e).bind fun p => (evE T n b p.2.2).bind fun q => (cmpD op p.2.1 q.2.1).bind fun k => some (k, q.2.2) := rfl
theorem q_chn {op op' : CmpOp} {a b c : RE} : evE T (n + 1) (.chn op op' a b c) e = (evE T n a e).bind fun p => (evE T n b p.2.2).bind fun q => (cmpD op p.2.1 q.2.1).bind fun k => if k then (evE T n c q.2.2).bind fun r => (cmpD op' q.2.1 r.2.1).bind fun k2 => some (false, .bool k2, r.2.2) else some (false, .bool false, q.2.2) := rfl
theorem q_tchn {op op' : CmpOp} {a b c : RE} : evT T (n + 1) (.chn op op' a b c) e = (evE T n a e).bind fun p => (evE T n b p.2.2).bind fun q => (cmpD op p.2.1 q.2.1).bind fun k => if k then (evE T n c q.2.2).bind fun r => (cmpD op' q.2.1 r.2.1).bind fun k2 => some (k2, r.2.2) else some (false, q.2.2) := rfl
theorem q_tcmpo {op : CmpOp} {i : Nat} {b : RE} : evT T (n + 1) (.cmpo op i b) e = (slotL e i).bind fun _ => (evE T n b e).bind fun q => (slotL q.2.2 i).bind fun l => (cmpD op (.list l) q.2.1).bind fun k => some (k, q.2.2) := rfl
theorem q_tval {a : RE} : evT T (n + 1) (.val a) e = (evE T n a e).bind fun p => (truD p.2.1).bind fun k => some (k, p.2.2) := rfl
theorem q_tnm {i : Nat} : evT T (n + 1) (.nm i) e = (atS e i).bind fun p => (truD p.2.1).bind fun k => some (k, p.2.2) := by
  rw [evT]
  unfold atS
  cases slotL e i with
  | none => simp only; cases lockS e i <;> rfl
  | some l => rfl
theorem q_iseq {a : RE} : evI T (n + 1) (.seq a) e = (evE T n a e).bind fun p => (itemsD p.2.1).bind fun l => some (l, p.2.2) := rfl
theorem q_irng {es : List RE} : evI T (n + 1) (.rng es) e = (evA T n es e).bind fun p => (rngL p.1).bind fun l => some (l, p.2) := rfl
theorem q_ienu {es : List RE} : evI T (n + 1) (.enu es) e = (evA T n es e).bind fun p => (enuL p.1).bind fun l => some (l, p.2) := rfl
theorem q_izip {a b : RE} : evI T (n + 1) (.zip a b) e = (evE T n a e).bind fun p => (evE T n b p.2.2).bind fun q => (seqD p.2.1).bind fun l => (seqD q.2.1).bind fun m => some (zipD l.2 m.2, q.2.2) := rfl
theorem q_irrg {a : RE} : evI T (n + 1) (.rrg a) e = (evE T n a e).bind fun p => (revL p.2.1).bind fun l => some (l, p.2.2) := rfl
theorem q_revL {i : Int} : revL (.int i) = if b62 i then some ((List.range i.toNat).map fun (m : Nat) => .int ((i.toNat : Int) - 1 - (m : Int))) else none := rfl
theorem q_iez {a b : RE} : evI T (n + 1) (.ez a b) e = (evE T n a e).bind fun p => (evE T n b p.2.2).bind fun q => (seqD p.2.1).bind fun l => (seqD q.2.1).bind fun m => some (enumD 0 (zipD l.2 m.2), q.2.2) := rfl
theorem q_irev {a : RE} : evI T (n + 1) (.rev a) e = (evE T n a e).bind fun p => (seqD p.2.1).bind fun l => some (l.2.reverse, p.2.2) := rfl
theorem q_sset {i : Nat} {a : RE} : evS T (n + 1) (.set i a) e = (evE T n a e).bind fun p => if i < p.2.2.sl.length then some (.nx (setS p.2.2 i p.1 p.2.1)) else none := rfl
theorem q_stgt {t : Tg} {a : RE} : evS T (n + 1) (.tgt t a) e = (evE T n a e).bind fun p => (stT p.2.2 t p.2.1).bind fun z => some (.nx z) := rfl
theorem q_saug {s : Bool} {i : Nat} {a : RE} : evS T (n + 1) (.aug s i a) e = (valI e i).bind fun k => (evE T n a e).bind fun p => (intV p.2.1).bind fun m => if i < p.2.2.sl.length then some (.nx (setS p.2.2 i false (.int (if s then k - m else k + m)))) else none := rfl
theorem q_intV {k : Int} : intV (.int k) = some k := rfl
theorem q_valI {i : Nat} : valI e i = match e.sl[i]? with | some (.val (.int k)) => some k | _ => none := rfl
theorem q_spro {i j : Nat} {a b : RE} : evS T (n + 1) (.pro i j a b) e = (evE T n a e).bind fun y => (evE T n b y.2.2).bind fun z => if i < z.2.2.sl.length then if j < z.2.2.sl.length then some (.nx (setS (setS z.2.2 i false y.2.1) j z.1 z.2.1)) else none else none := rfl
theorem q_spar {is : List Nat} {es : List RE} : evS T (n + 1) (.par is es) e = (evA T n es e).bind fun p => (stAll p.2 is p.1).bind fun z => some (.nx z) := rfl
theorem q_sput2 {i : Nat} {b1 b2 a : RE} : evS T (n + 1) (.put2 i b1 b2 a) e = (evE T n a e).bind fun p => (pairD p.2.1).bind fun w => (slotL p.2.2 i).bind fun _ => (evE T n b1 p.2.2).bind fun q => (intD q.2.1).bind fun k => (slotL q.2.2 i).bind fun l => (ixN l.length k).bind fun j => (evE T n b2 (putL q.2.2 i (l.set j w.1))).bind fun q2 => (intD q2.2.1).bind fun k2 => (slotL q2.2.2 i).bind fun l2 => (ixN l2.length k2).bind fun j2 => some (.nx (putL q2.2.2 i (l2.set j2 w.2))) := by
  rw [evS]
  congr 1
  funext p
  obtain ⟨o, d, e⟩ := p
  have key : ∀ d1 d2 : D, ((slotL e i).bind fun _ => (evE T n b1 e).bind fun q => match q.2.1 with
      | .int k => (slotL q.2.2 i).bind fun l => (ixN l.length k).bind fun j => (evE T n b2 (putL q.2.2 i (l.set j d1))).bind fun q2 => match q2.2.1 with
        | .int k2 => (slotL q2.2.2 i).bind fun l2 => (ixN l2.length k2).bind fun j2 => some (SR.nx (putL q2.2.2 i (l2.set j2 d2)))
        | _ => none
      | _ => none) = (slotL e i).bind fun _ => (evE T n b1 e).bind fun q => (intD q.2.1).bind fun k => (slotL q.2.2 i).bind fun l => (ixN l.length k).bind fun j => (evE T n b2 (putL q.2.2 i (l.set j d1))).bind fun q2 => (intD q2.2.1).bind fun k2 => (slotL q2.2.2 i).bind fun l2 => (ixN l2.length k2).bind fun j2 => some (SR.nx (putL q2.2.2 i (l2.set j2 d2))) := by
    intro d1 d2
    congr 1
    funext _
    congr 1
    funext q
    obtain ⟨o, d, e⟩ := q
    cases d with
    | int k =>
      show (slotL e i).bind _ = (slotL e i).bind _
      congr 1
      funext l
      congr 1
      funext j
      congr 1
      funext q2
      obtain ⟨o, d, e⟩ := q2
      cases d <;> rfl
    | _ => rfl
  dsimp only
  unfold pairD
  cases d with
  | tuple l =>
    match l with
    | [] => rfl
    | [x] => rfl
    | [x, y] => exact key x y
    | _ :: _ :: _ :: _ => rfl
  | _ => rfl
theorem q_sput {i : Nat} {b a : RE} : evS T (n + 1) (.put i b a) e = (evE T n a e).bind fun p => (slotL p.2.2 i).bind fun _ => (evE T n b p.2.2).bind fun q => (intD q.2.1).bind fun k => (slotL q.2.2 i).bind fun l => (ixN l.length k).bind fun j => some (.nx (putL q.2.2 i (l.set j p.2.1))) := by
  rw [evS]
  congr 1
  funext p
  congr 1
  funext _
  congr 1
  funext q
  obtain ⟨o, d, e⟩ := q
  cases d <;> rfl
theorem q_sret {a : RE} : evS T (n + 1) (.ret a) e = (evE T n a e).bind fun p => some (.rt p.1 p.2.1 p.2.2) := rfl
theorem q_sretn : evS T (n + 1) .retn e = some (.rt false .none e) := rfl
theorem q_sife {t : RT} {a b : List RS} : evS T (n + 1) (.ife t a b) e = (evT T n t e).bind fun p => if p.1 then evSs T n a p.2 else evSs T n b p.2 := rfl
theorem q_swhl {t : RT} {b : List RS} : evS T (n + 1) (.whl t b) e = whileL (evT T n t) (evSs T n b) T.W e := rfl
theorem q_sfor {t : Tg} {it : RI} {b : List RS} : evS T (n + 1) (.for t it b) e = (evI T n it e).bind fun p => forL (bodyF T n t b) p.1 p.2 := rfl
theorem q_sex {a : RE} : evS T (n + 1) (.ex a) e = (evE T n a e).bind fun p => some (.nx p.2.2) := rfl
theorem q_spass : evS T (n + 1) .pass e = some (.nx e) := rfl
theorem q_sbrk : evS T (n + 1) .brk e = some (.bk e) := rfl
theorem q_scnt : evS T (n + 1) .cnt e = some (.ct e) := rfl
theorem q_ss0 : evSs T (n + 1) [] e = some (.nx e) := rfl
theorem q_ss1 {s : RS} {ss : List RS} : evSs T (n + 1) (s :: ss) e = (evS T n s e).bind (goOn T n ss) := by
  rw [evSs]
  congr 1
theorem q_gonx {ss : List RS} : goOn T n ss (.nx e) = evSs T n ss e := rfl
theorem q_gort {ss : List RS} {o : Bool} {d : D} : goOn T n ss (.rt o d e) = some (.rt o d e) := rfl
theorem q_gobk {ss : List RS} : goOn T n ss (.bk e) = some (.bk e) := rfl
theorem q_goct {ss : List RS} : goOn T n ss (.ct e) = some (.ct e) := rfl
/-! operators -/
theorem q_add {o : Bool} {i j : Int} : binD .Add o (.int i) (.int j) = some (false, .int (i + j)) := rfl
theorem q_addl {o : Bool} {a b : List D} : binD .Add o (.list a) (.list b) = if szB (a.length + b.length) then some (true, .list (a ++ b)) else none := rfl
theorem q_addt {o : Bool} {a b : List D} : binD .Add o (.tuple a) (.tuple b) = if szB (a.length + b.length) then some (false, .tuple (a ++ b)) else none := rfl
theorem q_sub {o : Bool} {i j : Int} : binD .Sub o (.int i) (.int j) = some (false, .int (i - j)) := rfl
theorem q_mul {o : Bool} {i j : Int} : binD .Mult o (.int i) (.int j) = if mulB i j then some (false, .int (i * j)) else none := by cases o <;> rfl
theorem q_mull {a : List D} {k : Int} : binD .Mult true (.list a) (.int k) = if repB a.length k then some (true, .list (List.replicate k.toNat a).flatten) else none := rfl
theorem q_mult {o : Bool} {a : List D} {k : Int} : binD .Mult o (.tuple a) (.int k) = if timB a.length k then some (false, .tuple (List.replicate k.toNat a).flatten) else none := by cases o <;> rfl
theorem q_div {o : Bool} {i j : Int} : binD .FloorDiv o (.int i) (.int j) = if divB j then some (false, .int (i / j)) else none := rfl
theorem q_mod {o : Bool} {i j : Int} : binD .Mod o (.int i) (.int j) = if posB j then some (false, .int (i % j)) else none := rfl
theorem q_pow {o : Bool} {i j : Int} : binD .Pow o (.int i) (.int j) = if powB i j then some (false, .int (i ^ j.toNat)) else none := rfl
theorem q_eq {d c : D} : cmpD .Eq d c = if shp d && shp c then some (PyData.eqv d c) else none := by cases d <;> rfl
theorem q_ne {d c : D} : cmpD .NotEq d c = if shp d && shp c then some (!PyData.eqv d c) else none := by cases d <;> rfl
theorem q_lt {i j : Int} : cmpD .Lt (.int i) (.int j) = some (decide (i < j)) := rfl
theorem q_le {i j : Int} : cmpD .LtE (.int i) (.int j) = some (decide (i ≤ j)) := rfl
theorem q_gt {i j : Int} : cmpD .Gt (.int i) (.int j) = some (decide (j < i)) := rfl
theorem q_ge {i j : Int} : cmpD .GtE (.int i) (.int j) = some (decide (j ≤ i)) := rfl
theorem q_is1 : cmpD .Is .none .none = some true := rfl
theorem q_is2 {l : List D} : cmpD .Is (.tuple l) .none = some false := rfl
theorem q_is3 {l : List D} : cmpD .Is (.list l) .none = some false := rfl
theorem q_is4 {i : Int} : cmpD .Is (.int i) .none = some false := rfl
theorem q_is5 {b : Bool} : cmpD .Is (.bool b) .none = some false := rfl
theorem q_tr0 : truD .none = some false := rfl
theorem q_trb {b : Bool} : truD (.bool b) = some b := rfl
theorem q_tri {i : Int} : truD (.int i) = some (i != 0) := rfl
theorem q_trl {l : List D} : truD (.list l) = some (!l.isEmpty) := rfl
theorem q_trt {l : List D} : truD (.tuple l) = some (!l.isEmpty) := rfl
theorem q_ixl {l : List D} {i : Int} : ixD (.list l) (.int i) = atI l i := rfl
theorem q_ixt {l : List D} {i : Int} : ixD (.tuple l) (.int i) = atI l i := rfl
theorem q_sll {l : List D} {lo hi : Option Int} : slD (.list l) lo hi = some (true, .list (Fz.cutD l lo hi)) := rfl
theorem q_slt {l : List D} {lo hi : Option Int} : slD (.tuple l) lo hi = some (false, .tuple (Fz.cutD l lo hi)) := rfl
theorem q_sls {l : List D} {lo hi : Option Int} : slD (.dict [(.none, .list l)]) lo hi = some (true, .list (Fz.cutD l lo hi)) := rfl
theorem q_lenl {l : List D} : bltD .len [.list l] = some (false, .int l.length) := rfl
theorem q_lent {l : List D} : bltD .len [.tuple l] = some (false, .int l.length) := rfl
theorem q_inti {i : Int} : bltD .int [.int i] = some (false, .int i) := rfl
theorem q_absi {i : Int} : bltD .abs [.int i] = some (false, .int (if i < 0 then -i else i)) := rfl
theorem q_lisl {l : List D} : bltD .list [.list l] = some (true, .list l) := rfl
theorem q_list {l : List D} : bltD .list [.tuple l] = some (true, .list l) := rfl
theorem q_tupl {l : List D} : bltD .tuple [.list l] = some (false, .tuple l) := rfl
theorem q_tupt {l : List D} : bltD .tuple [.tuple l] = some (false, .tuple l) := rfl
theorem q_all {l : List D} : bltD .all [.list l] = (allB l).bind fun bs => some (false, .bool (bs.all id)) := by
  show (allB l).map _ = _
  cases allB l <;> rfl
theorem q_maxl {l : List D} : bltD .max [.list l] = (allI l).bind fun ns => ns.max?.map fun m => (false, .int m) := rfl
theorem q_max {i j : Int} : bltD .max [.int i, .int j] = some (false, .int (if j > i then j else i)) := rfl
theorem q_min {i j : Int} : bltD .min [.int i, .int j] = some (false, .int (if j < i then j else i)) := rfl
theorem q_itl {l : List D} : itemsD (.list l) = some l := rfl
theorem q_itt {l : List D} : itemsD (.tuple l) = some l := rfl
theorem q_seql {l : List D} : seqD (.list l) = some (true, l) := rfl
theorem q_seqt {l : List D} : seqD (.tuple l) = some (false, l) := rfl
theorem q_rng1 {i : Int} : rngL [.int i] = if b62 i then some (rngD 0 i.toNat) else none := rfl
theorem q_rng2 {i j : Int} : rngL [.int i, .int j] = if b62 i && b62 j then some (rngD i (j - i).toNat) else none := rfl
theorem q_enu1 {d : D} : enuL [d] = (seqD d).bind fun k => some (enumD 0 k.2) := by
  show (seqD d).map _ = _
  cases seqD d <;> rfl
theorem q_enu2 {d : D} {c : Int} : enuL [d, .int c] = if b62 c then (seqD d).bind fun k => some (enumD c k.2) else none := by
  show (if _ then (seqD d).map _ else _) = _
  cases seqD d <;> rfl
theorem q_end1 : endD (.nx e) = some (false, .none, e.bg) := rfl
theorem q_end2 {o : Bool} {d : D} : endD (.rt o d e) = some (o, d, e.bg) := rfl
theorem q_own {l : List D} : slotOf true (.list l) = .own l := rfl
theorem q_val {d : D} : slotOf false d = .val d := by cases d <;> rfl
theorem q_st1 {i : Nat} {d : D} : stT e (.one i) d = if i < e.sl.length then some (setS e i false d) else none := rfl
theorem q_stt {l : List Nat} {ds : List D} : stT e (.tup l) (.tuple ds) = stAll e l ds := rfl
theorem q_stpr {i : Nat} {l : List Nat} {x : D} {ds : List D} : stT e (.pr i l) (.tuple [x, .tuple ds]) = if i < e.sl.length then stAll (setS e i false x) l ds else none := rfl
theorem q_sta0 : stAll e [] [] = some e := rfl
theorem q_sta1 {i : Nat} {l : List Nat} {d : D} {ds : List D} : stAll e (i :: l) (d :: ds) = if i < e.sl.length then stAll (setS e i false d) l ds else none := rfl
theorem q_re1 {i : Nat} {d : D} : reS e i true d = (slotL e i).bind fun l => some (.list l) := rfl
theorem q_re0 {i : Nat} {d : D} : reS e i false d = some d := rfl
end
section
variable {sl : List Sl} {bg : List D} {i : Nat}
theorem q_lkv {d : D} {s : List Sl} (h : sl[i]? = some (.val d)) : lockS ⟨sl, bg⟩ i = some (d, ⟨sl, bg⟩) := by unfold lockS; rw [h]
theorem q_lko {l : List D} (h : sl[i]? = some (.own l)) : lockS ⟨sl, bg⟩ i = some (.list l, ⟨sl.set i (.val (.list l)), bg⟩) := by unfold lockS; rw [h]
theorem q_atv {d : D} (h : sl[i]? = some (.val d)) : atS ⟨sl, bg⟩ i = some (false, d, ⟨sl, bg⟩) := by unfold atS slotL lockS; rw [h]; rfl
theorem q_ato {l : List D} (h : sl[i]? = some (.own l)) : atS ⟨sl, bg⟩ i = some (true, .list l, ⟨sl, bg⟩) := by unfold atS slotL; rw [h]
theorem q_atb (h : sl[i]? = some .bag) : atS ⟨sl, bg⟩ i = some (true, .list bg, ⟨sl, bg⟩) := by unfold atS slotL; rw [h]
theorem q_slo {l : List D} (h : sl[i]? = some (.own l)) : slotL ⟨sl, bg⟩ i = some l := by unfold slotL; rw [h]
theorem q_slb (h : sl[i]? = some .bag) : slotL ⟨sl, bg⟩ i = some bg := by unfold slotL; rw [h]
theorem q_pto {l m : List D} (h : sl[i]? = some (.own m)) : putL ⟨sl, bg⟩ i l = ⟨sl.set i (.own l), bg⟩ := by unfold putL; rw [h]
theorem q_ptb {l : List D} (h : sl[i]? = some .bag) : putL ⟨sl, bg⟩ i l = ⟨sl, l⟩ := by unfold putL; rw [h]
end
theorem forL_nx {f : D → En → Option SR} {d : D} {ds : List D} {e e2 : En} (h : f d e = some (.nx e2)) : forL f (d :: ds) e = forL f ds e2 := by
  rw [forL, h]
theorem forL_ct {f : D → En → Option SR} {d : D} {ds : List D} {e e2 : En} (h : f d e = some (.ct e2)) : forL f (d :: ds) e = forL f ds e2 := by
  rw [forL, h]
theorem forL_rt {f : D → En → Option SR} {d c : D} {ds : List D} {o : Bool} {e e2 : En} (h : f d e = some (.rt o c e2)) : forL f (d :: ds) e = some (.rt o c e2) := by
  rw [forL, h]
/-! ### calls by the place of the table -/
structure At (fs : List (Str × Fn)) (j : Nat) (io : Bool) (n : Nat) (d : List D → Option (Bool × D × List D)) : Prop where
  ex : ∃ x ps kws, fs[j]? = some (x, ⟨ps, io, kws, d⟩) ∧ ps.length = n
def cAt (fs : List (Str × Fn)) (j : Nat) (ds : List D) : Option (Bool × D) := (fs[j]?).bind fun f => callF f ds
def bAt (fs : List (Str × Fn)) (j : Nat) (bs ds : List D) : Option (Bool × D × List D) := (fs[j]?).bind fun f => callB f bs ds
def kAt (fs : List (Str × Fn)) (j m k : Nat) (as bs : List D) : Option (Bool × D) := (fs[j]?).bind fun f => callK f m k as bs
section
variable {fs : List (Str × Fn)} {j n : Nat} {d : List D → Option (Bool × D × List D)}
theorem At.c (h : At fs j false n d) {ds l : List D} {o : Bool} {z : D} (hl : ds.length = n) (hz : d ds = some (o, z, l)) : cAt fs j ds = some (o, z) := by
  obtain ⟨x, ps, kws, e, hp⟩ := h.ex
  unfold cAt callF
  rw [e, Option.bind_some, if_pos ⟨rfl, hl.trans hp.symm⟩]
  show (d ds).bind _ = _
  rw [hz]
  rfl
theorem At.b (h : At fs j true n d) {bs ds : List D} {z : Bool × D × List D} (hl : ds.length + 1 = n) (hz : d (.list bs :: ds) = some z) : bAt fs j bs ds = some z := by
  obtain ⟨x, ps, kws, e, hp⟩ := h.ex
  unfold bAt callB
  rw [e, Option.bind_some, if_pos ⟨rfl, hl.trans hp.symm⟩]
  exact hz
theorem At.of {x : Str} {ps : List Str} {kws : List Kw} {io : Bool} (h : fs[j]? = some (x, ⟨ps, io, kws, d⟩)) (hp : ps.length = n) : At fs j io n d := ⟨x, ps, kws, h, hp⟩
/-- a call by names: the same by place -/
theorem kAt_of {x : Str} {ps : List Str} {kws : List Kw} {m k : Nat} {kw : Kw} {as bs es : List D} (h : fs[j]? = some (x, ⟨ps, false, kws, d⟩)) (hk : kws[m]? = some kw) (h1 : as.length = k) (h2 : bs.length = kw.ks.length) (h3 : arr kw.perm as bs = es) : kAt fs j m k as bs = cAt fs j es := by
  unfold kAt cAt callF callK
  rw [h, Option.bind_some, Option.bind_some]
  show (kws[m]?).bind _ = _
  rw [hk, Option.bind_some, h3]
  by_cases hl : es.length = ps.length
  · rw [if_pos ⟨rfl, h1, h2, hl⟩, if_pos ⟨rfl, hl⟩]
  · rw [if_neg (fun q => hl q.2.2.2), if_neg (fun q => hl q.2)]
end
/-- what comes back of a call to which a list was lent -/
def lentR (z : Bool × D) (e : En) : Option (Bool × D × En) := if z.1 = false ∧ noL 3 z.2 = true then some (false, z.2, e) else none
section
variable {T : Tb} {n : Nat} {e : En}
theorem q_appA {j : Nat} {es : List RE} : evE T (n + 1) (.app j es) e = (evA T n es e).bind fun p => (cAt T.fs j p.1).bind fun z => some (z.1, z.2, p.2) := by
  rw [q_app]
  congr 1
  funext p
  unfold cAt
  cases T.fs[j]? <;> rfl
theorem q_appioA {j i : Nat} {es : List RE} : evE T (n + 1) (.appio j i es) e = (slotL e i).bind fun _ => (evA T n es e).bind fun p => (slotL p.2 i).bind fun bs => (bAt T.fs j bs p.1).bind fun z => some (z.1, z.2.1, putL p.2 i z.2.2) := by
  rw [q_appio]
  congr 1
  funext _
  congr 1
  funext p
  congr 1
  funext bs
  unfold bAt
  cases T.fs[j]? <;> rfl
theorem q_lent0 {j i : Nat} {es : List RE} : evE T (n + 1) (.lent0 j i es) e = (slotL e i).bind fun _ => (evA T n es e).bind fun p => (slotL p.2 i).bind fun bs => (cAt T.fs j (.list bs :: p.1)).bind fun z => lentR z p.2 := by
  rw [evE]
  congr 1
  funext _
  congr 1
  funext p
  congr 1
  funext bs
  unfold cAt
  cases T.fs[j]? with
  | none => rfl
  | some f =>
    show (if _ ∧ p.1.length + 1 = _ then _ else _) = (callF f _).bind _
    unfold callF
    rw [List.length_cons]
    split
    · cases f.2.den (.list bs :: p.1) <;> rfl
    · rfl
theorem q_lent1 {j i : Nat} {a : RE} {es : List RE} : evE T (n + 1) (.lent1 j a i es) e = (evE T n a e).bind fun w => (slotL w.2.2 i).bind fun _ => (evA T n es w.2.2).bind fun p => (slotL p.2 i).bind fun bs => (cAt T.fs j (w.2.1 :: .list bs :: p.1)).bind fun z => lentR z p.2 := by
  rw [evE]
  congr 1
  funext w
  congr 1
  funext _
  congr 1
  funext p
  congr 1
  funext bs
  unfold cAt
  cases T.fs[j]? with
  | none => rfl
  | some f =>
    show (if _ ∧ p.1.length + 2 = _ then _ else _) = (callF f _).bind _
    unfold callF
    rw [List.length_cons, List.length_cons]
    split
    · cases f.2.den (w.2.1 :: .list bs :: p.1) <;> rfl
    · rfl
theorem q_lent2 {j i : Nat} {a b : RE} {es : List RE} : evE T (n + 1) (.lent2 j a b i es) e = (evE T n a e).bind fun w => (evE T n b w.2.2).bind fun u => (slotL u.2.2 i).bind fun _ => (evA T n es u.2.2).bind fun p => (slotL p.2 i).bind fun bs => (cAt T.fs j (w.2.1 :: u.2.1 :: .list bs :: p.1)).bind fun z => lentR z p.2 := by
  rw [evE]
  congr 1
  funext w
  congr 1
  funext u
  congr 1
  funext _
  congr 1
  funext p
  congr 1
  funext bs
  unfold cAt
  cases T.fs[j]? with
  | none => rfl
  | some f =>
    show (if _ ∧ p.1.length + 3 = _ then _ else _) = (callF f _).bind _
    unfold callF
    rw [List.length_cons, List.length_cons, List.length_cons]
    split
    · cases f.2.den (w.2.1 :: u.2.1 :: .list bs :: p.1) <;> rfl
    · rfl
theorem q_appkA {j m : Nat} {es ks : List RE} : evE T (n + 1) (.appk j m es ks) e = (evA T n es e).bind fun p => (evA T n ks p.2).bind fun q => (kAt T.fs j m es.length p.1 q.1).bind fun z => some (z.1, z.2, q.2) := by
  rw [q_appk]
  congr 1
  funext p
  congr 1
  funext q
  unfold kAt
  cases T.fs[j]? <;> rfl
end
/-! ### data that == may be asked of -/
def pl : Nat → D → Bool
  | _, .none => true
  | _, .bool _ => true
  | _, .int _ => true
  | n + 1, .list l => l.all (pl n)
  | n + 1, .tuple l => l.all (pl n)
  | _, _ => false
theorem pl_all {n : Nat} (h : ∀ d, pl n d = true → d.canLay0 = true ∧ d.depth ≤ n) : ∀ l : List D, l.all (pl n) = true → PyData.canLayAll0 l = true ∧ PyData.depthAll l ≤ n
  | [], _ => ⟨by simp only [PyData.canLayAll0], by simp [PyData.depthAll]⟩
  | x :: l, q => by
    rw [List.all_cons, Bool.and_eq_true] at q
    obtain ⟨h1, h2⟩ := h x q.1
    obtain ⟨h3, h4⟩ := pl_all h l q.2
    refine ⟨by rw [PyData.canLayAll0, h1, h3]; rfl, ?_⟩
    rw [PyData.depthAll]
    omega
theorem pl_ok : ∀ (n : Nat) (d : D), pl n d = true → d.canLay0 = true ∧ d.depth ≤ n
  | _, .none, _ => ⟨by simp only [PyData.canLay0], by simp [PyData.depth]⟩
  | _, .bool _, _ => ⟨by simp only [PyData.canLay0], by simp [PyData.depth]⟩
  | _, .int _, _ => ⟨by simp only [PyData.canLay0], by simp [PyData.depth]⟩
  | n + 1, .list l, h => by
    obtain ⟨h1, h2⟩ := pl_all (pl_ok n) l h
    exact ⟨by rw [PyData.canLay0]; exact h1, by rw [PyData.depth]; omega⟩
  | n + 1, .tuple l, h => by
    obtain ⟨h1, h2⟩ := pl_all (pl_ok n) l h
    exact ⟨by rw [PyData.canLay0]; exact h1, by rw [PyData.depth]; omega⟩
  | 0, .list l, h => by cases h
  | 0, .tuple l, h => by cases h
  | 0, .str _, h => by cases h
  | n + 1, .str _, h => by cases h
  | 0, .dict _, h => by cases h
  | n + 1, .dict _, h => by cases h
theorem shp_pl {n : Nat} {d : D} (h : pl n d = true) (hn : n ≤ 64) : shp d = true := by
  obtain ⟨h1, h2⟩ := pl_ok n d h
  show (d.canLay0 && decide (d.depth ≤ 64)) = true
  rw [h1, decide_eq_true (show d.depth ≤ 64 by omega)]
  rfl
theorem pl_I (n : Nat) (f : List Int) : (I f).all (pl n) = true := by
  rw [List.all_eq_true]
  intro x hx
  obtain ⟨i, _, rfl⟩ := List.mem_map.mp hx
  cases n <;> rfl
theorem shp_list (f : List Int) : shp (.list (I f)) = true := shp_pl (n := 1) (pl_I 0 f) (by decide)
theorem shp_tup (f : List Int) : shp (.tuple (I f)) = true := shp_pl (n := 1) (pl_I 0 f) (by decide)
theorem eqv_pl : ∀ (n : Nat) (d : D), pl n d = true → PyData.eqv d d = true := by
  intro n
  induction n with
  | zero =>
    intro d h
    cases d with
    | none => rfl
    | bool b => simp [PyData.eqv]
    | int i => simp [PyData.eqv]
    | list l => cases h
    | tuple l => cases h
    | str _ => cases h
    | dict _ => cases h
  | succ n ih =>
    have key : ∀ l : List D, l.all (pl n) = true → PyData.eqvAll l l = true := by
      intro l
      induction l with
      | nil => intro _; rfl
      | cons x l il =>
        intro h
        rw [List.all_cons, Bool.and_eq_true] at h
        show (PyData.eqv x x && PyData.eqvAll l l) = true
        rw [ih x h.1, il h.2]
        rfl
    intro d h
    cases d with
    | none => rfl
    | bool b => simp [PyData.eqv]
    | int i => simp [PyData.eqv]
    | list l => exact key l h
    | tuple l => exact key l h
    | str _ => cases h
    | dict _ => cases h
end Fz
set_option Elab.async false
set_option linter.all false
set_option maxRecDepth 100000
set_option maxHeartbeats 4000000
/-! Fz, part U: the table of the text's defs, one after another; the end. -/
namespace Fz
open PySem PySem.Spec PyProof.Rows L2
abbrev FnP (K : PySem.W.Frag) (x : Str) (st : Stmt) (f : Addr) (fd : FuncData) : Prop := FunD K x x (defArgs st) (defBody st) (defScope st) [] [] f fd
/-- how values come to a def's parameters: by place, and by the names of each pattern -/
structure Bnd (x : Str) (st : Stmt) (fn : Fn) : Prop where
  b : ∀ (kV doc pm : Value) (an : Option Addr) (cdv ct : Value) (us : List Value), us.length = fn.ps.length → bindArgs (PySem.W.fnOf x x (defArgs st) (defBody st) (defScope st) .none kV doc pm an cdv ct) ⟨us, []⟩ = pure (fn.ps.zip us)
  k : ∀ kw ∈ fn.kws, ∀ (kV doc pm : Value) (an : Option Addr) (cdv ct : Value) (us ws : List Value), us.length = kw.n → ws.length = kw.ks.length → bindArgs (PySem.W.fnOf x x (defArgs st) (defBody st) (defScope st) .none kV doc pm an cdv ct) ⟨us, kw.ks.zip ws⟩ = pure (fn.ps.zip (arr kw.perm us ws))
section
variable {P : Program} {w : World} {K : PySem.W.Frag} {mg : Str → Option Value} {base : Heap}
theorem FunD.kbPlain {x : Str} {st : Stmt} {f : Addr} {fd : FuncData} {fn : Fn} (F : FnP K x st f fd) (B : Bnd x st fn) : ∀ kw ∈ fn.kws, KBn K fd fn.ps kw.n kw.ks (arr kw.perm) (arr kw.perm) := by
  intro kw hkw
  obtain ⟨oc, od, dV, kV, doc, pm, an, cdv, ct, osl, rfl, lk, hcd, hD, hK⟩ := F.ex
  rcases hD with ⟨_, rfl⟩ | ⟨e, _⟩
  · exact ⟨fun s us ws X l1 l2 => .of_eq (B.k kw hkw kV doc pm an cdv ct us ws l1 l2), fun r1 r2 => arr_vals r1 r2 kw.perm⟩
  · exact absurd rfl e
/-- a def of the text, once the defs ahead of it are good -/
theorem def_fn {x : Str} {st : Stmt} {f : Addr} {fd : FuncData} {n k W : Nat} {fn : Fn} {b : List RS} {N : List Str} {fs : List (Str × Fn)} (F : FnP K x st f fd) (S : FnScope N fn.ps (defScope st))
    (hb : ∀ y, bltNames.contains y = true → mg y = none) (hf : ∀ (j : Nat) (p : Str × Fn), fs[j]? = some p → Env1 P w K mg base k p.1 p.2) (hc : ckSs ⟨N, fs, W⟩ n (defScope st) (defBody st) b = true)
    (hd : ∀ ds z, fn.den ds = some z → ∃ m, runD ⟨N, fs, W⟩ m fn.io b ds = some z) : FnOk P w K mg base CX0 (k + 1) f fd fn.ps (spD K fn) := by
  have hpl : fn.ps.length ≤ N.length := by have := congrArg List.length S.pre; rw [List.length_take] at this; omega
  refine FunD.ok F S (fun vs H Q E h => ?_) (fun cdv A outer s H vs Q E hr h => ?_)
  · obtain ⟨G, β, ds, o, d, l, h1, h2, _⟩ := h
    exact h2
  · obtain ⟨G, β, ds, o, d, l, h1, h2, ex, ha, q⟩ := h
    obtain ⟨m, hm⟩ := hd ds _ h1
    unfold runD at hm
    rw [Option.bind_eq_some_iff] at hm
    obtain ⟨r, e1, e2⟩ := hm
    have C : Ctx P w K mg base N k (defScope st) (cxOf CX0 P w K mg base N x (defScope st) f cdv A outer s H E).nox := ⟨rfl, rfl, rfl, rfl, rfl, rfl, rfl, hr, rfl, fun _ => rfl, PassesOwn.never⟩
    have hds : DenSs (cxOf CX0 P w K mg base N x (defScope st) f cdv A outer s H E).nox β (defBody st) (en0 N.length fn.io ds) r :=
      (sndS_all ⟨N, fs, W⟩ k n).Ss ⟨⟨rfl, S.nd, rfl, hr, rfl, hb, fun j p hp => ⟨(hf j p hp).ex, (hf j p hp).nd⟩⟩, S.kind, fun _ => rfl, PassesOwn.never⟩ hc e1
    refine ⟨_, PSs.nox pss_w, hds G H (r0 β) (L2.start N vs) _ (start_R (by rw [h2]; exact hpl) ex ha) ?_⟩
    cases r with
    | nx e =>
      cases e2
      intro G' H' ρ' σ' f' r'
      refine q .non G' H' ρ' f' r'.ex (fun a e => ?_) .non
      obtain ⟨b1, ws, b2, b3⟩ := r'.bg a e
      exact ⟨(r'.ow a (by rw [b1]; simp)).1, ws, b2, b3⟩
    | rt o e b =>
      cases e2
      intro v G' H' ρ' σ' f' r' x
      refine q v G' H' ρ' f' r'.ex (fun a e => ?_) x
      obtain ⟨b1, ws, b2, b3⟩ := r'.bg a e
      exact ⟨(r'.ow a (by rw [b1]; simp)).1, ws, b2, b3⟩
    | bk e => cases e2
    | ct e => cases e2
theorem def_env {x : Str} {st : Stmt} {f : Addr} {fd : FuncData} {n k W : Nat} {fn : Fn} {b : List RS} {N : List Str} {fs : List (Str × Fn)} (hmg : mg x = some (.ref f)) (F : FnP K x st f fd) (S : FnScope N fn.ps (defScope st)) (B : Bnd x st fn)
    (hb : ∀ y, bltNames.contains y = true → mg y = none) (hf : ∀ (j : Nat) (p : Str × Fn), fs[j]? = some p → Env1 P w K mg base k p.1 p.2) (hc : ckSs ⟨N, fs, W⟩ n (defScope st) (defBody st) b = true)
    (hd : ∀ ds z, fn.den ds = some z → ∃ m, runD ⟨N, fs, W⟩ m fn.io b ds = some z) (nd : (x == ("__debug__" : Str)) = false) : Env1 P w K mg base (k + 1) x fn :=
  ⟨⟨f, fd, hmg, F.kp, def_fn F S hb hf hc hd, FunD.bindsN F B.b, FunD.kbPlain F B⟩, nd⟩
/-- a def of which nothing is promised -/
theorem void_env {x : Str} {st : Stmt} {f : Addr} {fd : FuncData} {k : Nat} {fn : Fn} {N : List Str} (hmg : mg x = some (.ref f)) (F : FnP K x st f fd) (S : FnScope N fn.ps (defScope st)) (B : Bnd x st fn) (hd : ∀ ds, fn.den ds = none) (nd : (x == ("__debug__" : Str)) = false) : Env1 P w K mg base (k + 1) x fn := by
  refine ⟨⟨f, fd, hmg, F.kp, ?_, FunD.bindsN F B.b, FunD.kbPlain F B⟩, nd⟩
  refine FunD.ok F S (fun vs H Q E h => ?_) (fun cdv A outer s H vs Q E hr h => ?_)
  · obtain ⟨G, β, ds, o, d, l, h1, h2, _⟩ := h
    exact h2
  · obtain ⟨G, β, ds, o, d, l, h1, _⟩ := h
    rw [hd] at h1
    cases h1
theorem Env1.up {x : Str} {fn : Fn} {k : Nat} (h : Env1 P w K mg base k x fn) : Env1 P w K mg base (k + 1) x fn := by
  obtain ⟨f, fd, h1, h2, h3, h4, h5⟩ := h.ex
  exact ⟨⟨f, fd, h1, h2, h3.mono (Nat.le_succ k), h4, h5⟩, h.nd⟩
/-- a table of good defs -/
def Good (P : Program) (w : World) (K : PySem.W.Frag) (mg : Str → Option Value) (base : Heap) (k : Nat) (fs : List (Str × Fn)) : Prop := ∀ (j : Nat) (p : Str × Fn), fs[j]? = some p → Env1 P w K mg base k p.1 p.2
theorem Good.nil {k : Nat} : Good P w K mg base k [] := fun j p h => by simp at h
theorem Good.push {k : Nat} {fs : List (Str × Fn)} {x : Str} {fn : Fn} (g : Good P w K mg base k fs) (e : Env1 P w K mg base (k + 1) x fn) : Good P w K mg base (k + 1) (fs ++ [(x, fn)]) := by
  intro j p h
  rw [List.getElem?_append] at h
  split at h
  · exact (g j p h).up
  · have : (x, fn) = p := by
      cases hj : j - fs.length with
      | zero => rw [hj] at h; simpa using h
      | succ m => rw [hj] at h; simp at h
    cases this
    exact e
theorem Good.upn {k : Nat} {fs : List (Str × Fn)} : ∀ n : Nat, Good P w K mg base k fs → Good P w K mg base (k + n) fs
  | 0, g => g
  | n + 1, g => fun j p h => (Good.upn n g j p h).up
end
/-! ### the law's own call -/
theorem rps_ints {K : PySem.W.Frag} {H : Hp} : ∀ ns : List Int, Rps K H (ns.map V.int) (I ns)
  | [] => .nil
  | n :: ns => .cons (.int n) (rps_ints ns)
theorem law_in {K : PySem.W.Frag} {fn : Fn} (hio : fn.io = false) (hp : fn.ps.length = 1) (hden : ∀ cs : List Int, cs.length ≤ 63 → ∃ l, fn.den [.dict [(.none, .list (I cs))]] = some (false, .bool true, l)) (H : Hp) (a : Addr) (ns : List Int) (hl : ns.length ≤ 63) (hO : Only H) (hS : SqL K H a (ns.map V.int)) :
    spD K fn [.ref a] H (fun v _ => v = .bl true) (fun _ _ _ => False) := by
  obtain ⟨l, hd⟩ := hden ns hl
  refine ⟨H, none, [.dict [(.none, .list (I ns))]], false, .bool true, l, hd, by rw [hp]; rfl, ?_, ?_, fun v G' H' ρ' f ex _ x => ?_⟩
  · exact Evl.Ex.refl H
  · rw [hio]
    refine ⟨rfl, .cons (.scr hS (rps_ints ns)) .nil⟩
  · cases x
    rfl
end Fz
set_option Elab.async false
set_option linter.all false
set_option maxRecDepth 100000
set_option maxHeartbeats 1000000
/-! Common divisors of forms, with their multipliers. -/
namespace W1
open PySem PySem.Spec PyProof.Rows L2 Fz
variable {P : Prm}
def Dv (a b : Po P) : Prop := ∃ q, b = q * a
theorem Dv.refl (a : Po P) : Dv a a := ⟨1, by grind⟩
theorem Dv.zero (a : Po P) : Dv a 0 := ⟨0, by grind⟩
theorem Dv.trans {a b c : Po P} (h : Dv a b) (k : Dv b c) : Dv a c := by
  obtain ⟨q, rfl⟩ := h
  obtain ⟨r, rfl⟩ := k
  exact ⟨r * q, by grind⟩
theorem Dv.add {a b c : Po P} (h : Dv a b) (k : Dv a c) : Dv a (b + c) := by
  obtain ⟨q, rfl⟩ := h
  obtain ⟨r, rfl⟩ := k
  exact ⟨q + r, by grind⟩
theorem Dv.sub {a b c : Po P} (h : Dv a b) (k : Dv a c) : Dv a (b - c) := by
  obtain ⟨q, rfl⟩ := h
  obtain ⟨r, rfl⟩ := k
  exact ⟨q - r, by grind⟩
theorem Dv.mul {a b : Po P} (c : Po P) (h : Dv a b) : Dv a (c * b) := by
  obtain ⟨q, rfl⟩ := h
  exact ⟨c * q, by grind⟩
theorem Dv.of0 {a : Po P} (h : Dv (0 : Po P) a) : a = 0 := by
  obtain ⟨q, rfl⟩ := h
  grind
theorem quo_rem (F : Po P) {G : Po P} (hG : G ≠ 0) : F.quo G * G + F.rem G = F := (dv_spec F G hG).2.2.1
theorem rem_dv {F G : Po P} (hG : G ≠ 0) : F.rem G = 0 ↔ Dv G F := by
  constructor
  · intro h
    have := quo_rem F hG
    rw [h] at this
    exact ⟨F.quo G, by grind⟩
  · rintro ⟨q, rfl⟩
    have h := quo_rem (q * G) hG
    have l0 : (0 : Po P).len < G.len := by rw [Po.len0]; exact Po.len_pos hG
    exact (dv_unique (g := G) (q := (q * G).quo G) (q' := q) (r := (q * G).rem G) (r' := 0) (by grind) (Po.rem_len _ hG) l0).2
theorem quo_len (F : Po P) {G : Po P} (hG : G ≠ 0) : F.quo G = 0 ∨ (F.quo G).len + G.len ≤ F.len + 1 := by
  by_cases hq : F.quo G = 0
  · exact .inl hq
  · refine .inr ?_
    have h1 := Po.len_mul hq hG
    have h2 := quo_rem F hG
    have h3 : F.quo G * G = F - F.rem G := by grind
    have h4 := Po.rem_len F hG
    have h5 := Po.len_sub F (F.rem G) (n := max F.len (F.rem G).len) (Nat.le_max_left _ _) (Nat.le_max_right _ _)
    rw [← h3, h1] at h5
    have h6 := Po.len_pos hq
    have h7 := Po.len_pos hG
    omega
structure T3 (P : Prm) where
  a : Po P
  b : Po P
  c : Po P
def T3.step (h l : T3 P) : T3 P := ⟨h.a - h.a.quo l.a * l.a, h.b - h.a.quo l.a * l.b, h.c - h.a.quo l.a * l.c⟩
theorem step_a (h : T3 P) {l : T3 P} (hl : l.a ≠ 0) : (h.step l).a = h.a.rem l.a := by
  have := quo_rem h.a hl
  show h.a - h.a.quo l.a * l.a = _
  grind
def exN : Nat → T3 P → T3 P → T3 P
  | 0, h, _ => h
  | n + 1, h, l => if l.a.f = [] then h else exN n l (h.step l)
def gcN : Nat → Po P → Po P → Po P
  | 0, a, _ => a
  | n + 1, a, b => if b.f = [] then a else gcN n b (a.rem b)
theorem exN_a : ∀ (n : Nat) (h l : T3 P), (exN n h l).a = gcN n h.a l.a
  | 0, h, l => rfl
  | n + 1, h, l => by
    unfold exN gcN
    split
    · rfl
    · rename_i hn
      rw [exN_a n, step_a h fun e => hn (Po.eq0.mp e)]
theorem gcN_fuel : ∀ (n : Nat) (a b : Po P), b.len ≤ n → gcN n a b = gcN b.len a b
  | 0, a, b, h => by
    have : b.len = 0 := by omega
    rw [this]
  | n + 1, a, b, h => by
    by_cases hb : b.f = []
    · have e : b.len = 0 := by unfold Po.len; rw [hb]; rfl
      rw [e]
      unfold gcN
      rw [if_pos hb]
    · have hb0 : b ≠ 0 := fun e => hb (Po.eq0.mp e)
      have hl := Po.rem_len a hb0
      obtain ⟨m, hm⟩ : ∃ m, b.len = m + 1 := ⟨b.len - 1, by have := Po.len_pos hb0; omega⟩
      rw [hm]
      unfold gcN
      rw [if_neg hb, gcN_fuel n b (a.rem b) (by omega), gcN_fuel m b (a.rem b) (by omega), if_neg hb]
def gc (a b : Po P) : Po P := gcN b.len a b
def Cmb (o t : Po P) (h : T3 P) : Prop := h.a = h.b * o + h.c * t
theorem exN_ok {o t : Po P} : ∀ (n : Nat) (h l : T3 P), l.a.len ≤ n → Cmb o t h → Cmb o t l → Cmb o t (exN n h l) ∧ Dv (exN n h l).a h.a ∧ Dv (exN n h l).a l.a
  | 0, h, l, hn, ch, cl => by
    have e : l.a = 0 := Po.eq0.mpr (List.eq_nil_of_length_eq_zero (by unfold Po.len at hn; omega))
    exact ⟨ch, .refl _, by rw [e]; exact .zero _⟩
  | n + 1, h, l, hn, ch, cl => by
    unfold exN
    split
    · rename_i e
      exact ⟨ch, .refl _, by rw [Po.eq0.mpr e]; exact .zero _⟩
    · rename_i e
      have hl : l.a ≠ 0 := fun z => e (Po.eq0.mp z)
      have hr : (h.step l).a.len < l.a.len := by rw [step_a h hl]; exact Po.rem_len _ hl
      have cs : Cmb o t (h.step l) := by
        unfold Cmb at *
        show h.a - h.a.quo l.a * l.a = (h.b - h.a.quo l.a * l.b) * o + (h.c - h.a.quo l.a * l.c) * t
        generalize h.a.quo l.a = q
        grind
      obtain ⟨k1, k2, k3⟩ := exN_ok n l (h.step l) (by omega) cl cs
      refine ⟨k1, ?_, k2⟩
      have : h.a = (h.step l).a + h.a.quo l.a * l.a := by
        show h.a = h.a - h.a.quo l.a * l.a + h.a.quo l.a * l.a
        generalize h.a.quo l.a = q
        grind
      rw [this]
      exact k3.add (k2.mul _)
def ex (o t : Po P) : T3 P := exN t.len ⟨o, 1, 0⟩ ⟨t, 0, 1⟩
theorem ex_a (o t : Po P) : (ex o t).a = gc o t := exN_a _ _ _
theorem ex_ok (o t : Po P) : (ex o t).a = (ex o t).b * o + (ex o t).c * t ∧ Dv (ex o t).a o ∧ Dv (ex o t).a t :=
  exN_ok (o := o) (t := t) t.len ⟨o, 1, 0⟩ ⟨t, 0, 1⟩ (Nat.le_refl _) (by unfold Cmb; grind) (by unfold Cmb; grind)
theorem gc_dvl (o t : Po P) : Dv (gc o t) o := by rw [← ex_a]; exact (ex_ok o t).2.1
theorem gc_dvr (o t : Po P) : Dv (gc o t) t := by rw [← ex_a]; exact (ex_ok o t).2.2
theorem gc_gr {o t D : Po P} (h : Dv D o) (k : Dv D t) : Dv D (gc o t) := by
  rw [← ex_a, (ex_ok o t).1]
  exact (h.mul _).add (k.mul _)
/-! the lengths -/
def Lb (C : Nat) (h l : T3 P) : Prop := h.b.len + l.a.len ≤ C ∧ h.c.len + l.a.len ≤ C ∧ l.b.len + h.a.len ≤ C ∧ l.c.len + h.a.len ≤ C
theorem step_len {C : Nat} {h l : T3 P} {x y : Po P} (hl : l.a ≠ 0) (h1 : x.len + l.a.len ≤ C) (h2 : y.len + h.a.len ≤ C) : (x - h.a.quo l.a * y).len + l.a.len ≤ C := by
  by_cases hy : y = 0
  · have : x - h.a.quo l.a * y = x := by rw [hy]; grind
    rw [this]
    exact h1
  rcases quo_len h.a hl with hq | hq
  · have : x - h.a.quo l.a * y = x := by rw [hq]; grind
    rw [this]
    exact h1
  · by_cases hq0 : h.a.quo l.a = 0
    · have : x - h.a.quo l.a * y = x := by rw [hq0]; grind
      rw [this]
      exact h1
    have h3 := Po.len_mul hq0 hy
    have h4 := Po.len_sub x (h.a.quo l.a * y) (n := C - l.a.len) (by omega) (by have := Po.len_pos hy; omega)
    have h5 : l.a.len ≤ C := by omega
    omega
theorem exN_len {C : Nat} : ∀ (n : Nat) (h l : T3 P), Lb C h l → (exN n h l).b.len ≤ C ∧ (exN n h l).c.len ≤ C
  | 0, h, l, hL => ⟨by have := hL.1; show h.b.len ≤ C; omega, by have := hL.2.1; show h.c.len ≤ C; omega⟩
  | n + 1, h, l, hL => by
    unfold exN
    split
    · exact ⟨by have := hL.1; omega, by have := hL.2.1; omega⟩
    · rename_i e
      have hl : l.a ≠ 0 := fun z => e (Po.eq0.mp z)
      have hr : (h.step l).a.len < l.a.len := by rw [step_a h hl]; exact Po.rem_len _ hl
      obtain ⟨h1, h2, h3, h4⟩ := hL
      have hla : h.a.len ≤ C := by omega
      refine exN_len n l (h.step l) ⟨?_, ?_, step_len hl h1 h3, step_len hl h2 h4⟩
      · by_cases q : l.a.len ≤ h.a.len
        · omega
        · have e0 : (h.step l).a.len ≤ h.a.len := by
            rw [step_a h hl, Po.rem_small hl (by omega)]
            exact Nat.le_refl _
          omega
      · by_cases q : l.a.len ≤ h.a.len
        · omega
        · have e0 : (h.step l).a.len ≤ h.a.len := by
            rw [step_a h hl, Po.rem_small hl (by omega)]
            exact Nat.le_refl _
          omega
theorem ex_len (o t : Po P) : (ex o t).b.len ≤ 1 + max o.len t.len ∧ (ex o t).c.len ≤ 1 + max o.len t.len := by
  have l1 : (1 : Po P).len = 1 := by unfold Po.len; rw [one_f]; rfl
  have l0 : (0 : Po P).len = 0 := Po.len0
  refine exN_len t.len ⟨o, 1, 0⟩ ⟨t, 0, 1⟩ ⟨?_, ?_, ?_, ?_⟩ <;> simp only [l1, l0] <;> omega
end W1
set_option Elab.async false
set_option linter.all false
set_option maxRecDepth 100000
set_option maxHeartbeats 1000000
/-! The common divisor of a list, monic, with its multipliers. -/
namespace W1
open PySem PySem.Spec PyProof.Rows L2 Fz
variable {P : Prm}
theorem Dv.len {a b : Po P} (h : Dv a b) (hb : b ≠ 0) : a.len ≤ b.len := by
  obtain ⟨q, rfl⟩ := h
  have hq : q ≠ 0 := fun e => hb (by rw [e]; grind)
  have ha : a ≠ 0 := fun e => hb (by rw [e]; grind)
  have := Po.len_mul hq ha
  have := Po.len_pos hq
  omega
/-! ### monic forms -/
def cs (P : Prm) (x : Int) : Po P := Po.of P [x]
theorem cs_mul (x y : Int) : cs P x * cs P y = cs P (x * y) := Po.ext' fun k => by
  unfold cs
  rw [gd_cst, gd_of, gd_of, gd_one0, gd_one0]
  split
  · rw [Int.mul_emod, Int.emod_emod_of_dvd _ (Int.dvd_refl _), ← Int.mul_emod]
  · simp
theorem cs_one {x : Int} (h : x % P.i = 1) : cs P x = 1 := Po.ext' fun k => by
  unfold cs
  rw [gd_of, gd_one0, one_f, gd_one0]
  split
  · exact h
  · exact Int.zero_emod _
def Po.ld (F : Po P) : Int := gd F.f (F.len - 1)
def Po.mon (F : Po P) : Po P := if F.f = [] then 0 else cs P (inv P.i F.ld) * F
def Mo (A : Po P) : Prop := A = 0 ∨ A.ld = 1
theorem last_gd : ∀ f : List Int, f.getLast?.getD 0 = gd f (f.length - 1)
  | [] => rfl
  | a :: l => by
    rw [List.getLast?_eq_getElem?]
    unfold gd
    rw [List.getD_eq_getElem?_getD]
theorem mon_f (F : Po P) : F.mon.f = monic P.i F.f := by
  unfold Po.mon monic
  split
  · exact zero_f
  · rw [last_gd]
    show (cs P (inv P.i F.ld) * F).f = _
    have : cs P (inv P.i F.ld) * F = Po.of P (F.f.map (inv P.i (gd F.f (F.f.length - 1)) * ·)) := Po.ext' fun k => by
      unfold cs
      rw [gd_cst, gd_of, gd_map (u := (inv P.i (gd F.f (F.f.length - 1)) * ·)) (by simp)]
      rfl
    rw [this]
    rfl
theorem mon_0 : (0 : Po P).mon = 0 := by unfold Po.mon; rw [if_pos zero_f]
theorem mon_ne {F : Po P} (h : F ≠ 0) : F.mon = cs P (inv P.i F.ld) * F := by
  unfold Po.mon
  rw [if_neg fun e => h (Po.eq0.mpr e)]
theorem mon_back {F : Po P} (h : F ≠ 0) : F = cs P F.ld * F.mon := by
  obtain ⟨_, _, h3⟩ := inv_lead F h
  have e : cs P F.ld * cs P (inv P.i F.ld) = 1 := by rw [cs_mul, Int.mul_comm]; exact cs_one h3
  rw [mon_ne h]
  generalize cs P F.ld = a at *
  generalize cs P (inv P.i F.ld) = b at *
  grind
theorem mon_nz {F : Po P} (h : F ≠ 0) : F.mon ≠ 0 := fun e => h (by rw [mon_back h, e]; grind)
theorem mon_dvl (F : Po P) : Dv F.mon F := by
  by_cases h : F = 0
  · rw [h]; exact .zero _
  · exact ⟨_, mon_back h⟩
theorem mon_dvr (F : Po P) : Dv F F.mon := by
  by_cases h : F = 0
  · rw [h, mon_0]; exact .zero _
  · exact ⟨_, mon_ne h⟩
theorem mon_mo (F : Po P) : Mo F.mon := by
  by_cases h : F = 0
  · rw [h, mon_0]; exact .inl rfl
  · refine .inr ?_
    have h1 := (mon_dvl F).len h
    have h2 := (mon_dvr F).len (mon_nz h)
    obtain ⟨_, _, h3⟩ := inv_lead F h
    unfold Po.ld
    rw [show F.mon.len = F.len by omega, mon_ne h]
    unfold cs
    rw [gd_cst]
    exact h3
theorem cs_of {q : Po P} (h : q.len ≤ 1) : q = cs P (gd q.f 0) := Po.ext' fun k => by
  unfold cs
  rw [gd_of, gd_one0]
  split
  · rename_i e
    rw [e, q.rng]
  · rw [q.out (by omega), Int.zero_emod]
theorem mo_eq {A B : Po P} (ha : Mo A) (hb : Mo B) (h : Dv A B) (k : Dv B A) : A = B := by
  by_cases h0 : A = 0
  · rw [h0] at h ⊢
    exact h.of0.symm
  by_cases h1 : B = 0
  · rw [h1] at k ⊢
    exact k.of0
  have ha := ha.resolve_left h0
  have hb := hb.resolve_left h1
  have l1 := h.len h1
  have l2 := k.len h0
  obtain ⟨q, rfl⟩ := h
  have hq : q ≠ 0 := fun e => h1 (by rw [e]; grind)
  have hl := Po.len_mul hq h0
  have hp := Po.len_pos h0
  have hq1 : q.len ≤ 1 := by omega
  have e := cs_of hq1
  unfold Po.ld at hb ha
  rw [show (q * A).len = A.len by omega, e] at hb
  unfold cs at hb
  rw [gd_cst, ha, Int.mul_one, q.rng] at hb
  rw [e, hb, cs_one (show (1 : Int) % P.i = 1 from Int.emod_eq_of_lt (by decide) (by have := P.two; omega))]
  grind
/-! ### lists -/
def dvs : Po P → List (Po P) → Po P
  | d, [] => d
  | d, f :: fs => dvs (gc d f) fs
theorem dvs_all : ∀ (fs : List (Po P)) (d : Po P), Dv (dvs d fs) d ∧ ∀ f ∈ fs, Dv (dvs d fs) f
  | [], d => ⟨.refl _, by simp⟩
  | f :: fs, d => by
    obtain ⟨h1, h2⟩ := dvs_all fs (gc d f)
    refine ⟨h1.trans (gc_dvl d f), fun g hg => ?_⟩
    rcases List.mem_cons.mp hg with rfl | hg
    · exact h1.trans (gc_dvr d _)
    · exact h2 g hg
theorem dvs_gr {D : Po P} : ∀ (fs : List (Po P)) (d : Po P), Dv D d → (∀ f ∈ fs, Dv D f) → Dv D (dvs d fs)
  | [], d, h, _ => h
  | f :: fs, d, h, k => dvs_gr fs (gc d f) (gc_gr h (k f (by simp))) fun g hg => k g (by simp [hg])
def Gd (fs : List (Po P)) : Po P := (dvs 0 fs).mon
theorem Gd_mo (fs : List (Po P)) : Mo (Gd fs) := mon_mo _
theorem Gd_dv {fs : List (Po P)} {f : Po P} (h : f ∈ fs) : Dv (Gd fs) f := (mon_dvl _).trans ((dvs_all fs 0).2 f h)
theorem Gd_gr {fs : List (Po P)} {D : Po P} (h : ∀ f ∈ fs, Dv D f) : Dv D (Gd fs) := (dvs_gr fs 0 (.zero _) h).trans (mon_dvr _)
theorem Gd_eq {fs : List (Po P)} {A : Po P} (hA : Mo A) (h1 : ∀ f ∈ fs, Dv A f) (h2 : ∀ D, (∀ f ∈ fs, Dv D f) → Dv D A) : Gd fs = A :=
  mo_eq (Gd_mo fs) hA (h2 _ fun f hf => Gd_dv hf) (Gd_gr h1)
theorem Gd_two (fs : List (Po P)) (f : Po P) : Gd [Gd fs, f] = Gd (fs ++ [f]) := by
  refine Gd_eq (Gd_mo _) (fun g hg => ?_) fun D hD => Gd_gr fun g hg => ?_
  · rcases List.mem_cons.mp hg with rfl | hg
    · exact Gd_gr fun x hx => Gd_dv (by simp [hx])
    · exact Gd_dv (by simp at hg; simp [hg])
  · rcases List.mem_append.mp hg with hg | hg
    · exact (hD (Gd fs) (by simp)).trans (Gd_dv hg)
    · exact hD g (by simp at hg; simp [hg])
theorem Gd_cut (fs : List (Po P)) (k : Nat) : Gd [Gd (fs.take k), Gd (fs.drop k)] = Gd fs := by
  refine Gd_eq (Gd_mo _) (fun g hg => ?_) fun D hD => Gd_gr fun g hg => ?_
  · simp only [List.mem_cons, List.not_mem_nil, or_false] at hg
    rcases hg with rfl | rfl
    · exact Gd_gr fun x hx => Gd_dv (List.mem_of_mem_take hx)
    · exact Gd_gr fun x hx => Gd_dv (List.mem_of_mem_drop hx)
  · have hg' : g ∈ fs.take k ++ fs.drop k := by rw [List.take_append_drop]; exact hg
    rcases List.mem_append.mp hg' with hg | hg
    · exact (hD (Gd (fs.take k)) (by simp)).trans (Gd_dv hg)
    · exact (hD (Gd (fs.drop k)) (by simp)).trans (Gd_dv hg)
theorem ld_one : (1 : Po P).ld = 1 := by
  unfold Po.ld Po.len
  rw [one_f]
  rfl
theorem Gd_one (fs : List (Po P)) (h : (1 : Po P) ∈ fs) : Gd fs = 1 :=
  Gd_eq (.inr ld_one) (fun f _ => ⟨f, by grind⟩) fun D hD => hD 1 h
theorem gc_len {B : Nat} {d f : Po P} (h1 : d.len ≤ B) (h2 : f.len ≤ B) : (gc d f).len ≤ B := by
  by_cases hd : d = 0
  · by_cases hf : f = 0
    · rw [hd, hf]
      unfold gc
      rw [Po.len0]
      show (0 : Po P).len ≤ B
      rw [Po.len0]
      omega
    · have := (gc_dvr d f).len hf
      omega
  · have := (gc_dvl d f).len hd
    omega
theorem dvs_len {B : Nat} : ∀ (fs : List (Po P)) (d : Po P), d.len ≤ B → (∀ f ∈ fs, f.len ≤ B) → (dvs d fs).len ≤ B
  | [], d, h, _ => h
  | f :: fs, d, h, k => dvs_len fs _ (gc_len h (k f (by simp))) fun g hg => k g (by simp [hg])
theorem mon_len (F : Po P) : F.mon.len ≤ F.len := by
  by_cases h : F = 0
  · rw [h, mon_0]
    exact Nat.le_refl _
  · exact (mon_dvl F).len h
theorem Gd_len {B : Nat} {fs : List (Po P)} (h : ∀ f ∈ fs, f.len ≤ B) : (Gd fs).len ≤ B := by
  have := dvs_len fs 0 (by rw [Po.len0]; omega) h
  have := mon_len (dvs 0 fs)
  unfold Gd
  omega
/-! ### with multipliers -/
def dvw : Po P → List (Po P) → List (Po P) → Po P × List (Po P)
  | d, ms, [] => (d, ms)
  | d, ms, f :: fs => dvw (ex d f).a (ms.map ((ex d f).b * ·) ++ [(ex d f).c]) fs
theorem dvw_1 : ∀ (fs ms : List (Po P)) (d : Po P), (dvw d ms fs).1 = dvs d fs
  | [], _, _ => rfl
  | f :: fs, ms, d => by
    unfold dvw dvs
    rw [dvw_1 fs, ex_a]
theorem dvw_num : ∀ (fs ms : List (Po P)) (d : Po P), (dvw d ms fs).2.length = ms.length + fs.length
  | [], _, _ => rfl
  | f :: fs, ms, d => by
    unfold dvw
    rw [dvw_num fs]
    simp
    omega
def dtP : List (Po P) → List (Po P) → Po P
  | m :: ms, f :: fs => m * f + dtP ms fs
  | _, _ => 0
theorem dtP_app : ∀ (ms fs : List (Po P)) (m f : Po P), ms.length = fs.length → dtP (ms ++ [m]) (fs ++ [f]) = dtP ms fs + m * f
  | [], [], m, f, _ => by
    show m * f + 0 = 0 + m * f
    grind
  | x :: ms, y :: fs, m, f, h => by
    show x * y + dtP (ms ++ [m]) (fs ++ [f]) = x * y + dtP ms fs + m * f
    rw [dtP_app ms fs m f (by simpa using h)]
    grind
  | [], _ :: _, _, _, h => by simp at h
  | _ :: _, [], _, _, h => by simp at h
theorem dtP_map (b : Po P) : ∀ (ms fs : List (Po P)), dtP (ms.map (b * ·)) fs = b * dtP ms fs
  | [], fs => by
    show (0 : Po P) = b * 0
    grind
  | x :: ms, [] => by
    show (0 : Po P) = b * 0
    grind
  | x :: ms, y :: fs => by
    show b * x * y + dtP (ms.map (b * ·)) fs = b * (x * y + dtP ms fs)
    rw [dtP_map b ms fs]
    grind
theorem dvw_dot : ∀ (fs ms done : List (Po P)) (d : Po P), ms.length = done.length → dtP ms done = d → dtP (dvw d ms fs).2 (done ++ fs) = dvs d fs
  | [], ms, done, d, _, h => by
    rw [List.append_nil]
    exact h
  | f :: fs, ms, done, d, hl, h => by
    unfold dvw dvs
    have := dvw_dot fs (ms.map ((ex d f).b * ·) ++ [(ex d f).c]) (done ++ [f]) (ex d f).a (by simp [hl]) (by rw [dtP_app _ _ _ _ (by simp [hl]), dtP_map, h]; exact (ex_ok d f).1.symm)
    rw [List.append_assoc] at this
    rw [← ex_a]
    exact this
theorem dvw_len {B : Nat} : ∀ (fs ms : List (Po P)) (d : Po P) (L : Nat), d.len ≤ B → (∀ f ∈ fs, f.len ≤ B) → (∀ m ∈ ms, m.len ≤ L) → ∀ m ∈ (dvw d ms fs).2, m.len ≤ L + fs.length * (1 + B)
  | [], ms, d, L, _, _, h => fun m hm => by
    have := h m hm
    simpa using this
  | f :: fs, ms, d, L, hd, hf, h => fun m hm => by
    have hfl := hf f (by simp)
    have hx := ex_len d f
    have := dvw_len fs (ms.map ((ex d f).b * ·) ++ [(ex d f).c]) (ex d f).a (L + (1 + B)) (by rw [ex_a]; exact gc_len hd hfl) (fun g hg => hf g (by simp [hg])) (fun x hx0 => by
      rcases List.mem_append.mp hx0 with h1 | h1
      · obtain ⟨y, h2, rfl⟩ := List.mem_map.mp h1
        have := h y h2
        have := Po.len_mul_le (ex d f).b y
        omega
      · rw [List.mem_singleton.mp h1]
        omega) m (by unfold dvw at hm; exact hm)
    rw [List.length_cons, Nat.succ_mul]
    omega
end W1
set_option Elab.async false
set_option linter.all false
set_option maxRecDepth 100000
set_option maxHeartbeats 4000000
namespace K03
open PySem PySem.Spec PyProof.Rows L2 Fz W1 K05
variable {fs : List (Str × Fn)} {N : List Str} {j j0 j1 j2 j3 j4 j5 j6 j7 j8 j10 : Nat} {P : Prm}
theorem call_subQ (h : At fs j false 3 d_subtract) (F G : Po P) (lf : F.len ≤ 40000) (lg : G.len ≤ 40000) : cAt fs j [.int P.1, .tuple (I F.f), .tuple (I G.f)] = some (false, .tuple (I (F - G).f)) := by
  have c := call_sub h (p := P.i) P.pos lf lg
  rw [zsub_zs, ← Po.sub_f] at c
  exact c
theorem call_mon (h : At fs j false 2 d_monic_of) (F : Po P) (lf : F.len ≤ 40000) : cAt fs j [.int P.1, .tuple (I F.f)] = some (false, .tuple (I F.mon.f)) := by
  rw [mon_f]
  exact call_monic h P.2 F.h lf
theorem I_nil {f : List Int} : (I f).isEmpty = f.isEmpty := by cases f <;> rfl
theorem eqv_nil (f : List Int) : PyData.eqv (.tuple (I f)) (.tuple []) = f.isEmpty := by
  have := eqv_tup f []
  rw [show I ([] : List Int) = [] from rfl] at this
  rw [this]
  cases f <;> rfl
theorem shp_nil : shp (.tuple []) = true := shp_tup []
theorem tw_nx {t : En → Option (Bool × En)} {f : En → Option SR} {n : Nat} {e e1 e2 : En} (h1 : t e = some (true, e1)) (h2 : f e1 = some (.nx e2)) : whileL t f (n + 1) e = whileL t f n e2 := by
  rw [whileL, h1]
  dsimp only
  rw [h2]
theorem tw_stop {t : En → Option (Bool × En)} {f : En → Option SR} {n : Nat} {e e1 : En} (h1 : t e = some (false, e1)) : whileL t f (n + 1) e = some (.nx e1) := by
  rw [whileL, h1]
/-! ### divides -/
def B_divides (j7 : Nat) : List RS := [.ife (.nt (.nm 1)) [.ret (.not (.nm 2))] [], .ret (.cmp .Eq (.app j7 [(.nm 0), (.nm 2), (.nm 1)]) (.tup []))]
def dvB (G F : Po P) : Bool := if G.f = [] then F.f.isEmpty else (F.rem G).f.isEmpty
theorem dvB_iff (G F : Po P) : dvB G F = true ↔ Dv G F := by
  unfold dvB
  split
  · rename_i h
    rw [List.isEmpty_iff, ← Po.eq0, Po.eq0.mpr h]
    exact ⟨fun e => by rw [e]; exact .zero _, fun e => e.of0⟩
  · rename_i h
    rw [List.isEmpty_iff, ← Po.eq0, rem_dv fun e => h (Po.eq0.mp e)]
structure F2 where
  P : Prm
  F : Po P
  G : Po P
def F2.enc (x : F2) : List D := [.int x.P.1, .tuple (I x.F.f), .tuple (I x.G.f)]
def F2.ok (x : F2) : Prop := x.F.len ≤ 1000 ∧ x.G.len ≤ 1000
theorem F2.inj : ∀ x y : F2, F2.enc x = F2.enc y → x = y := by
  rintro ⟨⟨p, hp⟩, F, G⟩ ⟨⟨p', hp'⟩, F', G'⟩ h
  simp only [F2.enc, List.cons.injEq, PyData.tuple.injEq, PyData.int.injEq, I_eq, and_true] at h
  obtain ⟨h0, h1, h2⟩ := h
  have e : p = p' := by omega
  subst e
  rw [show F = F' from Po.ext h1, show G = G' from Po.ext h2]
noncomputable section
/-- by, form -/
def d_divides := wordOf F2.enc F2.ok fun x => (false, .bool (dvB x.F x.G), [])
end
theorem call_divides (h : At fs j false 3 d_divides) (G F : Po P) (lf : F.len ≤ 1000) (lg : G.len ≤ 1000) : cAt fs j [.int P.1, .tuple (I G.f), .tuple (I F.f)] = some (false, .bool (dvB G F)) := h.c rfl (wordOf_at F2.inj (x := ⟨P, G, F⟩) ⟨lg, lf⟩)
theorem run_divides (hN : N.length = 3) (h7 : At fs j7 false 3 d_rem) {ds : List D} {z : Bool × D × List D} (h : d_divides ds = some z) : runD ⟨N, fs, WW⟩ 60 false (B_divides j7) ds = some z := by
  obtain ⟨⟨P, G, F⟩, ⟨lg, lf⟩, rfl, rfl⟩ := wordOf_some h
  dsimp only at lg lf
  show runD _ 60 false _ [.int (P.1 : Int), .tuple (I G.f), .tuple (I F.f)] = some (false, .bool (dvB G F), [])
  unfold dvB
  by_cases hg : G.f = []
  · rw [if_pos hg, hg]
    have e := I_nil (f := F.f)
    rw [← e]
    generalize I F.f = X at *
    show runD _ 60 false _ [.int (P.1 : Int), .tuple [], .tuple X] = _
    simp (config := {implicitDefEqProofs := false}) (disch := omega) [B_divides, hN, q_int, q_bl, q_non, q_nm, q_bin, q_neg, q_negI, q_not, q_bop, q_ife, q_cmp, q_ix, q_ixn, q_sl, q_sln, q_blt, q_lenn, q_isi, q_lst, q_tup, q_lc, q_popA, q_ins, q_push, q_pop, q_evc, q_to0, q_to1, q_o0, q_o1, q_intD, q_a0, q_a1, q_tnt, q_tbop, q_tcmp, q_chn, q_tchn, q_tcmpo, q_tval, q_tnm, q_iseq, q_irng, q_ienu, q_izip, q_irrg, q_revL, q_iez, q_irev, q_sset, q_stgt, q_saug, q_intV, q_valI, q_spro, q_spar, q_sput2, q_sput, q_sret, q_sretn, q_sife, q_swhl, q_sfor, q_sex, q_spass, q_sbrk, q_scnt, q_ss0, q_ss1, q_gonx, q_gort, q_gobk, q_goct, q_add, q_addl, q_addt, q_sub, q_mul, q_mull, q_mult, q_div, q_mod, q_pow, q_eq, q_ne, q_lt, q_le, q_gt, q_ge, q_is1, q_is2, q_is3, q_is4, q_is5, q_tr0, q_trb, q_tri, q_trl, q_trt, q_ixl, q_ixt, q_sll, q_slt, q_sls, q_lenl, q_lent, q_inti, q_absi, q_lisl, q_list, q_tupl, q_tupt, q_all, q_maxl, q_max, q_min, q_itl, q_itt, q_seql, q_seqt, q_rng1, q_rng2, q_enu1, q_enu2, q_end1, q_end2, q_own, q_val, q_st1, q_stt, q_stpr, q_sta0, q_sta1, q_re1, q_re0, q_appA, q_appioA, q_lent0, q_lent1, q_lent2, q_appkA, ↓bind_o, obind_some, List.getElem?_cons_zero, List.getElem?_cons_succ, List.set_cons_zero, List.set_cons_succ, lockS, slotL, Fz.atS, putL, runD, en0, vals, setS, opStop, wipeE, wipeS, restE, restS, plainS, szB_of, posB_of, b62_of, mulB_of, divB_of, powB_of, repB_one, timB_one, flat_one, I_rep, atI_0, atI_1, atI_2, atI_3, atI_4, ixN_of, cut_from, cut_to, eqv_int, eqv_none, shp_int, shp_bool, shp_none, zip_I]
  · rw [if_neg hg]
    have hG : G ≠ 0 := fun e => hg (Po.eq0.mp e)
    have c := call_remP h7 F G hG lf lg
    have e1 := eqv_nil (F.rem G).f
    have e2 := shp_tup (F.rem G).f
    have e3 : (I G.f).isEmpty = false := by rw [I_nil]; simpa using hg
    generalize (F.rem G).f.isEmpty = B at *
    generalize I (F.rem G).f = R at *
    generalize I F.f = X at *
    generalize I G.f = Y at *
    simp (config := {implicitDefEqProofs := false}) (disch := omega) [B_divides, hN, c, e1, e2, e3, shp_nil, q_int, q_bl, q_non, q_nm, q_bin, q_neg, q_negI, q_not, q_bop, q_ife, q_cmp, q_ix, q_ixn, q_sl, q_sln, q_blt, q_lenn, q_isi, q_lst, q_tup, q_lc, q_popA, q_ins, q_push, q_pop, q_evc, q_to0, q_to1, q_o0, q_o1, q_intD, q_a0, q_a1, q_tnt, q_tbop, q_tcmp, q_chn, q_tchn, q_tcmpo, q_tval, q_tnm, q_iseq, q_irng, q_ienu, q_izip, q_irrg, q_revL, q_iez, q_irev, q_sset, q_stgt, q_saug, q_intV, q_valI, q_spro, q_spar, q_sput2, q_sput, q_sret, q_sretn, q_sife, q_swhl, q_sfor, q_sex, q_spass, q_sbrk, q_scnt, q_ss0, q_ss1, q_gonx, q_gort, q_gobk, q_goct, q_add, q_addl, q_addt, q_sub, q_mul, q_mull, q_mult, q_div, q_mod, q_pow, q_eq, q_ne, q_lt, q_le, q_gt, q_ge, q_is1, q_is2, q_is3, q_is4, q_is5, q_tr0, q_trb, q_tri, q_trl, q_trt, q_ixl, q_ixt, q_sll, q_slt, q_sls, q_lenl, q_lent, q_inti, q_absi, q_lisl, q_list, q_tupl, q_tupt, q_all, q_maxl, q_max, q_min, q_itl, q_itt, q_seql, q_seqt, q_rng1, q_rng2, q_enu1, q_enu2, q_end1, q_end2, q_own, q_val, q_st1, q_stt, q_stpr, q_sta0, q_sta1, q_re1, q_re0, q_appA, q_appioA, q_lent0, q_lent1, q_lent2, q_appkA, ↓bind_o, obind_some, List.getElem?_cons_zero, List.getElem?_cons_succ, List.set_cons_zero, List.set_cons_succ, lockS, slotL, Fz.atS, putL, runD, en0, vals, setS, opStop, wipeE, wipeS, restE, restS, plainS, szB_of, posB_of, b62_of, mulB_of, divB_of, powB_of, repB_one, timB_one, flat_one, I_rep, atI_0, atI_1, atI_2, atI_3, atI_4, ixN_of, cut_from, cut_to, eqv_int, eqv_none, shp_int, shp_bool, shp_none, zip_I]
/-! ### divisor_of -/
def Ft (l : List (Po P)) : List D := Rw (l.map Po.f)
theorem Ft_cons (f : Po P) (l : List (Po P)) : Ft (f :: l) = .tuple (I f.f) :: Ft l := rfl
def sqr (t : Bool) (l : List D) : D := if t then .tuple l else .list l
theorem sqr_inj {t t' : Bool} {l l' : List D} (h : sqr t l = sqr t' l') : t = t' ∧ l = l' := by
  cases t <;> cases t' <;> simp [sqr] at h <;> exact ⟨rfl, h⟩
theorem f_inj : ∀ {l l' : List (Po P)}, l.map Po.f = l'.map Po.f → l = l'
  | [], [], _ => rfl
  | [], _ :: _, h => by cases h
  | _ :: _, [], h => by cases h
  | a :: l, b :: l', h => by
    simp only [List.map_cons, List.cons.injEq] at h
    rw [show a = b from Po.ext h.1, f_inj h.2]
def eu_body (j7 : Nat) : List RS := [.par [2, 3] [(.nm 3), (.app j7 [(.nm 0), (.nm 2), (.nm 3)])]]
def dvo_body (j7 : Nat) : List RS := [.whl (.nm 3) (eu_body j7)]
def B_dvo (j5 j7 : Nat) : List RS := [.set 2 (.tup []), .for (.one 3) (.seq (.nm 1)) (dvo_body j7), .ret (.app j5 [(.nm 0), (.nm 2)])]
theorem eu_loop (T : Tb) (h7 : At T.fs j7 false 3 d_rem) {s1 : Sl} {bg : List D} (m : Nat) : ∀ (n W : Nat) (a b : Po P), b.len ≤ n → n < W → a.len ≤ 1000 → b.len ≤ 1000 →
    whileL (evT T (m + 20) (.nm 3)) (evSs T (m + 20) (eu_body j7)) W ⟨[.val (.int P.1), s1, .val (.tuple (I a.f)), .val (.tuple (I b.f))], bg⟩ = some (.nx ⟨[.val (.int P.1), s1, .val (.tuple (I (gcN n a b).f)), .val (.tuple [])], bg⟩)
  | 0, W + 1, a, b, h, _, la, lb => by
    have e : b.f = [] := List.eq_nil_of_length_eq_zero (by unfold Po.len at h; omega)
    rw [e]
    show _ = some (SR.nx ⟨[_, _, .val (.tuple (I a.f)), _], _⟩)
    generalize I a.f = A at *
    refine tw_stop ?_
    show evT T (m + 20) (.nm 3) ⟨[_, _, _, .val (.tuple [])], bg⟩ = _
    simp (config := {implicitDefEqProofs := false}) (disch := omega) [q_int, q_bl, q_non, q_nm, q_bin, q_neg, q_negI, q_not, q_bop, q_ife, q_cmp, q_ix, q_ixn, q_sl, q_sln, q_blt, q_lenn, q_isi, q_lst, q_tup, q_lc, q_popA, q_ins, q_push, q_pop, q_evc, q_to0, q_to1, q_o0, q_o1, q_intD, q_a0, q_a1, q_tnt, q_tbop, q_tcmp, q_chn, q_tchn, q_tcmpo, q_tval, q_tnm, q_iseq, q_irng, q_ienu, q_izip, q_irrg, q_revL, q_iez, q_irev, q_sset, q_stgt, q_saug, q_intV, q_valI, q_spro, q_spar, q_sput2, q_sput, q_sret, q_sretn, q_sife, q_swhl, q_sfor, q_sex, q_spass, q_sbrk, q_scnt, q_ss0, q_ss1, q_gonx, q_gort, q_gobk, q_goct, q_add, q_addl, q_addt, q_sub, q_mul, q_mull, q_mult, q_div, q_mod, q_pow, q_eq, q_ne, q_lt, q_le, q_gt, q_ge, q_is1, q_is2, q_is3, q_is4, q_is5, q_tr0, q_trb, q_tri, q_trl, q_trt, q_ixl, q_ixt, q_sll, q_slt, q_sls, q_lenl, q_lent, q_inti, q_absi, q_lisl, q_list, q_tupl, q_tupt, q_all, q_maxl, q_max, q_min, q_itl, q_itt, q_seql, q_seqt, q_rng1, q_rng2, q_enu1, q_enu2, q_end1, q_end2, q_own, q_val, q_st1, q_stt, q_stpr, q_sta0, q_sta1, q_re1, q_re0, q_appA, q_appioA, q_lent0, q_lent1, q_lent2, q_appkA, ↓bind_o, obind_some, List.getElem?_cons_zero, List.getElem?_cons_succ, List.set_cons_zero, List.set_cons_succ, lockS, slotL, Fz.atS, putL, runD, en0, vals, setS, opStop, wipeE, wipeS, restE, restS, plainS, szB_of, posB_of, b62_of, mulB_of, divB_of, powB_of, repB_one, timB_one, flat_one, I_rep, atI_0, atI_1, atI_2, atI_3, atI_4, ixN_of, cut_from, cut_to, eqv_int, eqv_none, shp_int, shp_bool, shp_none, zip_I]
  | n + 1, W + 1, a, b, h, hw, la, lb => by
    by_cases e : b.f = []
    · rw [e]
      show _ = some (SR.nx ⟨[_, _, .val (.tuple (I (gcN (n + 1) a b).f)), _], _⟩)
      unfold gcN
      rw [if_pos e]
      generalize I a.f = A at *
      refine tw_stop ?_
      show evT T (m + 20) (.nm 3) ⟨[_, _, _, .val (.tuple [])], bg⟩ = _
      simp (config := {implicitDefEqProofs := false}) (disch := omega) [q_int, q_bl, q_non, q_nm, q_bin, q_neg, q_negI, q_not, q_bop, q_ife, q_cmp, q_ix, q_ixn, q_sl, q_sln, q_blt, q_lenn, q_isi, q_lst, q_tup, q_lc, q_popA, q_ins, q_push, q_pop, q_evc, q_to0, q_to1, q_o0, q_o1, q_intD, q_a0, q_a1, q_tnt, q_tbop, q_tcmp, q_chn, q_tchn, q_tcmpo, q_tval, q_tnm, q_iseq, q_irng, q_ienu, q_izip, q_irrg, q_revL, q_iez, q_irev, q_sset, q_stgt, q_saug, q_intV, q_valI, q_spro, q_spar, q_sput2, q_sput, q_sret, q_sretn, q_sife, q_swhl, q_sfor, q_sex, q_spass, q_sbrk, q_scnt, q_ss0, q_ss1, q_gonx, q_gort, q_gobk, q_goct, q_add, q_addl, q_addt, q_sub, q_mul, q_mull, q_mult, q_div, q_mod, q_pow, q_eq, q_ne, q_lt, q_le, q_gt, q_ge, q_is1, q_is2, q_is3, q_is4, q_is5, q_tr0, q_trb, q_tri, q_trl, q_trt, q_ixl, q_ixt, q_sll, q_slt, q_sls, q_lenl, q_lent, q_inti, q_absi, q_lisl, q_list, q_tupl, q_tupt, q_all, q_maxl, q_max, q_min, q_itl, q_itt, q_seql, q_seqt, q_rng1, q_rng2, q_enu1, q_enu2, q_end1, q_end2, q_own, q_val, q_st1, q_stt, q_stpr, q_sta0, q_sta1, q_re1, q_re0, q_appA, q_appioA, q_lent0, q_lent1, q_lent2, q_appkA, ↓bind_o, obind_some, List.getElem?_cons_zero, List.getElem?_cons_succ, List.set_cons_zero, List.set_cons_succ, lockS, slotL, Fz.atS, putL, runD, en0, vals, setS, opStop, wipeE, wipeS, restE, restS, plainS, szB_of, posB_of, b62_of, mulB_of, divB_of, powB_of, repB_one, timB_one, flat_one, I_rep, atI_0, atI_1, atI_2, atI_3, atI_4, ixN_of, cut_from, cut_to, eqv_int, eqv_none, shp_int, shp_bool, shp_none, zip_I]
    · have hb : b ≠ 0 := fun z => e (Po.eq0.mp z)
      have hl := Po.rem_len a hb
      unfold gcN
      rw [if_neg e]
      have ih := eu_loop T h7 (s1 := s1) (bg := bg) m n W b (a.rem b) (by omega) (by omega) lb (by omega)
      rw [← ih]
      have c := call_remP h7 a b hb la lb
      have e3 : (I b.f).isEmpty = false := by rw [I_nil]; simpa using e
      generalize I (a.rem b).f = R at *
      generalize I a.f = X at *
      generalize I b.f = Y at *
      refine tw_nx (e1 := ⟨[.val (.int P.1), s1, .val (.tuple X), .val (.tuple Y)], bg⟩) ?_ ?_
      · simp (config := {implicitDefEqProofs := false}) (disch := omega) [e3, q_int, q_bl, q_non, q_nm, q_bin, q_neg, q_negI, q_not, q_bop, q_ife, q_cmp, q_ix, q_ixn, q_sl, q_sln, q_blt, q_lenn, q_isi, q_lst, q_tup, q_lc, q_popA, q_ins, q_push, q_pop, q_evc, q_to0, q_to1, q_o0, q_o1, q_intD, q_a0, q_a1, q_tnt, q_tbop, q_tcmp, q_chn, q_tchn, q_tcmpo, q_tval, q_tnm, q_iseq, q_irng, q_ienu, q_izip, q_irrg, q_revL, q_iez, q_irev, q_sset, q_stgt, q_saug, q_intV, q_valI, q_spro, q_spar, q_sput2, q_sput, q_sret, q_sretn, q_sife, q_swhl, q_sfor, q_sex, q_spass, q_sbrk, q_scnt, q_ss0, q_ss1, q_gonx, q_gort, q_gobk, q_goct, q_add, q_addl, q_addt, q_sub, q_mul, q_mull, q_mult, q_div, q_mod, q_pow, q_eq, q_ne, q_lt, q_le, q_gt, q_ge, q_is1, q_is2, q_is3, q_is4, q_is5, q_tr0, q_trb, q_tri, q_trl, q_trt, q_ixl, q_ixt, q_sll, q_slt, q_sls, q_lenl, q_lent, q_inti, q_absi, q_lisl, q_list, q_tupl, q_tupt, q_all, q_maxl, q_max, q_min, q_itl, q_itt, q_seql, q_seqt, q_rng1, q_rng2, q_enu1, q_enu2, q_end1, q_end2, q_own, q_val, q_st1, q_stt, q_stpr, q_sta0, q_sta1, q_re1, q_re0, q_appA, q_appioA, q_lent0, q_lent1, q_lent2, q_appkA, ↓bind_o, obind_some, List.getElem?_cons_zero, List.getElem?_cons_succ, List.set_cons_zero, List.set_cons_succ, lockS, slotL, Fz.atS, putL, runD, en0, vals, setS, opStop, wipeE, wipeS, restE, restS, plainS, szB_of, posB_of, b62_of, mulB_of, divB_of, powB_of, repB_one, timB_one, flat_one, I_rep, atI_0, atI_1, atI_2, atI_3, atI_4, ixN_of, cut_from, cut_to, eqv_int, eqv_none, shp_int, shp_bool, shp_none, zip_I]
      · unfold eu_body
        simp (config := {implicitDefEqProofs := false}) (disch := omega) [c, q_int, q_bl, q_non, q_nm, q_bin, q_neg, q_negI, q_not, q_bop, q_ife, q_cmp, q_ix, q_ixn, q_sl, q_sln, q_blt, q_lenn, q_isi, q_lst, q_tup, q_lc, q_popA, q_ins, q_push, q_pop, q_evc, q_to0, q_to1, q_o0, q_o1, q_intD, q_a0, q_a1, q_tnt, q_tbop, q_tcmp, q_chn, q_tchn, q_tcmpo, q_tval, q_tnm, q_iseq, q_irng, q_ienu, q_izip, q_irrg, q_revL, q_iez, q_irev, q_sset, q_stgt, q_saug, q_intV, q_valI, q_spro, q_spar, q_sput2, q_sput, q_sret, q_sretn, q_sife, q_swhl, q_sfor, q_sex, q_spass, q_sbrk, q_scnt, q_ss0, q_ss1, q_gonx, q_gort, q_gobk, q_goct, q_add, q_addl, q_addt, q_sub, q_mul, q_mull, q_mult, q_div, q_mod, q_pow, q_eq, q_ne, q_lt, q_le, q_gt, q_ge, q_is1, q_is2, q_is3, q_is4, q_is5, q_tr0, q_trb, q_tri, q_trl, q_trt, q_ixl, q_ixt, q_sll, q_slt, q_sls, q_lenl, q_lent, q_inti, q_absi, q_lisl, q_list, q_tupl, q_tupt, q_all, q_maxl, q_max, q_min, q_itl, q_itt, q_seql, q_seqt, q_rng1, q_rng2, q_enu1, q_enu2, q_end1, q_end2, q_own, q_val, q_st1, q_stt, q_stpr, q_sta0, q_sta1, q_re1, q_re0, q_appA, q_appioA, q_lent0, q_lent1, q_lent2, q_appkA, ↓bind_o, obind_some, List.getElem?_cons_zero, List.getElem?_cons_succ, List.set_cons_zero, List.set_cons_succ, lockS, slotL, Fz.atS, putL, runD, en0, vals, setS, opStop, wipeE, wipeS, restE, restS, plainS, szB_of, posB_of, b62_of, mulB_of, divB_of, powB_of, repB_one, timB_one, flat_one, I_rep, atI_0, atI_1, atI_2, atI_3, atI_4, ixN_of, cut_from, cut_to, eqv_int, eqv_none, shp_int, shp_bool, shp_none, zip_I]
theorem dvo_loop (T : Tb) (hW : T.W = 1048576) (h7 : At T.fs j7 false 3 d_rem) {s1 : Sl} {bg : List D} (m : Nat) : ∀ (l : List (Po P)) (d : Po P) (x3 : Sl), (∀ f ∈ l, f.len ≤ 300) → d.len ≤ 300 →
    ∃ y3, forL (bodyF T (m + 22) (.one 3) (dvo_body j7)) (Ft l) ⟨[.val (.int P.1), s1, .val (.tuple (I d.f)), x3], bg⟩ = some (.nx ⟨[.val (.int P.1), s1, .val (.tuple (I (dvs d l).f)), y3], bg⟩)
  | [], d, x3, _, _ => ⟨x3, rfl⟩
  | f :: l, d, x3, hl, hd => by
    have hf := hl f (by simp)
    obtain ⟨y3, ih⟩ := dvo_loop T hW h7 (s1 := s1) (bg := bg) m l (gc d f) (.val (.tuple [])) (fun g hg => hl g (by simp [hg])) (gc_len hd hf)
    refine ⟨y3, ?_⟩
    rw [Ft_cons]
    have w := eu_loop T h7 (s1 := s1) (bg := bg) m f.len T.W d f (Nat.le_refl _) (by rw [hW]; omega) (by omega) (by omega)
    have step : bodyF T (m + 22) (.one 3) (dvo_body j7) (.tuple (I f.f)) ⟨[.val (.int P.1), s1, .val (.tuple (I d.f)), x3], bg⟩ = some (.nx ⟨[.val (.int P.1), s1, .val (.tuple (I (gc d f).f)), .val (.tuple [])], bg⟩) := by
      unfold gc
      generalize I (gcN f.len d f).f = R at *
      generalize I f.f = X at *
      generalize I d.f = Y at *
      unfold bodyF dvo_body
      generalize eu_body j7 = EB at *
      simp (config := {implicitDefEqProofs := false}) (disch := omega) [w, q_int, q_bl, q_non, q_nm, q_bin, q_neg, q_negI, q_not, q_bop, q_ife, q_cmp, q_ix, q_ixn, q_sl, q_sln, q_blt, q_lenn, q_isi, q_lst, q_tup, q_lc, q_popA, q_ins, q_push, q_pop, q_evc, q_to0, q_to1, q_o0, q_o1, q_intD, q_a0, q_a1, q_tnt, q_tbop, q_tcmp, q_chn, q_tchn, q_tcmpo, q_tval, q_tnm, q_iseq, q_irng, q_ienu, q_izip, q_irrg, q_revL, q_iez, q_irev, q_sset, q_stgt, q_saug, q_intV, q_valI, q_spro, q_spar, q_sput2, q_sput, q_sret, q_sretn, q_sife, q_swhl, q_sfor, q_sex, q_spass, q_sbrk, q_scnt, q_ss0, q_ss1, q_gonx, q_gort, q_gobk, q_goct, q_add, q_addl, q_addt, q_sub, q_mul, q_mull, q_mult, q_div, q_mod, q_pow, q_eq, q_ne, q_lt, q_le, q_gt, q_ge, q_is1, q_is2, q_is3, q_is4, q_is5, q_tr0, q_trb, q_tri, q_trl, q_trt, q_ixl, q_ixt, q_sll, q_slt, q_sls, q_lenl, q_lent, q_inti, q_absi, q_lisl, q_list, q_tupl, q_tupt, q_all, q_maxl, q_max, q_min, q_itl, q_itt, q_seql, q_seqt, q_rng1, q_rng2, q_enu1, q_enu2, q_end1, q_end2, q_own, q_val, q_st1, q_stt, q_stpr, q_sta0, q_sta1, q_re1, q_re0, q_appA, q_appioA, q_lent0, q_lent1, q_lent2, q_appkA, ↓bind_o, obind_some, List.getElem?_cons_zero, List.getElem?_cons_succ, List.set_cons_zero, List.set_cons_succ, lockS, slotL, Fz.atS, putL, runD, en0, vals, setS, opStop, wipeE, wipeS, restE, restS, plainS, szB_of, posB_of, b62_of, mulB_of, divB_of, powB_of, repB_one, timB_one, flat_one, I_rep, atI_0, atI_1, atI_2, atI_3, atI_4, ixN_of, cut_from, cut_to, eqv_int, eqv_none, shp_int, shp_bool, shp_none, zip_I]
    rw [forL_nx step]
    exact ih
structure LF where
  P : Prm
  l : List (Po P)
  t : Bool
def LF.enc (x : LF) : List D := [.int x.P.1, sqr x.t (Ft x.l)]
def LF.ok (x : LF) : Prop := (∀ f ∈ x.l, f.len ≤ 60) ∧ x.l.length ≤ 10
theorem LF.inj : ∀ x y : LF, LF.enc x = LF.enc y → x = y := by
  rintro ⟨⟨p, hp⟩, l, t⟩ ⟨⟨p', hp'⟩, l', t'⟩ h
  simp only [LF.enc, List.cons.injEq, PyData.int.injEq, and_true] at h
  obtain ⟨h0, h1⟩ := h
  obtain ⟨e1, e2⟩ := sqr_inj h1
  have e : p = p' := by omega
  subst e e1
  rw [f_inj (Rw_inj e2)]
noncomputable section
def d_dvo := wordOf LF.enc LF.ok fun x => (false, .tuple (I (Gd x.l).f), [])
end
theorem call_dvo (h : At fs j false 2 d_dvo) (t : Bool) {l : List (Po P)} (hl : ∀ f ∈ l, f.len ≤ 60) (hn : l.length ≤ 10) : cAt fs j [.int P.1, sqr t (Ft l)] = some (false, .tuple (I (Gd l).f)) := h.c rfl (wordOf_at LF.inj (x := ⟨P, l, t⟩) ⟨hl, hn⟩)
theorem run_dvo (hN : N.length = 4) (h5 : At fs j5 false 2 d_monic_of) (h7 : At fs j7 false 3 d_rem) {ds : List D} {z : Bool × D × List D} (h : d_dvo ds = some z) : runD ⟨N, fs, WW⟩ 60 false (B_dvo j5 j7) ds = some z := by
  obtain ⟨⟨P, l, t⟩, ⟨hl, hn⟩, rfl, rfl⟩ := wordOf_some h
  dsimp only at hl hn
  obtain ⟨y3, lp⟩ := dvo_loop ⟨N, fs, WW⟩ rfl h7 (s1 := .val (sqr t (Ft l))) (bg := []) 35 l (0 : Po P) .no (fun f hf => by have := hl f hf; omega) (by rw [Po.len0]; omega)
  have c := call_mon h5 (dvs 0 l) (by have := dvs_len (B := 60) l 0 (by rw [Po.len0]; omega) hl; omega)
  show runD _ 60 false _ [.int (P.1 : Int), sqr t (Ft l)] = some (false, .tuple (I (dvs 0 l).mon.f), [])
  have hi : itemsD (sqr t (Ft l)) = some (Ft l) := by cases t <;> rfl
  rw [zero_f] at lp
  change forL _ _ ⟨[_, _, .val (.tuple []), _], _⟩ = _ at lp
  generalize I (dvs 0 l).mon.f = R at *
  generalize I (dvs 0 l).f = Q at *
  generalize sqr t (Ft l) = X at *
  generalize Ft l = Y at *
  unfold B_dvo
  generalize dvo_body j7 = DB at *
  simp (config := {implicitDefEqProofs := false}) (disch := omega) [hN, hi, lp, c, q_int, q_bl, q_non, q_nm, q_bin, q_neg, q_negI, q_not, q_bop, q_ife, q_cmp, q_ix, q_ixn, q_sl, q_sln, q_blt, q_lenn, q_isi, q_lst, q_tup, q_lc, q_popA, q_ins, q_push, q_pop, q_evc, q_to0, q_to1, q_o0, q_o1, q_intD, q_a0, q_a1, q_tnt, q_tbop, q_tcmp, q_chn, q_tchn, q_tcmpo, q_tval, q_tnm, q_iseq, q_irng, q_ienu, q_izip, q_irrg, q_revL, q_iez, q_irev, q_sset, q_stgt, q_saug, q_intV, q_valI, q_spro, q_spar, q_sput2, q_sput, q_sret, q_sretn, q_sife, q_swhl, q_sfor, q_sex, q_spass, q_sbrk, q_scnt, q_ss0, q_ss1, q_gonx, q_gort, q_gobk, q_goct, q_add, q_addl, q_addt, q_sub, q_mul, q_mull, q_mult, q_div, q_mod, q_pow, q_eq, q_ne, q_lt, q_le, q_gt, q_ge, q_is1, q_is2, q_is3, q_is4, q_is5, q_tr0, q_trb, q_tri, q_trl, q_trt, q_ixl, q_ixt, q_sll, q_slt, q_sls, q_lenl, q_lent, q_inti, q_absi, q_lisl, q_list, q_tupl, q_tupt, q_all, q_maxl, q_max, q_min, q_itl, q_itt, q_seql, q_seqt, q_rng1, q_rng2, q_enu1, q_enu2, q_end1, q_end2, q_own, q_val, q_st1, q_stt, q_stpr, q_sta0, q_sta1, q_re1, q_re0, q_appA, q_appioA, q_lent0, q_lent1, q_lent2, q_appkA, ↓bind_o, obind_some, List.getElem?_cons_zero, List.getElem?_cons_succ, List.set_cons_zero, List.set_cons_succ, lockS, slotL, Fz.atS, putL, runD, en0, vals, setS, opStop, wipeE, wipeS, restE, restS, plainS, szB_of, posB_of, b62_of, mulB_of, divB_of, powB_of, repB_one, timB_one, flat_one, I_rep, atI_0, atI_1, atI_2, atI_3, atI_4, ixN_of, cut_from, cut_to, eqv_int, eqv_none, shp_int, shp_bool, shp_none, zip_I]
end K03
set_option Elab.async false
set_option linter.all false
set_option maxRecDepth 100000
set_option maxHeartbeats 4000000
namespace K03
open PySem PySem.Spec PyProof.Rows L2 Fz W1 K05
variable {fs : List (Str × Fn)} {N : List Str} {j j0 j1 j2 j3 j4 j5 j6 j7 j8 j10 : Nat} {P : Prm}
theorem Lb_step {C : Nat} {h l : T3 P} (hl : l.a ≠ 0) (hL : Lb C h l) : Lb C l (h.step l) := by
  have hr : (h.step l).a.len < l.a.len := by rw [step_a h hl]; exact Po.rem_len _ hl
  obtain ⟨h1, h2, h3, h4⟩ := hL
  have e0 : ¬ l.a.len ≤ h.a.len → (h.step l).a.len ≤ h.a.len := fun q => by
    rw [step_a h hl, Po.rem_small hl (by omega)]
    exact Nat.le_refl _
  refine ⟨?_, ?_, step_len hl h1 h3, step_len hl h2 h4⟩
  · by_cases q : l.a.len ≤ h.a.len
    · omega
    · have := e0 q
      omega
  · by_cases q : l.a.len ≤ h.a.len
    · omega
    · have := e0 q
      omega
theorem Lb_le {C : Nat} {h l : T3 P} (hL : Lb C h l) : h.a.len ≤ C ∧ h.b.len ≤ C ∧ h.c.len ≤ C ∧ l.a.len ≤ C ∧ l.b.len ≤ C ∧ l.c.len ≤ C := by
  obtain ⟨h1, h2, h3, h4⟩ := hL
  omega
theorem z3 (a b c d e f : D) : szB (zipD [a, b, c] [d, e, f]).length = true := by
  show szB 3 = true
  decide
/-! ### _divisor_of_two -/
def tD (h : T3 P) : D := .tuple [.tuple (I h.a.f), .tuple (I h.b.f), .tuple (I h.c.f)]
def two_lc (j2 j3 : Nat) : RE := .app j2 [(.nm 0), (.nm 8), (.app j3 [(.nm 0), (.nm 5), (.nm 9)])]
def two_body (j2 j3 j6 : Nat) : List RS := [.tgt (.tup [5, 6]) (.app j6 [(.nm 0), (.ixn 3 (.int 0)), (.ixn 4 (.int 0))]), .set 7 (.lc (.tup [8, 9]) [8, 9] (.zip (.nm 3) (.nm 4)) none (two_lc j2 j3)), .par [3, 4] [(.nm 4), (.blt .tuple [(.nm 7)])]]
def B_two (j2 j3 j6 : Nat) : List RS := [.set 3 (.tup [(.nm 1), (.tup [(.int 1)]), (.tup [])]), .set 4 (.tup [(.nm 2), (.tup []), (.tup [(.int 1)])]), .whl (.val (.ixn 4 (.int 0))) (two_body j2 j3 j6), .ret (.nm 3)]
theorem two_step (T : Tb) (h2 : At T.fs j2 false 3 d_subtract) (h3 : At T.fs j3 false 3 d_multiply) (h6 : At T.fs j6 false 3 d_divided) {s1 s2 : Sl} {bg : List D} (m : Nat) {h l : T3 P} (hL : Lb 61 h l) (hl : l.a ≠ 0) (x5 x6 x7 : Sl) :
    ∃ y5 y6 y7, evSs T (m + 30) (two_body j2 j3 j6) ⟨[.val (.int P.1), s1, s2, .val (tD h), .val (tD l), x5, x6, x7, .no, .no], bg⟩ = some (.nx ⟨[.val (.int P.1), s1, s2, .val (tD l), .val (tD (h.step l)), y5, y6, y7, .no, .no], bg⟩) := by
  obtain ⟨k1, k2, k3, k4, k5, k6⟩ := Lb_le hL
  have c := call_dvQ h6 h.a l.a hl (by omega) (by omega)
  have lq : (h.a.quo l.a).len ≤ 62 := by
    rcases quo_len h.a hl with q | q
    · rw [q, Po.len0]; omega
    · have := Po.len_pos hl
      omega
  have hlc : ∀ n y6 x7, lcL (evC T (n + 12) (.tup [8, 9]) [8, 9] none (two_lc j2 j3)) (zipD [.tuple (I h.a.f), .tuple (I h.b.f), .tuple (I h.c.f)] [.tuple (I l.a.f), .tuple (I l.b.f), .tuple (I l.c.f)]) ⟨[.val (.int P.1), s1, s2, .val (tD h), .val (tD l), .val (.tuple (I (h.a.quo l.a).f)), y6, x7, .no, .no], bg⟩ =
      some ([.tuple (I (h.step l).a.f), .tuple (I (h.step l).b.f), .tuple (I (h.step l).c.f)], ⟨[.val (.int P.1), s1, s2, .val (tD h), .val (tD l), .val (.tuple (I (h.a.quo l.a).f)), y6, x7, .no, .no], bg⟩) := by
    intro n y6 x7
    refine lcL_pure (xs := [(h.a, l.a), (h.b, l.b), (h.c, l.c)]) (fun q : Po P × Po P => PyData.tuple [.tuple (I q.1.f), .tuple (I q.2.f)]) (fun q : Po P × Po P => PyData.tuple (I (q.1 - h.a.quo l.a * q.2).f)) fun q hq => ?_
    have lz : q.1.len ≤ 61 ∧ q.2.len ≤ 61 := by
      simp only [List.mem_cons, List.not_mem_nil, or_false] at hq
      rcases hq with rfl | rfl | rfl <;> exact ⟨by assumption, by assumption⟩
    have c3 := call_mulP h3 (h.a.quo l.a) q.2 (by omega) (by omega)
    have lm := Po.len_mul_le (h.a.quo l.a) q.2
    have c2 := call_subQ h2 q.1 (h.a.quo l.a * q.2) (by omega) (by omega)
    generalize I (q.1 - h.a.quo l.a * q.2).f = R at *
    generalize I (h.a.quo l.a * q.2).f = R2 at *
    generalize I (h.a.quo l.a).f = Q at *
    generalize I q.1.f = A1 at *
    generalize I q.2.f = A2 at *
    generalize tD h = th at *
    generalize tD l = tl at *
    unfold two_lc
    simp (config := {implicitDefEqProofs := false}) (disch := omega) [c3, c2, q_int, q_bl, q_non, q_nm, q_bin, q_neg, q_negI, q_not, q_bop, q_ife, q_cmp, q_ix, q_ixn, q_sl, q_sln, q_blt, q_lenn, q_isi, q_lst, q_tup, q_lc, q_popA, q_ins, q_push, q_pop, q_evc, q_to0, q_to1, q_o0, q_o1, q_intD, q_a0, q_a1, q_tnt, q_tbop, q_tcmp, q_chn, q_tchn, q_tcmpo, q_tval, q_tnm, q_iseq, q_irng, q_ienu, q_izip, q_irrg, q_revL, q_iez, q_irev, q_sset, q_stgt, q_saug, q_intV, q_valI, q_spro, q_spar, q_sput2, q_sput, q_sret, q_sretn, q_sife, q_swhl, q_sfor, q_sex, q_spass, q_sbrk, q_scnt, q_ss0, q_ss1, q_gonx, q_gort, q_gobk, q_goct, q_add, q_addl, q_addt, q_sub, q_mul, q_mull, q_mult, q_div, q_mod, q_pow, q_eq, q_ne, q_lt, q_le, q_gt, q_ge, q_is1, q_is2, q_is3, q_is4, q_is5, q_tr0, q_trb, q_tri, q_trl, q_trt, q_ixl, q_ixt, q_sll, q_slt, q_sls, q_lenl, q_lent, q_inti, q_absi, q_lisl, q_list, q_tupl, q_tupt, q_all, q_maxl, q_max, q_min, q_itl, q_itt, q_seql, q_seqt, q_rng1, q_rng2, q_enu1, q_enu2, q_end1, q_end2, q_own, q_val, q_st1, q_stt, q_stpr, q_sta0, q_sta1, q_re1, q_re0, q_appA, q_appioA, q_lent0, q_lent1, q_lent2, q_appkA, ↓bind_o, obind_some, List.getElem?_cons_zero, List.getElem?_cons_succ, List.set_cons_zero, List.set_cons_succ, lockS, slotL, Fz.atS, putL, runD, en0, vals, setS, opStop, wipeE, wipeS, restE, restS, plainS, szB_of, posB_of, b62_of, mulB_of, divB_of, powB_of, repB_one, timB_one, flat_one, I_rep, atI_0, atI_1, atI_2, atI_3, atI_4, ixN_of, cut_from, cut_to, eqv_int, eqv_none, shp_int, shp_bool, shp_none, zip_I]
  have e2 : tD (h.step l) = .tuple [.tuple (I (h.step l).a.f), .tuple (I (h.step l).b.f), .tuple (I (h.step l).c.f)] := rfl
  rw [e2]
  generalize I (h.step l).a.f = R1 at *
  generalize I (h.step l).b.f = R2 at *
  generalize I (h.step l).c.f = R3 at *
  generalize I (h.a.rem l.a).f = RR at *
  generalize I (h.a.quo l.a).f = Q at *
  refine ⟨.val (.tuple Q), .val (.tuple RR), .val (.list [.tuple R1, .tuple R2, .tuple R3]), ?_⟩
  unfold tD at *
  generalize I h.a.f = A1 at *
  generalize I h.b.f = A2 at *
  generalize I h.c.f = A3 at *
  generalize I l.a.f = B1 at *
  generalize I l.b.f = B2 at *
  generalize I l.c.f = B3 at *
  unfold two_body
  generalize two_lc j2 j3 = TL at *
  simp (config := {implicitDefEqProofs := false}) (disch := omega) [c, hlc, z3, q_int, q_bl, q_non, q_nm, q_bin, q_neg, q_negI, q_not, q_bop, q_ife, q_cmp, q_ix, q_ixn, q_sl, q_sln, q_blt, q_lenn, q_isi, q_lst, q_tup, q_lc, q_popA, q_ins, q_push, q_pop, q_evc, q_to0, q_to1, q_o0, q_o1, q_intD, q_a0, q_a1, q_tnt, q_tbop, q_tcmp, q_chn, q_tchn, q_tcmpo, q_tval, q_tnm, q_iseq, q_irng, q_ienu, q_izip, q_irrg, q_revL, q_iez, q_irev, q_sset, q_stgt, q_saug, q_intV, q_valI, q_spro, q_spar, q_sput2, q_sput, q_sret, q_sretn, q_sife, q_swhl, q_sfor, q_sex, q_spass, q_sbrk, q_scnt, q_ss0, q_ss1, q_gonx, q_gort, q_gobk, q_goct, q_add, q_addl, q_addt, q_sub, q_mul, q_mull, q_mult, q_div, q_mod, q_pow, q_eq, q_ne, q_lt, q_le, q_gt, q_ge, q_is1, q_is2, q_is3, q_is4, q_is5, q_tr0, q_trb, q_tri, q_trl, q_trt, q_ixl, q_ixt, q_sll, q_slt, q_sls, q_lenl, q_lent, q_inti, q_absi, q_lisl, q_list, q_tupl, q_tupt, q_all, q_maxl, q_max, q_min, q_itl, q_itt, q_seql, q_seqt, q_rng1, q_rng2, q_enu1, q_enu2, q_end1, q_end2, q_own, q_val, q_st1, q_stt, q_stpr, q_sta0, q_sta1, q_re1, q_re0, q_appA, q_appioA, q_lent0, q_lent1, q_lent2, q_appkA, ↓bind_o, obind_some, List.getElem?_cons_zero, List.getElem?_cons_succ, List.set_cons_zero, List.set_cons_succ, lockS, slotL, Fz.atS, putL, runD, en0, vals, setS, opStop, wipeE, wipeS, restE, restS, plainS, szB_of, posB_of, b62_of, mulB_of, divB_of, powB_of, repB_one, timB_one, flat_one, I_rep, atI_0, atI_1, atI_2, atI_3, atI_4, ixN_of, cut_from, cut_to, eqv_int, eqv_none, shp_int, shp_bool, shp_none, zip_I]
theorem two_loop (T : Tb) (h2 : At T.fs j2 false 3 d_subtract) (h3 : At T.fs j3 false 3 d_multiply) (h6 : At T.fs j6 false 3 d_divided) {s1 s2 : Sl} {bg : List D} (m : Nat) : ∀ (n W : Nat) (h l : T3 P) (x5 x6 x7 : Sl), l.a.len ≤ n → n < W → Lb 61 h l →
    ∃ y4 y5 y6 y7, whileL (evT T (m + 30) (.val (.ixn 4 (.int 0)))) (evSs T (m + 30) (two_body j2 j3 j6)) W ⟨[.val (.int P.1), s1, s2, .val (tD h), .val (tD l), x5, x6, x7, .no, .no], bg⟩ = some (.nx ⟨[.val (.int P.1), s1, s2, .val (tD (exN n h l)), y4, y5, y6, y7, .no, .no], bg⟩) := by
  have test : ∀ (h l : T3 P) (x5 x6 x7 : Sl), evT T (m + 30) (.val (.ixn 4 (.int 0))) ⟨[.val (.int P.1), s1, s2, .val (tD h), .val (tD l), x5, x6, x7, .no, .no], bg⟩ = some (!l.a.f.isEmpty, ⟨[.val (.int P.1), s1, s2, .val (tD h), .val (tD l), x5, x6, x7, .no, .no], bg⟩) := by
    intro h l x5 x6 x7
    have e3 : (I l.a.f).isEmpty = l.a.f.isEmpty := I_nil
    generalize tD h = th at *
    unfold tD
    generalize I l.a.f = B1 at *
    generalize I l.b.f = B2 at *
    generalize I l.c.f = B3 at *
    simp (config := {implicitDefEqProofs := false}) (disch := omega) [e3, q_int, q_bl, q_non, q_nm, q_bin, q_neg, q_negI, q_not, q_bop, q_ife, q_cmp, q_ix, q_ixn, q_sl, q_sln, q_blt, q_lenn, q_isi, q_lst, q_tup, q_lc, q_popA, q_ins, q_push, q_pop, q_evc, q_to0, q_to1, q_o0, q_o1, q_intD, q_a0, q_a1, q_tnt, q_tbop, q_tcmp, q_chn, q_tchn, q_tcmpo, q_tval, q_tnm, q_iseq, q_irng, q_ienu, q_izip, q_irrg, q_revL, q_iez, q_irev, q_sset, q_stgt, q_saug, q_intV, q_valI, q_spro, q_spar, q_sput2, q_sput, q_sret, q_sretn, q_sife, q_swhl, q_sfor, q_sex, q_spass, q_sbrk, q_scnt, q_ss0, q_ss1, q_gonx, q_gort, q_gobk, q_goct, q_add, q_addl, q_addt, q_sub, q_mul, q_mull, q_mult, q_div, q_mod, q_pow, q_eq, q_ne, q_lt, q_le, q_gt, q_ge, q_is1, q_is2, q_is3, q_is4, q_is5, q_tr0, q_trb, q_tri, q_trl, q_trt, q_ixl, q_ixt, q_sll, q_slt, q_sls, q_lenl, q_lent, q_inti, q_absi, q_lisl, q_list, q_tupl, q_tupt, q_all, q_maxl, q_max, q_min, q_itl, q_itt, q_seql, q_seqt, q_rng1, q_rng2, q_enu1, q_enu2, q_end1, q_end2, q_own, q_val, q_st1, q_stt, q_stpr, q_sta0, q_sta1, q_re1, q_re0, q_appA, q_appioA, q_lent0, q_lent1, q_lent2, q_appkA, ↓bind_o, obind_some, List.getElem?_cons_zero, List.getElem?_cons_succ, List.set_cons_zero, List.set_cons_succ, lockS, slotL, Fz.atS, putL, runD, en0, vals, setS, opStop, wipeE, wipeS, restE, restS, plainS, szB_of, posB_of, b62_of, mulB_of, divB_of, powB_of, repB_one, timB_one, flat_one, I_rep, atI_0, atI_1, atI_2, atI_3, atI_4, ixN_of, cut_from, cut_to, eqv_int, eqv_none, shp_int, shp_bool, shp_none, zip_I]
  have stop : ∀ (W : Nat) (h l : T3 P) (x5 x6 x7 : Sl), l.a.f = [] → whileL (evT T (m + 30) (.val (.ixn 4 (.int 0)))) (evSs T (m + 30) (two_body j2 j3 j6)) (W + 1) ⟨[.val (.int P.1), s1, s2, .val (tD h), .val (tD l), x5, x6, x7, .no, .no], bg⟩ = some (.nx ⟨[.val (.int P.1), s1, s2, .val (tD h), .val (tD l), x5, x6, x7, .no, .no], bg⟩) := by
    intro W h l x5 x6 x7 e
    refine tw_stop ?_
    rw [test, e]
    rfl
  intro n
  induction n with
  | zero =>
    intro W h l x5 x6 x7 hn hw hL
    have e : l.a.f = [] := List.eq_nil_of_length_eq_zero (by unfold Po.len at hn; omega)
    obtain ⟨W, rfl⟩ : ∃ W', W = W' + 1 := ⟨W - 1, by omega⟩
    exact ⟨_, _, _, _, stop W h l x5 x6 x7 e⟩
  | succ n ih =>
    intro W h l x5 x6 x7 hn hw hL
    obtain ⟨W, rfl⟩ : ∃ W', W = W' + 1 := ⟨W - 1, by omega⟩
    unfold exN
    by_cases e : l.a.f = []
    · rw [if_pos e]
      exact ⟨_, _, _, _, stop W h l x5 x6 x7 e⟩
    · rw [if_neg e]
      have hl : l.a ≠ 0 := fun z => e (Po.eq0.mp z)
      have hr : (h.step l).a.len < l.a.len := by rw [step_a h hl]; exact Po.rem_len _ hl
      obtain ⟨z5, z6, z7, st⟩ := two_step T h2 h3 h6 (s1 := s1) (s2 := s2) (bg := bg) m hL hl x5 x6 x7
      obtain ⟨y4, y5, y6, y7, k⟩ := ih W l (h.step l) z5 z6 z7 (by omega) (by omega) (Lb_step hl hL)
      refine ⟨y4, y5, y6, y7, ?_⟩
      rw [← k]
      refine tw_nx ?_ st
      rw [test]
      have : l.a.f.isEmpty = false := by simpa using e
      rw [this]
      rfl
noncomputable section
def d_two := wordOf F2.enc (fun x => x.F.len ≤ 60 ∧ x.G.len ≤ 60) fun x => (false, tD (ex x.F x.G), [])
end
theorem call_two (h : At fs j false 3 d_two) (F G : Po P) (lf : F.len ≤ 60) (lg : G.len ≤ 60) : cAt fs j [.int P.1, .tuple (I F.f), .tuple (I G.f)] = some (false, tD (ex F G)) := h.c rfl (wordOf_at F2.inj (x := ⟨P, F, G⟩) ⟨lf, lg⟩)
theorem run_two (hN : N.length = 10) (h2 : At fs j2 false 3 d_subtract) (h3 : At fs j3 false 3 d_multiply) (h6 : At fs j6 false 3 d_divided) {ds : List D} {z : Bool × D × List D} (h : d_two ds = some z) : runD ⟨N, fs, WW⟩ 60 false (B_two j2 j3 j6) ds = some z := by
  obtain ⟨⟨P, F, G⟩, ⟨lf, lg⟩, rfl, rfl⟩ := wordOf_some h
  dsimp only at lf lg
  have l1 : (1 : Po P).len = 1 := by unfold Po.len; rw [one_f]; rfl
  have l0 : (0 : Po P).len = 0 := Po.len0
  obtain ⟨y4, y5, y6, y7, lp⟩ := two_loop ⟨N, fs, WW⟩ h2 h3 h6 (s1 := .val (.tuple (I F.f))) (s2 := .val (.tuple (I G.f))) (bg := []) 26 G.len WW ⟨F, 1, 0⟩ ⟨G, 0, 1⟩ .no .no .no (Nat.le_refl _) (by show G.len < 1048576; omega) ⟨by simp only [l1]; omega, by simp only [l0]; omega, by simp only [l0]; omega, by simp only [l1]; omega⟩
  show runD _ 60 false _ [.int (P.1 : Int), .tuple (I F.f), .tuple (I G.f)] = some (false, tD (ex F G), [])
  have e1 : tD (⟨F, 1, 0⟩ : T3 P) = .tuple [.tuple (I F.f), .tuple [.int 1], .tuple []] := by unfold tD; rw [one_f, zero_f]; rfl
  have e2 : tD (⟨G, 0, 1⟩ : T3 P) = .tuple [.tuple (I G.f), .tuple [], .tuple [.int 1]] := by unfold tD; rw [one_f, zero_f]; rfl
  rw [e1, e2] at lp
  unfold ex
  generalize tD (exN G.len _ _) = R at *
  generalize I F.f = X at *
  generalize I G.f = Y at *
  unfold B_two
  generalize two_body j2 j3 j6 = TB at *
  simp (config := {implicitDefEqProofs := false}) (disch := omega) [hN, lp, q_int, q_bl, q_non, q_nm, q_bin, q_neg, q_negI, q_not, q_bop, q_ife, q_cmp, q_ix, q_ixn, q_sl, q_sln, q_blt, q_lenn, q_isi, q_lst, q_tup, q_lc, q_popA, q_ins, q_push, q_pop, q_evc, q_to0, q_to1, q_o0, q_o1, q_intD, q_a0, q_a1, q_tnt, q_tbop, q_tcmp, q_chn, q_tchn, q_tcmpo, q_tval, q_tnm, q_iseq, q_irng, q_ienu, q_izip, q_irrg, q_revL, q_iez, q_irev, q_sset, q_stgt, q_saug, q_intV, q_valI, q_spro, q_spar, q_sput2, q_sput, q_sret, q_sretn, q_sife, q_swhl, q_sfor, q_sex, q_spass, q_sbrk, q_scnt, q_ss0, q_ss1, q_gonx, q_gort, q_gobk, q_goct, q_add, q_addl, q_addt, q_sub, q_mul, q_mull, q_mult, q_div, q_mod, q_pow, q_eq, q_ne, q_lt, q_le, q_gt, q_ge, q_is1, q_is2, q_is3, q_is4, q_is5, q_tr0, q_trb, q_tri, q_trl, q_trt, q_ixl, q_ixt, q_sll, q_slt, q_sls, q_lenl, q_lent, q_inti, q_absi, q_lisl, q_list, q_tupl, q_tupt, q_all, q_maxl, q_max, q_min, q_itl, q_itt, q_seql, q_seqt, q_rng1, q_rng2, q_enu1, q_enu2, q_end1, q_end2, q_own, q_val, q_st1, q_stt, q_stpr, q_sta0, q_sta1, q_re1, q_re0, q_appA, q_appioA, q_lent0, q_lent1, q_lent2, q_appkA, ↓bind_o, obind_some, List.getElem?_cons_zero, List.getElem?_cons_succ, List.set_cons_zero, List.set_cons_succ, lockS, slotL, Fz.atS, putL, runD, en0, vals, setS, opStop, wipeE, wipeS, restE, restS, plainS, szB_of, posB_of, b62_of, mulB_of, divB_of, powB_of, repB_one, timB_one, flat_one, I_rep, atI_0, atI_1, atI_2, atI_3, atI_4, ixN_of, cut_from, cut_to, eqv_int, eqv_none, shp_int, shp_bool, shp_none, zip_I]
end K03
set_option Elab.async false
set_option linter.all false
set_option maxRecDepth 100000
set_option maxHeartbeats 4000000
namespace K03
open PySem PySem.Spec PyProof.Rows L2 Fz W1 K05
variable {fs : List (Str × Fn)} {N : List Str} {j j0 j1 j2 j3 j4 j5 j6 j7 j8 j10 : Nat} {P : Prm}
theorem at_ld {F : Po P} (h : F ≠ 0) : atI (I F.f) (-1) = some (.int F.ld) := by
  obtain ⟨l, y, e, _, _⟩ := last_form F.h fun e => h (Po.eq0.mpr e)
  have : F.ld = y := by
    unfold Po.ld Po.len
    rw [e]
    simp [gd]
  rw [this, e, I_app]
  exact atI_last _ _
theorem call_inv (h : At fs j false 2 d_inverse) {F : Po P} (hF : F ≠ 0) : cAt fs j [.int P.1, .int F.ld] = some (false, .int (inv P.i F.ld)) := by
  obtain ⟨h1, h2⟩ := lead_ok F hF
  exact h.c rfl (inv_ok P.2 h1 h2).1
theorem call_scl (h : At fs j false 3 d_scaled) (F : Po P) {u : Int} (lf : F.len ≤ 40000) (hu : small u) : cAt fs j [.int P.1, .tuple (I F.f), .int u] = some (false, .tuple (I (cs P u * F).f)) := by
  have c := call_scaled h (p := P.i) (n := u) P.pos lf hu F.small
  have e : cs P u * F = Po.of P (F.f.map (u * ·)) := Po.ext' fun k => by
    unfold cs
    rw [gd_cst, gd_of, gd_map (u := (u * ·)) (by simp)]
  rw [e]
  exact c
/-! ### divisor_with -/
def dw_body (j3 j10 : Nat) : List RS := [.tgt (.tup [2, 5, 6]) (.app j10 [(.nm 0), (.nm 2), (.nm 4)]), .set 3 (.lc (.one 7) [7] (.seq (.nm 3)) none (.app j3 [(.nm 0), (.nm 5), (.nm 7)])), .ex (.push 3 (.nm 6))]
def dw_e1 (j5 : Nat) : RE := .app j5 [(.nm 0), (.nm 2)]
def dw_e2 (j4 : Nat) : RE := .lc (.one 7) [7] (.seq (.nm 3)) none (.app j4 [(.nm 0), (.nm 7), (.nm 8)])
def dw_rows (j0 j3 j10 : Nat) : List RS := [.set 2 (.tup []), .set 3 (.lst []), .for (.one 4) (.seq (.nm 1)) (dw_body j3 j10), .set 8 (.ife (.nm 2) (.app j0 [(.nm 0), (.ixn 2 (.neg (.int 1)))]) (.int 1))]
def B_with (j0 j3 j4 j5 j10 : Nat) : List RS := [.set 2 (.tup []), .set 3 (.lst []), .for (.one 4) (.seq (.nm 1)) (dw_body j3 j10), .set 8 (.ife (.nm 2) (.app j0 [(.nm 0), (.ixn 2 (.neg (.int 1)))]) (.int 1)), .ret (.tup [dw_e1 j5, dw_e2 j4])]
theorem Ft_len (l : List (Po P)) : (Ft l).length = l.length := by unfold Ft; simp
theorem Ft_app (a b : List (Po P)) : Ft (a ++ b) = Ft a ++ Ft b := by unfold Ft; rw [List.map_append]; simp [Rw]
theorem Ft_map (l : List (Po P)) : Ft l = l.map fun F => PyData.tuple (I F.f) := by unfold Ft Rw; rw [List.map_map]; rfl
theorem dw_lc (T : Tb) (h3 : At T.fs j3 false 3 d_multiply) {s1 s2 s3 s4 s6 s8 : Sl} {bg : List D} {B : Po P} (lB : B.len ≤ 100) {ms : List (Po P)} (hm : ∀ f ∈ ms, f.len ≤ 800) (n : Nat) :
    lcL (evC T (n + 12) (.one 7) [7] none (.app j3 [(.nm 0), (.nm 5), (.nm 7)])) (Ft ms) ⟨[.val (.int P.1), s1, s2, s3, s4, .val (.tuple (I B.f)), s6, .no, s8], bg⟩ = some (Ft (ms.map (B * ·)), ⟨[.val (.int P.1), s1, s2, s3, s4, .val (.tuple (I B.f)), s6, .no, s8], bg⟩) := by
  rw [Ft_map, Ft_map, List.map_map]
  refine lcL_pure _ _ fun F hF => ?_
  have c := call_mulP h3 B F (by omega) (by have := hm F hF; omega)
  show _ = some (some (PyData.tuple (I (B * F).f)), _)
  generalize I (B * F).f = R at *
  generalize I F.f = X at *
  generalize I B.f = Y at *
  simp (config := {implicitDefEqProofs := false}) (disch := omega) [c, q_int, q_bl, q_non, q_nm, q_bin, q_neg, q_negI, q_not, q_bop, q_ife, q_cmp, q_ix, q_ixn, q_sl, q_sln, q_blt, q_lenn, q_isi, q_lst, q_tup, q_lc, q_popA, q_ins, q_push, q_pop, q_evc, q_to0, q_to1, q_o0, q_o1, q_intD, q_a0, q_a1, q_tnt, q_tbop, q_tcmp, q_chn, q_tchn, q_tcmpo, q_tval, q_tnm, q_iseq, q_irng, q_ienu, q_izip, q_irrg, q_revL, q_iez, q_irev, q_sset, q_stgt, q_saug, q_intV, q_valI, q_spro, q_spar, q_sput2, q_sput, q_sret, q_sretn, q_sife, q_swhl, q_sfor, q_sex, q_spass, q_sbrk, q_scnt, q_ss0, q_ss1, q_gonx, q_gort, q_gobk, q_goct, q_add, q_addl, q_addt, q_sub, q_mul, q_mull, q_mult, q_div, q_mod, q_pow, q_eq, q_ne, q_lt, q_le, q_gt, q_ge, q_is1, q_is2, q_is3, q_is4, q_is5, q_tr0, q_trb, q_tri, q_trl, q_trt, q_ixl, q_ixt, q_sll, q_slt, q_sls, q_lenl, q_lent, q_inti, q_absi, q_lisl, q_list, q_tupl, q_tupt, q_all, q_maxl, q_max, q_min, q_itl, q_itt, q_seql, q_seqt, q_rng1, q_rng2, q_enu1, q_enu2, q_end1, q_end2, q_own, q_val, q_st1, q_stt, q_stpr, q_sta0, q_sta1, q_re1, q_re0, q_appA, q_appioA, q_lent0, q_lent1, q_lent2, q_appkA, ↓bind_o, obind_some, List.getElem?_cons_zero, List.getElem?_cons_succ, List.set_cons_zero, List.set_cons_succ, lockS, slotL, Fz.atS, putL, runD, en0, vals, setS, opStop, wipeE, wipeS, restE, restS, plainS, szB_of, posB_of, b62_of, mulB_of, divB_of, powB_of, repB_one, timB_one, flat_one, I_rep, atI_0, atI_1, atI_2, atI_3, atI_4, ixN_of, cut_from, cut_to, eqv_int, eqv_none, shp_int, shp_bool, shp_none, zip_I]
theorem dw_loop (T : Tb) (h3 : At T.fs j3 false 3 d_multiply) (h10 : At T.fs j10 false 3 d_two) {s1 s8 : Sl} {bg : List D} (m : Nat) : ∀ (l : List (Po P)) (d : Po P) (ms : List (Po P)) (L : Nat) (x4 x5 x6 : Sl), (∀ f ∈ l, f.len ≤ 60) → d.len ≤ 60 → (∀ f ∈ ms, f.len ≤ L) → L + l.length * 61 ≤ 800 → ms.length + l.length ≤ 1000 →
    ∃ y4 y5 y6, forL (bodyF T (m + 25) (.one 4) (dw_body j3 j10)) (Ft l) ⟨[.val (.int P.1), s1, .val (.tuple (I d.f)), .own (Ft ms), x4, x5, x6, .no, s8], bg⟩ = some (.nx ⟨[.val (.int P.1), s1, .val (.tuple (I (dvw d ms l).1.f)), .own (Ft (dvw d ms l).2), y4, y5, y6, .no, s8], bg⟩)
  | [], d, ms, L, x4, x5, x6, _, _, _, _, _ => ⟨x4, x5, x6, rfl⟩
  | f :: l, d, ms, L, x4, x5, x6, hl, hd, hms, hL, hn => by
    have hf := hl f (by simp)
    rw [List.length_cons, Nat.succ_mul] at hL
    rw [List.length_cons] at hn
    have xl := ex_len d f
    have hm : ∀ g ∈ ms, g.len ≤ 800 := fun g hg => by have := hms g hg; omega
    obtain ⟨y4, y5, y6, ih⟩ := dw_loop T h3 h10 (s1 := s1) (s8 := s8) (bg := bg) m l (ex d f).a (ms.map ((ex d f).b * ·) ++ [(ex d f).c]) (L + 61) (.val (.tuple (I f.f))) (.val (.tuple (I (ex d f).b.f))) (.val (.tuple (I (ex d f).c.f)))
      (fun g hg => hl g (by simp [hg])) (by rw [ex_a]; exact gc_len hd hf) (fun g hg => by
        rcases List.mem_append.mp hg with h1 | h1
        · obtain ⟨y, h2, rfl⟩ := List.mem_map.mp h1
          have := hms y h2
          have := Po.len_mul_le (ex d f).b y
          omega
        · rw [List.mem_singleton.mp h1]
          omega) (by omega) (by simp; omega)
    refine ⟨y4, y5, y6, ?_⟩
    rw [Ft_cons]
    have c := call_two h10 d f hd hf
    have hlc := fun s1 s2 s3 s4 s6 s8 n => dw_lc T h3 (s1 := s1) (s2 := s2) (s3 := s3) (s4 := s4) (s6 := s6) (s8 := s8) (bg := bg) (B := (ex d f).b) (by omega) hm n
    have z1 := szB_of (n := (Ft ms).length) (by rw [Ft_len]; omega)
    have z2 : (Ft (ms.map ((ex d f).b * ·))).length < 1000000 := by rw [Ft_len, List.length_map]; omega
    have step : bodyF T (m + 25) (.one 4) (dw_body j3 j10) (.tuple (I f.f)) ⟨[.val (.int P.1), s1, .val (.tuple (I d.f)), .own (Ft ms), x4, x5, x6, .no, s8], bg⟩ = some (.nx ⟨[.val (.int P.1), s1, .val (.tuple (I (ex d f).a.f)), .own (Ft (ms.map ((ex d f).b * ·) ++ [(ex d f).c])), .val (.tuple (I f.f)), .val (.tuple (I (ex d f).b.f)), .val (.tuple (I (ex d f).c.f)), .no, s8], bg⟩) := by
      have e1 : Ft (ms.map ((ex d f).b * ·) ++ [(ex d f).c]) = Ft (ms.map ((ex d f).b * ·)) ++ [.tuple (I (ex d f).c.f)] := by rw [Ft_app]; rfl
      rw [e1]
      unfold tD at c
      generalize Ft (ms.map ((ex d f).b * ·)) = M2 at *
      generalize Ft ms = M1 at *
      generalize I (ex d f).a.f = A1 at *
      generalize I (ex d f).b.f = A2 at *
      generalize I (ex d f).c.f = A3 at *
      generalize I f.f = X at *
      generalize I d.f = Y at *
      have ss : M2.length < 1000000 := z2
      unfold bodyF dw_body
      simp (config := {implicitDefEqProofs := false}) (disch := omega) [c, hlc, z1, z2, if_pos ss, q_int, q_bl, q_non, q_nm, q_bin, q_neg, q_negI, q_not, q_bop, q_ife, q_cmp, q_ix, q_ixn, q_sl, q_sln, q_blt, q_lenn, q_isi, q_lst, q_tup, q_lc, q_popA, q_ins, q_push, q_pop, q_evc, q_to0, q_to1, q_o0, q_o1, q_intD, q_a0, q_a1, q_tnt, q_tbop, q_tcmp, q_chn, q_tchn, q_tcmpo, q_tval, q_tnm, q_iseq, q_irng, q_ienu, q_izip, q_irrg, q_revL, q_iez, q_irev, q_sset, q_stgt, q_saug, q_intV, q_valI, q_spro, q_spar, q_sput2, q_sput, q_sret, q_sretn, q_sife, q_swhl, q_sfor, q_sex, q_spass, q_sbrk, q_scnt, q_ss0, q_ss1, q_gonx, q_gort, q_gobk, q_goct, q_add, q_addl, q_addt, q_sub, q_mul, q_mull, q_mult, q_div, q_mod, q_pow, q_eq, q_ne, q_lt, q_le, q_gt, q_ge, q_is1, q_is2, q_is3, q_is4, q_is5, q_tr0, q_trb, q_tri, q_trl, q_trt, q_ixl, q_ixt, q_sll, q_slt, q_sls, q_lenl, q_lent, q_inti, q_absi, q_lisl, q_list, q_tupl, q_tupt, q_all, q_maxl, q_max, q_min, q_itl, q_itt, q_seql, q_seqt, q_rng1, q_rng2, q_enu1, q_enu2, q_end1, q_end2, q_own, q_val, q_st1, q_stt, q_stpr, q_sta0, q_sta1, q_re1, q_re0, q_appA, q_appioA, q_lent0, q_lent1, q_lent2, q_appkA, ↓bind_o, obind_some, List.getElem?_cons_zero, List.getElem?_cons_succ, List.set_cons_zero, List.set_cons_succ, lockS, slotL, Fz.atS, putL, runD, en0, vals, setS, opStop, wipeE, wipeS, restE, restS, plainS, szB_of, posB_of, b62_of, mulB_of, divB_of, powB_of, repB_one, timB_one, flat_one, I_rep, atI_0, atI_1, atI_2, atI_3, atI_4, ixN_of, cut_from, cut_to, eqv_int, eqv_none, shp_int, shp_bool, shp_none, zip_I]
    rw [forL_nx step]
    exact ih
/-! what it tells -/
def uD (d : Po P) : Int := if d.f = [] then 1 else inv P.i d.ld
theorem uD_small (d : Po P) : small (uD d) := by
  unfold uD
  split
  · exact small_of (by decide) (by decide)
  · rename_i h
    obtain ⟨h1, h2, _⟩ := inv_lead d fun e => h (Po.eq0.mp e)
    have := (PR_le P.2).2
    have e : P.i = (P.1 : Int) := rfl
    exact small_of (by unfold Po.ld; omega) (by unfold Po.ld; omega)
def Ms (l : List (Po P)) : List (Po P) := (dvw 0 [] l).2.map (cs P (uD (dvs 0 l)) * ·)
theorem Ms_num (l : List (Po P)) : (Ms l).length = l.length := by
  unfold Ms
  rw [List.length_map, dvw_num]
  simp
theorem cs_len (x : Int) (G : Po P) : (cs P x * G).len ≤ G.len := Po.len_le fun k hk => by
  unfold cs
  rw [gd_cst, G.out hk]
  simp
theorem mm_len {l : List (Po P)} (hl : ∀ f ∈ l, f.len ≤ 60) : ∀ m ∈ (dvw 0 [] l).2, m.len ≤ l.length * 61 := fun m hm => by
  have := dvw_len (B := 60) l [] (0 : Po P) 0 (by rw [Po.len0]; omega) hl (by simp) m hm
  omega
theorem Ms_len {l : List (Po P)} (hl : ∀ f ∈ l, f.len ≤ 60) : ∀ m ∈ Ms l, m.len ≤ l.length * 61 := fun m hm => by
  obtain ⟨g, hg, rfl⟩ := List.mem_map.mp hm
  have := cs_len (uD (dvs 0 l)) g
  have := mm_len hl g hg
  omega
theorem Ms_dot (l : List (Po P)) : dtP (Ms l) l = Gd l := by
  unfold Ms
  rw [dtP_map]
  have h := dvw_dot l [] [] (0 : Po P) rfl rfl
  rw [List.nil_append] at h
  rw [h]
  unfold Gd uD Po.mon
  split
  · rename_i e
    rw [Po.eq0.mpr e]
    grind
  · rfl
theorem dw_run (hN : N.length = 9) (h0 : At fs j0 false 2 d_inverse) (h3 : At fs j3 false 3 d_multiply) (h10 : At fs j10 false 3 d_two) {l : List (Po P)} (hl : ∀ f ∈ l, f.len ≤ 60) (hn : l.length ≤ 10) (t : Bool) :
    ∃ y4 y5 y6, evSs ⟨N, fs, WW⟩ 60 (dw_rows j0 j3 j10) ⟨[.val (.int P.1), .val (sqr t (Ft l)), .no, .no, .no, .no, .no, .no, .no], []⟩ = some (.nx ⟨[.val (.int P.1), .val (sqr t (Ft l)), .val (.tuple (I (dvs 0 l).f)), .own (Ft (dvw 0 [] l).2), y4, y5, y6, .no, .val (.int (uD (dvs 0 l)))], []⟩) := by
  obtain ⟨y4, y5, y6, lp⟩ := dw_loop ⟨N, fs, WW⟩ h3 h10 (s1 := .val (sqr t (Ft l))) (s8 := .no) (bg := []) 31 l (0 : Po P) [] 0 .no .no .no hl (by rw [Po.len0]; omega) (by simp) (by omega) (by simp; omega)
  refine ⟨y4, y5, y6, ?_⟩
  have hi : itemsD (sqr t (Ft l)) = some (Ft l) := by cases t <;> rfl
  rw [zero_f, dvw_1] at lp
  change forL _ _ ⟨[_, _, .val (.tuple []), .own [], _, _, _, _, _], _⟩ = _ at lp
  unfold uD
  by_cases e : (dvs 0 l).f = []
  · rw [if_pos e]
    rw [e] at lp ⊢
    generalize Ft (dvw 0 [] l).2 = Q at *
    generalize sqr t (Ft l) = X at *
    generalize Ft l = Y at *
    unfold dw_rows
    generalize dw_body j3 j10 = DB at *
    change forL _ _ _ = some (.nx ⟨[_, _, .val (.tuple []), _, _, _, _, _, _], _⟩) at lp
    show _ = some (SR.nx ⟨[_, _, .val (.tuple []), _, _, _, _, _, _], _⟩)
    simp (config := {implicitDefEqProofs := false}) (disch := omega) [hN, hi, lp, q_int, q_bl, q_non, q_nm, q_bin, q_neg, q_negI, q_not, q_bop, q_ife, q_cmp, q_ix, q_ixn, q_sl, q_sln, q_blt, q_lenn, q_isi, q_lst, q_tup, q_lc, q_popA, q_ins, q_push, q_pop, q_evc, q_to0, q_to1, q_o0, q_o1, q_intD, q_a0, q_a1, q_tnt, q_tbop, q_tcmp, q_chn, q_tchn, q_tcmpo, q_tval, q_tnm, q_iseq, q_irng, q_ienu, q_izip, q_irrg, q_revL, q_iez, q_irev, q_sset, q_stgt, q_saug, q_intV, q_valI, q_spro, q_spar, q_sput2, q_sput, q_sret, q_sretn, q_sife, q_swhl, q_sfor, q_sex, q_spass, q_sbrk, q_scnt, q_ss0, q_ss1, q_gonx, q_gort, q_gobk, q_goct, q_add, q_addl, q_addt, q_sub, q_mul, q_mull, q_mult, q_div, q_mod, q_pow, q_eq, q_ne, q_lt, q_le, q_gt, q_ge, q_is1, q_is2, q_is3, q_is4, q_is5, q_tr0, q_trb, q_tri, q_trl, q_trt, q_ixl, q_ixt, q_sll, q_slt, q_sls, q_lenl, q_lent, q_inti, q_absi, q_lisl, q_list, q_tupl, q_tupt, q_all, q_maxl, q_max, q_min, q_itl, q_itt, q_seql, q_seqt, q_rng1, q_rng2, q_enu1, q_enu2, q_end1, q_end2, q_own, q_val, q_st1, q_stt, q_stpr, q_sta0, q_sta1, q_re1, q_re0, q_appA, q_appioA, q_lent0, q_lent1, q_lent2, q_appkA, ↓bind_o, obind_some, List.getElem?_cons_zero, List.getElem?_cons_succ, List.set_cons_zero, List.set_cons_succ, lockS, slotL, Fz.atS, putL, runD, en0, vals, setS, opStop, wipeE, wipeS, restE, restS, plainS, szB_of, posB_of, b62_of, mulB_of, divB_of, powB_of, repB_one, timB_one, flat_one, I_rep, atI_0, atI_1, atI_2, atI_3, atI_4, ixN_of, cut_from, cut_to, eqv_int, eqv_none, shp_int, shp_bool, shp_none, zip_I]
  · rw [if_neg e]
    have hd : dvs 0 l ≠ 0 := fun z => e (Po.eq0.mp z)
    have c := call_inv h0 hd
    have hat := at_ld hd
    have e3 : (I (dvs 0 l).f).isEmpty = false := by rw [I_nil]; simpa using e
    generalize I (dvs 0 l).f = R at *
    generalize Ft (dvw 0 [] l).2 = Q at *
    generalize sqr t (Ft l) = X at *
    generalize Ft l = Y at *
    unfold dw_rows
    generalize dw_body j3 j10 = DB at *
    simp (config := {implicitDefEqProofs := false}) (disch := omega) [hN, hi, lp, c, hat, e3, q_int, q_bl, q_non, q_nm, q_bin, q_neg, q_negI, q_not, q_bop, q_ife, q_cmp, q_ix, q_ixn, q_sl, q_sln, q_blt, q_lenn, q_isi, q_lst, q_tup, q_lc, q_popA, q_ins, q_push, q_pop, q_evc, q_to0, q_to1, q_o0, q_o1, q_intD, q_a0, q_a1, q_tnt, q_tbop, q_tcmp, q_chn, q_tchn, q_tcmpo, q_tval, q_tnm, q_iseq, q_irng, q_ienu, q_izip, q_irrg, q_revL, q_iez, q_irev, q_sset, q_stgt, q_saug, q_intV, q_valI, q_spro, q_spar, q_sput2, q_sput, q_sret, q_sretn, q_sife, q_swhl, q_sfor, q_sex, q_spass, q_sbrk, q_scnt, q_ss0, q_ss1, q_gonx, q_gort, q_gobk, q_goct, q_add, q_addl, q_addt, q_sub, q_mul, q_mull, q_mult, q_div, q_mod, q_pow, q_eq, q_ne, q_lt, q_le, q_gt, q_ge, q_is1, q_is2, q_is3, q_is4, q_is5, q_tr0, q_trb, q_tri, q_trl, q_trt, q_ixl, q_ixt, q_sll, q_slt, q_sls, q_lenl, q_lent, q_inti, q_absi, q_lisl, q_list, q_tupl, q_tupt, q_all, q_maxl, q_max, q_min, q_itl, q_itt, q_seql, q_seqt, q_rng1, q_rng2, q_enu1, q_enu2, q_end1, q_end2, q_own, q_val, q_st1, q_stt, q_stpr, q_sta0, q_sta1, q_re1, q_re0, q_appA, q_appioA, q_lent0, q_lent1, q_lent2, q_appkA, ↓bind_o, obind_some, List.getElem?_cons_zero, List.getElem?_cons_succ, List.set_cons_zero, List.set_cons_succ, lockS, slotL, Fz.atS, putL, runD, en0, vals, setS, opStop, wipeE, wipeS, restE, restS, plainS, szB_of, posB_of, b62_of, mulB_of, divB_of, powB_of, repB_one, timB_one, flat_one, I_rep, atI_0, atI_1, atI_2, atI_3, atI_4, ixN_of, cut_from, cut_to, eqv_int, eqv_none, shp_int, shp_bool, shp_none, zip_I]
theorem dw_ends (T : Tb) (h4 : At T.fs j4 false 3 d_scaled) (h5 : At T.fs j5 false 2 d_monic_of) {l : List (Po P)} (hl : ∀ f ∈ l, f.len ≤ 60) (hn : l.length ≤ 10) {s1 y4 y5 y6 : Sl} (m : Nat) :
    evE T (m + 20) (dw_e1 j5) ⟨[.val (.int P.1), s1, .val (.tuple (I (dvs 0 l).f)), .own (Ft (dvw 0 [] l).2), y4, y5, y6, .no, .val (.int (uD (dvs 0 l)))], []⟩ = some (false, .tuple (I (Gd l).f), ⟨[.val (.int P.1), s1, .val (.tuple (I (dvs 0 l).f)), .own (Ft (dvw 0 [] l).2), y4, y5, y6, .no, .val (.int (uD (dvs 0 l)))], []⟩) ∧
    evE T (m + 20) (dw_e2 j4) ⟨[.val (.int P.1), s1, .val (.tuple (I (dvs 0 l).f)), .own (Ft (dvw 0 [] l).2), y4, y5, y6, .no, .val (.int (uD (dvs 0 l)))], []⟩ = some (true, .list (Ft (Ms l)), ⟨[.val (.int P.1), s1, .val (.tuple (I (dvs 0 l).f)), .val (.list (Ft (dvw 0 [] l).2)), y4, y5, y6, .no, .val (.int (uD (dvs 0 l)))], []⟩) := by
  have c := call_mon h5 (dvs 0 l) (by have := dvs_len (B := 60) l 0 (by rw [Po.len0]; omega) hl; omega)
  have e0 : (dvs 0 l).mon = Gd l := rfl
  rw [e0] at c
  have hlc : ∀ n s3, lcL (evC T (n + 12) (.one 7) [7] none (.app j4 [(.nm 0), (.nm 7), (.nm 8)])) (Ft (dvw 0 [] l).2) ⟨[.val (.int P.1), s1, .val (.tuple (I (dvs 0 l).f)), s3, y4, y5, y6, .no, .val (.int (uD (dvs 0 l)))], []⟩ = some (Ft (Ms l), ⟨[.val (.int P.1), s1, .val (.tuple (I (dvs 0 l).f)), s3, y4, y5, y6, .no, .val (.int (uD (dvs 0 l)))], []⟩) := by
    intro n s3
    unfold Ms
    rw [Ft_map (List.map _ _), Ft_map, List.map_map]
    refine lcL_pure _ _ fun F hF => ?_
    have := mm_len hl F hF
    have c4 := call_scl h4 F (u := uD (dvs 0 l)) (by omega) (uD_small _)
    show _ = some (some (PyData.tuple (I (cs P (uD (dvs 0 l)) * F).f)), _)
    generalize I (cs P (uD (dvs 0 l)) * F).f = R at *
    generalize I F.f = X at *
    generalize I (dvs 0 l).f = Y at *
    simp (config := {implicitDefEqProofs := false}) (disch := omega) [c4, q_int, q_bl, q_non, q_nm, q_bin, q_neg, q_negI, q_not, q_bop, q_ife, q_cmp, q_ix, q_ixn, q_sl, q_sln, q_blt, q_lenn, q_isi, q_lst, q_tup, q_lc, q_popA, q_ins, q_push, q_pop, q_evc, q_to0, q_to1, q_o0, q_o1, q_intD, q_a0, q_a1, q_tnt, q_tbop, q_tcmp, q_chn, q_tchn, q_tcmpo, q_tval, q_tnm, q_iseq, q_irng, q_ienu, q_izip, q_irrg, q_revL, q_iez, q_irev, q_sset, q_stgt, q_saug, q_intV, q_valI, q_spro, q_spar, q_sput2, q_sput, q_sret, q_sretn, q_sife, q_swhl, q_sfor, q_sex, q_spass, q_sbrk, q_scnt, q_ss0, q_ss1, q_gonx, q_gort, q_gobk, q_goct, q_add, q_addl, q_addt, q_sub, q_mul, q_mull, q_mult, q_div, q_mod, q_pow, q_eq, q_ne, q_lt, q_le, q_gt, q_ge, q_is1, q_is2, q_is3, q_is4, q_is5, q_tr0, q_trb, q_tri, q_trl, q_trt, q_ixl, q_ixt, q_sll, q_slt, q_sls, q_lenl, q_lent, q_inti, q_absi, q_lisl, q_list, q_tupl, q_tupt, q_all, q_maxl, q_max, q_min, q_itl, q_itt, q_seql, q_seqt, q_rng1, q_rng2, q_enu1, q_enu2, q_end1, q_end2, q_own, q_val, q_st1, q_stt, q_stpr, q_sta0, q_sta1, q_re1, q_re0, q_appA, q_appioA, q_lent0, q_lent1, q_lent2, q_appkA, ↓bind_o, obind_some, List.getElem?_cons_zero, List.getElem?_cons_succ, List.set_cons_zero, List.set_cons_succ, lockS, slotL, Fz.atS, putL, runD, en0, vals, setS, opStop, wipeE, wipeS, restE, restS, plainS, szB_of, posB_of, b62_of, mulB_of, divB_of, powB_of, repB_one, timB_one, flat_one, I_rep, atI_0, atI_1, atI_2, atI_3, atI_4, ixN_of, cut_from, cut_to, eqv_int, eqv_none, shp_int, shp_bool, shp_none, zip_I]
  have z1 := szB_of (n := (Ft (dvw 0 [] l).2).length) (by rw [Ft_len, dvw_num]; simp; omega)
  generalize Ft (Ms l) = M at *
  generalize Ft (dvw 0 [] l).2 = M2 at *
  generalize I (Gd l).f = R at *
  generalize I (dvs 0 l).f = Y at *
  constructor
  · unfold dw_e1
    simp (config := {implicitDefEqProofs := false}) (disch := omega) [c, q_int, q_bl, q_non, q_nm, q_bin, q_neg, q_negI, q_not, q_bop, q_ife, q_cmp, q_ix, q_ixn, q_sl, q_sln, q_blt, q_lenn, q_isi, q_lst, q_tup, q_lc, q_popA, q_ins, q_push, q_pop, q_evc, q_to0, q_to1, q_o0, q_o1, q_intD, q_a0, q_a1, q_tnt, q_tbop, q_tcmp, q_chn, q_tchn, q_tcmpo, q_tval, q_tnm, q_iseq, q_irng, q_ienu, q_izip, q_irrg, q_revL, q_iez, q_irev, q_sset, q_stgt, q_saug, q_intV, q_valI, q_spro, q_spar, q_sput2, q_sput, q_sret, q_sretn, q_sife, q_swhl, q_sfor, q_sex, q_spass, q_sbrk, q_scnt, q_ss0, q_ss1, q_gonx, q_gort, q_gobk, q_goct, q_add, q_addl, q_addt, q_sub, q_mul, q_mull, q_mult, q_div, q_mod, q_pow, q_eq, q_ne, q_lt, q_le, q_gt, q_ge, q_is1, q_is2, q_is3, q_is4, q_is5, q_tr0, q_trb, q_tri, q_trl, q_trt, q_ixl, q_ixt, q_sll, q_slt, q_sls, q_lenl, q_lent, q_inti, q_absi, q_lisl, q_list, q_tupl, q_tupt, q_all, q_maxl, q_max, q_min, q_itl, q_itt, q_seql, q_seqt, q_rng1, q_rng2, q_enu1, q_enu2, q_end1, q_end2, q_own, q_val, q_st1, q_stt, q_stpr, q_sta0, q_sta1, q_re1, q_re0, q_appA, q_appioA, q_lent0, q_lent1, q_lent2, q_appkA, ↓bind_o, obind_some, List.getElem?_cons_zero, List.getElem?_cons_succ, List.set_cons_zero, List.set_cons_succ, lockS, slotL, Fz.atS, putL, runD, en0, vals, setS, opStop, wipeE, wipeS, restE, restS, plainS, szB_of, posB_of, b62_of, mulB_of, divB_of, powB_of, repB_one, timB_one, flat_one, I_rep, atI_0, atI_1, atI_2, atI_3, atI_4, ixN_of, cut_from, cut_to, eqv_int, eqv_none, shp_int, shp_bool, shp_none, zip_I]
  · unfold dw_e2
    simp (config := {implicitDefEqProofs := false}) (disch := omega) [hlc, z1, q_int, q_bl, q_non, q_nm, q_bin, q_neg, q_negI, q_not, q_bop, q_ife, q_cmp, q_ix, q_ixn, q_sl, q_sln, q_blt, q_lenn, q_isi, q_lst, q_tup, q_lc, q_popA, q_ins, q_push, q_pop, q_evc, q_to0, q_to1, q_o0, q_o1, q_intD, q_a0, q_a1, q_tnt, q_tbop, q_tcmp, q_chn, q_tchn, q_tcmpo, q_tval, q_tnm, q_iseq, q_irng, q_ienu, q_izip, q_irrg, q_revL, q_iez, q_irev, q_sset, q_stgt, q_saug, q_intV, q_valI, q_spro, q_spar, q_sput2, q_sput, q_sret, q_sretn, q_sife, q_swhl, q_sfor, q_sex, q_spass, q_sbrk, q_scnt, q_ss0, q_ss1, q_gonx, q_gort, q_gobk, q_goct, q_add, q_addl, q_addt, q_sub, q_mul, q_mull, q_mult, q_div, q_mod, q_pow, q_eq, q_ne, q_lt, q_le, q_gt, q_ge, q_is1, q_is2, q_is3, q_is4, q_is5, q_tr0, q_trb, q_tri, q_trl, q_trt, q_ixl, q_ixt, q_sll, q_slt, q_sls, q_lenl, q_lent, q_inti, q_absi, q_lisl, q_list, q_tupl, q_tupt, q_all, q_maxl, q_max, q_min, q_itl, q_itt, q_seql, q_seqt, q_rng1, q_rng2, q_enu1, q_enu2, q_end1, q_end2, q_own, q_val, q_st1, q_stt, q_stpr, q_sta0, q_sta1, q_re1, q_re0, q_appA, q_appioA, q_lent0, q_lent1, q_lent2, q_appkA, ↓bind_o, obind_some, List.getElem?_cons_zero, List.getElem?_cons_succ, List.set_cons_zero, List.set_cons_succ, lockS, slotL, Fz.atS, putL, runD, en0, vals, setS, opStop, wipeE, wipeS, restE, restS, plainS, szB_of, posB_of, b62_of, mulB_of, divB_of, powB_of, repB_one, timB_one, flat_one, I_rep, atI_0, atI_1, atI_2, atI_3, atI_4, ixN_of, cut_from, cut_to, eqv_int, eqv_none, shp_int, shp_bool, shp_none, zip_I]
def wD (l : List (Po P)) : D := .tuple [.tuple (I (Gd l).f), .list (Ft (Ms l))]
noncomputable section
def d_with := wordOf LF.enc LF.ok fun x => (false, wD x.l, [])
end
theorem call_with (h : At fs j false 2 d_with) (t : Bool) {l : List (Po P)} (hl : ∀ f ∈ l, f.len ≤ 60) (hn : l.length ≤ 10) : cAt fs j [.int P.1, sqr t (Ft l)] = some (false, wD l) := h.c rfl (wordOf_at LF.inj (x := ⟨P, l, t⟩) ⟨hl, hn⟩)
theorem run_with (hN : N.length = 9) (h0 : At fs j0 false 2 d_inverse) (h3 : At fs j3 false 3 d_multiply) (h4 : At fs j4 false 3 d_scaled) (h5 : At fs j5 false 2 d_monic_of) (h10 : At fs j10 false 3 d_two) {ds : List D} {z : Bool × D × List D} (h : d_with ds = some z) : runD ⟨N, fs, WW⟩ 60 false (B_with j0 j3 j4 j5 j10) ds = some z := by
  obtain ⟨⟨P, l, t⟩, ⟨hl, hn⟩, rfl, rfl⟩ := wordOf_some h
  dsimp only at hl hn
  obtain ⟨y4, y5, y6, lp⟩ := dw_loop ⟨N, fs, WW⟩ h3 h10 (s1 := .val (sqr t (Ft l))) (s8 := .no) (bg := []) 31 l (0 : Po P) [] 0 .no .no .no hl (by rw [Po.len0]; omega) (by simp) (by omega) (by simp; omega)
  have hi : itemsD (sqr t (Ft l)) = some (Ft l) := by cases t <;> rfl
  rw [zero_f, dvw_1] at lp
  change forL _ _ ⟨[_, _, .val (.tuple []), .own [], _, _, _, _, _], _⟩ = _ at lp
  have c1 := fun m => (dw_ends ⟨N, fs, WW⟩ h4 h5 hl hn (s1 := .val (sqr t (Ft l))) (y4 := y4) (y5 := y5) (y6 := y6) m).1
  have c2 := fun m => (dw_ends ⟨N, fs, WW⟩ h4 h5 hl hn (s1 := .val (sqr t (Ft l))) (y4 := y4) (y5 := y5) (y6 := y6) m).2
  show runD _ 60 false _ [.int (P.1 : Int), sqr t (Ft l)] = some (false, .tuple [.tuple (I (Gd l).f), .list (Ft (Ms l))], [])
  unfold uD at c1 c2
  by_cases e : (dvs 0 l).f = []
  · rw [if_pos e] at c1 c2
    rw [e] at lp c1 c2
    generalize Ft (Ms l) = M at *
    generalize I (Gd l).f = G at *
    generalize Ft (dvw 0 [] l).2 = Q at *
    generalize sqr t (Ft l) = X at *
    generalize Ft l = Y at *
    unfold B_with
    generalize dw_body j3 j10 = DB at *
    generalize dw_e1 j5 = E1 at *
    generalize dw_e2 j4 = E2 at *
    change forL _ _ _ = some (.nx ⟨[_, _, .val (.tuple []), _, _, _, _, _, _], _⟩) at lp
    change ∀ m, evE _ (m + 20) _ ⟨[_, _, .val (.tuple []), _, _, _, _, _, _], _⟩ = some (_, _, ⟨[_, _, .val (.tuple []), _, _, _, _, _, _], _⟩) at c1
    change ∀ m, evE _ (m + 20) _ ⟨[_, _, .val (.tuple []), _, _, _, _, _, _], _⟩ = some (_, _, ⟨[_, _, .val (.tuple []), _, _, _, _, _, _], _⟩) at c2
    simp (config := {implicitDefEqProofs := false}) (disch := omega) [hN, hi, lp, c1, c2, q_int, q_bl, q_non, q_nm, q_bin, q_neg, q_negI, q_not, q_bop, q_ife, q_cmp, q_ix, q_ixn, q_sl, q_sln, q_blt, q_lenn, q_isi, q_lst, q_tup, q_lc, q_popA, q_ins, q_push, q_pop, q_evc, q_to0, q_to1, q_o0, q_o1, q_intD, q_a0, q_a1, q_tnt, q_tbop, q_tcmp, q_chn, q_tchn, q_tcmpo, q_tval, q_tnm, q_iseq, q_irng, q_ienu, q_izip, q_irrg, q_revL, q_iez, q_irev, q_sset, q_stgt, q_saug, q_intV, q_valI, q_spro, q_spar, q_sput2, q_sput, q_sret, q_sretn, q_sife, q_swhl, q_sfor, q_sex, q_spass, q_sbrk, q_scnt, q_ss0, q_ss1, q_gonx, q_gort, q_gobk, q_goct, q_add, q_addl, q_addt, q_sub, q_mul, q_mull, q_mult, q_div, q_mod, q_pow, q_eq, q_ne, q_lt, q_le, q_gt, q_ge, q_is1, q_is2, q_is3, q_is4, q_is5, q_tr0, q_trb, q_tri, q_trl, q_trt, q_ixl, q_ixt, q_sll, q_slt, q_sls, q_lenl, q_lent, q_inti, q_absi, q_lisl, q_list, q_tupl, q_tupt, q_all, q_maxl, q_max, q_min, q_itl, q_itt, q_seql, q_seqt, q_rng1, q_rng2, q_enu1, q_enu2, q_end1, q_end2, q_own, q_val, q_st1, q_stt, q_stpr, q_sta0, q_sta1, q_re1, q_re0, q_appA, q_appioA, q_lent0, q_lent1, q_lent2, q_appkA, ↓bind_o, obind_some, List.getElem?_cons_zero, List.getElem?_cons_succ, List.set_cons_zero, List.set_cons_succ, lockS, slotL, Fz.atS, putL, runD, en0, vals, setS, opStop, wipeE, wipeS, restE, restS, plainS, szB_of, posB_of, b62_of, mulB_of, divB_of, powB_of, repB_one, timB_one, flat_one, I_rep, atI_0, atI_1, atI_2, atI_3, atI_4, ixN_of, cut_from, cut_to, eqv_int, eqv_none, shp_int, shp_bool, shp_none, zip_I]
  · rw [if_neg e] at c1 c2
    have hd : dvs 0 l ≠ 0 := fun z => e (Po.eq0.mp z)
    have c := call_inv h0 hd
    have hat := at_ld hd
    have e3 : (I (dvs 0 l).f).isEmpty = false := by rw [I_nil]; simpa using e
    generalize Ft (Ms l) = M at *
    generalize I (Gd l).f = G at *
    generalize I (dvs 0 l).f = R at *
    generalize Ft (dvw 0 [] l).2 = Q at *
    generalize sqr t (Ft l) = X at *
    generalize Ft l = Y at *
    unfold B_with
    generalize dw_body j3 j10 = DB at *
    generalize dw_e1 j5 = E1 at *
    generalize dw_e2 j4 = E2 at *
    simp (config := {implicitDefEqProofs := false}) (disch := omega) [hN, hi, lp, c, hat, e3, c1, c2, q_int, q_bl, q_non, q_nm, q_bin, q_neg, q_negI, q_not, q_bop, q_ife, q_cmp, q_ix, q_ixn, q_sl, q_sln, q_blt, q_lenn, q_isi, q_lst, q_tup, q_lc, q_popA, q_ins, q_push, q_pop, q_evc, q_to0, q_to1, q_o0, q_o1, q_intD, q_a0, q_a1, q_tnt, q_tbop, q_tcmp, q_chn, q_tchn, q_tcmpo, q_tval, q_tnm, q_iseq, q_irng, q_ienu, q_izip, q_irrg, q_revL, q_iez, q_irev, q_sset, q_stgt, q_saug, q_intV, q_valI, q_spro, q_spar, q_sput2, q_sput, q_sret, q_sretn, q_sife, q_swhl, q_sfor, q_sex, q_spass, q_sbrk, q_scnt, q_ss0, q_ss1, q_gonx, q_gort, q_gobk, q_goct, q_add, q_addl, q_addt, q_sub, q_mul, q_mull, q_mult, q_div, q_mod, q_pow, q_eq, q_ne, q_lt, q_le, q_gt, q_ge, q_is1, q_is2, q_is3, q_is4, q_is5, q_tr0, q_trb, q_tri, q_trl, q_trt, q_ixl, q_ixt, q_sll, q_slt, q_sls, q_lenl, q_lent, q_inti, q_absi, q_lisl, q_list, q_tupl, q_tupt, q_all, q_maxl, q_max, q_min, q_itl, q_itt, q_seql, q_seqt, q_rng1, q_rng2, q_enu1, q_enu2, q_end1, q_end2, q_own, q_val, q_st1, q_stt, q_stpr, q_sta0, q_sta1, q_re1, q_re0, q_appA, q_appioA, q_lent0, q_lent1, q_lent2, q_appkA, ↓bind_o, obind_some, List.getElem?_cons_zero, List.getElem?_cons_succ, List.set_cons_zero, List.set_cons_succ, lockS, slotL, Fz.atS, putL, runD, en0, vals, setS, opStop, wipeE, wipeS, restE, restS, plainS, szB_of, posB_of, b62_of, mulB_of, divB_of, powB_of, repB_one, timB_one, flat_one, I_rep, atI_0, atI_1, atI_2, atI_3, atI_4, ixN_of, cut_from, cut_to, eqv_int, eqv_none, shp_int, shp_bool, shp_none, zip_I]
end K03
set_option Elab.async false
set_option linter.all false
set_option maxRecDepth 100000
set_option maxHeartbeats 4000000
namespace K03
open PySem PySem.Spec PyProof.Rows L2 Fz W1 K05
variable {fs : List (Str × Fn)} {N : List Str} {j j20 j21 j23 j24 j27 : Nat} {P : Prm}
/-! ### _law_dot -/
def dot_body (j20 j21 : Nat) : List RS := [.set 3 (.app j20 [(.nm 0), (.nm 3), (.app j21 [(.nm 0), (.nm 4), (.nm 5)])])]
def B_dot (j20 j21 : Nat) : List RS := [.set 3 (.tup []), .for (.tup [4, 5]) (.zip (.nm 1) (.nm 2)) (dot_body j20 j21), .ret (.nm 3)]
theorem dot_loop (T : Tb) (h20 : At T.fs j20 false 3 d_add) (h21 : At T.fs j21 false 3 d_multiply) {s1 s2 : Sl} {bg : List D} (m : Nat) : ∀ (ms l : List (Po P)) (F : Po P) (x4 x5 : Sl), (∀ f ∈ ms, f.len ≤ 700) → (∀ f ∈ l, f.len ≤ 60) → F.len ≤ 760 →
    ∃ y4 y5, forL (bodyF T (m + 20) (.tup [4, 5]) (dot_body j20 j21)) (zipD (Ft ms) (Ft l)) ⟨[.val (.int P.1), s1, s2, .val (.tuple (I F.f)), x4, x5], bg⟩ = some (.nx ⟨[.val (.int P.1), s1, s2, .val (.tuple (I (F + dtP ms l).f)), y4, y5], bg⟩)
  | [], l, F, x4, x5, _, _, _ => by
    refine ⟨x4, x5, ?_⟩
    have : F + dtP [] l = F := by show F + 0 = F; grind
    rw [this]
    rfl
  | x :: ms, [], F, x4, x5, _, _, _ => by
    refine ⟨x4, x5, ?_⟩
    have : F + dtP (x :: ms) [] = F := by show F + 0 = F; grind
    rw [this]
    rfl
  | x :: ms, y :: l, F, x4, x5, h1, h2, h3 => by
    have lx := h1 x (by simp)
    have ly := h2 y (by simp)
    have lm := Po.len_mul_le x y
    obtain ⟨y4, y5, ih⟩ := dot_loop T h20 h21 (s1 := s1) (s2 := s2) (bg := bg) m ms l (F + x * y) (.val (.tuple (I x.f))) (.val (.tuple (I y.f))) (fun f hf => h1 f (by simp [hf])) (fun f hf => h2 f (by simp [hf])) (Po.len_add _ _ h3 (by omega))
    refine ⟨y4, y5, ?_⟩
    have e : F + dtP (x :: ms) (y :: l) = F + x * y + dtP ms l := by
      show F + (x * y + dtP ms l) = _
      generalize dtP ms l = z
      grind
    rw [e, ← ih]
    have c1 := call_mulP h21 x y (by omega) (by omega)
    have c2 := call_addP h20 F (x * y) (by omega) (by omega)
    show forL _ (.tuple [.tuple (I x.f), .tuple (I y.f)] :: zipD (Ft ms) (Ft l)) _ = _
    refine forL_nx ?_
    generalize I (F + x * y).f = R at *
    generalize I (x * y).f = M at *
    generalize I F.f = A at *
    generalize I x.f = B at *
    generalize I y.f = C at *
    unfold bodyF dot_body
    simp (config := {implicitDefEqProofs := false}) (disch := omega) [c1, c2, q_int, q_bl, q_non, q_nm, q_bin, q_neg, q_negI, q_not, q_bop, q_ife, q_cmp, q_ix, q_ixn, q_sl, q_sln, q_blt, q_lenn, q_isi, q_lst, q_tup, q_lc, q_popA, q_ins, q_push, q_pop, q_evc, q_to0, q_to1, q_o0, q_o1, q_intD, q_a0, q_a1, q_tnt, q_tbop, q_tcmp, q_chn, q_tchn, q_tcmpo, q_tval, q_tnm, q_iseq, q_irng, q_ienu, q_izip, q_irrg, q_revL, q_iez, q_irev, q_sset, q_stgt, q_saug, q_intV, q_valI, q_spro, q_spar, q_sput2, q_sput, q_sret, q_sretn, q_sife, q_swhl, q_sfor, q_sex, q_spass, q_sbrk, q_scnt, q_ss0, q_ss1, q_gonx, q_gort, q_gobk, q_goct, q_add, q_addl, q_addt, q_sub, q_mul, q_mull, q_mult, q_div, q_mod, q_pow, q_eq, q_ne, q_lt, q_le, q_gt, q_ge, q_is1, q_is2, q_is3, q_is4, q_is5, q_tr0, q_trb, q_tri, q_trl, q_trt, q_ixl, q_ixt, q_sll, q_slt, q_sls, q_lenl, q_lent, q_inti, q_absi, q_lisl, q_list, q_tupl, q_tupt, q_all, q_maxl, q_max, q_min, q_itl, q_itt, q_seql, q_seqt, q_rng1, q_rng2, q_enu1, q_enu2, q_end1, q_end2, q_own, q_val, q_st1, q_stt, q_stpr, q_sta0, q_sta1, q_re1, q_re0, q_appA, q_appioA, q_lent0, q_lent1, q_lent2, q_appkA, ↓bind_o, obind_some, List.getElem?_cons_zero, List.getElem?_cons_succ, List.set_cons_zero, List.set_cons_succ, lockS, slotL, Fz.atS, putL, runD, en0, vals, setS, opStop, wipeE, wipeS, restE, restS, plainS, szB_of, posB_of, b62_of, mulB_of, divB_of, powB_of, repB_one, timB_one, flat_one, I_rep, atI_0, atI_1, atI_2, atI_3, atI_4, ixN_of, cut_from, cut_to, eqv_int, eqv_none, shp_int, shp_bool, shp_none, zip_I]
structure DT where
  P : Prm
  ms : List (Po P)
  l : List (Po P)
def DT.enc (x : DT) : List D := [.int x.P.1, .tuple (Ft x.ms), .tuple (Ft x.l)]
def DT.ok (x : DT) : Prop := (∀ f ∈ x.ms, f.len ≤ 700) ∧ ∀ f ∈ x.l, f.len ≤ 60
theorem DT.inj : ∀ x y : DT, DT.enc x = DT.enc y → x = y := by
  rintro ⟨⟨p, hp⟩, l, t⟩ ⟨⟨p', hp'⟩, l', t'⟩ h
  simp only [DT.enc, List.cons.injEq, PyData.int.injEq, PyData.tuple.injEq, and_true] at h
  obtain ⟨h0, h1, h2⟩ := h
  have e : p = p' := by omega
  subst e
  rw [f_inj (Rw_inj h1), f_inj (Rw_inj h2)]
noncomputable section
def d_dot := wordOf DT.enc DT.ok fun x => (false, .tuple (I (dtP x.ms x.l).f), [])
end
theorem call_dot (h : At fs j false 3 d_dot) {ms l : List (Po P)} (h1 : ∀ f ∈ ms, f.len ≤ 700) (h2 : ∀ f ∈ l, f.len ≤ 60) : cAt fs j [.int P.1, .tuple (Ft ms), .tuple (Ft l)] = some (false, .tuple (I (dtP ms l).f)) := h.c rfl (wordOf_at DT.inj (x := ⟨P, ms, l⟩) ⟨h1, h2⟩)
theorem run_dot (hN : N.length = 6) (h20 : At fs j20 false 3 d_add) (h21 : At fs j21 false 3 d_multiply) {ds : List D} {z : Bool × D × List D} (h : d_dot ds = some z) : runD ⟨N, fs, WW⟩ 60 false (B_dot j20 j21) ds = some z := by
  obtain ⟨⟨P, ms, l⟩, ⟨h1, h2⟩, rfl, rfl⟩ := wordOf_some h
  dsimp only at h1 h2
  obtain ⟨y4, y5, lp⟩ := dot_loop ⟨N, fs, WW⟩ h20 h21 (s1 := .val (.tuple (Ft ms))) (s2 := .val (.tuple (Ft l))) (bg := []) 37 ms l (0 : Po P) .no .no h1 h2 (by rw [Po.len0]; omega)
  have e : (0 : Po P) + dtP ms l = dtP ms l := by grind
  rw [e, zero_f] at lp
  change forL _ _ ⟨[_, _, _, .val (.tuple []), _, _], _⟩ = _ at lp
  show runD _ 60 false _ [.int (P.1 : Int), .tuple (Ft ms), .tuple (Ft l)] = some (false, .tuple (I (dtP ms l).f), [])
  generalize I (dtP ms l).f = R at *
  generalize Ft ms = X at *
  generalize Ft l = Y at *
  unfold B_dot
  generalize dot_body j20 j21 = DB at *
  simp (config := {implicitDefEqProofs := false}) (disch := omega) [hN, lp, q_int, q_bl, q_non, q_nm, q_bin, q_neg, q_negI, q_not, q_bop, q_ife, q_cmp, q_ix, q_ixn, q_sl, q_sln, q_blt, q_lenn, q_isi, q_lst, q_tup, q_lc, q_popA, q_ins, q_push, q_pop, q_evc, q_to0, q_to1, q_o0, q_o1, q_intD, q_a0, q_a1, q_tnt, q_tbop, q_tcmp, q_chn, q_tchn, q_tcmpo, q_tval, q_tnm, q_iseq, q_irng, q_ienu, q_izip, q_irrg, q_revL, q_iez, q_irev, q_sset, q_stgt, q_saug, q_intV, q_valI, q_spro, q_spar, q_sput2, q_sput, q_sret, q_sretn, q_sife, q_swhl, q_sfor, q_sex, q_spass, q_sbrk, q_scnt, q_ss0, q_ss1, q_gonx, q_gort, q_gobk, q_goct, q_add, q_addl, q_addt, q_sub, q_mul, q_mull, q_mult, q_div, q_mod, q_pow, q_eq, q_ne, q_lt, q_le, q_gt, q_ge, q_is1, q_is2, q_is3, q_is4, q_is5, q_tr0, q_trb, q_tri, q_trl, q_trt, q_ixl, q_ixt, q_sll, q_slt, q_sls, q_lenl, q_lent, q_inti, q_absi, q_lisl, q_list, q_tupl, q_tupt, q_all, q_maxl, q_max, q_min, q_itl, q_itt, q_seql, q_seqt, q_rng1, q_rng2, q_enu1, q_enu2, q_end1, q_end2, q_own, q_val, q_st1, q_stt, q_stpr, q_sta0, q_sta1, q_re1, q_re0, q_appA, q_appioA, q_lent0, q_lent1, q_lent2, q_appkA, ↓bind_o, obind_some, List.getElem?_cons_zero, List.getElem?_cons_succ, List.set_cons_zero, List.set_cons_succ, lockS, slotL, Fz.atS, putL, runD, en0, vals, setS, opStop, wipeE, wipeS, restE, restS, plainS, szB_of, posB_of, b62_of, mulB_of, divB_of, powB_of, repB_one, timB_one, flat_one, I_rep, atI_0, atI_1, atI_2, atI_3, atI_4, ixN_of, cut_from, cut_to, eqv_int, eqv_none, shp_int, shp_bool, shp_none, zip_I]
/-! ### _law_made_so -/
def ms0 (j24 : Nat) : RS := .ife (.bop .Or (.nt (.val (.isi (.nm 2) ["tuple"]))) (.bop .Or (.cmp .NotEq (.lenn 2) (.int 2)) (.bop .Or (.nt (.val (.app j24 [(.nm 0), (.ixn 2 (.int 0))]))) (.nt (.val (.isi (.ixn 2 (.int 1)) ["list"])))))) [.ret (.bl false)] []
def ms1 : RS := .tgt (.tup [3, 4]) (.tup [(.ixn 2 (.int 0)), (.ixn 2 (.int 1))])
def ms2 (j24 : Nat) : RS := .ife (.bop .Or (.cmp .NotEq (.lenn 4) (.lenn 1)) (.cmp .NotEq (.lc (.one 5) [5] (.seq (.nm 4)) (some (.nt (.val (.app j24 [(.nm 0), (.nm 5)])))) (.int 1)) (.lst []))) [.ret (.bl false)] []
def ms3 (j27 : Nat) : RS := .ife (.cmp .NotEq (.app j27 [(.nm 0), (.blt .tuple [(.nm 4)]), (.blt .tuple [(.nm 1)])]) (.nm 3)) [.ret (.bl false)] []
def ms4 : RS := .ife (.cmp .Eq (.lc (.one 5) [5] (.seq (.nm 1)) (some (.cmp .Gt (.lenn 5) (.int 0))) (.int 1)) (.lst [])) [.ret (.cmp .Eq (.nm 3) (.tup []))] []
def ms5 (j23 : Nat) : RS := .ret (.bop .And (.cmp .Gt (.lenn 3) (.int 0)) (.bop .And (.cmp .Eq (.ixn 3 (.neg (.int 1))) (.int 1)) (.cmp .Eq (.lc (.one 5) [5] (.seq (.nm 1)) (some (.cmp .NotEq (.ix (.app j23 [(.nm 0), (.nm 5), (.nm 3)]) (.int 1)) (.tup []))) (.int 1)) (.lst []))))
def B_made (j23 j24 j27 : Nat) : List RS := [ms0 j24, ms1, ms2 j24, ms3 j27, ms4, ms5 j23]
theorem filt {α : Type} {F : D → En → Option (Option D × En)} {e : En} (g : α → D) (c : α → Bool) (h : α → D) {xs : List α} (H : ∀ x ∈ xs, F (g x) e = some (if c x then some (h x) else none, e)) (hc : ∀ x ∈ xs, c x = false) : lcL F (xs.map g) e = some ([], e) := by
  rw [lcL_filter g c h H]
  rw [List.filter_eq_nil_iff.mpr fun x hx => by rw [hc x hx]; decide]
  rfl
theorem eqv_lnil : PyData.eqv (.list []) (.list []) = true := by decide
theorem shp_lnil : shp (.list []) = true := by decide
noncomputable section
def d_made := wordOf (α := LF) (fun x => [.int x.P.1, .list (Ft x.l), wD x.l]) LF.ok fun x => (false, .bool true, [])
end
theorem md_inj : ∀ x y : LF, LF.ok y → ([.int x.P.1, .list (Ft x.l), wD x.l] : List D) = [.int y.P.1, .list (Ft y.l), wD y.l] → ((false, .bool true, []) : Bool × D × List D) = (false, .bool true, []) := fun _ _ _ _ => rfl
theorem call_made (h : At fs j false 3 d_made) {l : List (Po P)} (hl : ∀ f ∈ l, f.len ≤ 60) (hn : l.length ≤ 10) : cAt fs j [.int P.1, .list (Ft l), wD l] = some (false, .bool true) := h.c rfl (wordOf_at' (enc := fun x : LF => [.int x.P.1, .list (Ft x.l), wD x.l]) (res := fun _ => (false, .bool true, [])) (x := ⟨P, l, false⟩) (fun _ _ _ => rfl) ⟨hl, hn⟩)
theorem run_made (hN : N.length = 6) (h23 : At fs j23 false 3 d_ldiv) (h24 : At fs j24 false 2 d_is_form) (h27 : At fs j27 false 3 d_dot) {ds : List D} {z : Bool × D × List D} (h : d_made ds = some z) : runD ⟨N, fs, WW⟩ 60 false (B_made j23 j24 j27) ds = some z := by
  obtain ⟨⟨P, l, t⟩, ⟨hl, hn⟩, rfl, rfl⟩ := wordOf_some h
  dsimp only at hl hn
  have lG : (Gd l).len ≤ 60 := Gd_len hl
  have cG := call_is_form h24 (p := P.i) (Gd l).h (by have : (Gd l).f.length ≤ 60 := lG; omega)
  have hM := Ms_len hl
  have cd := call_dot h27 (ms := Ms l) (l := l) (fun f hf => by have := hM f hf; omega) hl
  rw [Ms_dot] at cd
  show runD _ 60 false _ [.int (P.1 : Int), .list (Ft l), .tuple [.tuple (I (Gd l).f), .list (Ft (Ms l))]] = some (false, .bool true, [])
  have n1 : (Ft (Ms l)).length = (Ft l).length := by rw [Ft_len, Ft_len, Ms_num]
  have z1 := szB_of (n := (Ft (Ms l)).length) (by rw [n1, Ft_len]; omega)
  have z2 := szB_of (n := (Ft l).length) (by rw [Ft_len]; omega)
  have L2 : ∀ n s1 s2 s3 s4, lcL (evC ⟨N, fs, WW⟩ (n + 12) (.one 5) [5] (some (.nt (.val (.app j24 [(.nm 0), (.nm 5)])))) (.int 1)) (Ft (Ms l)) ⟨[.val (.int P.1), s1, s2, s3, s4, .no], []⟩ = some ([], ⟨[.val (.int P.1), s1, s2, s3, s4, .no], []⟩) := by
    intro n s1 s2 s3 s4
    rw [Ft_map]
    refine filt _ (fun _ => false) (fun _ => .int 1) (fun F hF => ?_) fun _ _ => rfl
    have c := call_is_form h24 (p := P.i) F.h (by have : F.len ≤ _ := hM F hF; unfold Po.len at this; omega)
    change cAt fs j24 [.int (P.1 : Int), _] = _ at c
    generalize I F.f = X at *
    simp (config := {implicitDefEqProofs := false}) (disch := omega) [c, q_int, q_bl, q_non, q_nm, q_bin, q_neg, q_negI, q_not, q_bop, q_ife, q_cmp, q_ix, q_ixn, q_sl, q_sln, q_blt, q_lenn, q_isi, q_lst, q_tup, q_lc, q_popA, q_ins, q_push, q_pop, q_evc, q_to0, q_to1, q_o0, q_o1, q_intD, q_a0, q_a1, q_tnt, q_tbop, q_tcmp, q_chn, q_tchn, q_tcmpo, q_tval, q_tnm, q_iseq, q_irng, q_ienu, q_izip, q_irrg, q_revL, q_iez, q_irev, q_sset, q_stgt, q_saug, q_intV, q_valI, q_spro, q_spar, q_sput2, q_sput, q_sret, q_sretn, q_sife, q_swhl, q_sfor, q_sex, q_spass, q_sbrk, q_scnt, q_ss0, q_ss1, q_gonx, q_gort, q_gobk, q_goct, q_add, q_addl, q_addt, q_sub, q_mul, q_mull, q_mult, q_div, q_mod, q_pow, q_eq, q_ne, q_lt, q_le, q_gt, q_ge, q_is1, q_is2, q_is3, q_is4, q_is5, q_tr0, q_trb, q_tri, q_trl, q_trt, q_ixl, q_ixt, q_sll, q_slt, q_sls, q_lenl, q_lent, q_inti, q_absi, q_lisl, q_list, q_tupl, q_tupt, q_all, q_maxl, q_max, q_min, q_itl, q_itt, q_seql, q_seqt, q_rng1, q_rng2, q_enu1, q_enu2, q_end1, q_end2, q_own, q_val, q_st1, q_stt, q_stpr, q_sta0, q_sta1, q_re1, q_re0, q_appA, q_appioA, q_lent0, q_lent1, q_lent2, q_appkA, ↓bind_o, obind_some, List.getElem?_cons_zero, List.getElem?_cons_succ, List.set_cons_zero, List.set_cons_succ, lockS, slotL, Fz.atS, putL, runD, en0, vals, setS, opStop, wipeE, wipeS, restE, restS, plainS, szB_of, posB_of, b62_of, mulB_of, divB_of, powB_of, repB_one, timB_one, flat_one, I_rep, atI_0, atI_1, atI_2, atI_3, atI_4, ixN_of, cut_from, cut_to, eqv_int, eqv_none, shp_int, shp_bool, shp_none, zip_I]
  have L5 : Gd l ≠ 0 → ∀ n s1 s2 s4, lcL (evC ⟨N, fs, WW⟩ (n + 15) (.one 5) [5] (some (.cmp .NotEq (.ix (.app j23 [(.nm 0), (.nm 5), (.nm 3)]) (.int 1)) (.tup []))) (.int 1)) (Ft l) ⟨[.val (.int P.1), s1, s2, .val (.tuple (I (Gd l).f)), s4, .no], []⟩ = some ([], ⟨[.val (.int P.1), s1, s2, .val (.tuple (I (Gd l).f)), s4, .no], []⟩) := by
    intro h0 n s1 s2 s4
    rw [Ft_map]
    refine filt _ (fun _ => false) (fun _ => .int 1) (fun F hF => ?_) fun _ _ => rfl
    have lF := hl F hF
    have c := call_dvQ h23 F (Gd l) h0 (by omega) (by omega)
    rw [(rem_dv h0).mpr (Gd_dv hF), zero_f] at c
    change cAt fs j23 _ = some (false, .tuple [_, .tuple []]) at c
    have ee : PyData.eqv (.tuple []) (.tuple []) = true := by decide
    generalize I (F.quo (Gd l)).f = Q at *
    generalize I F.f = X at *
    generalize I (Gd l).f = Y at *
    simp (config := {implicitDefEqProofs := false}) (disch := omega) [c, ee, shp_nil, q_int, q_bl, q_non, q_nm, q_bin, q_neg, q_negI, q_not, q_bop, q_ife, q_cmp, q_ix, q_ixn, q_sl, q_sln, q_blt, q_lenn, q_isi, q_lst, q_tup, q_lc, q_popA, q_ins, q_push, q_pop, q_evc, q_to0, q_to1, q_o0, q_o1, q_intD, q_a0, q_a1, q_tnt, q_tbop, q_tcmp, q_chn, q_tchn, q_tcmpo, q_tval, q_tnm, q_iseq, q_irng, q_ienu, q_izip, q_irrg, q_revL, q_iez, q_irev, q_sset, q_stgt, q_saug, q_intV, q_valI, q_spro, q_spar, q_sput2, q_sput, q_sret, q_sretn, q_sife, q_swhl, q_sfor, q_sex, q_spass, q_sbrk, q_scnt, q_ss0, q_ss1, q_gonx, q_gort, q_gobk, q_goct, q_add, q_addl, q_addt, q_sub, q_mul, q_mull, q_mult, q_div, q_mod, q_pow, q_eq, q_ne, q_lt, q_le, q_gt, q_ge, q_is1, q_is2, q_is3, q_is4, q_is5, q_tr0, q_trb, q_tri, q_trl, q_trt, q_ixl, q_ixt, q_sll, q_slt, q_sls, q_lenl, q_lent, q_inti, q_absi, q_lisl, q_list, q_tupl, q_tupt, q_all, q_maxl, q_max, q_min, q_itl, q_itt, q_seql, q_seqt, q_rng1, q_rng2, q_enu1, q_enu2, q_end1, q_end2, q_own, q_val, q_st1, q_stt, q_stpr, q_sta0, q_sta1, q_re1, q_re0, q_appA, q_appioA, q_lent0, q_lent1, q_lent2, q_appkA, ↓bind_o, obind_some, List.getElem?_cons_zero, List.getElem?_cons_succ, List.set_cons_zero, List.set_cons_succ, lockS, slotL, Fz.atS, putL, runD, en0, vals, setS, opStop, wipeE, wipeS, restE, restS, plainS, szB_of, posB_of, b62_of, mulB_of, divB_of, powB_of, repB_one, timB_one, flat_one, I_rep, atI_0, atI_1, atI_2, atI_3, atI_4, ixN_of, cut_from, cut_to, eqv_int, eqv_none, shp_int, shp_bool, shp_none, zip_I]
  have L4 : ∀ n s1 s2 s3 s4, lcL (evC ⟨N, fs, WW⟩ (n + 12) (.one 5) [5] (some (.cmp .Gt (.lenn 5) (.int 0))) (.int 1)) (Ft l) ⟨[.val (.int P.1), s1, s2, s3, s4, .no], []⟩ = some ((l.filter fun F => decide (F.f.length > 0)).map fun _ => .int 1, ⟨[.val (.int P.1), s1, s2, s3, s4, .no], []⟩) := by
    intro n s1 s2 s3 s4
    rw [Ft_map]
    refine lcL_filter _ _ _ fun F hF => ?_
    have e1 : (I F.f).length = F.f.length := I_len _
    by_cases q : F.f.length > 0
    · rw [if_pos (decide_eq_true q)]
      have q' : ((F.f.length : Int) > 0) := by omega
      generalize I F.f = X at *
      simp (config := {implicitDefEqProofs := false}) (disch := omega) [e1, decide_eq_true q', q_int, q_bl, q_non, q_nm, q_bin, q_neg, q_negI, q_not, q_bop, q_ife, q_cmp, q_ix, q_ixn, q_sl, q_sln, q_blt, q_lenn, q_isi, q_lst, q_tup, q_lc, q_popA, q_ins, q_push, q_pop, q_evc, q_to0, q_to1, q_o0, q_o1, q_intD, q_a0, q_a1, q_tnt, q_tbop, q_tcmp, q_chn, q_tchn, q_tcmpo, q_tval, q_tnm, q_iseq, q_irng, q_ienu, q_izip, q_irrg, q_revL, q_iez, q_irev, q_sset, q_stgt, q_saug, q_intV, q_valI, q_spro, q_spar, q_sput2, q_sput, q_sret, q_sretn, q_sife, q_swhl, q_sfor, q_sex, q_spass, q_sbrk, q_scnt, q_ss0, q_ss1, q_gonx, q_gort, q_gobk, q_goct, q_add, q_addl, q_addt, q_sub, q_mul, q_mull, q_mult, q_div, q_mod, q_pow, q_eq, q_ne, q_lt, q_le, q_gt, q_ge, q_is1, q_is2, q_is3, q_is4, q_is5, q_tr0, q_trb, q_tri, q_trl, q_trt, q_ixl, q_ixt, q_sll, q_slt, q_sls, q_lenl, q_lent, q_inti, q_absi, q_lisl, q_list, q_tupl, q_tupt, q_all, q_maxl, q_max, q_min, q_itl, q_itt, q_seql, q_seqt, q_rng1, q_rng2, q_enu1, q_enu2, q_end1, q_end2, q_own, q_val, q_st1, q_stt, q_stpr, q_sta0, q_sta1, q_re1, q_re0, q_appA, q_appioA, q_lent0, q_lent1, q_lent2, q_appkA, ↓bind_o, obind_some, List.getElem?_cons_zero, List.getElem?_cons_succ, List.set_cons_zero, List.set_cons_succ, lockS, slotL, Fz.atS, putL, runD, en0, vals, setS, opStop, wipeE, wipeS, restE, restS, plainS, szB_of, posB_of, b62_of, mulB_of, divB_of, powB_of, repB_one, timB_one, flat_one, I_rep, atI_0, atI_1, atI_2, atI_3, atI_4, ixN_of, cut_from, cut_to, eqv_int, eqv_none, shp_int, shp_bool, shp_none, zip_I]
      exact fun z => by rw [z] at q; simp at q
    · have q' : ¬ ((F.f.length : Int) > 0) := by omega
      have q2 : decide (F.f.length > 0) = false := decide_eq_false q
      rw [q2]
      generalize I F.f = X at *
      simp (config := {implicitDefEqProofs := false}) (disch := omega) [e1, decide_eq_false q', q_int, q_bl, q_non, q_nm, q_bin, q_neg, q_negI, q_not, q_bop, q_ife, q_cmp, q_ix, q_ixn, q_sl, q_sln, q_blt, q_lenn, q_isi, q_lst, q_tup, q_lc, q_popA, q_ins, q_push, q_pop, q_evc, q_to0, q_to1, q_o0, q_o1, q_intD, q_a0, q_a1, q_tnt, q_tbop, q_tcmp, q_chn, q_tchn, q_tcmpo, q_tval, q_tnm, q_iseq, q_irng, q_ienu, q_izip, q_irrg, q_revL, q_iez, q_irev, q_sset, q_stgt, q_saug, q_intV, q_valI, q_spro, q_spar, q_sput2, q_sput, q_sret, q_sretn, q_sife, q_swhl, q_sfor, q_sex, q_spass, q_sbrk, q_scnt, q_ss0, q_ss1, q_gonx, q_gort, q_gobk, q_goct, q_add, q_addl, q_addt, q_sub, q_mul, q_mull, q_mult, q_div, q_mod, q_pow, q_eq, q_ne, q_lt, q_le, q_gt, q_ge, q_is1, q_is2, q_is3, q_is4, q_is5, q_tr0, q_trb, q_tri, q_trl, q_trt, q_ixl, q_ixt, q_sll, q_slt, q_sls, q_lenl, q_lent, q_inti, q_absi, q_lisl, q_list, q_tupl, q_tupt, q_all, q_maxl, q_max, q_min, q_itl, q_itt, q_seql, q_seqt, q_rng1, q_rng2, q_enu1, q_enu2, q_end1, q_end2, q_own, q_val, q_st1, q_stt, q_stpr, q_sta0, q_sta1, q_re1, q_re0, q_appA, q_appioA, q_lent0, q_lent1, q_lent2, q_appkA, ↓bind_o, obind_some, List.getElem?_cons_zero, List.getElem?_cons_succ, List.set_cons_zero, List.set_cons_succ, lockS, slotL, Fz.atS, putL, runD, en0, vals, setS, opStop, wipeE, wipeS, restE, restS, plainS, szB_of, posB_of, b62_of, mulB_of, divB_of, powB_of, repB_one, timB_one, flat_one, I_rep, atI_0, atI_1, atI_2, atI_3, atI_4, ixN_of, cut_from, cut_to, eqv_int, eqv_none, shp_int, shp_bool, shp_none, zip_I]
      exact List.eq_nil_of_length_eq_zero (by omega)
  have eG := eqv_tup (Gd l).f (Gd l).f
  rw [beq_self_eq_true] at eG
  have sG := shp_tup (Gd l).f
  by_cases h0 : Gd l = 0
  · have hz : l.filter (fun F => decide (F.f.length > 0)) = [] := List.filter_eq_nil_iff.mpr fun F hF => by
      have := Gd_dv hF
      rw [h0] at this
      rw [this.of0, zero_f]
      decide
    rw [hz] at L4
    have ee : PyData.eqv (.tuple []) (.tuple []) = true := by decide
    rw [h0, zero_f] at cG cd eG sG ⊢
    change cAt fs j24 [.int (P.1 : Int), .tuple []] = _ at cG
    change cAt fs j27 _ = some (false, .tuple []) at cd
    show runD _ 60 false _ [_, _, .tuple [.tuple [], _]] = _
    generalize Ft (Ms l) = X at *
    generalize Ft l = Y at *
    unfold B_made ms0 ms1 ms2 ms3 ms4 ms5
    simp (config := {implicitDefEqProofs := false}) (disch := omega) [hN, cG, n1, z1, z2, L2, L4, cd, eqv_lnil, shp_lnil, ee, shp_nil, List.map_nil, noTag, isiD, tyD, isTy, q_int, q_bl, q_non, q_nm, q_bin, q_neg, q_negI, q_not, q_bop, q_ife, q_cmp, q_ix, q_ixn, q_sl, q_sln, q_blt, q_lenn, q_isi, q_lst, q_tup, q_lc, q_popA, q_ins, q_push, q_pop, q_evc, q_to0, q_to1, q_o0, q_o1, q_intD, q_a0, q_a1, q_tnt, q_tbop, q_tcmp, q_chn, q_tchn, q_tcmpo, q_tval, q_tnm, q_iseq, q_irng, q_ienu, q_izip, q_irrg, q_revL, q_iez, q_irev, q_sset, q_stgt, q_saug, q_intV, q_valI, q_spro, q_spar, q_sput2, q_sput, q_sret, q_sretn, q_sife, q_swhl, q_sfor, q_sex, q_spass, q_sbrk, q_scnt, q_ss0, q_ss1, q_gonx, q_gort, q_gobk, q_goct, q_add, q_addl, q_addt, q_sub, q_mul, q_mull, q_mult, q_div, q_mod, q_pow, q_eq, q_ne, q_lt, q_le, q_gt, q_ge, q_is1, q_is2, q_is3, q_is4, q_is5, q_tr0, q_trb, q_tri, q_trl, q_trt, q_ixl, q_ixt, q_sll, q_slt, q_sls, q_lenl, q_lent, q_inti, q_absi, q_lisl, q_list, q_tupl, q_tupt, q_all, q_maxl, q_max, q_min, q_itl, q_itt, q_seql, q_seqt, q_rng1, q_rng2, q_enu1, q_enu2, q_end1, q_end2, q_own, q_val, q_st1, q_stt, q_stpr, q_sta0, q_sta1, q_re1, q_re0, q_appA, q_appioA, q_lent0, q_lent1, q_lent2, q_appkA, ↓bind_o, obind_some, List.getElem?_cons_zero, List.getElem?_cons_succ, List.set_cons_zero, List.set_cons_succ, lockS, slotL, Fz.atS, putL, runD, en0, vals, setS, opStop, wipeE, wipeS, restE, restS, plainS, szB_of, posB_of, b62_of, mulB_of, divB_of, powB_of, repB_one, timB_one, flat_one, I_rep, atI_0, atI_1, atI_2, atI_3, atI_4, ixN_of, cut_from, cut_to, eqv_int, eqv_none, shp_int, shp_bool, shp_none, zip_I]
  · have L5 := L5 h0
    have hz : ∃ xs, ((l.filter fun F => decide (F.f.length > 0)).map fun _ => PyData.int 1) = .int 1 :: xs := by
      cases q : l.filter fun F => decide (F.f.length > 0) with
      | nil =>
        exfalso
        apply h0
        have : ∀ F ∈ l, F = 0 := fun F hF => by
          have := List.filter_eq_nil_iff.mp q F hF
          exact Po.eq0.mpr (List.eq_nil_of_length_eq_zero (by simpa using this))
        exact (Gd_gr (D := (0 : Po P)) fun F hF => by rw [this F hF]; exact .refl _).of0
      | cons x r => exact ⟨_, rfl⟩
    obtain ⟨xs, hz⟩ := hz
    rw [hz] at L4
    have hld := at_ld h0
    rw [(Gd_mo l).resolve_left h0] at hld
    have hln : ((I (Gd l).f).length : Int) > 0 := by rw [I_len]; have := Po.len_pos h0; unfold Po.len at this; omega
    have hGe : I (Gd l).f ≠ [] := fun e => by rw [e] at hln; simp at hln
    have eq1 : ∀ xs, PyData.eqv (.list (.int 1 :: xs)) (.list []) = false := fun xs => by simp [PyData.eqv, PyData.eqvAll]
    have sh1 : shp (.list (.int 1 :: xs)) = true := by
      have hx : ∃ k, PyData.int 1 :: xs = I (List.replicate k 1) := ⟨(l.filter fun F => decide (F.f.length > 0)).length, by rw [← hz]; unfold I; rw [List.map_replicate]; exact List.map_const' ..⟩
      obtain ⟨k, hx⟩ := hx
      rw [hx]
      exact shp_list _
    change cAt fs j24 [.int (P.1 : Int), _] = _ at cG
    generalize I (Gd l).f = G at *
    generalize Ft (Ms l) = X at *
    generalize Ft l = Y at *
    unfold B_made ms0 ms1 ms2 ms3 ms4 ms5
    simp (config := {implicitDefEqProofs := false}) (disch := omega) [hN, cG, n1, z1, z2, L2, L4, L5, cd, eqv_lnil, shp_lnil, eG, sG, eq1, sh1, hld, decide_eq_true hln, hGe, noTag, isiD, tyD, isTy, q_int, q_bl, q_non, q_nm, q_bin, q_neg, q_negI, q_not, q_bop, q_ife, q_cmp, q_ix, q_ixn, q_sl, q_sln, q_blt, q_lenn, q_isi, q_lst, q_tup, q_lc, q_popA, q_ins, q_push, q_pop, q_evc, q_to0, q_to1, q_o0, q_o1, q_intD, q_a0, q_a1, q_tnt, q_tbop, q_tcmp, q_chn, q_tchn, q_tcmpo, q_tval, q_tnm, q_iseq, q_irng, q_ienu, q_izip, q_irrg, q_revL, q_iez, q_irev, q_sset, q_stgt, q_saug, q_intV, q_valI, q_spro, q_spar, q_sput2, q_sput, q_sret, q_sretn, q_sife, q_swhl, q_sfor, q_sex, q_spass, q_sbrk, q_scnt, q_ss0, q_ss1, q_gonx, q_gort, q_gobk, q_goct, q_add, q_addl, q_addt, q_sub, q_mul, q_mull, q_mult, q_div, q_mod, q_pow, q_eq, q_ne, q_lt, q_le, q_gt, q_ge, q_is1, q_is2, q_is3, q_is4, q_is5, q_tr0, q_trb, q_tri, q_trl, q_trt, q_ixl, q_ixt, q_sll, q_slt, q_sls, q_lenl, q_lent, q_inti, q_absi, q_lisl, q_list, q_tupl, q_tupt, q_all, q_maxl, q_max, q_min, q_itl, q_itt, q_seql, q_seqt, q_rng1, q_rng2, q_enu1, q_enu2, q_end1, q_end2, q_own, q_val, q_st1, q_stt, q_stpr, q_sta0, q_sta1, q_re1, q_re0, q_appA, q_appioA, q_lent0, q_lent1, q_lent2, q_appkA, ↓bind_o, obind_some, List.getElem?_cons_zero, List.getElem?_cons_succ, List.set_cons_zero, List.set_cons_succ, lockS, slotL, Fz.atS, putL, runD, en0, vals, setS, opStop, wipeE, wipeS, restE, restS, plainS, szB_of, posB_of, b62_of, mulB_of, divB_of, powB_of, repB_one, timB_one, flat_one, I_rep, atI_0, atI_1, atI_2, atI_3, atI_4, ixN_of, cut_from, cut_to, eqv_int, eqv_none, shp_int, shp_bool, shp_none, zip_I]
end K03
set_option Elab.async false
set_option linter.all false
set_option maxRecDepth 100000
set_option maxHeartbeats 4000000
/-! An own error whose `__init__` calls the base's with a text and stores one attribute. -/
namespace Er
open PySem PySem.W PySem.Calls PyProof.Rows Builtin.ObjectAttr
/-! ### the text -/
def zA (p : Pos) : Arguments := ⟨[], [⟨"self", none, p⟩], none, [], [], none, []⟩
def zB (m f c : Str) (q : Nat → Pos) : List Stmt :=
  [.Expr (.Call (.Attribute (.Call (.Name "super" (q 0)) [] [] (q 1)) "__init__" (q 2)) [.Constant (.str m) 0 (q 3)] [] (q 4)) (q 5),
   .Assign [.Attribute (.Name "self" (q 6)) f (q 7)] (.Constant (.str c) 0 (q 8)) (q 9)]
def zS : Scope := { kind := .function, names := [(PySem.Str.ofString "self", .local), (PySem.Str.ofString "__class__", .free), (PySem.Str.ofString "super", .globalImplicit)], isGenerator := false, isCoroutine := false, more := [] }
/-- what the written part says of the class at C -/
structure Cl (K : Frag) (C fI cc cda : Addr) (B newId initId : String) (bmB : List Value) (file f : Str) : Prop where
  q : excInitIn K C bmB newId = true
  ov : excOver K C bmB = true
  iC : findIn K (.ref C) "__init__" = some (some (.ref fI))
  tI : isFn K (.ref fI) = true
  sa : findIn K (.ref C) "__setattr__" = some (some (.builtin "object.__setattr__"))
  no : takerIn K C f = some none
  su : ks_superIn K C C "__init__" = some (some (.builtin initId))
  hB : subIn K (.ref C) (.type B) = some true
  sub : mroIn K C (.ref C) = some true
  cd : ∃ c, clsIn K C = some c ∧ c.hasDict = true
  st : nsIn K cStatics "thirdparty.any" = some none
  cell : ∃ cl cld csl, K.lookup cc = some ⟨cl, cld, .cell (some (.ref C)), csl⟩
  code : ∃ ccl cdd vs ccs tf, K.lookup cda = some ⟨ccl, cdd, .fields vs, ccs⟩ ∧ vs[2]? = some (.str file tf)
/-- what `__init__` leaves of a fresh error at x -/
structure Left (h h' : Heap) (x C dx t1 : Addr) (f : Str) (c : Value) : Prop where
  keep : ∀ b o, b ≠ x → h.get? b = some o → h'.get? b = some o
  obj : h'.get? x = some { cls := .ref C, dict := some dx, data := .fields #[.ref t1, .none, .none, .none, .bool false, .none] }
  dbig : h.objs.size ≤ dx
  dne : dx ≠ x
  ns : h'.Ns1 dx (fun y => if y = f then some c else none)
section
variable {prog : Program} {w : World} {M : Model} {A : Around} {E : Value → Shared → Prop} {h : Heap} {g : Array GenState} {d : Drawn} {t : Nat} {os : OsState} {B newId initId : String} {bmB : List Value}
/-- the bound `__init__` of the base, called -/
theorem call_mw (FB : ExcBaseFacts B newId initId bmB) {nm q : Str} {C N : Addr} {bs bm : List Value} {hdct : Bool} {sn : List Str} {sub : List Value} {ab : Bool} {col : Option Bool} {dd : Option Addr} {k0 k1 k2 k3 k5 : Option Value} {u e t0 : Addr} {rest : List Value} {Q : Value → Shared → Prop}
    (hC : h.get? C = some (excClassObj nm q C N bs bm hdct sn sub ab col dd k0 k1 k2 k3 k5 newId)) (he : h.get? e = some (excObj C t0 none .none)) (hu : h.get? u = some (kxs_mw initId e)) (hrest : rest.length ≤ sizeLine)
    (hq : ∀ h' t1, (∀ b o, b ≠ e → h.get? b = some o → h'.get? b = some o) → h'.get? e = some (excObj C t1 none .none) → Q .none ⟨h', g, d, t, os⟩) :
    wpAny (model prog w) A (call (.ref u) rest) Q E ⟨h, g, d, t, os⟩ := by
  refine wpAny_call (codeAny_of_tree ?_)
  show wpAny _ A.in1 (callAny (.ref u) ⟨rest, []⟩) _ _ _
  simp only [callAny]
  refine wpAny_bind (wpAny_load hu ?_)
  simp only [kxs_mw, show (Value.type "method-wrapper" == Value.type "method" || Value.type "method-wrapper" == Value.type "builtin_function_or_method" || Value.type "method-wrapper" == Value.type "method-wrapper") = true by decide, if_true]
  refine KFB.if_so (by decide) ?_
  refine wpAny_bind (check_bound_init FB.toExcCallFacts hC he rfl ?_)
  refine wpAny_bind (wpAny_pure (wpAny_pure ?_))
  refine ⟨plainId_quiet FB.init.plain _, codeAny_builtin FB.initEntry ?_⟩
  exact exc_init_tree (cls := .ref C) (t0 := t0) (dv := none) (c2 := .none) (c3 := .none) (b4 := .bool false) he hrest fun h' k e' _ => hq h' _ k e'
end

section
variable {prog : Program} {w : World} {A : Around} {E : Value → Shared → Prop} {R : Result → Shared → Prop} {hp : Heap} {g : Array GenState} {d : Drawn} {t : Nat} {os : OsState} {K : Frag} {B newId initId : String} {bmB : List Value} {file f m c : Str} {C fI cc cda : Addr}
/-- the first attribute that is stored: the object gets its dict -/
theorem store_first (SF : StoreFacts B bmB "object.__setattr__" "object") (T : Cl K C fI cc cda B newId initId bmB file f) {tk : Tok} {v : Value} {x t0 : Addr} (X : K.In hp) (hx : hp.get? x = some (excObj C t0 none .none))
    (hq : ∀ h' tk' dx, Left hp h' x C dx t0 f v → R (.ok (.ret .none)) ⟨h', g, d, tk', os⟩) :
    codeAny (model prog w) A (.call (.builtin "object.__setattr__") ⟨[.ref x, .str f tk, v], []⟩) R ⟨hp, g, d, t, os⟩ := by
  obtain ⟨cd, hcd, hh⟩ := T.cd
  have hxs : x ≠ hp.objs.size := Nat.ne_of_lt (Heap.lt_size hx)
  refine osa_openX (od := none) SF X ⟨hx, rfl, rfl, trivial⟩ T.ov T.no fun b => ?_
  have hcls : Looks (model prog w) hp (classData C) cd := looks_clsIn X hcd
  obtain ⟨z1, z2, z3, z4, z5, z6, z7, z8, z9, z10, z11⟩ := cd
  dsimp only at hh
  subst hh
  unfold storeInOwnDict ownDictForStores
  repeat (first | with_reducible refine HandSPX.store_in_new ?_ ?_ | with_reducible refine wpAny_loadPart_at hx ?_ | with_reducible refine hcls.at ?_ | wp_step)
  · exact ⟨_, #[], _, (Heap.get?_update_ne _ _ _ _ hxs.symm).trans (Heap.get?_push_at rfl rfl), rfl, fun e he => absurd he (by simp), fun _ => rfl⟩
  · intro h' tk' hn' hs
    have hx1 : (hp.push { cls := .type "dict", data := .dict #[] }).get? x = some (excObj C t0 none .none) := Heap.get?_push_of_some _ hx
    exact hq h' tk' hp.objs.size ⟨fun b o hb ho => (hs.2 b (Nat.ne_of_lt (Heap.lt_size ho))).trans ((Heap.get?_update_ne _ _ _ _ hb).trans (Heap.get?_push_of_some _ ho)),
      (hs.2 x hxs).trans (Heap.get?_update_self _ hx1 rfl), Nat.le_refl _, hxs.symm, hn'⟩
end
section
variable {prog : Program} {w : World} {A : Around} {E : Value → Shared → Prop} {R : Result → Shared → Prop} {s : Shared} {K : Frag} {mg mb : Str → Option Value} {B newId initId : String} {bmB : List Value} {file f m c qual : Str} {C fI cc cda : Addr}
theorem mcall {o : Expr} {name : Str} {apos pos : Pos} {e : Expr} {env : Env} (hl : (apos.endLine == pos.line) = true) (he : starEach [e] env = [(false, eval e env)] := by rfl) : eval (.Call (.Attribute o name apos) [e] [] pos) env = (do
      let ov ← attributeBase o name env (eval o env)
      standAt apos.atName
      let (f, first) ← holding [ov] (getMethod ov name (do return (← importBound o env).getD true))
      callWith pos f first (backTo pos (starEach [e] env)) []) := by
  have k : methodCallPos true o env apos pos = pure pos := by
    unfold methodCallPos
    rw [hl] <;> rfl
  have few : methodCallForm ([e].length + ([] : List Keyword).length) (backTo pos (starEach [e] env)) (backToKw pos (keywordEach [] env)) = true := by
    rw [he] <;> rfl
  show (attributeBase o name env (eval o env) >>= fun ov => standAt apos.atName >>= fun _ => methodCall o name apos pos env ov ([e].length + ([] : List Keyword).length) (backTo pos (starEach [e] env)) (backToKw pos (keywordEach [] env))) = _
  unfold methodCall
  rw [few, k]
  rfl
/-- `__init__`, called for a fresh error -/
theorem z_init (FB : ExcBaseFacts B newId initId bmB) (KF : KxsFacts B initId) (SF : StoreFacts B bmB "object.__setattr__" "object") (T : Cl K C fI cc cda B newId initId bmB file f) {x t0 : Addr} {oc dV kV doc pm ct : Value} {od an : Option Addr} {osl : Array (Option Value)} {p : Pos} {q : Nat → Pos}
    (ho : K.lookup fI = some ⟨oc, od, .func (ksFn "__init__" qual (zA p) (zB m f c q) zS dV kV doc pm an (.ref cda) ct cc), osl⟩) (hcd : codeIn K (.ref cda) qual = true)
    (hb : BindsTo s (ksFn "__init__" qual (zA p) (zB m f c q) zS dV kV doc pm an (.ref cda) ct cc) ⟨[.ref x], []⟩ [("self", .ref x)])
    (X : K.In s.heap) (hlim : s.heap.NoLimit) (G : s.heap.Ns mainGlobals mg) (BL : s.heap.Ns builtinsNs mb) (h1 : mg "super" = none) (h2 : mb "super" = some (.type "super"))
    (hfile : ((prog.main.file : Str) == file) = true) (htop : (prog.main.scope.names.lookup ("super" : Str)).isSome = false)
    (hx : s.heap.get? x = some (excObj C t0 none .none)) (hnx : K.lookup x = none) (hln : ((q 2).endLine == (q 4).line) = true) (hroom : A.depth < recursionLimit)
    (hq : ∀ h' tk dx t1 tkc, Left s.heap h' x C dx t1 f (.str c tkc) → R (.ok (.ret .none)) { s with heap := h', toks := tk }) :
    codeAny (model prog w) A (.call (.ref fI) ⟨[.ref x], []⟩) R s := by
  obtain ⟨nm, N, qn, bs, bm, hdct, sn, sub, ab, col, dd, k0, k1, k2, k3, k5, hC, hT⟩ := excInit_of X T.q
  obtain ⟨cd, hcls, _⟩ := T.cd
  obtain ⟨cl, cld, csl, hcell⟩ := T.cell
  obtain ⟨ccl, cdd, vs, ccs, tf, hcode, hvs⟩ := T.code
  have hsu := T.su
  unfold ks_superIn at hsu
  rw [hcls] at hsu
  refine ks_codeAny_call_defAt (fd := ksFn "__init__" qual (zA p) (zB m f c q) zS dV kV doc pm an (.ref cda) ct cc) (body := zB m f c q) hroom (X _ _ ho) rfl hlim (codeRec_of X hcd) rfl hb (by show ∀ y ∈ zS.names, y.2 ≠ .cell; decide) (by intro y hy; rw [List.mem_singleton] at hy; subst hy; rfl) (fun h₁ hns k₁ => ?_) rfl rfl rfl
  have X₁ : K.In h₁ := X.keeps k₁
  have hx₁ := k₁ _ _ hx
  have hxL : s.heap.objs.size ≠ x := Nat.ne_of_gt (Heap.lt_size hx)
  obtain ⟨hp, g, d, tk, os⟩ := s
  refine ks_wpAt_execs_cons (ks_wpAt_Expr_any (ks_wpAt_MethodCall ?_ (mcall hln)))
  refine ks_wpAt_super_base (env := ksEnv qual zS hp.objs.size fI (.ref cda) cc) rfl rfl rfl rfl (X₁ _ _ ho) rfl rfl rfl (X₁ _ _ hcode) rfl hvs hfile htop ?_
  refine ks_loadName_global rfl rfl (loadGlobal_builtin (env := ksEnv qual zS hp.objs.size fI (.ref cda) cc) (G.keeps k₁) h1 (BL.keeps k₁) h2 ⟨rfl, ?_⟩)
  refine wpAny_loadName_free rfl rfl rfl ⟨_, X₁ _ _ hcell, rfl⟩ ?_
  refine wpAny_loadName_local rfl rfl hns rfl ?_
  obtain ⟨oD, hD1, hD2⟩ : ∃ oD, h₁.get? C = some oD ∧ oD.data = .cls cd := by
    unfold clsIn at hcls
    split at hcls
    · rename_i ho2
      cases hcls
      exact ⟨_, X₁ _ _ ho2, rfl⟩
    · cases hcls
  refine ks_wpAny_isType_cls hD1 hD2 ⟨rfl, ?_⟩
  have I₁ : InstAt h₁ x (excObj C t0 none .none) C none := ⟨hx₁, rfl, rfl, trivial⟩
  refine ks_wpAny_call_super hD1 hD2 hx₁ rfl (fun c e => by cases e) (looks_mroIn X₁ T.sub) (fun h₂ hso k₂ => ?_)
  have X₂ : K.In h₂ := X₁.keeps k₂
  have hx₂ := k₂ _ _ hx₁
  have I₂ : InstAt h₂ x (excObj C t0 none .none) C none := ⟨hx₂, rfl, rfl, trivial⟩
  have hmro : Looks (model prog w) h₂ (mroOf (.ref C)) cd.mro := fun A Q E s k z => wpAny_bind ((looks_clsIn X₂ hcls) A _ E s k (wpAny_pure z))
  refine kxs_getMethod KF hso (looks_opaque X₂ T.st) (l₀ := cd.mro) hmro rfl X₂ hsu (I₂.type.andThen (looks_subIn X₂ T.hB)) (ks_ne X₂ I₂ hcls) rfl ?_
  show wpAny _ _ (callWith _ (.ref h₂.objs.size) [] (backTo _ (starEach [.Constant (.str m) 0 (q 3)] _)) []) _ _ _
  refine kxs_callWith (i := initId) (x := x) rfl (evalArgs_plain (spliced_more (wpAny_Constant_str (spliced_none ?_)) rfl))
  have k₃ : ∀ b o, h₂.get? b = some o → (h₂.push (kxs_mw initId x)).get? b = some o := fun b o e => Heap.get?_push_of_some _ e
  have hu : (h₂.push (kxs_mw initId x)).get? h₂.objs.size = some (kxs_mw initId x) := Heap.get?_push_at rfl rfl
  refine ⟨hu, ?_⟩
  refine call_mw FB (k₃ _ _ (k₂ _ _ (k₁ _ _ hC))) (k₃ _ _ hx₂) hu (by show 1 ≤ sizeLine; rw [sizeLine_eq]; decide) (fun h₄ t1 k₄ hx₄ => ?_)
  have old : ∀ b o, b ≠ x → hp.get? b = some o → h₄.get? b = some o := fun b o hb e => k₄ b o hb (k₃ _ _ (k₂ _ _ (k₁ _ _ e)))
  have X₄ : K.In h₄ := fun a o e => old a o (fun z => by rw [z, hnx] at e; cases e) (X _ _ e)
  obtain ⟨oL, es, ep, hL, rL⟩ := hns
  have hns₄ : h₄.Ns hp.objs.size (fun y => [(("self" : Str), Value.ref x)].reverse.lookup y) := ⟨oL, es, ep, k₄ _ _ hxL (k₃ _ _ (k₂ _ _ hL)), rL⟩
  show _root_.PySem.wpAt _ _ _ (execs [_] _) _ _ _
  refine wpAt_of_wpAny (wpAny_execs_cons (plainObj_wpAny_Assign_Attribute (wpAny_Constant_str (wpAny_Name (wpAny_loadName_local rfl rfl hns₄ rfl ?_) rfl))))
  refine set_plain X₄ (ox := excObj C t1 none .none) (od := none) ⟨hx₄, rfl, rfl, trivial⟩ T.sa (store_first SF T X₄ hx₄ fun h' tk' dx Lf => ?_)
  show wpAny _ _ (execs [] _) _ _ _
  refine wpAny_execs_nil (hq h' tk' dx t1 _ ⟨fun b o hb e => Lf.keep b o hb (old b o hb e), Lf.obj, ?_, Lf.dne, Lf.ns⟩)
  have z1 : hp.objs.size < h₄.objs.size := hns₄.lt
  exact Nat.le_trans (Nat.le_of_lt z1) Lf.dbig
end
end Er
set_option Elab.async false
set_option linter.all false
set_option maxRecDepth 100000
set_option maxHeartbeats 4000000
/-! Such an error made, raised. -/
namespace Er
open PySem PySem.W PySem.Calls PyProof.Rows Builtin.ObjectAttr
/-- a class of such errors: x its name, f the attribute that is stored, c the text that it holds -/
structure Kls (P : Program) (K : Frag) (mg : Str → Option Value) (x f c : Str) (C : Addr) : Prop where
  gC : mg x = some (.ref C)
  mgs : mg "super" = none
  kC : keepIn K (.ref C) = true
  exC : subIn K (.ref C) (.type "BaseException") = some true
  tyC : typeIn K (.ref C) = some (.type "type")
  te : exmOne K (.ref C) (.ref C) = some true
  ex : ∃ (fI cc cda : Addr) (B newId initId : String) (bmB : List Value) (file m qual : Str) (oc doc pm ct : Value) (od an : Option Addr) (osl : Array (Option Value)) (p : Pos) (q : Nat → Pos),
    ExcBaseFacts B newId initId bmB ∧ KxsFacts B initId ∧ StoreFacts B bmB "object.__setattr__" "object" ∧ Cl K C fI cc cda B newId initId bmB file f ∧
    K.lookup fI = some ⟨oc, od, .func (ksFn "__init__" qual (zA p) (zB m f c q) zS .none .none doc pm an (.ref cda) ct cc), osl⟩ ∧ codeIn K (.ref cda) qual = true ∧ ((q 2).endLine == (q 4).line) = true ∧
    ((P.main.file : Str) == file) = true ∧ (P.main.scope.names.lookup ("super" : Str)).isSome = false
/-- a made error -/
structure Made (h h' : Heap) (e C d : Addr) (f : Str) (v : Value) : Prop where
  keep : ∀ b o, h.get? b = some o → h'.get? b = some o
  new : h.objs.size ≤ e
  obj : ∃ t1, h'.get? e = some (excObj C t1 (some d) .none)
  dbig : h.objs.size ≤ d
  dne : d ≠ e
  ns : h'.Ns1 d (fun y => if y = f then some v else none)
section
variable {prog : Program} {w : World} {A : Around} {R : Result → Shared → Prop} {s : Shared} {K : Frag} {mg mb : Str → Option Value} {x f c : Str} {C : Addr}
theorem kls_made (T : Kls prog K mg x f c C) (X : K.In s.heap) (hlim : s.heap.NoLimit) (G : s.heap.Ns mainGlobals mg) (BL : s.heap.Ns builtinsNs mb) (h2 : mb "super" = some (.type "super")) (hroom : A.depth + 1 < recursionLimit)
    (hq : ∀ h' tk e d t, Made s.heap h' e C d f (.str c t) → R (.ok (.ret (.ref e))) { s with heap := h', toks := tk }) : codeAny (model prog w) A (.call (.ref C) ⟨[], []⟩) R s := by
  obtain ⟨fI, cc, cda, B, newId, initId, bmB, file, m, qual, oc, doc, pm, ct, od, an, osl, p, q, FB, KF, SF, Z, ho, hcd, hln, hfile, htop⟩ := T.ex
  obtain ⟨nm, N, qn, bs, bm, hdct, sn, sub, ab, col, dd, k0, k1, k2, k3, k5, hC, hT⟩ := excInit_of X Z.q
  obtain ⟨oI, hoI, hcI⟩ : ∃ oI, s.heap.get? fI = some oI ∧ oI.cls = .type "function" := by
    obtain ⟨o, ho2, hc⟩ := Option.map_eq_some_iff.mp (show (K.lookup fI).map (·.cls) = some (.type "function") from beq_iff_eq.mp Z.tI)
    exact ⟨o, X _ _ ho2, hc⟩
  obtain ⟨hp, g, dr, tk, os⟩ := s
  have k : ∀ b o, hp.get? b = some o → ((hp.push (kdv_tup [])).push (excObj C hp.objs.size none .none)).get? b = some o := fun b o e => Heap.get?_push_of_some _ (Heap.get?_push_of_some _ e)
  have hget : ((hp.push (kdv_tup [])).push (excObj C hp.objs.size none .none)).get? (hp.objs.size + 1) = some (excObj C hp.objs.size none .none) := by heap_get
  have hnx : K.lookup (hp.objs.size + 1) = none := by
    cases e : K.lookup (hp.objs.size + 1) with
    | none => rfl
    | some o => exact absurd (Nat.lt_of_succ_lt (Heap.lt_size (show hp.get? (hp.objs.size + 1) = some o from X _ _ e))) (Nat.lt_irrefl _)
  refine HandSPX.call_own FB hT hC (looks_findIn X Z.iC) (fun self => exc_bind hoI hcI self) (Nat.zero_le _) ?_
  refine z_init (s := ⟨(hp.push (kdv_tup [])).push (excObj C hp.objs.size none .none), g, dr, tk, os⟩) FB KF SF Z ho hcd (BindsTo.of_eq rfl) (X.keeps k) (hlim.keeps k) (G.keeps k) (BL.keeps k) T.mgs h2 hfile htop hget hnx hln (by show A.depth + 1 < recursionLimit; exact hroom) fun h' tk' dx t1 tkc L => ?_
  have old : ∀ b o, hp.get? b = some o → h'.get? b = some o := fun b o e => L.keep b o (Nat.ne_of_lt (Nat.lt_succ_of_lt (Heap.lt_size e))) (k b o e)
  have z : hp.objs.size + 1 + 1 ≤ dx := by
    have z0 := L.dbig
    first
      | (simpa only [Heap.size_push] using z0)
      | exact z0
  exact ⟨rfl, hq h' tk' (hp.objs.size + 1) dx tkc ⟨old, Nat.le_succ _, ⟨t1, L.obj⟩, Nat.le_trans (Nat.le_trans (Nat.le_succ _) (Nat.le_succ _)) z, L.dne, L.ns⟩⟩
end
end Er
namespace L2
open PySem PySem.Spec PyProof.Rows
theorem relO_one {f : Str} {v : V} {v' : Value} (r : RelV v v') (y : Str) : RelO (List.lookup y [(f, v)]) (if y = f then some v' else none) := by
  by_cases e : y = f
  · subst e
    rw [if_pos rfl, show List.lookup y [(y, v)] = some v by simp [List.lookup]]
    exact r
  · have e1 : (y == f) = false := by simpa using e
    rw [if_neg e, show List.lookup y [(f, v)] = none by simp [List.lookup, e1]]
    trivial
section
variable {X : Cx} {x f c : Str} {C : Addr}
/-- x() -/
theorem pmk_kls {p pos : Pos} {k : Nat} (T : Er.Kls X.prog X.K X.mg x f c C) (hr : Room (k + 1) X.A) (hg : Gl X x) (hd : (x == ("__debug__" : Str)) = false) :
    PMk X (.Call (.Name x p) [] [] pos) (fun _ H Q => ∀ d, H d = none → Q (.ref C) (some d) (upd H d (.xd [(f, .str c)]))) := by
  intro pins s σ H Q I q
  refine wpAny_Call_Name_kw (ld_glob I hg T.gC ?_ hd)
  refine PySem.W.callWith_K0 I.kIn T.kC ?_
  show wpAny _ _ (call (.ref C) []) _ _ _
  obtain ⟨mb, b1, b2⟩ := I.mod.blt
  have hlim := I.nolimit
  have G := I.mod.glob.keeps I.bk
  have BL := b1.keeps I.bk
  obtain ⟨hp, g, dr, tk, os⟩ := s
  refine wpAny_call (Er.kls_made T I.kIn hlim G BL ((b2 "super" (by decide)).trans (by first | rfl | kernel_rfl)) (by have := hr.dp; omega) fun h' tk' e d t M => ?_)
  show MkP X pins σ Q (.ref e) ⟨h', g, dr, tk', os⟩
  obtain ⟨t1, ho⟩ := M.obj
  obtain ⟨G', g1, g2⟩ := restrict h' fun b => decide (b ≠ e)
  have gk : ∀ b, b ≠ e → G'.get? b = h'.get? b := fun b hb => g1 b (decide_eq_true hb)
  have ge : G'.get? e = none := g2 e (by simp)
  have old : ∀ b o, hp.get? b = some o → G'.get? b = some o := fun b o z => (gk b (Nat.ne_of_lt (Nat.lt_of_lt_of_le (Heap.lt_size z) M.new))).trans (M.keep b o z)
  have ob : ObjOk X.prog X.w (upd H d (.xd [(f, .str c)])) G' d (.xd [(f, .str c)]) := ⟨_, M.ns.at (fun o z => (gk d M.dne).trans z), fun y => relO_one (v := .str c) (v' := .str c t) (show RelV (.str c) (.str c t) from ⟨t, rfl⟩) y⟩
  have J : Inv X pins σ (upd H d (.xd [(f, .str c)])) ⟨G', g, dr, tk', os⟩ := I.laid (t' := tk') old M.dbig ob
  refine ⟨e, _, _, ⟨G', g, dr, tk', os⟩, _, .ref C, some d, rfl, J, fun b o z => ?_, ge, ho, ⟨rfl, rfl⟩, rfl, rfl, ?_, rfl, I.bare, raises_own T.exC T.tyC, q d (I.hok.fresh M.dbig)⟩
  · by_cases hb : b = e
    · have z' : G'.get? b = some o := z
      rw [hb, ge] at z'
      cases z'
    · exact (gk b hb).symm.trans z
  · rw [upd_ne (Ne.symm M.dne)]
    exact I.hok.fresh M.new
/-- raise x() -/
theorem ps_raiseK {W : WX} {p pos pos2 : Pos} {k : Nat} (hc : X.calm = true) (T : Er.Kls X.prog X.K X.mg x f c C) (hr : Room (k + 1) X.A) (tk : Takes X W) (hg : Gl X x) (hd : (x == ("__debug__" : Str)) = false) :
    PS X (.Raise (some (.Call (.Name x p) [] [] pos)) none pos2) (fun _ σ H => ∀ d, H d = none → W (.ref C) (some d) σ (upd H d (.xd [(f, .str c)]))) := ps_raise hc tk (pmk_kls T hr hg hd)
end
end L2
set_option Elab.async false
set_option linter.all false
set_option maxRecDepth 100000
set_option maxHeartbeats 4000000
/-! What raises an own error, and what catches it. -/
namespace Fz
open PySem PySem.Spec PyProof.Rows L2
/-- the wish, behind an error of the class at C whose dict holds f, c -/
def Out (K : PySem.W.Frag) (β : Option Addr) (G H : Hp) (ρ : Own) (σ : L2.St) (b : En) (C : Addr) (f c : Str) (W : WX) : Prop :=
  ∀ G' H' ρ' d, Fr G H ρ G' H' ρ' → R K β G' H' ρ' σ b → H' d = some (.xd [(f, .str c)]) → W (.ref C) (some d) σ H'
theorem Out.at {K : PySem.W.Frag} {β : Option Addr} {G H G1 H1 : Hp} {ρ ρ1 : Own} {σ : L2.St} {b : En} {C : Addr} {f c : Str} {W : WX} (q : Out K β G H ρ σ b C f c W) (k : Fr G H ρ G1 H1 ρ1) : Out K β G1 H1 ρ1 σ b C f c W :=
  fun G' H' ρ' d f' r' e => q G' H' ρ' d (k.trans f') r' e
def DenX (X : Cx) (β : Option Addr) (e : Expr) (a b : En) (C : Addr) (f c : Str) : Prop :=
  ∀ (G H : Hp) (ρ : Own) (σ : L2.St) (W : WX) (Q : VK), Takes X W → R X.K β G H ρ σ a → Out X.K β G H ρ σ b C f c W → wE X e σ H Q
def DenSX (X : Cx) (β : Option Addr) (st : Stmt) (a b : En) (C : Addr) (f c : Str) : Prop :=
  ∀ (G H : Hp) (ρ : Own) (σ : L2.St) (W : WX) (Dn : Ends), Takes X W → R X.K β G H ρ σ a → Out X.K β G H ρ σ b C f c W → wS X st Dn σ H
def DenSsX (X : Cx) (β : Option Addr) (st : List Stmt) (a b : En) (C : Addr) (f c : Str) : Prop :=
  ∀ (G H : Hp) (ρ : Own) (σ : L2.St) (W : WX) (Dn : Ends), Takes X W → R X.K β G H ρ σ a → Out X.K β G H ρ σ b C f c W → wSs X st Dn σ H
section
variable {X : Cx} {β : Option Addr} {C : Addr} {f c : Str} {a b : En}
theorem denssx_here {st : Stmt} {rest : List Stmt} (h : DenSX X β st a b C f c) : DenSsX X β (st :: rest) a b C f c := fun G H ρ σ W Dn tk r q =>
  ⟨_, pss_cons ps_w pss_w, h G H ρ σ W _ tk r q⟩
theorem denx_if {t : Expr} {A B : List Stmt} {pos : Pos} {m : En} {k : Bool} (h : DenT X β t a k m) (h1 : DenSsX X β (if k then A else B) m b C f c) : DenSX X β (.If t A B pos) a b C f c := fun G H ρ σ W Dn tk r q => by
  refine ⟨_, ps_if pt_w pss_w pss_w, h G H ρ σ _ r fun G1 H1 ρ1 f1 r1 => ?_⟩
  cases k with
  | true => exact h1 G1 H1 ρ1 σ W Dn tk r1 (q.at f1)
  | false => exact h1 G1 H1 ρ1 σ W Dn tk r1 (q.at f1)
theorem denssx_skip {st : Stmt} {rest : List Stmt} {m : En} (h1 : ∀ (G H : Hp) (ρ : Own) (σ : L2.St) (Dn : Ends), R X.K β G H ρ σ a → (∀ G' H' ρ', Fr G H ρ G' H' ρ' → R X.K β G' H' ρ' σ m → Dn.nx σ H') → wS X st Dn σ H) (h : DenSsX X β rest m b C f c) : DenSsX X β (st :: rest) a b C f c := fun G H ρ σ W Dn tk r q =>
  ⟨_, pss_cons ps_w pss_w, h1 G H ρ σ _ r fun G1 H1 ρ1 f1 r1 => h G1 H1 ρ1 σ W Dn tk r1 (q.at f1)⟩
/-- an if that is passed -/
theorem pass_if {t : Expr} {A : List Stmt} {pos : Pos} {m : En} (h : DenT X β t a false m) (G H : Hp) (ρ : Own) (σ : L2.St) (Dn : Ends) (r : R X.K β G H ρ σ a) (q : ∀ G' H' ρ', Fr G H ρ G' H' ρ' → R X.K β G' H' ρ' σ m → Dn.nx σ H') : wS X (.If t A [] pos) Dn σ H :=
  ⟨_, ps_if pt_w pss_w pss_nil, h G H ρ σ _ r fun G1 H1 ρ1 f1 r1 => q G1 H1 ρ1 f1 r1⟩
theorem denx_ret {e : Expr} {pos : Pos} (h : DenX X β e a b C f c) : DenSX X β (.Return (some e) pos) a b C f c := fun G H ρ σ W Dn tk r q => ⟨_, ps_ret pe_w, h G H ρ σ W _ tk r q⟩
theorem denx_set {x : Str} {px pos : Pos} {e : Expr} {i : Nat} (nd : X.N.Nodup) (hN : idxOf X.N x = some i) (hs : StOk X x) (hsw : swapsWith e (some (.Name x px)) pos.line X.env = pure false) (h : DenX X β e a b C f c) : DenSX X β (.Assign [.Name x px] e pos) a b C f c := fun G H ρ σ W Dn tk r q =>
  ⟨_, ps_set nd (idxOf_get hN) hs.1 pe_w hsw hs.2, h G H ρ σ W _ tk r q⟩
theorem denx_tg {tg e : Expr} {pos : Pos} (h1 : swapsWithSole [tg] e pos.line X.env = pure false) (h2 : swappedStores [tg] e X.env = pure none) (h3 : (assignEach [tg] X.env).map (·.2) = [assign tg X.env]) (h : DenX X β e a b C f c) : DenSX X β (.Assign [tg] e pos) a b C f c := fun G H ρ σ W Dn tk r q =>
  ⟨_, ps_asg pe_w pg_w h1 h2 h3, h G H ρ σ W _ tk r q⟩
theorem denx_raise {x : Str} {p pos pos2 : Pos} {k : Nat} (hc : X.calm = true) (T : Er.Kls X.prog X.K X.mg x f c C) (hr : Room (k + 1) X.A) (hg : Gl X x) (hd : (x == ("__debug__" : Str)) = false) : DenSX X β (.Raise (some (.Call (.Name x p) [] [] pos)) none pos2) a a C f c := fun G H ρ σ W Dn tk r q =>
  ⟨_, ps_raiseK hc T hr tk hg hd, fun d hd => q G (upd H d _) ρ d (Fr.grow hd) (r.grow hd) upd_same⟩
/-! ### a def that raises -/
def spX (K : PySem.W.Frag) (C : Addr) (f c : Str) (n : Nat) (ok : List D → Prop) : Sp := fun vs H _ E => ∃ (G : Hp) (ds : List D), ok ds ∧ vs.length = n ∧ Ex G H ∧ Rps K G vs ds ∧
  ∀ G' H' ρ' d, Fr G H (r0 none) G' H' ρ' → Ex G' H' → H' d = some (.xd [(f, .str c)]) → E (.ref C) (some d) H'
/-- a def of the text that raises at some arguments -/
structure FnX (P : Program) (w : World) (K : PySem.W.Frag) (mg : Str → Option Value) (base : Heap) (k : Nat) (x : Str) (fn : Fn) (C : Addr) (f c : Str) (ok : List D → Prop) : Prop where
  ex : ∃ a fd, mg x = some (.ref a) ∧ PySem.W.keepIn K (.ref a) = true ∧ FnOk P w K mg base (L2.CX P w) k a fd fn.ps (spX K C f c fn.ps.length ok) ∧ Binds K fd fn.ps [] ∧
    ∀ kw ∈ fn.kws, KBn K fd fn.ps kw.n kw.ks (arr kw.perm) (arr kw.perm)
  nd : (x == ("__debug__" : Str)) = false
theorem run_fnNS {CX : CXT} {k n : Nat} {p : Addr} {fd : FuncData} {ps ks : List Str} {sp : Sp} {E : L2.St → XK} {g : List Value → List Value → List Value} {gV : List V → List V → List V} {pins : List (Addr × Obj)} {σ : L2.St} {H : Hp} {s : Shared} {Q : VK} {us ws : List Value} {vs zs : List V} (F : FnOk X.prog X.w X.K X.mg X.base CX k p fd ps sp) (hr : Room k X.A) (hb : KBn X.K fd ps n ks g gV) (hx : PassesAt CX X σ (E σ))
    (I : Inv X pins σ H s) (r : Vals vs us) (rz : Vals zs ws) (l1 : vs.length = n) (l2 : zs.length = ks.length) (h : sp (gV vs zs) H Q (E σ)) : wpAny (model X.prog X.w) X.A (call (.ref p) us (ks.zip ws)) (EP X pins σ Q) X.xe s := by
  refine wpAny_call (codeAny_mono (F.run X.A X.stack s H ⟨us, ks.zip ws⟩ (g us ws) (gV vs zs) Q (E σ) hr I.env0 (hb.to s us ws I.kIn (r.length.symm.trans l1) (rz.length.symm.trans l2)) (hb.rel r rz) h) fun res s' hq => ?_)
  match res, hq with
  | .error e, hq => exact hx pins H s e s' I hq
  | .ok (.ret u), hq => exact I.after hq
  | .ok .next, hq => exact False.elim hq
  | .ok .brk, hq => exact False.elim hq
  | .ok .cont, hq => exact False.elim hq
variable {k : Nat} {x : Str} {fn : Fn} {ok : List D → Prop}
theorem spx_at {G H : Hp} {ρ : Own} {σ : L2.St} {W : WX} {vs : List V} {ds : List D} {Q : VK} (hok : ok ds) (hl : ds.length = fn.ps.length) (r : R X.K β G H ρ σ b) (hx : Rps X.K G vs ds) (q : Out X.K β G H ρ σ b C f c W) : spX X.K C f c fn.ps.length ok vs H Q (WE W σ) := by
  refine ⟨G, ds, hok, by rw [hx.length]; exact hl, r.ex, hx, fun G' H' ρ' d k1 ex e => ?_⟩
  obtain ⟨r', k2⟩ := r.called k1 ex
  exact q G' H' ρ d k2 r' e
theorem denx_call {p pos : Pos} {e : Expr} {es : List Expr} {ds : List D} (F : FnX X.prog X.w X.K X.mg X.base k x fn C f c ok) (hr : Room k X.A) (hg : Gl X x) (hs : (e :: es).all (fun e => !isStar e) = true) (ha : DenA X β (e :: es) a ds b) (hok : ok ds) (hl : ds.length = fn.ps.length) : DenX X β (.Call (.Name x p) (e :: es) [] pos) a b C f c := by
  intro G H ρ σ W Q tk r q
  obtain ⟨p0, fd, hm, hk, Fk, hb, _⟩ := F.ex
  rw [List.all_cons, Bool.and_eq_true] at hs
  refine ⟨_, pe_callS Fk hr hg hm hk hb (fun σ => passAt tk σ) pa_w F.nd (star_ok (by simpa using hs.1)) (stars_ok hs.2), ha G H ρ σ _ r fun vs G1 H1 ρ1 f1 r1 x1 => ?_⟩
  exact spx_at hok hl r1 x1 (q.at f1)
theorem denx_callK0 {p pos : Pos} {kws : List Keyword} {kw : Kw} {ds : List D} (F : FnX X.prog X.w X.K X.mg X.base k x fn C f c ok) (hr : Room k X.A) (hg : Gl X x) (hkw : kw ∈ fn.kws) (hn : kwNames kws = some kw.ks) (h0 : kw.n = 0) (hka : DenK X β kws a ds b) (hkl : ds.length = kw.ks.length)
    (hok : ok (arr kw.perm [] ds)) (hl : (arr kw.perm ([] : List D) ds).length = fn.ps.length) : DenX X β (.Call (.Name x p) [] kws pos) a b C f c := by
  intro G H ρ σ W Q tk r q
  obtain ⟨p0, fd, hm, hk, Fk, _, hb⟩ := F.ex
  have hb := hb kw hkw
  rw [h0] at hb
  obtain ⟨h1, h2, h3⟩ := kw_ok (pos := pos) (env := X.env) hn
  obtain ⟨tk1, hkp, hkq⟩ := hka G H ρ σ (fun zs H2 => zs.length = kw.ks.length ∧ spX X.K C f c fn.ps.length ok (arr kw.perm [] zs) H2 Q (WE W σ)) r fun vs G1 H1 ρ1 f1 r1 x1 => ⟨by rw [x1.length]; exact hkl, spx_at hok hl r1 (arr_rps .nil x1 kw.perm) (q.at f1)⟩
  refine ⟨fun σ1 H1 Q1 => σ1 = σ ∧ tk1 σ H1 fun zs H2 => zs.length = kw.ks.length ∧ spX X.K C f c fn.ps.length ok (arr kw.perm [] zs) H2 Q1 (WE W σ), ⟨fun pins s σ1 H1 Q1 I h => ?_⟩, rfl, hkq⟩
  obtain ⟨rfl, h⟩ := h
  refine wpAny_Call_Name_kw (ld_glob I hg hm ?_ F.nd)
  refine PySem.W.callWith_KW0 (h₀ := X.base) I.ok.mod.kin hk h1 (thn (hkp.run pos pins s σ1 H1 _ I h) fun ws s2 ⟨zs, H2, I2, rz, l2, q2⟩ => ⟨I2.kIn, ?_⟩) (by rw [h3]; rfl)
  rw [h2]
  exact run_fnNS (E := WE W) (vs := []) Fk hr hb (passAt tk σ1) I2 .nil rz rfl l2 q2
end
end Fz
set_option Elab.async false
set_option linter.all false
set_option maxRecDepth 100000
set_option maxHeartbeats 4000000
/-! Defs that raise; try. -/
namespace Fz
open PySem PySem.Spec PyProof.Rows L2
section
variable {P : Program} {w : World} {K : PySem.W.Frag} {mg : Str → Option Value} {base : Heap} {C : Addr} {f c : Str} {ok : List D → Prop}
theorem defx_fn {x : Str} {st : Stmt} {p : Addr} {fd : FuncData} {k W : Nat} {fn : Fn} {N : List Str} {fs : List (Str × Fn)} (F : FnP K x st p fd) (S : FnScope N fn.ps (defScope st))
    (hb : ∀ y, bltNames.contains y = true → mg y = none) (hf : ∀ (j : Nat) (q : Str × Fn), fs[j]? = some q → Env1 P w K mg base k q.1 q.2)
    (hd : ∀ X : Cx, Cok ⟨N, fs, W⟩ k (defScope st) X → X.prog = P → X.w = w → X.K = K → X.mg = mg → X.base = base → (∀ y, X.fn y = true) → ∀ ds, ok ds → ∃ b, DenSsX X none (defBody st) (en0 N.length false ds) b C f c) :
    FnOk P w K mg base (L2.CX P w) (k + 1) p fd fn.ps (spX K C f c fn.ps.length ok) := by
  have hpl : fn.ps.length ≤ N.length := by have := congrArg List.length S.pre; rw [List.length_take] at this; omega
  refine FunD.ok (CX := L2.CX P w) F S (fun vs H Q E h => ?_) (fun cdv A outer s H vs Q E hr h => ?_)
  · obtain ⟨G, ds, _, h2, _⟩ := h
    exact h2
  · obtain ⟨G, ds, h1, h2, ex, hx, q⟩ := h
    obtain ⟨b, hD⟩ := hd (cxOf (L2.CX P w) P w K mg base N x (defScope st) p cdv A outer s H E) ⟨rfl, S.nd, rfl, hr, rfl, hb, fun j z hz => ⟨(hf j z hz).ex, (hf j z hz).nd⟩⟩ rfl rfl rfl rfl rfl (fun _ => rfl) ds h1
    exact ⟨_, pss_w, hD G H (r0 none) (L2.start N vs) (fun cls d _ H' => E cls d H') _ (takes_of rfl rfl rfl rfl) (start_R (io := false) (by rw [h2]; exact hpl) ex ⟨rfl, hx⟩) fun G' H' ρ' d f' r' e => q G' H' ρ' d f' r'.ex e⟩
theorem defx_env {x : Str} {st : Stmt} {p : Addr} {fd : FuncData} {k W : Nat} {fn : Fn} {N : List Str} {fs : List (Str × Fn)} (hmg : mg x = some (.ref p)) (F : FnP K x st p fd) (S : FnScope N fn.ps (defScope st)) (B : Bnd x st fn)
    (hb : ∀ y, bltNames.contains y = true → mg y = none) (hf : ∀ (j : Nat) (q : Str × Fn), fs[j]? = some q → Env1 P w K mg base k q.1 q.2)
    (hd : ∀ X : Cx, Cok ⟨N, fs, W⟩ k (defScope st) X → X.prog = P → X.w = w → X.K = K → X.mg = mg → X.base = base → (∀ y, X.fn y = true) → ∀ ds, ok ds → ∃ b, DenSsX X none (defBody st) (en0 N.length false ds) b C f c) (nd : (x == ("__debug__" : Str)) = false) :
    FnX P w K mg base (k + 1) x fn C f c ok := ⟨⟨p, fd, hmg, F.kp, defx_fn F S hb hf hd, FunD.bindsN F B.b, FunD.kbPlain F B⟩, nd⟩
theorem FnX.up {k : Nat} {x : Str} {fn : Fn} (h : FnX P w K mg base k x fn C f c ok) : ∀ n : Nat, FnX P w K mg base (k + n) x fn C f c ok := fun n => by
  obtain ⟨a, fd, h1, h2, h3, h4, h5⟩ := h.ex
  exact ⟨⟨a, fd, h1, h2, h3.mono (Nat.le_add_right k n), h4, h5⟩, h.nd⟩
end
/-! ### try .. except x: -/
section
variable {X : Cx} {β : Option Addr} {C : Addr} {f c x : Str} {a b : En} {r : SR} {body suite : List Stmt} {b0 : Stmt} {np pos pos' : Pos}
theorem dens_try (hs : X.stack = X.env :: X.outer) (hf : X.env.frame = some X.env.locals) (hc : Names X x (.ref C)) (h : ∀ pn xe, PassesOwn (model X.prog X.w) X.A X.env xe → DenSs (X.tr pn xe) β body a r) :
    DenS X β (.Try body [.ExceptHandler (some (.Name x np)) none (b0 :: suite) pos'] [] [] pos) a r := fun G H ρ σ Dn r0 q =>
  ⟨_, ps_try_only (tb := fun W D σ H => ∀ pn xe, Takes (X.tr pn xe) W → PassesOwn (model X.prog X.w) X.A X.env xe → wSs (X.tr pn xe) body D σ H) (ts := fun _ _ _ _ _ _ => False) hs hf hc takes0
    (fun W pn xe tk po => ⟨fun pins s σ1 H1 D I z => pss_w.run pins s σ1 H1 D I (z pn xe tk po)⟩) (fun _ _ _ _ _ _ _ => ⟨fun _ _ _ _ _ _ z => z.elim⟩), fun pn xe _ po => h pn xe po G H ρ σ Dn r0 q⟩
theorem dens_caught (hs : X.stack = X.env :: X.outer) (hf : X.env.frame = some X.env.locals) (hc : Names X x (.ref C)) (te : PySem.W.exmOne X.K (.ref C) (.ref C) = some true) (h : ∀ pn xe, DenSsX (X.tr pn xe) β body a b C f c)
    (h2 : ∀ (a0 : Addr) (pn : List (Addr × Obj)), DenSs (X.suite a0 pn) β (b0 :: suite) b r) :
    DenS X β (.Try body [.ExceptHandler (some (.Name x np)) none (b0 :: suite) pos'] [] [] pos) a r := fun G H ρ σ Dn r0 q =>
  ⟨_, ps_try_only (tb := fun W D σ H => ∀ pn xe, Takes (X.tr pn xe) W → PassesOwn (model X.prog X.w) X.A X.env xe → wSs (X.tr pn xe) body D σ H) (ts := fun a0 cls d D σ H => ∀ oe pn, Zc cls d oe → wSs (X.suite a0 ((a0, oe) :: pn)) (b0 :: suite) D σ H) hs hf hc takes0
    (fun W pn xe tk po => ⟨fun pins s σ1 H1 D I z => pss_w.run pins s σ1 H1 D I (z pn xe tk po)⟩) (fun a0 oe cls d pn hz _ => ⟨fun pins s σ1 H1 D I z => pss_w.run pins s σ1 H1 D I (z oe pn hz)⟩), fun pn xe tk _ =>
    h pn xe G H ρ σ _ Dn tk r0 fun G' H' ρ' d f' r' _ => ⟨true, te, fun _ a0 _ oe pn2 _ => h2 a0 ((a0, oe) :: pn2) G' H' ρ' σ Dn r' (q.at f'), fun z => Bool.noConfusion z⟩⟩
theorem Cos.tr {T : Tb} {k : Nat} {sc : Scope} (c : Cos T k sc X) {pn : List (Addr × Obj)} {xe : Value → Shared → Prop} (po : PassesOwn (model X.prog X.w) X.A X.env xe) : Cos T k sc (X.tr pn xe) :=
  ⟨⟨c.ok.N, c.ok.nd, c.ok.calm, c.ok.room, c.ok.sc, c.ok.blt, fun j p hp => ⟨(c.ok.fns j p hp).ex, (c.ok.fns j p hp).nd⟩⟩, c.kind, c.fn, po⟩
theorem Cok.tr {T : Tb} {k : Nat} {sc : Scope} (c : Cok T k sc X) {pn : List (Addr × Obj)} {xe : Value → Shared → Prop} : Cok T k sc (X.tr pn xe) :=
  ⟨c.N, c.nd, c.calm, c.room, c.sc, c.blt, fun j p hp => ⟨(c.fns j p hp).ex, (c.fns j p hp).nd⟩⟩
end
/-! ### a def by hand -/
section
variable {P : Program} {w : World} {K : PySem.W.Frag} {mg : Str → Option Value} {base : Heap}
/-- as def_fn; what the body comes to is told by hand -/
theorem hand_fn {x : Str} {st : Stmt} {p : Addr} {fd : FuncData} {k W : Nat} {fn : Fn} {N : List Str} {fs : List (Str × Fn)} (F : FnP K x st p fd) (S : FnScope N fn.ps (defScope st))
    (hb : ∀ y, bltNames.contains y = true → mg y = none) (hf : ∀ (j : Nat) (q : Str × Fn), fs[j]? = some q → Env1 P w K mg base k q.1 q.2)
    (hd : ∀ (X : Cx) (β : Option Addr), Cos ⟨N, fs, W⟩ k (defScope st) X → X.prog = P → X.w = w → X.K = K → X.mg = mg → X.base = base → X.stack = X.env :: X.outer → X.env.frame = some X.env.locals → ∀ ds z, fn.den ds = some z → ∃ r, DenSs X β (defBody st) (en0 N.length fn.io ds) r ∧ endD r = some z) :
    FnOk P w K mg base CX0 (k + 1) p fd fn.ps (spD K fn) := by
  have hpl : fn.ps.length ≤ N.length := by have := congrArg List.length S.pre; rw [List.length_take] at this; omega
  refine FunD.ok F S (fun vs H Q E h => ?_) (fun cdv A outer s H vs Q E hr h => ?_)
  · obtain ⟨G, β, ds, o, d, l, h1, h2, _⟩ := h
    exact h2
  · obtain ⟨G, β, ds, o, d, l, h1, h2, ex, ha, q⟩ := h
    obtain ⟨r, hds, e2⟩ := hd (cxOf CX0 P w K mg base N x (defScope st) p cdv A outer s H E).nox β ⟨⟨rfl, S.nd, rfl, hr, rfl, hb, fun j z hz => ⟨(hf j z hz).ex, (hf j z hz).nd⟩⟩, S.kind, fun _ => rfl, PassesOwn.never⟩ rfl rfl rfl rfl rfl rfl rfl ds _ h1
    refine ⟨_, PSs.nox pss_w, hds G H (r0 β) (L2.start N vs) _ (start_R (by rw [h2]; exact hpl) ex ha) ?_⟩
    have bag : ∀ {G' H' : Hp} {ρ' : Own} {σ' : L2.St} {e : En}, R K β G' H' ρ' σ' e → ∀ z, β = some z → G' z = none ∧ ∃ ws, H' z = some (.lst ws) ∧ Rps K G' ws e.bg := fun r' z ez => by
      obtain ⟨b1, ws, b2, b3⟩ := r'.bg z ez
      exact ⟨(r'.ow z (by rw [b1]; simp)).1, ws, b2, b3⟩
    cases r with
    | nx e =>
      cases e2
      exact fun G' H' ρ' σ' f' r' => q .non G' H' ρ' f' r'.ex (bag r') .non
    | rt o e b =>
      cases e2
      exact fun v G' H' ρ' σ' f' r' x => q v G' H' ρ' f' r'.ex (bag r') x
    | bk e => cases e2
    | ct e => cases e2
theorem hand_env {x : Str} {st : Stmt} {p : Addr} {fd : FuncData} {k W : Nat} {fn : Fn} {N : List Str} {fs : List (Str × Fn)} (hmg : mg x = some (.ref p)) (F : FnP K x st p fd) (S : FnScope N fn.ps (defScope st)) (B : Bnd x st fn)
    (hb : ∀ y, bltNames.contains y = true → mg y = none) (hf : ∀ (j : Nat) (q : Str × Fn), fs[j]? = some q → Env1 P w K mg base k q.1 q.2)
    (hd : ∀ (X : Cx) (β : Option Addr), Cos ⟨N, fs, W⟩ k (defScope st) X → X.prog = P → X.w = w → X.K = K → X.mg = mg → X.base = base → X.stack = X.env :: X.outer → X.env.frame = some X.env.locals → ∀ ds z, fn.den ds = some z → ∃ r, DenSs X β (defBody st) (en0 N.length fn.io ds) r ∧ endD r = some z) (nd : (x == ("__debug__" : Str)) = false) :
    Env1 P w K mg base (k + 1) x fn := ⟨⟨p, fd, hmg, F.kp, hand_fn F S hb hf hd, FunD.bindsN F B.b, FunD.kbPlain F B⟩, nd⟩
end
end Fz
set_option Elab.async false
set_option linter.all false
set_option maxRecDepth 100000
set_option maxHeartbeats 4000000
/-! Three names at once, of which the first two get lists of their own. -/
namespace Fz
open PySem PySem.Spec PyProof.Rows L2
section
variable {K : PySem.W.Frag} {β : Option Addr} {G0 H0 G H G' H' : Hp} {ρ0 ρ ρ' : Own} {σ : L2.St} {e : En}
theorem VR.keepR {d : D} {v : V} {o : Bool} (x : VR K H0 G H ρ d v o) (f : Fr G H ρ G' H' ρ') : VR K H0 G' H' ρ' d v o := by
  cases o with
  | false => exact Rp.mono f.ex x
  | true =>
    obtain ⟨p, l, vs, h1, h2, h3, h4, h5, h6, h7⟩ := x
    obtain ⟨k1, k2, k3⟩ := f.keep p _ h6 h5
    exact ⟨p, l, vs, h1, h2, h3, k3 h4, k2, k1, h7.mono f.ex⟩
/-- as R.store; the owners of other lists stay -/
theorem R.storeO {i : Nat} {l : List D} {v : V} (r : R K β G H ρ σ e) (hi : i < e.sl.length) (x : VR K H0 G H ρ (.list l) v true) (f : Fr G0 H0 ρ0 G H ρ) :
    ∃ p ρ', v = .ref p ∧ H0 p = none ∧ H p ≠ none ∧ R K β G H ρ' (σ.set i (some v)) (setS e i true (.list l)) ∧ Fr G0 H0 ρ0 G H ρ' ∧ ∀ z, z ≠ p → ρ' z = ρ z := by
  have hσ : i < σ.length := by rw [r.len]; exact hi
  obtain ⟨p, l, vs, rfl, el, h0, hg, hr, hh, hv⟩ := x
  cases el
  refine ⟨p, fun z => if z = p then some (i + 1) else ρ z, rfl, h0, by rw [hh]; simp, ⟨by simp [setS, r.len], r.ex, fun z hz => ?_, fun j s hj => ?_, fun z hz => ?_⟩, ⟨f.ex, fun z u hz hρ => ?_, f.dom⟩, fun z hz => by simp [hz]⟩
  · by_cases k : z = p
    · rw [k]; exact ⟨hg, by rw [hh]; simp⟩
    · simp only [k, if_false] at hz; exact r.ow z hz
  · by_cases k : j = i
    · subst k
      simp only [setS, List.getElem?_set, if_true, hi, slotOf] at hj
      cases hj
      exact ⟨p, vs, by simp [hσ], by simp, hh, hv⟩
    · simp only [setS, List.getElem?_set, if_neg (Ne.symm k)] at hj
      have w := r.sl j s hj
      simp only [List.getElem?_set, if_neg (Ne.symm k)]
      cases s with
      | no => trivial
      | val d => exact w
      | bag => exact w
      | own l' =>
        obtain ⟨p', vs', w1, w2, w3, w4⟩ := w
        have ne : p' ≠ p := fun z => by rw [z, hr] at w2; cases w2
        exact ⟨p', vs', w1, by simp [ne, w2], w3, w4⟩
      | tpo ds1 l2 ds2 =>
        obtain ⟨t, p', us1, us2, vs', w1, w2, w3, w4, w5, w6, w7⟩ := w
        have ne : p' ≠ p := fun z => by rw [z, hr] at w5; cases w5
        exact ⟨t, p', us1, us2, vs', w1, w2, w3, w4, by simp [ne, w5], w6, w7⟩
  · obtain ⟨b1, ws, b2, b3⟩ := r.bg z hz
    have ne : z ≠ p := fun k => by rw [k, hr] at b1; cases b1
    exact ⟨by simp [ne, b1], ws, b2, b3⟩
  · obtain ⟨h1, h2, h3⟩ := f.keep z u hz hρ
    have ne : z ≠ p := fun k => by rw [k, h0] at hz; cases hz
    exact ⟨h1, by simp [ne, h2], h3⟩
end
section
variable {X : Cx} {β : Option Addr}
theorem dens_par3o {x y u : Str} {e1 e2 e3 : Expr} {px py pu pt pt2 pos : Pos} {kt k2 : Nat} {a b c d : En} {i j l : Nat} {l1 l2 : List D} {d3 : D} (hc : X.calm = true) (nd : X.N.Nodup) (h1 : idxOf X.N x = some i) (h2 : idxOf X.N y = some j) (h3 : idxOf X.N u = some l) (hij : i ≠ j) (hil : i ≠ l) (hjl : j ≠ l)
    (hx : X.env.scope.names.lookup x = some .local) (hy : X.env.scope.names.lookup y = some .local) (hu : X.env.scope.names.lookup u = some .local)
    (hw : swappedStores [.Tuple [.Name x px, .Name y py, .Name u pu] kt pt] (.Tuple [e1, e2, e3] k2 pt2) X.env = pure (some [x, y, u])) (s1 : isStar e1 = false) (s2 : isStar e2 = false) (s3 : isStar e3 = false)
    (g1 : Den X β e1 a true (.list l1) b) (g2 : Den X β e2 b true (.list l2) c) (g3 : Den X β e3 c false d3 d) (hi : i < d.sl.length) (hj : j < d.sl.length) (hl : l < d.sl.length) :
    DenS X β (.Assign [.Tuple [.Name x px, .Name y py, .Name u pu] kt pt] (.Tuple [e1, e2, e3] k2 pt2) pos) a (.nx (setS (setS (setS d i true (.list l1)) j true (.list l2)) l false d3)) := fun G H ρ σ Dn r q => by
  refine ⟨_, ps_par3 hc nd (idxOf_get h1) (idxOf_get h2) (idxOf_get h3) hij hil hjl hx hy hu (pa_cons pe_w (pa_cons pe_w (pa_cons pe_w pa_nil (star_ok s3)) (star_ok s2)) (star_ok s1)) hw rfl,
    g1 G H ρ σ _ r fun v G1 H1 ρ1 f1 r1 x1 => g2 G1 H1 ρ1 σ _ r1 fun w G2 H2 ρ2 f2 r2 x2 => g3 G2 H2 ρ2 σ _ r2 fun t G3 H3 ρ3 f3 r3 x3 => ?_⟩
  have y1 := VR.keepR x1 (f2.trans f3)
  have y2 := VR.keepR x2 f3
  obtain ⟨p, ρ4, e4, n4, n5, r4, f4, k4⟩ := R.storeO r3 hi y1 (f1.trans (f2.trans f3))
  obtain ⟨p2, l2', vs2, w1, w2, w3, w4, w5, w6, w7⟩ := y2
  have hp1 : H1 p ≠ none := by
    obtain ⟨p', _, _, z1, _, _, _, _, z6, _⟩ := x1
    rw [e4] at z1
    cases z1
    rw [z6]
    simp
  have ne : p2 ≠ p := fun z => hp1 (by rw [← z]; exact w3)
  obtain ⟨p5, ρ5, _, _, _, r5, f5, _⟩ := R.storeO (i := j) r4 (by simpa [setS] using hj) (H0 := H) (l := l2) (v := w) ⟨p2, l2', vs2, w1, w2, f1.dom p2 w3, w4, by rw [k4 p2 ne]; exact w5, w6, w7⟩ f4
  have r6 := R.storeV (i := l) r5 (by simpa [setS] using hl) (show Rp X.K G3 t d3 from x3)
  exact ⟨v, w, t, rfl, q G3 H3 ρ5 _ f5 r6⟩
end
end Fz
set_option Elab.async false
set_option linter.all false
set_option maxRecDepth 100000
set_option maxHeartbeats 400000
namespace PySem
open Sem (wp)
open Builtin Builtin.Str Builtin.Int
/-- the binary figures of a number -/
def binS (a : Int) : Str := ⟨((Nat.toDigits 2 a.natAbs).map Char.toNat).toArray⟩
def lineB (neg : Bool) (ds : List Nat) : Str :=
  ⟨(List.replicate (((-1 : Int) - (((if neg = true then [45] else ([] : List Nat)).length : Int) + (([] : List Nat).length : Int) + (([] : List Nat).length : Int)) - (((if ds.isEmpty = true then [] else (List.replicate ((0 : Int).toNat - ds.length) 48 ++ ds)).length : Nat) : Int)).toNat) 32 ++ (if neg = true then [45] else []) ++ [] ++ List.replicate 0 32 ++ (if ds.isEmpty = true then [] else (List.replicate ((0 : Int).toNat - ds.length) 48 ++ ds)) ++ [] ++ List.replicate 0 32).toArray⟩
theorem lineB_eq {ds : List Nat} (hd : ds ≠ []) : lineB false ds = ⟨ds.toArray⟩ := by
  unfold lineB
  have e1 : ds.isEmpty = false := by cases ds <;> first | rfl | exact absurd rfl hd
  have e2 : (0 : Int).toNat - ds.length = 0 := by simp
  rw [if_neg Bool.false_ne_true, e1, e2]
  have e3 : ((-1 : Int) - (((([] : List Nat).length : Int)) + (([] : List Nat).length : Int) + (([] : List Nat).length : Int)) - (((if (false = true) then [] else (List.replicate 0 48 ++ ds)).length : Nat) : Int)).toNat = 0 := by
    simp only [Bool.false_eq_true, if_false, List.length_nil, List.replicate_zero, List.nil_append]
    omega
  rw [e3]
  simp
theorem cut_int (a : Int) (t : Tok) : ∃ n, typeNameOfCut 200 (.int a t) = pure n := ⟨_, by first | rfl | kernel_rfl⟩
theorem spec_b (n : String) : Float.parseFormatSpec [98] n 62 = .ok { align := 62, type := some 98 } := by
  first | rfl | kernel_rfl
theorem gives_int_format_b (a : Int) (t u : Tok) (h : 0 ≤ a) : Gives («int.__format__» ⟨[.int a t, .str "b" u], []⟩) (.str (binS a)) := by
  unfold «int.__format__»
  rw [show selfAndOne "int.__format__" ⟨[.int a t, .str "b" u], []⟩ = pure (.int a t, .str "b" u) from rfl]
  simp only [pure_bind]
  rw [show intOfSelf (.int a t) = pure a from rfl]
  simp only [pure_bind]
  rw [if_neg (show ¬ ((Value.str "b" u == Value.none) = true) from Bool.false_ne_true)]
  refine gives_after_typeNameOf (T := "str") (fun s => typeIs_str s _ _) (by decide) fun _ => ?_
  rw [show asStr? (.str "b" u) = pure (some ("b" : Str)) from rfl]
  simp only [pure_bind]
  rw [if_neg (by decide), if_neg (by decide)]
  obtain ⟨n, e⟩ := cut_int a t
  rw [e]
  simp only [pure_bind]
  rw [show (Str.ofString "b").cps.toList = [98] by decide, spec_b]
  dsimp only
  refine Eq.mpr (congrArg (fun z => Gives z (.str (binS a))) (a₂ := retStr (lineB (decide (a < 0)) ((Nat.toDigits 2 a.natAbs).map fun c => (if ((98 : Nat) == 88) = true then c.toUpper else c).toNat))) ?h) ?_
  case h => kernel_rfl
  rw [show ((Nat.toDigits 2 a.natAbs).map fun c => (if ((98 : Nat) == 88) = true then c.toUpper else c).toNat) = (Nat.toDigits 2 a.natAbs).map Char.toNat from rfl, decide_eq_false (show ¬ a < 0 by omega), lineB_eq (fun q => Nat.toDigits_ne_nil (List.map_eq_nil_iff.mp q))]
  exact .of_eq rfl
end PySem
set_option Elab.async false
set_option linter.all false
set_option maxRecDepth 100000
set_option maxHeartbeats 2000000
/-! f"{n:b}"; three bodies by hand. -/
namespace PySem
open Builtin Builtin.Str Builtin.Int
section
variable {prog : Program} {w : World} {A : Around} {E : Value → Shared → Prop} {s : Shared} {env : Env}
theorem formatField_b {a : Int} {t : Tok} {Q : Value → Shared → Prop} (h0 : 0 ≤ a) (hz : (binS a).length ≤ sizeLine) (h : Q (.str (binS a) (s.toks + 1)) { s with toks := s.toks + 1 + 1 }) : wpAny (model prog w) A (formatField (.int a t) "b") Q E s := by
  show wpAny _ _ (holding [.int a t] (pyFormat (.int a t) "b")) Q E s
  refine wpAny_holding ?_
  unfold pyFormat
  refine wpAny_bind (wpAny_mkStr ?_ (by decide))
  refine wpAny_bind (m := callSpecial? (.int a t) (Str.ofString "__format__") [.str "b" s.toks]) (wpAny_callSpecial?_slot (name := Str.ofString "__format__") (typeIs_int _ a t) F.slot_int_format
    (call_gives F.slot_int_format (typeIs_int _ a t) F.entry_int_format (F.args_int_format_2 _ _) (gives_int_format_b a t _ h0) ⟨hz, ?_⟩))
  show wpAny _ _ (do if ← isInstance (.str (binS a) (s.toks + 1)) (.type "str") then return (.str (binS a) (s.toks + 1)) else _) Q E _
  exact wpAny_bind (wpAny_isInstance (typeIs_str _ _ _) isSubtype_str_str (wpAny_pure h))
theorem binS_len {a : Int} (h : a.natAbs < 2 ^ 1000) : (binS a).length ≤ sizeLine := by
  have k := (Nat.length_toDigits_le_iff (b := 2) (n := a.natAbs) (k := 1000) (by decide) (by decide)).mpr h
  show (((Nat.toDigits 2 a.natAbs).map Char.toNat).toArray).size ≤ _
  rw [List.size_toArray, List.length_map]
  exact Nat.le_trans k (by decide)
end
end PySem
namespace Fz
open PySem PySem.Spec PyProof.Rows L2
section
variable {X : Cx} {β : Option Addr}
theorem pe_fmtB {e : Expr} {te : TE} {j : Nat} {q1 q2 q3 : Pos} (he : PE X e te) : PE X (.FormattedValue e (-1) (some (.JoinedStr [.Constant (.str "b") j q1] q2)) q3) (fun σ H Q => te σ H fun x H1 => ∃ i : Int, x = .int i ∧ 0 ≤ i ∧ (binS i).length ≤ sizeLine ∧ Q (.str (binS i)) H1) := by
  refine ⟨fun pins s σ H Q I h => ?_⟩
  rw [arm_eval_FormattedValue]
  refine wpAny_bind (thn (he.run pins s σ H _ I h) fun v s1 hv => ?_)
  obtain ⟨x, H1, I1, r1, i, rfl, h0, hz, q⟩ := hv
  obtain ⟨t, rfl⟩ := r1
  refine wpAny_bind (wpAny_standAt ?_)
  show wpAny _ _ (do let v' ← holding [.int i t] (pure (.int i t)); formatted _ v' (some (eval (.JoinedStr [.Constant (.str "b") j q1] q2) X.env))) _ _ _
  refine wpAny_bind (wpAny_holding (wpAny_pure ?_))
  show wpAny _ _ (do
    let .str sp _ ← holding [.int i t] (eval (.JoinedStr [.Constant (.str "b") j q1] q2) X.env) | unsupported "internal:format-spec"
    standAt _
    formatField (.int i t) sp) _ _ _
  refine wpAny_bind (wpAny_holding (wpAny_JoinedStr_one (wpAny_Constant_str ?_)))
  refine wpAny_bind (wpAny_standAt ?_)
  exact formatField_b h0 hz ⟨.str (binS i), H1, I1.tok _, ⟨_, rfl⟩, q⟩
theorem den_fb {e : Expr} {j : Nat} {q1 q2 q3 q4 : Pos} {a b : En} {o : Bool} {i : Int} (h : Den X β e a o (.int i) b) (h0 : 0 ≤ i) (h1 : i.natAbs < 2 ^ 1000) : Den X β (.JoinedStr [.FormattedValue e (-1) (some (.JoinedStr [.Constant (.str "b") j q1] q2)) q3] q4) a false (.str (binS i)) b := by
  intro G H ρ σ Q r q
  refine ⟨_, pe_joined1 (pe_fmtB pe_w), h.fz G H ρ σ _ r fun v G1 H1 ρ1 f1 r1 x1 => ?_⟩
  cases (show Rp X.K G1 v (.int i) from x1)
  exact ⟨i, rfl, h0, binS_len h1, q _ G1 H1 ρ1 f1 r1 (.str _)⟩
end
/-! ### three names, two lists -/
def ckPar3 (T : Tb) (n : Nat) (sc : Scope) (st : Stmt) (i j l : Nat) (r1 r2 r3 : RE) : Bool := match st with
  | .Assign [.Tuple [.Name x px, .Name y py, .Name u pu] _ _] (.Tuple [e1, e2, e3] _ _) _ => parN T sc x i && (parN T sc y j && (parN T sc u l && ((i != j) && ((i != l) && ((j != l) && ((swF sc [.Name x px, .Name y py, .Name u pu] [e1, e2, e3] == some (some [x, y, u])) && (noStars [e1, e2, e3] && (ckE T n sc e1 r1 && (ckE T n sc e2 r2 && ckE T n sc e3 r3)))))))))
  | _ => false
theorem par3_ok {T : Tb} {k n m : Nat} {sc : Scope} {X : Cx} {β : Option Addr} {st : Stmt} {i j l : Nat} {r1 r2 r3 : RE} {a b c d : En} {l1 l2 : List D} {d3 : D} (co : Cos T k sc X) (h : ckPar3 T n sc st i j l r1 r2 r3 = true)
    (v1 : evE T m r1 a = some (true, .list l1, b)) (v2 : evE T m r2 b = some (true, .list l2, c)) (v3 : evE T m r3 c = some (false, d3, d)) (hi : i < d.sl.length) (hj : j < d.sl.length) (hl : l < d.sl.length) :
    DenS X β st a (.nx (setS (setS (setS d i true (.list l1)) j true (.list l2)) l false d3)) := by
  unfold ckPar3 at h
  split at h
  · rename_i x px y py u pu kt pt e1 e2 e3 k2 pt2 pos
    simp only [Bool.and_eq_true, bne_iff_ne, ne_eq] at h
    obtain ⟨a1, a2, a3, n1, n2, n3, sw, st, c1, c2, c3⟩ := h
    obtain ⟨x1, x2⟩ := co.par a1
    obtain ⟨y1, y2⟩ := co.par a2
    obtain ⟨u1, u2⟩ := co.par a3
    rw [beq_iff_eq] at sw
    simp only [noStars, List.all_cons, List.all_nil, Bool.and_true, Bool.and_eq_true, Bool.not_eq_true'] at st
    have E := snd_all T k n
    exact dens_par3o co.ok.calm (by rw [co.ok.N]; exact co.ok.nd) x1 y1 u1 n1 n2 n3 x2 y2 u2 (sw_tab (by rw [co.ok.sc]; exact co.kind) (by rw [co.ok.sc]; exact sw)) st.1 st.2.1 st.2.2 (E.E co.ok c1 v1) (E.E co.ok c2 v2) (E.E co.ok c3 v3) hi hj hl
  · cases h
def ckHead (T : Tb) (n : Nat) (sc : Scope) (body : List Stmt) (i j l : Nat) (r1 r2 r3 : RE) (rs : List RS) : Bool := match body with
  | st :: rest => ckPar3 T n sc st i j l r1 r2 r3 && ckSs T n sc rest rs
  | _ => false
theorem head_ok {T : Tb} {k n m : Nat} {sc : Scope} {X : Cx} {β : Option Addr} {body : List Stmt} {i j l : Nat} {r1 r2 r3 : RE} {rs : List RS} {a b c d : En} {l1 l2 : List D} {d3 : D} {z : SR} (co : Cos T k sc X) (h : ckHead T n sc body i j l r1 r2 r3 rs = true)
    (v1 : evE T m r1 a = some (true, .list l1, b)) (v2 : evE T m r2 b = some (true, .list l2, c)) (v3 : evE T m r3 c = some (false, d3, d)) (hi : i < d.sl.length) (hj : j < d.sl.length) (hl : l < d.sl.length)
    (hz : evSs T m rs (setS (setS (setS d i true (.list l1)) j true (.list l2)) l false d3) = some z) : DenSs X β body a z := by
  unfold ckHead at h
  split at h
  · rw [Bool.and_eq_true] at h
    exact denss_cons (par3_ok co h.1 v1 v2 v3 hi hj hl) ((sndS_all T k n).Ss co h.2 hz)
  · cases h
/-! ### a loop over the binary figures -/
def ckBits (T : Tb) (n : Nat) (sc : Scope) (body : List Stmt) (r1 r2 : RS) (rx : RE) (t : Tg) (bs rs : List RS) : Bool := match body with
  | s1 :: s2 :: .For tg (.JoinedStr [.FormattedValue e (-1) (some (.JoinedStr [.Constant (.str x) _ _] _)) _] _) fb [] _ :: rest => (x == ("b" : Str)) && (ckS T n sc s1 r1 && (ckS T n sc s2 r2 && (ckE T n sc e rx && (ckTg T sc tg t && (ckSs T n sc fb bs && ckSs T n sc rest rs)))))
  | _ => false
theorem bits_ok {T : Tb} {k n m m2 : Nat} {sc : Scope} {X : Cx} {β : Option Addr} {body : List Stmt} {r1 r2 : RS} {rx : RE} {t : Tg} {bs rs : List RS} {a b c c2 d : En} {o : Bool} {v : Int} {z : SR} (co : Cos T k sc X) (h : ckBits T n sc body r1 r2 rx t bs rs = true)
    (v1 : evS T m r1 a = some (.nx b)) (v2 : evS T m r2 b = some (.nx c)) (v3 : evE T m rx c = some (o, .int v, c2)) (h0 : 0 ≤ v) (h1 : v.natAbs < 2 ^ 1000) (hl : forL (bodyF T m2 t bs) (strD (binS v)) c2 = some (.nx d)) (hz : evSs T m rs d = some z) : DenSs X β body a z := by
  unfold ckBits at h
  split at h
  · rename_i s1 s2 tg e x j q1 q2 q3 q4 fb pos rest
    simp only [Bool.and_eq_true, beq_iff_eq] at h
    obtain ⟨rfl, c1, c2', c3, c4, c5, c6⟩ := h
    obtain ⟨tl, g1, g2⟩ := co.tg c4
    have S := sndS_all T k n
    have hd : Den X β e c o (.int v) c2 := (snd_all T k n).E co.ok c3 v3
    refine denss_cons (S.S co c1 v1) (denss_cons (S.S co c2' v2) (denss_cons (dens_for co.po (by rw [co.ok.N]; exact co.ok.nd) co.ok.calm g1 g2 rfl (deni_str (den_fb hd h0 h1)) (fun d e r hf => ?_) hl) (S.Ss co c6 hz)))
    unfold bodyF at hf
    rw [Option.bind_eq_some_iff] at hf
    obtain ⟨e1, w1, w2⟩ := hf
    exact ⟨e1, w1, S.Ss co c5 w2⟩
  · cases h
/-! ### a call that may be refused -/
def ckTry (T : Tb) (n : Nat) (sc : Scope) (body : List Stmt) (f z : Str) (rt : RT) (rk ra : List RE) (rs : List RS) (ks : List Str) (s1 s2 : Str) : Bool := match body with
  | [.Try [.If t [.Return (some (.Call (.Name f1 p1) [] kws p2)) p3] [] p4, .Return (some (.Call (.Name f2 p5) (e0 :: es) [] p6)) p7] [.ExceptHandler (some (.Name z1 _)) none [.Return (some (.Tuple [.Constant (.str x1) _ _, .Constant (.str x2) _ _] _ _)) _] _] [] [] _] =>
    (f1 == f) && ((f2 == f) && ((z1 == z) && ((x1 == s1) && ((x2 == s2) && (isGl sc f && (isGl sc z && (ckT T n sc t rt && (ckK T n sc kws rk && ((kwNames kws == some ks) && (ckA T n sc (e0 :: es) ra && (noStars (e0 :: es) &&
      ckSs T n sc [.If t [.Return (some (.Call (.Name f1 p1) [] kws p2)) p3] [] p4, .Return (some (.Call (.Name f2 p5) (e0 :: es) [] p6)) p7] rs)))))))))))
  | _ => false
section
variable {T : Tb} {k n m : Nat} {sc : Scope} {X : Cx} {β : Option Addr} {body : List Stmt} {f z : Str} {rt : RT} {rk ra : List RE} {rs : List RS} {ks : List Str} {s1 s2 : Str} {a b c : En} {r : SR} {C : Addr} {fl cl : Str}
theorem try_ok (co : Cos T k sc X) (hs : X.stack = X.env :: X.outer) (hf : X.env.frame = some X.env.locals) (K : Er.Kls X.prog X.K X.mg z fl cl C) (hd : (z == ("__debug__" : Str)) = false) (h : ckTry T n sc body f z rt rk ra rs ks s1 s2 = true) (hz : evSs T m rs a = some r) (hr : ∀ e, r ≠ .nx e) : DenSs X β body a r := by
  unfold ckTry at h
  split at h
  · simp only [Bool.and_eq_true, beq_iff_eq] at h
    obtain ⟨rfl, rfl, rfl, rfl, rfl, g1, g2, c1, c2, c3, c4, c5, c6⟩ := h
    exact denss_stop hr (dens_try hs hf ⟨co.ok.gl g2, hd, .inl K.gC⟩ fun pn xe po => (sndS_all T k n).Ss (co.tr po) c6 hz)
  · cases h
theorem try_caught {fn : Fn} {ok : List D → Prop} {kw : Kw} {kk : Bool} {ds : List D} (co : Cos T k sc X) (hs : X.stack = X.env :: X.outer) (hf : X.env.frame = some X.env.locals) (K : Er.Kls X.prog X.K X.mg z fl cl C) (hd : (z == ("__debug__" : Str)) = false) (F : FnX X.prog X.w X.K X.mg X.base k f fn C fl cl ok)
    (h : ckTry T n sc body f z rt rk ra rs ks s1 s2 = true) (ht : evT T m rt a = some (kk, b)) (hkw : kw ∈ fn.kws) (hks : kw.ks = ks) (hkn : kw.n = 0) (hka : kk = true → evA T m rk b = some (ds, c) ∧ ok (arr kw.perm [] ds) ∧ (arr kw.perm ([] : List D) ds).length = fn.ps.length ∧ ds.length = kw.ks.length)
    (hpa : kk = false → evA T m ra b = some (ds, c) ∧ ok ds ∧ ds.length = fn.ps.length) : DenSs X β body a (.rt false (.tuple [.str s1, .str s2]) c) := by
  unfold ckTry at h
  split at h
  · simp only [Bool.and_eq_true, beq_iff_eq] at h
    obtain ⟨rfl, rfl, rfl, rfl, rfl, g1, g2, c1, c2, c3, c4, c5, c6⟩ := h
    refine denss_stop (fun e q => by cases q) (dens_caught (C := C) (f := fl) (c := cl) (b := c) hs hf ⟨co.ok.gl g2, hd, .inl K.gC⟩ K.te (fun pn xe => ?_) (fun a0 pn => ?_))
    · have ck : Cok T k sc (X.tr pn xe) := co.ok.tr
      have S := snd_all T k n
      have FX : FnX (X.tr pn xe).prog (X.tr pn xe).w (X.tr pn xe).K (X.tr pn xe).mg (X.tr pn xe).base k _ fn C fl cl ok := F
      have hT := S.Tt (β := β) ck c1 ht
      cases kk with
      | true =>
        obtain ⟨k1, k2, k3, k4⟩ := hka rfl
        refine denssx_here (denx_if hT (denssx_here (denx_ret (denx_callK0 FX ck.room (ck.gl g1) hkw (by rw [hks]; exact c3) hkn (S.Kw ck c2 k1) k4 k2 k3))))
      | false =>
        obtain ⟨k1, k2, k3⟩ := hpa rfl
        exact denssx_skip (m := b) (fun G H ρ σ Dn r q => pass_if hT G H ρ σ Dn r q) (denssx_here (denx_ret (denx_call FX ck.room (ck.gl g1) c5 (S.A ck c4 c5 k1).1 k2 k3)))
    · exact denss_stop (fun e q => by cases q) (dens_ret (den_tuple (dena_cons rfl den_str (dena_cons rfl den_str dena_nil)) (by show 2 ≤ 1000000; decide)))
  · cases h
end
end Fz
set_option Elab.async false
set_option linter.all false
set_option maxRecDepth 100000
set_option maxHeartbeats 2000000
/-! Bodies whose first row raises. -/
namespace Fz
open PySem PySem.Spec PyProof.Rows L2
/-- if t: raise z() -/
def ckRaise (T : Tb) (n : Nat) (sc : Scope) (body : List Stmt) (z : Str) (rt : RT) : Bool := match body with
  | .If t [.Raise (some (.Call (.Name x _) [] [] _)) none _] [] _ :: _ => (x == z) && (isGl sc z && ckT T n sc t rt)
  | _ => false
/-- _, x = f(..) -/
def ckFstTg (T : Tb) (n : Nat) (sc : Scope) (body : List Stmt) (f : Str) (ra : List RE) : Bool := match body with
  | .Assign [.Tuple _ _ _] (.Call (.Name x _) (e0 :: es) [] _) _ :: _ => (x == f) && (isGl sc f && (ckA T n sc (e0 :: es) ra && noStars (e0 :: es)))
  | _ => false
/-- x = f(..) -/
def ckFstSet (T : Tb) (n : Nat) (sc : Scope) (body : List Stmt) (f : Str) (i : Nat) (ra : List RE) : Bool := match body with
  | .Assign [.Name y _] (.Call (.Name x _) (e0 :: es) [] _) _ :: _ => (x == f) && (isGl sc f && (ckA T n sc (e0 :: es) ra && (noStars (e0 :: es) && ((idxOf T.N y == some i) && stoOk sc y))))
  | _ => false
section
variable {T : Tb} {k n m : Nat} {sc : Scope} {X : Cx} {β : Option Addr} {body : List Stmt} {f z : Str} {rt : RT} {ra : List RE} {a b : En} {C : Addr} {fl cl : Str} {i : Nat}
theorem raise_ok {j : Nat} (c : Cok T k sc X) (K : Er.Kls X.prog X.K X.mg z fl cl C) (hd : (z == ("__debug__" : Str)) = false) (hk : k = j + 1) (h : ckRaise T n sc body z rt = true) (ht : evT T m rt a = some (true, b)) : DenSsX X β body a b C fl cl := by
  unfold ckRaise at h
  split at h
  · simp only [Bool.and_eq_true, beq_iff_eq] at h
    obtain ⟨rfl, g1, c1⟩ := h
    refine denssx_here (denx_if ((snd_all T k n).Tt c c1 ht) (denssx_here (denx_raise (k := j) c.calm K (by rw [← hk]; exact c.room) (c.gl g1) hd)))
  · cases h
variable {fn : Fn} {ok : List D → Prop} {ds : List D}
theorem fstTg_ok (c : Cok T k sc X) (F : FnX X.prog X.w X.K X.mg X.base k f fn C fl cl ok) (h : ckFstTg T n sc body f ra = true) (hv : evA T m ra a = some (ds, b)) (hok : ok ds) (hl : ds.length = fn.ps.length) : DenSsX X β body a b C fl cl := by
  unfold ckFstTg at h
  split at h
  · simp only [Bool.and_eq_true, beq_iff_eq] at h
    obtain ⟨rfl, g1, c1, c2⟩ := h
    exact denssx_here (denx_tg swaps_tup rfl rfl (denx_call F c.room (c.gl g1) c2 ((snd_all T k n).A c c1 c2 hv).1 hok hl))
  · cases h
theorem fstSet_ok (c : Cok T k sc X) (hfn : ∀ y, X.fn y = true) (F : FnX X.prog X.w X.K X.mg X.base k f fn C fl cl ok) (h : ckFstSet T n sc body f i ra = true) (hv : evA T m ra a = some (ds, b)) (hok : ok ds) (hl : ds.length = fn.ps.length) : DenSsX X β body a b C fl cl := by
  unfold ckFstSet at h
  split at h
  · rename_i y py x px e0 es pos pos2 rest
    simp only [Bool.and_eq_true, beq_iff_eq] at h
    obtain ⟨rfl, g1, c1, c2, h1, h2⟩ := h
    refine denssx_here (denx_set (i := i) (by rw [c.N]; exact c.nd) (by rw [c.N]; exact h1) ⟨?_, .inl (hfn y)⟩ (swaps_ok rfl) (denx_call F c.room (c.gl g1) c2 ((snd_all T k n).A c c1 c2 hv).1 hok hl))
    unfold stoOk at h2
    rw [← c.sc] at h2
    unfold L2.Loc
    cases q : X.env.scope.names.lookup y with
    | none => rw [q] at h2; cases h2
    | some kd =>
      rw [q] at h2
      cases kd with
      | «local» => exact .inl rfl
      | cell => exact .inr rfl
      | _ => cases h2
  · cases h
end
end Fz
set_option Elab.async false
set_option linter.all false
set_option maxRecDepth 100000
set_option maxHeartbeats 2000000
/-! What the head says of such an error class. -/
namespace Er
open PySem PySem.W PySem.Calls PyProof.Rows He
/-- an error class: its name, the attribute, its text; the message, the qualified name, the file; the def of `__init__` -/
structure KD where
  x : Str
  f : Str
  c : Str
  m : Str
  qual : Str
  file : Str
  st : Stmt
  B : String
  newId : String
  initId : String
  bmB : List Value
def initOf : Stmt → Stmt
  | .ClassDef _ _ _ (s :: _) _ _ _ _ _ _ _ => s
  | s => s
def iA (K : Frag) (x : Str) : Addr := fAd K (x, some "__init__")
def ccOf (K : Frag) (x : Str) : Addr := match K.lookup (iA K x) with
  | some ⟨_, _, .func fd, _⟩ => (match fd.closure with
    | [(_, a)] => a
    | _ => 0)
  | _ => 0
def cdOf (K : Frag) (x : Str) : Addr := match K.lookup (iA K x) with
  | some ⟨_, _, .func fd, _⟩ => (match fd.code with
    | .ref a => a
    | _ => 0)
  | _ => 0
abbrev FnE : Type := Option (Str × Str × Arguments × FuncBody × Scope × Addr × List Str × Addr)
def fnE (K : Frag) (x : Str) : FnE := match K.lookup (iA K x) with
  | some ⟨_, _, .func fd, _⟩ => some (fd.name, fd.qualname, fd.params, fd.body, fd.scope, fd.globals, fd.closure.map (·.1), fd.builtins)
  | _ => none
def KD.val (d : KD) : FnE := some ("__init__", d.qual, L2.defArgs d.st, .stmts (L2.defBody d.st), L2.defScope d.st, mainGlobals, ["__class__"], builtinsNs)
def fdB (K : Frag) (x : Str) : Bool := match K.lookup (iA K x) with
  | some ⟨_, _, .func fd, _⟩ => decide (fd.code = .ref (cdOf K x)) && (decide (fd.defaults = .none) && (decide (fd.kwdefaults = .none) && decide (fd.closure.map (·.2) = [ccOf K x])))
  | _ => false
def cellB (K : Frag) (a C : Addr) : Bool := match K.lookup a with
  | some ⟨_, _, .cell (some (.ref c)), _⟩ => decide (c = C)
  | _ => false
def codeB (K : Frag) (a : Addr) (file : Str) : Bool := match K.lookup a with
  | some ⟨_, _, .fields vs, _⟩ => (match (vs[2]? : Option Value) with
    | some (.str y _) => decide (y = file)
    | _ => false)
  | _ => false
def KD.ok (K : Frag) (d : KD) : Bool :=
  keepIn K (.ref (ga K d.x)) && (decide (subIn K (.ref (ga K d.x)) (.type "BaseException") = some true) && (decide (typeIn K (.ref (ga K d.x)) = some (.type "type")) && (decide (exmOne K (.ref (ga K d.x)) (.ref (ga K d.x)) = some true) &&
  (excInitIn K (ga K d.x) d.bmB d.newId && (excOver K (ga K d.x) d.bmB && (eqO (findIn K (.ref (ga K d.x)) "__init__") (some (some (.ref (iA K d.x)))) && (isFn K (.ref (iA K d.x)) &&
  (eqO (findIn K (.ref (ga K d.x)) "__setattr__") (some (some (.builtin "object.__setattr__"))) && (eqO (takerIn K (ga K d.x) d.f) (some none) && (eqO (ks_superIn K (ga K d.x) (ga K d.x) "__init__") (some (some (.builtin d.initId))) &&
  (decide (subIn K (.ref (ga K d.x)) (.type d.B) = some true) && (decide (mroIn K (ga K d.x) (.ref (ga K d.x)) = some true) && (hasDictIn K (ga K d.x) && (eqO (nsIn K cStatics "thirdparty.any") (some none) &&
  (cellB K (ccOf K d.x) (ga K d.x) && (codeB K (cdOf K d.x) d.file && (codeIn K (.ref (cdOf K d.x)) d.qual && fdB K d.x)))))))))))))))))
theorem cellB_ok {K : Frag} {a C : Addr} (h : cellB K a C = true) : ∃ cl cld csl, K.lookup a = some ⟨cl, cld, .cell (some (.ref C)), csl⟩ := by
  unfold cellB at h
  split at h
  · rename_i q
    have e := of_decide_eq_true h
    rw [e] at q
    exact ⟨_, _, _, q⟩
  · cases h
theorem codeB_ok {K : Frag} {a : Addr} {file : Str} (h : codeB K a file = true) : ∃ ccl cdd vs ccs tf, K.lookup a = some ⟨ccl, cdd, .fields vs, ccs⟩ ∧ vs[2]? = some (.str file tf) := by
  unfold codeB at h
  split at h
  · rename_i q
    split at h
    · rename_i q2
      have e := of_decide_eq_true h
      rw [e] at q2
      exact ⟨_, _, _, _, _, q, q2⟩
    · cases h
  · cases h
theorem kd_ok {P : Program} {K : Frag} {h : Heap} {mg : Str → Option Value} {d : KD} {p : Pos} {q : Nat → Pos} (X : K.In h) (G : h.Ns mainGlobals mg) (cg : (Fa.glo d.x).ok K = true) (cs : (Fa.free "super").ok K = true) (e : fnE K d.x = d.val) (c : d.ok K = true)
    (FB : ExcBaseFacts d.B d.newId d.initId d.bmB) (KF : KxsFacts d.B d.initId) (SF : StoreFacts d.B d.bmB "object.__setattr__" "object") (ha : L2.defArgs d.st = zA p) (hb : L2.defBody d.st = zB d.m d.f d.c q) (hs : L2.defScope d.st = zS)
    (hln : ((q 2).endLine == (q 4).line) = true) (hfile : ((P.main.file : Str) == d.file) = true) (htop : (P.main.scope.names.lookup ("super" : Str)).isSome = false) : Kls P K mg d.x d.f d.c (ga K d.x) := by
  obtain ⟨c1, c⟩ := ba c
  obtain ⟨c2, c⟩ := ba c
  obtain ⟨c3, c⟩ := ba c
  obtain ⟨c4, c⟩ := ba c
  obtain ⟨c5, c⟩ := ba c
  obtain ⟨c6, c⟩ := ba c
  obtain ⟨c7, c⟩ := ba c
  obtain ⟨c8, c⟩ := ba c
  obtain ⟨c9, c⟩ := ba c
  obtain ⟨c10, c⟩ := ba c
  obtain ⟨c11, c⟩ := ba c
  obtain ⟨c12, c⟩ := ba c
  obtain ⟨c13, c⟩ := ba c
  obtain ⟨c14, c⟩ := ba c
  obtain ⟨c15, c⟩ := ba c
  obtain ⟨c16, c⟩ := ba c
  obtain ⟨c17, c⟩ := ba c
  obtain ⟨c18, c19⟩ := ba c
  refine ⟨glo_ok X G cg, free_ok X G cs, c1, of_decide_eq_true c2, of_decide_eq_true c3, of_decide_eq_true c4, iA K d.x, ccOf K d.x, cdOf K d.x, d.B, d.newId, d.initId, d.bmB, d.file, d.m, d.qual, ?_⟩
  have CL : Cl K (ga K d.x) (iA K d.x) (ccOf K d.x) (cdOf K d.x) d.B d.newId d.initId d.bmB d.file d.f :=
    ⟨c5, c6, eqO_ok c7, c8, eqO_ok c9, eqO_ok c10, eqO_ok c11, of_decide_eq_true c12, of_decide_eq_true c13, any_some c14, eqO_ok c15, cellB_ok c16, codeB_ok c17⟩
  unfold fnE at e
  unfold fdB at c19
  cases ho : K.lookup (iA K d.x) with
  | none =>
    rw [ho] at c19
    cases c19
  | some o =>
    obtain ⟨oc, od, dt, osl⟩ := o
    rw [ho] at e c19
    cases dt with
    | func fd =>
      obtain ⟨n1, n2, n3, n4, n5, n6, n7, n8, n9, n10, n11, n12, n13, n14, n15⟩ := fd
      have e2 : (some (n1, n2, n3, n4, n5, n6, n7.map (·.1), n15) : FnE) = some (("__init__" : Str), d.qual, L2.defArgs d.st, FuncBody.stmts (L2.defBody d.st), L2.defScope d.st, mainGlobals, [("__class__" : Str)], builtinsNs) := e
      simp only [Option.some.injEq, Prod.mk.injEq] at e2
      obtain ⟨h1, h2, h3, h4, h5, h6, h7, h8⟩ := e2
      obtain ⟨k1, k⟩ := ba c19
      obtain ⟨k2, k⟩ := ba k
      obtain ⟨k3, k4⟩ := ba k
      have j1 : n13 = .ref (cdOf K d.x) := of_decide_eq_true k1
      have j2 : n8 = .none := of_decide_eq_true k2
      have j3 : n9 = .none := of_decide_eq_true k3
      have j4 : n7.map (·.2) = [ccOf K d.x] := of_decide_eq_true k4
      have k5 : n7 = [(("__class__" : Str), ccOf K d.x)] := by
        match n7, h7, j4 with
        | [(y, b)], h7, k4 =>
          have z1 : y = ("__class__" : Str) := by simpa using h7
          have z2 : b = ccOf K d.x := by simpa using k4
          rw [z1, z2]
        | [], h7, k4 => cases h7
        | _ :: _ :: _, h7, k4 => simp at h7
      subst h1 h2 h3 h4 h5 h6 h8 j1 j2 j3
      exact ⟨oc, n10, n11, n14, od, n12, osl, p, q, FB, KF, SF, CL, by rw [k5, ha, hb, hs], c18, hln, hfile, htop⟩
    | _ => cases c19
/-! ### the Hook -/
abbrev AlX : Type := AlD × Bool × FnE
def obsX (fa : List Fa) (fn : List DefD) (kd : KD) (K : Frag) : AlX := (obsD fa fn K, kd.ok K, fnE K kd.x)
def valX (fn : List DefD) (kd : KD) : AlX := (valD fn, true, kd.val)
def SaysX (fa : List Fa) (fn : List DefD) (kd : KD) (K : Frag) : Prop := obsX fa fn kd K = valX fn kd
def obsXG (n : Nat) (fa : List Fa) (fn : List DefD) (kd : KD) (g : Addr → Option Obj) : AlX := obsX fa fn kd (frG g (cStatics :: asD g n))
def hookX (n : Nat) (fa : List Fa) (fn : List DefD) (kd : KD) : Hook where
  α := AlX
  obs := fun s => obsXG n fa fn kd s.heap.get?
  val := fun _ => valX fn kd
  says := fun _ h => ∃ K : Frag, K.In h ∧ SaysX fa fn kd K
  of := fun _ _ e => ⟨_, frG_in, e⟩
  keeps := fun _ _ _ ⟨K, hK, c⟩ k => ⟨K, Frag.In.keeps hK k, c⟩
theorem obsXG_eq {n : Nat} {fa : List Fa} {fn : List DefD} {kd : KD} {g : Addr → Option Obj} {s : Shared} (h : ∀ a, g a = s.heap.get? a) : obsXG n fa fn kd g = (hookX n fa fn kd).obs s := by
  have e : g = s.heap.get? := funext h
  rw [e] <;> rfl
theorem SaysX.d {fa : List Fa} {fn : List DefD} {kd : KD} {K : Frag} (c : SaysX fa fn kd K) : SaysD fa fn K := congrArg (fun z : AlX => z.1) c
theorem SaysX.k {fa : List Fa} {fn : List DefD} {kd : KD} {K : Frag} (c : SaysX fa fn kd K) : kd.ok K = true := congrArg (fun z : AlX => z.2.1) c
theorem SaysX.e {fa : List Fa} {fn : List DefD} {kd : KD} {K : Frag} (c : SaysX fa fn kd K) : fnE K kd.x = kd.val := congrArg (fun z : AlX => z.2.2) c
end Er
set_option Elab.async false
set_option linter.all false
set_option maxRecDepth 100000
set_option maxHeartbeats 4000000
/-! An own error whose `__init__` takes one value, calls the base's with a text and stores the value and a text. -/
namespace Er
open PySem PySem.W PySem.Calls PyProof.Rows Builtin.ObjectAttr
/-! ### the text -/
def zA2 (pn : Str) (p p1 : Pos) : Arguments := ⟨[], [⟨"self", none, p⟩, ⟨pn, none, p1⟩], none, [], [], none, []⟩
def zB2 (m pn f1 f2 c : Str) (q : Nat → Pos) : List Stmt :=
  [.Expr (.Call (.Attribute (.Call (.Name "super" (q 0)) [] [] (q 1)) "__init__" (q 2)) [.Constant (.str m) 0 (q 3)] [] (q 4)) (q 5),
   .Assign [.Attribute (.Name "self" (q 6)) f1 (q 7)] (.Name pn (q 8)) (q 9),
   .Assign [.Attribute (.Name "self" (q 10)) f2 (q 11)] (.Constant (.str c) 0 (q 12)) (q 13)]
def zS2 (pn : Str) : Scope := { kind := .function, names := [(PySem.Str.ofString "self", .local), (pn, .local), (PySem.Str.ofString "__class__", .free), (PySem.Str.ofString "super", .globalImplicit)], isGenerator := false, isCoroutine := false, more := [] }
section
variable {prog : Program} {w : World} {A : Around} {E : Value → Shared → Prop} {R : Result → Shared → Prop} {hp : Heap} {g : Array GenState} {d : Drawn} {t : Nat} {os : OsState} {K : Frag} {B newId initId : String} {bmB : List Value} {file f f2 m c : Str} {C fI cc cda : Addr}
/-- a further attribute -/
theorem store_second (SF : StoreFacts B bmB "object.__setattr__" "object") (T : Cl K C fI cc cda B newId initId bmB file f) (no : takerIn K C f2 = some none) {tk : Tok} {v : Value} {x t0 dx : Addr} {m0 : Str → Option Value} {nl : List Str} (X : K.In hp) (hx : hp.get? x = some (excObj C t0 (some dx) .none))
    (hn : hp.Ns1 dx m0) (hw : Within m0 nl) (hz : nl.length ≤ 1000)
    (hq : ∀ h' tk', (∀ b o, b ≠ dx → hp.get? b = some o → h'.get? b = some o) → h'.Ns1 dx (fun y => if y = f2 then some v else m0 y) → R (.ok (.ret .none)) ⟨h', g, d, tk', os⟩) :
    codeAny (model prog w) A (.call (.builtin "object.__setattr__") ⟨[.ref x, .str f2 tk, v], []⟩) R ⟨hp, g, d, t, os⟩ := by
  obtain ⟨cd, hcd, hh⟩ := T.cd
  obtain ⟨oD, esD, epD, hoD, hdD, _⟩ := hn.count hw
  refine osa_openX (od := some oD) SF X ⟨hx, rfl, rfl, hoD⟩ T.ov no fun b => ?_
  have hcls : Looks (model prog w) hp (classData C) cd := looks_clsIn X hcd
  obtain ⟨z1, z2, z3, z4, z5, z6, z7, z8, z9, z10, z11⟩ := cd
  dsimp only at hh
  subst hh
  unfold storeInOwnDict ownDictForStores
  repeat (first | with_reducible refine PySem.OEX.store_in_old hn hw hz ?_ | with_reducible refine wpAny_loadPart_at hx ?_ | with_reducible refine hcls.at ?_ | wp_step)
  intro h' tk' hn' hs
  exact hq h' tk' (fun b o hb ho => (hs.2 b hb).trans ho) hn'
end
/-- what `__init__` leaves of a fresh error at x -/
structure Left2 (h h' : Heap) (x C dx t1 : Addr) (f1 f2 : Str) (v c : Value) : Prop where
  keep : ∀ b o, b ≠ x → h.get? b = some o → h'.get? b = some o
  obj : h'.get? x = some { cls := .ref C, dict := some dx, data := .fields #[.ref t1, .none, .none, .none, .bool false, .none] }
  dbig : h.objs.size ≤ dx
  dne : dx ≠ x
  ns : h'.Ns1 dx (fun y => if y = f2 then some c else if y = f1 then some v else none)
section
variable {prog : Program} {w : World} {A : Around} {E : Value → Shared → Prop} {R : Result → Shared → Prop} {s : Shared} {K : Frag} {mg mb : Str → Option Value} {B newId initId : String} {bmB : List Value} {file f f2 m c pn qual : Str} {C fI cc cda : Addr}
/-- `__init__`, called for a fresh error -/
theorem z_init2 (FB : ExcBaseFacts B newId initId bmB) (KF : KxsFacts B initId) (SF : StoreFacts B bmB "object.__setattr__" "object") (T : Cl K C fI cc cda B newId initId bmB file f) (no : takerIn K C f2 = some none) {x t0 : Addr} {v : Value} {oc dV kV doc pm ct : Value} {od an : Option Addr} {osl : Array (Option Value)} {p p1 : Pos} {q : Nat → Pos}
    (ho : K.lookup fI = some ⟨oc, od, .func (ksFn "__init__" qual (zA2 pn p p1) (zB2 m pn f f2 c q) (zS2 pn) dV kV doc pm an (.ref cda) ct cc), osl⟩) (hcd : codeIn K (.ref cda) qual = true)
    (hpn : (pn == ("self" : Str)) = false) (hpc : (pn == ("__class__" : Str)) = false) (hpd : (pn == ("__debug__" : Str)) = false) (hps : (pn == ("super" : Str)) = false)
    (hb : BindsTo s (ksFn "__init__" qual (zA2 pn p p1) (zB2 m pn f f2 c q) (zS2 pn) dV kV doc pm an (.ref cda) ct cc) ⟨[.ref x, v], []⟩ [("self", .ref x), (pn, v)])
    (X : K.In s.heap) (hlim : s.heap.NoLimit) (G : s.heap.Ns mainGlobals mg) (BL : s.heap.Ns builtinsNs mb) (h1 : mg "super" = none) (h2 : mb "super" = some (.type "super"))
    (hfile : ((prog.main.file : Str) == file) = true) (htop : (prog.main.scope.names.lookup ("super" : Str)).isSome = false)
    (hx : s.heap.get? x = some (excObj C t0 none .none)) (hnx : K.lookup x = none) (hln : ((q 2).endLine == (q 4).line) = true) (hroom : A.depth < recursionLimit)
    (hq : ∀ h' tk dx t1 tkc, Left2 s.heap h' x C dx t1 f f2 v (.str c tkc) → R (.ok (.ret .none)) { s with heap := h', toks := tk }) :
    codeAny (model prog w) A (.call (.ref fI) ⟨[.ref x, v], []⟩) R s := by
  obtain ⟨nm, N, qn, bs, bm, hdct, sn, sub, ab, col, dd, k0, k1, k2, k3, k5, hC, hT⟩ := excInit_of X T.q
  obtain ⟨cd, hcls, _⟩ := T.cd
  obtain ⟨cl, cld, csl, hcell⟩ := T.cell
  obtain ⟨ccl, cdd, vs, ccs, tf, hcode, hvs⟩ := T.code
  have hsu := T.su
  unfold ks_superIn at hsu
  rw [hcls] at hsu
  have l1 : (zS2 pn).names.lookup pn = some .local := by
    unfold zS2
    simp [List.lookup, hpn]
  have l2 : (zS2 pn).names.lookup ("super" : Str) = some .globalImplicit := by
    unfold zS2
    have e : (("super" : Str) == pn) = false := by rw [← hps]; exact BEq.comm
    simp [List.lookup, e]
    rfl
  have l3 : (zS2 pn).names.lookup ("__class__" : Str) = some .free := by
    unfold zS2
    have e : (("__class__" : Str) == pn) = false := by rw [← hpc]; exact BEq.comm
    simp [List.lookup, e]
    rfl
  have hs1 : ([(("self" : Str), Value.ref x), (pn, v)].reverse.lookup ("self" : Str)) = some (.ref x) := by
    have e : (("self" : Str) == pn) = false := by rw [← hpn]; exact BEq.comm
    simp [List.lookup, e]
  have hs2 : ([(("self" : Str), Value.ref x), (pn, v)].reverse.lookup pn) = some v := by
    simp [List.lookup]
  refine ks_codeAny_call_defAt (fd := ksFn "__init__" qual (zA2 pn p p1) (zB2 m pn f f2 c q) (zS2 pn) dV kV doc pm an (.ref cda) ct cc) (body := zB2 m pn f f2 c q) hroom (X _ _ ho) rfl hlim (codeRec_of X hcd) rfl hb (by
    show ∀ y ∈ (zS2 pn).names, y.2 ≠ .cell
    unfold zS2
    intro y hy
    simp only [List.mem_cons, List.not_mem_nil, or_false] at hy
    rcases hy with rfl | rfl | rfl | rfl <;> (intro h; cases h)) (by
    intro y hy
    simp only [List.mem_cons, List.not_mem_nil, or_false] at hy
    rcases hy with rfl | rfl
    · rfl
    · exact l1) (fun h₁ hns k₁ => ?_) rfl rfl rfl
  have X₁ : K.In h₁ := X.keeps k₁
  have hx₁ := k₁ _ _ hx
  have hxL : s.heap.objs.size ≠ x := Nat.ne_of_gt (Heap.lt_size hx)
  obtain ⟨hp, g, d, tk, os⟩ := s
  refine ks_wpAt_execs_cons (ks_wpAt_Expr_any (ks_wpAt_MethodCall ?_ (mcall hln)))
  refine ks_wpAt_super_base (env := ksEnv qual (zS2 pn) hp.objs.size fI (.ref cda) cc) l2 l3 rfl rfl (X₁ _ _ ho) rfl rfl rfl (X₁ _ _ hcode) rfl hvs hfile htop ?_
  refine ks_loadName_global rfl l2 (loadGlobal_builtin (env := ksEnv qual (zS2 pn) hp.objs.size fI (.ref cda) cc) (G.keeps k₁) h1 (BL.keeps k₁) h2 ⟨rfl, ?_⟩)
  refine wpAny_loadName_free rfl l3 rfl ⟨_, X₁ _ _ hcell, rfl⟩ ?_
  refine wpAny_loadName_local rfl rfl hns hs1 ?_
  obtain ⟨oD, hD1, hD2⟩ : ∃ oD, h₁.get? C = some oD ∧ oD.data = .cls cd := by
    unfold clsIn at hcls
    split at hcls
    · rename_i ho2
      cases hcls
      exact ⟨_, X₁ _ _ ho2, rfl⟩
    · cases hcls
  refine ks_wpAny_isType_cls hD1 hD2 ⟨rfl, ?_⟩
  have I₁ : InstAt h₁ x (excObj C t0 none .none) C none := ⟨hx₁, rfl, rfl, trivial⟩
  refine ks_wpAny_call_super hD1 hD2 hx₁ rfl (fun c e => by cases e) (looks_mroIn X₁ T.sub) (fun h₂ hso k₂ => ?_)
  have X₂ : K.In h₂ := X₁.keeps k₂
  have hx₂ := k₂ _ _ hx₁
  have I₂ : InstAt h₂ x (excObj C t0 none .none) C none := ⟨hx₂, rfl, rfl, trivial⟩
  have hmro : Looks (model prog w) h₂ (mroOf (.ref C)) cd.mro := fun A Q E s k z => wpAny_bind ((looks_clsIn X₂ hcls) A _ E s k (wpAny_pure z))
  refine kxs_getMethod KF hso (looks_opaque X₂ T.st) (l₀ := cd.mro) hmro rfl X₂ hsu (I₂.type.andThen (looks_subIn X₂ T.hB)) (ks_ne X₂ I₂ hcls) rfl ?_
  show wpAny _ _ (callWith _ (.ref h₂.objs.size) [] (backTo _ (starEach [.Constant (.str m) 0 (q 3)] _)) []) _ _ _
  refine kxs_callWith (i := initId) (x := x) rfl (evalArgs_plain (spliced_more (wpAny_Constant_str (spliced_none ?_)) rfl))
  have k₃ : ∀ b o, h₂.get? b = some o → (h₂.push (kxs_mw initId x)).get? b = some o := fun b o e => Heap.get?_push_of_some _ e
  have hu : (h₂.push (kxs_mw initId x)).get? h₂.objs.size = some (kxs_mw initId x) := Heap.get?_push_at rfl rfl
  refine ⟨hu, ?_⟩
  refine call_mw FB (k₃ _ _ (k₂ _ _ (k₁ _ _ hC))) (k₃ _ _ hx₂) hu (by show 1 ≤ sizeLine; rw [sizeLine_eq]; decide) (fun h₄ t1 k₄ hx₄ => ?_)
  have old : ∀ b o, b ≠ x → hp.get? b = some o → h₄.get? b = some o := fun b o hb e => k₄ b o hb (k₃ _ _ (k₂ _ _ (k₁ _ _ e)))
  have X₄ : K.In h₄ := fun a o e => old a o (fun z => by rw [z, hnx] at e; cases e) (X _ _ e)
  obtain ⟨oL, es, ep, hL, rL⟩ := hns
  have hns₄ : h₄.Ns hp.objs.size (fun y => [(("self" : Str), Value.ref x), (pn, v)].reverse.lookup y) := ⟨oL, es, ep, k₄ _ _ hxL (k₃ _ _ (k₂ _ _ hL)), rL⟩
  show _root_.PySem.wpAt _ _ _ (execs [_, _] _) _ _ _
  refine wpAt_of_wpAny (wpAny_execs_cons (plainObj_wpAny_Assign_Attribute (wpAny_Name (wpAny_loadName_local rfl l1 hns₄ hs2 (wpAny_Name (wpAny_loadName_local rfl rfl hns₄ hs1 ?_) rfl)) hpd)))
  refine set_plain X₄ (ox := excObj C t1 none .none) (od := none) ⟨hx₄, rfl, rfl, trivial⟩ T.sa (store_first SF T X₄ hx₄ fun h₅ tk₅ dx Lf => ?_)
  have X₅ : K.In h₅ := fun a o e => Lf.keep a o (fun z => by rw [z, hnx] at e; cases e) (X₄ _ _ e)
  have hns₅ : h₅.Ns hp.objs.size (fun y => [(("self" : Str), Value.ref x), (pn, v)].reverse.lookup y) := ⟨oL, es, ep, Lf.keep _ _ hxL (k₄ _ _ hxL (k₃ _ _ (k₂ _ _ hL))), rL⟩
  show wpAny _ _ (execs [_] _) _ _ _
  refine wpAny_execs_cons (plainObj_wpAny_Assign_Attribute (wpAny_Constant_str (wpAny_Name (wpAny_loadName_local rfl rfl hns₅ hs1 ?_) rfl)))
  have hW : Within (fun y => if y = f then some v else none) [f] := fun y hy => by
    by_cases e : y = f
    · rw [e]; exact List.mem_singleton.mpr rfl
    · simp [e] at hy
  obtain ⟨oD5, _, _, hoD5, _, _⟩ := Lf.ns.count hW
  refine set_plain X₅ (ox := excObj C t1 (some dx) .none) (od := some oD5) ⟨Lf.obj, rfl, rfl, hoD5⟩ T.sa (store_second SF T no X₅ Lf.obj Lf.ns hW (by simp) fun h' tk' k₆ hn6 => ?_)
  show wpAny _ _ (execs [] _) _ _ _
  have z1 : hp.objs.size < h₄.objs.size := hns₄.lt
  have dxb : hp.objs.size ≤ dx := Nat.le_trans (Nat.le_of_lt z1) Lf.dbig
  refine wpAny_execs_nil (hq h' tk' dx t1 _ ⟨fun b o hb e => k₆ b o (Nat.ne_of_lt (Nat.lt_of_lt_of_le (Heap.lt_size e) dxb)) (Lf.keep b o hb (old b o hb e)), k₆ _ _ (Ne.symm Lf.dne) Lf.obj, dxb, Lf.dne, hn6⟩)
end
end Er
set_option Elab.async false
set_option linter.all false
set_option maxRecDepth 100000
set_option maxHeartbeats 4000000
/-! Such an error made with one value, raised. -/
namespace Er
open PySem PySem.W PySem.Calls PyProof.Rows Builtin.ObjectAttr
/-- a class of such errors: x its name, f1 the attribute with the value, f2 that with the text c -/
structure Kls2 (P : Program) (K : Frag) (mg : Str → Option Value) (x f1 f2 c : Str) (C : Addr) : Prop where
  gC : mg x = some (.ref C)
  mgs : mg "super" = none
  kC : keepIn K (.ref C) = true
  exC : subIn K (.ref C) (.type "BaseException") = some true
  tyC : typeIn K (.ref C) = some (.type "type")
  te : exmOne K (.ref C) (.ref C) = some true
  xf : L2.XfC K C
  nof : findIn K (.ref C) f1 = some none
  ex : ∃ (fI cc cda : Addr) (B newId initId : String) (bmB : List Value) (file m pn qual : Str) (oc doc pm ct : Value) (od an : Option Addr) (osl : Array (Option Value)) (p p1 : Pos) (q : Nat → Pos),
    ExcBaseFacts B newId initId bmB ∧ KxsFacts B initId ∧ StoreFacts B bmB "object.__setattr__" "object" ∧ Cl K C fI cc cda B newId initId bmB file f1 ∧ takerIn K C f2 = some none ∧
    K.lookup fI = some ⟨oc, od, .func (ksFn "__init__" qual (zA2 pn p p1) (zB2 m pn f1 f2 c q) (zS2 pn) .none .none doc pm an (.ref cda) ct cc), osl⟩ ∧ codeIn K (.ref cda) qual = true ∧
    ((pn == ("self" : Str)) = false ∧ (pn == ("__class__" : Str)) = false ∧ (pn == ("__debug__" : Str)) = false ∧ (pn == ("super" : Str)) = false) ∧ (∀ (s : Shared) (x v : Value), BindsTo s (ksFn "__init__" qual (zA2 pn p p1) (zB2 m pn f1 f2 c q) (zS2 pn) .none .none doc pm an (.ref cda) ct cc) ⟨[x, v], []⟩ [("self", x), (pn, v)]) ∧ ((q 2).endLine == (q 4).line) = true ∧
    ((P.main.file : Str) == file) = true ∧ (P.main.scope.names.lookup ("super" : Str)).isSome = false
/-- a made error -/
structure Made2 (h h' : Heap) (e C d : Addr) (f1 f2 : Str) (v c : Value) : Prop where
  keep : ∀ b o, h.get? b = some o → h'.get? b = some o
  new : h.objs.size ≤ e
  obj : ∃ t1, h'.get? e = some (excObj C t1 (some d) .none)
  dbig : h.objs.size ≤ d
  dne : d ≠ e
  ns : h'.Ns1 d (fun y => if y = f2 then some c else if y = f1 then some v else none)
section
variable {prog : Program} {w : World} {A : Around} {R : Result → Shared → Prop} {s : Shared} {K : Frag} {mg mb : Str → Option Value} {x f1 f2 c : Str} {C : Addr}
theorem kls2_made {v : Value} (T : Kls2 prog K mg x f1 f2 c C) (X : K.In s.heap) (hlim : s.heap.NoLimit) (G : s.heap.Ns mainGlobals mg) (BL : s.heap.Ns builtinsNs mb) (h2 : mb "super" = some (.type "super")) (hroom : A.depth + 1 < recursionLimit)
    (hq : ∀ h' tk e d t, Made2 s.heap h' e C d f1 f2 v (.str c t) → R (.ok (.ret (.ref e))) { s with heap := h', toks := tk }) : codeAny (model prog w) A (.call (.ref C) ⟨[v], []⟩) R s := by
  obtain ⟨fI, cc, cda, B, newId, initId, bmB, file, m, pn, qual, oc, doc, pm, ct, od, an, osl, p, p1, q, FB, KF, SF, Z, no, ho, hcd, ⟨n1, n2, n3, n4⟩, hbi, hln, hfile, htop⟩ := T.ex
  obtain ⟨nm, N, qn, bs, bm, hdct, sn, sub, ab, col, dd, k0, k1, k2, k3, k5, hC, hT⟩ := excInit_of X Z.q
  obtain ⟨oI, hoI, hcI⟩ : ∃ oI, s.heap.get? fI = some oI ∧ oI.cls = .type "function" := by
    obtain ⟨o, ho2, hc⟩ := Option.map_eq_some_iff.mp (show (K.lookup fI).map (·.cls) = some (.type "function") from beq_iff_eq.mp Z.tI)
    exact ⟨o, X _ _ ho2, hc⟩
  obtain ⟨hp, g, dr, tk, os⟩ := s
  have k : ∀ b o, hp.get? b = some o → ((hp.push (kdv_tup [v])).push (excObj C hp.objs.size none .none)).get? b = some o := fun b o e => Heap.get?_push_of_some _ (Heap.get?_push_of_some _ e)
  have hget : ((hp.push (kdv_tup [v])).push (excObj C hp.objs.size none .none)).get? (hp.objs.size + 1) = some (excObj C hp.objs.size none .none) := by heap_get
  have hnx : K.lookup (hp.objs.size + 1) = none := by
    cases e : K.lookup (hp.objs.size + 1) with
    | none => rfl
    | some o => exact absurd (Nat.lt_of_succ_lt (Heap.lt_size (show hp.get? (hp.objs.size + 1) = some o from X _ _ e))) (Nat.lt_irrefl _)
  refine HandSPX.call_own FB hT hC (looks_findIn X Z.iC) (fun self => exc_bind hoI hcI self) (by show 1 ≤ sizeLine; rw [sizeLine_eq]; decide) ?_
  refine z_init2 (s := ⟨(hp.push (kdv_tup [v])).push (excObj C hp.objs.size none .none), g, dr, tk, os⟩) FB KF SF Z no ho hcd n1 n2 n3 n4 (hbi _ _ _) (X.keeps k) (hlim.keeps k) (G.keeps k) (BL.keeps k) T.mgs h2 hfile htop hget hnx hln (by show A.depth + 1 < recursionLimit; exact hroom) fun h' tk' dx t1 tkc L => ?_
  have old : ∀ b o, hp.get? b = some o → h'.get? b = some o := fun b o e => L.keep b o (Nat.ne_of_lt (Nat.lt_succ_of_lt (Heap.lt_size e))) (k b o e)
  have z : hp.objs.size + 1 + 1 ≤ dx := by
    have z0 := L.dbig
    first
      | (simpa only [Heap.size_push] using z0)
      | exact z0
  exact ⟨rfl, hq h' tk' (hp.objs.size + 1) dx tkc ⟨old, Nat.le_succ _, ⟨t1, L.obj⟩, Nat.le_trans (Nat.le_trans (Nat.le_succ _) (Nat.le_succ _)) z, L.dne, L.ns⟩⟩
end
end Er
namespace L2
open PySem PySem.Spec PyProof.Rows
/-- the dict of such an error -/
abbrev fld2 (f1 f2 c : Str) (v : V) : List (Str × V) := [(f2, .str c), (f1, v)]
theorem relO_two {f1 f2 : Str} {c v : V} {c' v' : Value} (r : RelV c c') (r2 : RelV v v') (y : Str) : RelO (List.lookup y [(f2, c), (f1, v)]) (if y = f2 then some c' else if y = f1 then some v' else none) := by
  by_cases e : y = f2
  · subst e
    rw [if_pos rfl, show List.lookup y [(y, c), (f1, v)] = some c by simp [List.lookup]]
    exact r
  · have e1 : (y == f2) = false := by simpa using e
    rw [if_neg e, show List.lookup y [(f2, c), (f1, v)] = List.lookup y [(f1, v)] by simp [List.lookup, e1]]
    exact relO_one r2 y
section
variable {X : Cx} {x f1 f2 c : Str} {C : Addr}
/-- x(e), e an int -/
theorem pmk_kls2 {p pos : Pos} {k : Nat} {e : Expr} {te : TE} (T : Er.Kls2 X.prog X.K X.mg x f1 f2 c C) (hr : Room (k + 1) X.A) (hg : Gl X x) (hd : (x == ("__debug__" : Str)) = false) (he : PE X e te) (na : starEach [e] X.env = (false, eval e X.env) :: starEach [] X.env) :
    PMk X (.Call (.Name x p) [e] [] pos) (fun σ H Q => te σ H fun v H1 => ∃ i : Int, v = .int i ∧ ∀ d, H1 d = none → Q (.ref C) (some d) (upd H1 d (.xd (fld2 f1 f2 c (.int i))))) := by
  intro pins s σ H Q I q
  refine wpAny_Call_Name_kw (ld_glob I hg T.gC ?_ hd)
  have ha : PA X [e] (tCons te tNil) := pa_cons he pa_nil na
  refine PySem.W.callWith_K (h₀ := X.base) I.ok.mod.kin T.kC (thn (ha.run pos pins s σ H (fun vs H1 => ∃ i : Int, vs = [V.int i] ∧ ∀ d, H1 d = none → Q (.ref C) (some d) (upd H1 d (.xd (fld2 f1 f2 c (.int i))))) I ?_) fun us s1 hh => ?_) na
  · refine (?_ : tCons te tNil σ H _)
    show te σ H _
    have key : (fun (v : V) (H1 : Hp) => ∃ i : Int, v = .int i ∧ ∀ d, H1 d = none → Q (.ref C) (some d) (upd H1 d (.xd (fld2 f1 f2 c (.int i))))) = (fun (v : V) (H1 : Hp) => ∃ i : Int, [v] = [V.int i] ∧ ∀ d, H1 d = none → Q (.ref C) (some d) (upd H1 d (.xd (fld2 f1 f2 c (.int i))))) := by
      funext v H1
      simp
    rw [key] at q
    exact q
  · obtain ⟨vs, H1, I1, r1, i, ev, q⟩ := hh
    subst ev
    refine ⟨I1.kIn, ?_⟩
    cases r1 with
    | cons ru rn =>
      rename_i u us'
      cases rn
      obtain ⟨tu, rfl⟩ := (show ∃ t, u = Value.int i t from ru)
      show wpAny _ _ (call (.ref C) [_]) _ _ _
      obtain ⟨mb, b1, b2⟩ := I1.mod.blt
      have hlim := I1.nolimit
      have G := I1.mod.glob.keeps I1.bk
      have BL := b1.keeps I1.bk
      obtain ⟨hp, g, dr, tk, os⟩ := s1
      refine wpAny_call (Er.kls2_made T I1.kIn hlim G BL ((b2 "super" (by decide)).trans (by first | rfl | kernel_rfl)) (by have := hr.dp; omega) fun h' tk' e d t M => ?_)
      show MkP X pins σ Q (.ref e) ⟨h', g, dr, tk', os⟩
      obtain ⟨t1, ho⟩ := M.obj
      obtain ⟨G', g1, g2⟩ := restrict h' fun b => decide (b ≠ e)
      have gk : ∀ b, b ≠ e → G'.get? b = h'.get? b := fun b hb => g1 b (decide_eq_true hb)
      have ge : G'.get? e = none := g2 e (by simp)
      have old : ∀ b o, hp.get? b = some o → G'.get? b = some o := fun b o z => (gk b (Nat.ne_of_lt (Nat.lt_of_lt_of_le (Heap.lt_size z) M.new))).trans (M.keep b o z)
      have ob : ObjOk X.prog X.w (upd H1 d (.xd (fld2 f1 f2 c (.int i)))) G' d (.xd (fld2 f1 f2 c (.int i))) := ⟨_, M.ns.at (fun o z => (gk d M.dne).trans z), fun y => relO_two (c := .str c) (v := .int i) (c' := .str c t) (v' := .int i tu) ⟨t, rfl⟩ ⟨tu, rfl⟩ y⟩
      have J : Inv X pins σ (upd H1 d (.xd (fld2 f1 f2 c (.int i)))) ⟨G', g, dr, tk', os⟩ := I1.laid (t' := tk') old M.dbig ob
      refine ⟨e, _, _, ⟨G', g, dr, tk', os⟩, _, .ref C, some d, rfl, J, fun b o z => ?_, ge, ho, ⟨rfl, rfl⟩, rfl, rfl, ?_, rfl, I1.bare, raises_own T.exC T.tyC, q d (I1.hok.fresh M.dbig)⟩
      · by_cases hb : b = e
        · have z' : G'.get? b = some o := z
          rw [hb, ge] at z'
          cases z'
        · exact (gk b hb).symm.trans z
      · rw [upd_ne (Ne.symm M.dne)]
        exact I1.hok.fresh M.new
/-- raise x(e) -/
theorem ps_raiseK2 {W : WX} {p pos pos2 : Pos} {k : Nat} {e : Expr} {te : TE} (hc : X.calm = true) (T : Er.Kls2 X.prog X.K X.mg x f1 f2 c C) (hr : Room (k + 1) X.A) (tk : Takes X W) (hg : Gl X x) (hd : (x == ("__debug__" : Str)) = false) (he : PE X e te) (na : starEach [e] X.env = (false, eval e X.env) :: starEach [] X.env) :
    PS X (.Raise (some (.Call (.Name x p) [e] [] pos)) none pos2) (fun _ σ H => te σ H fun v H1 => ∃ i : Int, v = .int i ∧ ∀ d, H1 d = none → W (.ref C) (some d) σ (upd H1 d (.xd (fld2 f1 f2 c (.int i))))) := ps_raise hc tk (pmk_kls2 T hr hg hd he na)
end
end L2
set_option Elab.async false
set_option linter.all false
set_option maxRecDepth 100000
set_option maxHeartbeats 4000000
/-! What the head says of an error class with a value. -/
namespace Er
open PySem PySem.W PySem.Calls PyProof.Rows He
structure KD2 where
  d : KD
  f2 : Str
  pn : Str
def KD2.ok (K : Frag) (d : KD2) : Bool := d.d.ok K && (eqO (takerIn K (ga K d.d.x) d.f2) (some none) && (L2.xfB K (ga K d.d.x) && decide (findIn K (.ref (ga K d.d.x)) d.d.f = some none)))
theorem kd2_ok {P : Program} {K : Frag} {h : Heap} {mg : Str → Option Value} {d2 : KD2} {p p1 : Pos} {q : Nat → Pos} (X : K.In h) (G : h.Ns mainGlobals mg) (cg : (Fa.glo d2.d.x).ok K = true) (cs : (Fa.free "super").ok K = true) (e : fnE K d2.d.x = d2.d.val) (c20 : d2.ok K = true)
    (FB : ExcBaseFacts d2.d.B d2.d.newId d2.d.initId d2.d.bmB) (KF : KxsFacts d2.d.B d2.d.initId) (SF : StoreFacts d2.d.B d2.d.bmB "object.__setattr__" "object") (ha : L2.defArgs d2.d.st = zA2 d2.pn p p1) (hb : L2.defBody d2.d.st = zB2 d2.d.m d2.pn d2.d.f d2.f2 d2.d.c q) (hs : L2.defScope d2.d.st = zS2 d2.pn)
    (hpn : (d2.pn == ("self" : Str)) = false ∧ (d2.pn == ("__class__" : Str)) = false ∧ (d2.pn == ("__debug__" : Str)) = false ∧ (d2.pn == ("super" : Str)) = false)
    (hbi : ∀ (doc pm cdv ct : Value) (an : Option Addr) (cc : Addr) (s : Shared) (x v : Value), BindsTo s (ksFn "__init__" d2.d.qual (zA2 d2.pn p p1) (zB2 d2.d.m d2.pn d2.d.f d2.f2 d2.d.c q) (zS2 d2.pn) .none .none doc pm an cdv ct cc) ⟨[x, v], []⟩ [("self", x), (d2.pn, v)])
    (hln : ((q 2).endLine == (q 4).line) = true) (hfile : ((P.main.file : Str) == d2.d.file) = true) (htop : (P.main.scope.names.lookup ("super" : Str)).isSome = false) : Kls2 P K mg d2.d.x d2.d.f d2.f2 d2.d.c (ga K d2.d.x) := by
  obtain ⟨d, f2, pn⟩ := d2
  dsimp only at *
  obtain ⟨c, c21⟩ := ba c20
  obtain ⟨c22, c21⟩ := ba c21
  obtain ⟨c23, c24⟩ := ba c21
  obtain ⟨c1, c⟩ := ba c
  obtain ⟨c2, c⟩ := ba c
  obtain ⟨c3, c⟩ := ba c
  obtain ⟨c4, c⟩ := ba c
  obtain ⟨c5, c⟩ := ba c
  obtain ⟨c6, c⟩ := ba c
  obtain ⟨c7, c⟩ := ba c
  obtain ⟨c8, c⟩ := ba c
  obtain ⟨c9, c⟩ := ba c
  obtain ⟨c10, c⟩ := ba c
  obtain ⟨c11, c⟩ := ba c
  obtain ⟨c12, c⟩ := ba c
  obtain ⟨c13, c⟩ := ba c
  obtain ⟨c14, c⟩ := ba c
  obtain ⟨c15, c⟩ := ba c
  obtain ⟨c16, c⟩ := ba c
  obtain ⟨c17, c⟩ := ba c
  obtain ⟨c18, c19⟩ := ba c
  refine ⟨glo_ok X G cg, free_ok X G cs, c1, of_decide_eq_true c2, of_decide_eq_true c3, of_decide_eq_true c4, L2.xfB_ok c23, of_decide_eq_true c24, iA K d.x, ccOf K d.x, cdOf K d.x, d.B, d.newId, d.initId, d.bmB, d.file, d.m, pn, d.qual, ?_⟩
  have CL : Cl K (ga K d.x) (iA K d.x) (ccOf K d.x) (cdOf K d.x) d.B d.newId d.initId d.bmB d.file d.f :=
    ⟨c5, c6, eqO_ok c7, c8, eqO_ok c9, eqO_ok c10, eqO_ok c11, of_decide_eq_true c12, of_decide_eq_true c13, any_some c14, eqO_ok c15, cellB_ok c16, codeB_ok c17⟩
  unfold fnE at e
  unfold fdB at c19
  cases ho : K.lookup (iA K d.x) with
  | none =>
    rw [ho] at c19
    cases c19
  | some o =>
    obtain ⟨oc, od, dt, osl⟩ := o
    rw [ho] at e c19
    cases dt with
    | func fd =>
      obtain ⟨n1, n2, n3, n4, n5, n6, n7, n8, n9, n10, n11, n12, n13, n14, n15⟩ := fd
      have e2 : (some (n1, n2, n3, n4, n5, n6, n7.map (·.1), n15) : FnE) = some (("__init__" : Str), d.qual, L2.defArgs d.st, FuncBody.stmts (L2.defBody d.st), L2.defScope d.st, mainGlobals, [("__class__" : Str)], builtinsNs) := e
      simp only [Option.some.injEq, Prod.mk.injEq] at e2
      obtain ⟨h1, h2, h3, h4, h5, h6, h7, h8⟩ := e2
      obtain ⟨k1, k⟩ := ba c19
      obtain ⟨k2, k⟩ := ba k
      obtain ⟨k3, k4⟩ := ba k
      have j1 : n13 = .ref (cdOf K d.x) := of_decide_eq_true k1
      have j2 : n8 = .none := of_decide_eq_true k2
      have j3 : n9 = .none := of_decide_eq_true k3
      have j4 : n7.map (·.2) = [ccOf K d.x] := of_decide_eq_true k4
      have k5 : n7 = [(("__class__" : Str), ccOf K d.x)] := by
        match n7, h7, j4 with
        | [(y, b)], h7, k4 =>
          have z1 : y = ("__class__" : Str) := by simpa using h7
          have z2 : b = ccOf K d.x := by simpa using k4
          rw [z1, z2]
        | [], h7, k4 => cases h7
        | _ :: _ :: _, h7, k4 => simp at h7
      subst h1 h2 h3 h4 h5 h6 h8 j1 j2 j3
      exact ⟨oc, n10, n11, n14, od, n12, osl, p, p1, q, FB, KF, SF, CL, eqO_ok c22, by rw [k5, ha, hb, hs], c18, hpn, fun s x v => hbi _ _ _ _ _ _ s x v, hln, hfile, htop⟩
    | _ => cases c19
/-! ### the Hook -/
abbrev AlY : Type := AlD × Bool × FnE
def obsY (fa : List Fa) (fn : List DefD) (kd : KD2) (K : Frag) : AlY := (obsD fa fn K, kd.ok K, fnE K kd.d.x)
def valY (fn : List DefD) (kd : KD2) : AlY := (valD fn, true, kd.d.val)
def SaysY (fa : List Fa) (fn : List DefD) (kd : KD2) (K : Frag) : Prop := obsY fa fn kd K = valY fn kd
def obsYG (n : Nat) (fa : List Fa) (fn : List DefD) (kd : KD2) (g : Addr → Option Obj) : AlY := obsY fa fn kd (frG g (cStatics :: asD g n))
def hookY (n : Nat) (fa : List Fa) (fn : List DefD) (kd : KD2) : Hook where
  α := AlY
  obs := fun s => obsYG n fa fn kd s.heap.get?
  val := fun _ => valY fn kd
  says := fun _ h => ∃ K : Frag, K.In h ∧ SaysY fa fn kd K
  of := fun _ _ e => ⟨_, frG_in, e⟩
  keeps := fun _ _ _ ⟨K, hK, c⟩ k => ⟨K, Frag.In.keeps hK k, c⟩
theorem obsYG_eq {n : Nat} {fa : List Fa} {fn : List DefD} {kd : KD2} {g : Addr → Option Obj} {s : Shared} (h : ∀ a, g a = s.heap.get? a) : obsYG n fa fn kd g = (hookY n fa fn kd).obs s := by
  have e : g = s.heap.get? := funext h
  rw [e] <;> rfl
theorem SaysY.d {fa : List Fa} {fn : List DefD} {kd : KD2} {K : Frag} (c : SaysY fa fn kd K) : SaysD fa fn K := congrArg (fun z : AlY => z.1) c
theorem SaysY.k {fa : List Fa} {fn : List DefD} {kd : KD2} {K : Frag} (c : SaysY fa fn kd K) : kd.ok K = true := congrArg (fun z : AlY => z.2.1) c
theorem SaysY.e {fa : List Fa} {fn : List DefD} {kd : KD2} {K : Frag} (c : SaysY fa fn kd K) : fnE K kd.d.x = kd.d.val := congrArg (fun z : AlY => z.2.2) c
end Er
set_option Elab.async false
set_option linter.all false
set_option maxRecDepth 100000
set_option maxHeartbeats 4000000
/-! Tuples that hold a list of the frame's own: defs that hand one back, names that hold one. -/
namespace Fz
open PySem PySem.Spec PyProof.Rows L2
/-- a tuple one item of which is a list that nobody holds yet -/
def VP (K : PySem.W.Frag) (H0 G H : Hp) (ρ : Own) (ds1 l ds2 : List D) (v : V) : Prop :=
  ∃ t q us1 us2 ws, v = .ref t ∧ SqT K G t (us1 ++ .ref q :: us2) ∧ Rps K G us1 ds1 ∧ Rps K G us2 ds2 ∧ H0 q = none ∧ G q = none ∧ ρ q = none ∧ H q = some (.lst ws) ∧ Rps K G ws l
def KnP (K : PySem.W.Frag) (β : Option Addr) (G H : Hp) (ρ : Own) (σ : L2.St) (b : En) (ds1 l ds2 : List D) (Q : VK) : Prop :=
  ∀ v G' H' ρ', Fr G H ρ G' H' ρ' → R K β G' H' ρ' σ b → VP K H G' H' ρ' ds1 l ds2 v → Q v H'
def putT (e : En) (i : Nat) (ds1 l ds2 : List D) : En := { e with sl := e.sl.set i (.tpo ds1 l ds2) }
section
variable {K : PySem.W.Frag} {β : Option Addr} {G H G0 H0 G1 H1 : Hp} {ρ ρ0 ρ1 : Own} {σ : L2.St} {e b : En} {ds1 l ds2 : List D} {Q : VK} {v : V}
theorem VP.back (x : VP K H1 G H ρ ds1 l ds2 v) (f : ∀ p, H1 p = none → H0 p = none) : VP K H0 G H ρ ds1 l ds2 v := by
  obtain ⟨t, q, us1, us2, ws, h1, h2, h3, h4, h5, h6⟩ := x
  exact ⟨t, q, us1, us2, ws, h1, h2, h3, h4, f q h5, h6⟩
theorem KnP.at (q : KnP K β G H ρ σ b ds1 l ds2 Q) (f : Fr G H ρ G1 H1 ρ1) : KnP K β G1 H1 ρ1 σ b ds1 l ds2 Q := fun v G' H' ρ' f' r' x =>
  q v G' H' ρ' (f.trans f') r' (x.back f.dom)
theorem R.claim {i : Nat} {s : Sl} {o : Option V} {q : Addr} {ws : List V} (r : R K β G H ρ σ e) (hi : i < e.sl.length) (hg : G q = none) (hr : ρ q = none) (hh : H q = some (.lst ws)) (hs : SlR K G H (fun z => if z = q then some (i + 1) else ρ z) β i (some o) s) :
    R K β G H (fun z => if z = q then some (i + 1) else ρ z) (σ.set i o) { e with sl := e.sl.set i s } := by
  have hσ : i < σ.length := by rw [r.len]; exact hi
  refine ⟨by simp [r.len], r.ex, fun z hz => ?_, fun j s' hj => ?_, fun z hz => ?_⟩
  · by_cases k : z = q
    · rw [k]; exact ⟨hg, by rw [hh]; simp⟩
    · simp only [k, if_false] at hz; exact r.ow z hz
  · by_cases k : j = i
    · subst k
      simp only [List.getElem?_set, if_true, hi] at hj
      cases hj
      simp only [List.getElem?_set, if_true, hσ]
      exact hs
    · simp only [List.getElem?_set, if_neg (Ne.symm k)] at hj
      have w := r.sl j s' hj
      simp only [List.getElem?_set, if_neg (Ne.symm k)]
      cases s' with
      | no => trivial
      | val d => exact w
      | bag => exact w
      | own l' =>
        obtain ⟨p', vs', w1, w2, w3, w4⟩ := w
        have ne : p' ≠ q := fun z => by rw [z, hr] at w2; cases w2
        exact ⟨p', vs', w1, by simp [ne, w2], w3, w4⟩
      | tpo ds1 l2 ds2 =>
        obtain ⟨t, p', us1, us2, vs', w1, w2, w3, w4, w5, w6, w7⟩ := w
        have ne : p' ≠ q := fun z => by rw [z, hr] at w5; cases w5
        exact ⟨t, p', us1, us2, vs', w1, w2, w3, w4, by simp [ne, w5], w6, w7⟩
  · obtain ⟨b1, ws, b2, b3⟩ := r.bg z hz
    have ne : z ≠ q := fun k => by rw [k, hr] at b1; cases b1
    exact ⟨by simp [ne, b1], ws, b2, b3⟩
theorem Fr.claim {q : Addr} {i : Nat} (f : Fr G0 H0 ρ0 G H ρ) (h0 : H0 q = none) : Fr G0 H0 ρ0 G H (fun z => if z = q then some (i + 1) else ρ z) :=
  ⟨f.ex, fun z u hz hρ => by
    obtain ⟨h1, h2, h3⟩ := f.keep z u hz hρ
    have ne : z ≠ q := fun k => by rw [k, h0] at hz; cases hz
    exact ⟨h1, by simp [ne, h2], h3⟩, f.dom⟩
theorem R.storeT {i : Nat} (r : R K β G H ρ σ e) (hi : i < e.sl.length) (x : VP K H0 G H ρ ds1 l ds2 v) (f : Fr G0 H0 ρ0 G H ρ) : ∃ ρ', R K β G H ρ' (σ.set i (some v)) (putT e i ds1 l ds2) ∧ Fr G0 H0 ρ0 G H ρ' := by
  obtain ⟨t, q, us1, us2, ws, rfl, h2, h3, h4, h5, h6, h7, h8, h9⟩ := x
  exact ⟨_, r.claim hi h6 h7 h8 ⟨t, q, us1, us2, ws, rfl, h2, h3, h4, by simp, h8, h9⟩, f.claim h5⟩
theorem R.putT {i : Nat} {t z : Addr} {us1 us2 ws vs' : List V} {l' : List D} (r : R K β G H ρ σ e) (hs : e.sl[i]? = some (.tpo ds1 l ds2)) (h1 : σ[i]? = some (some (.ref t))) (h2 : SqT K G t (us1 ++ .ref z :: us2)) (h3 : Rps K G us1 ds1) (h4 : Rps K G us2 ds2) (h5 : ρ z = some (i + 1)) (h6 : H z = some (.lst ws)) (hv : Rps K G vs' l') :
    R K β G (upd H z (.lst vs')) ρ σ (putT e i ds1 l' ds2) ∧ Fr G H ρ G (upd H z (.lst vs')) ρ := by
  have hz : ρ z ≠ none := by rw [h5]; simp
  have hg : G z = none := (r.ow z hz).1
  have hlt : i < e.sl.length := (List.getElem?_eq_some_iff.mp hs).1
  constructor
  · refine ⟨by rw [r.len]; simp [Fz.putT], r.ex.mut hg, fun a ha => ⟨(r.ow a ha).1, ?_⟩, fun j s hj => ?_, fun a ha => ?_⟩
    · by_cases k : a = z
      · rw [k, upd_same]; simp
      · rw [upd_ne k]; exact (r.ow a ha).2
    · replace hj : (e.sl.set i (.tpo ds1 l' ds2))[j]? = some s := hj
      by_cases k : j = i
      · subst k
        simp only [List.getElem?_set, if_true, hlt] at hj
        cases hj
        exact ⟨t, z, us1, us2, vs', h1, h2, h3, h4, h5, upd_same, hv⟩
      · simp only [List.getElem?_set, if_neg (Ne.symm k)] at hj
        have w := r.sl j s hj
        cases s with
        | no => trivial
        | bag => exact w
        | val d0 => exact w
        | own l' =>
          obtain ⟨p', vs', w1, w2', w3, w4⟩ := w
          have ne : p' ≠ z := fun q => by rw [q, h5] at w2'; simp at w2'; exact k w2'.symm
          exact ⟨p', vs', w1, w2', by rw [upd_ne ne]; exact w3, w4⟩
        | tpo ds1 l2 ds2 =>
          obtain ⟨t', p', us1, us2, vs', w1, w2', w3, w4, w5, w6, w7⟩ := w
          have ne : p' ≠ z := fun q => by rw [q, h5] at w5; simp at w5; exact k w5.symm
          exact ⟨t', p', us1, us2, vs', w1, w2', w3, w4, w5, by rw [upd_ne ne]; exact w6, w7⟩
    · obtain ⟨b1, ws', b2, b3⟩ := r.bg a ha
      have ne : a ≠ z := fun k => by rw [k, h5] at b1; simp at b1
      exact ⟨b1, ws', by rw [upd_ne ne]; exact b2, b3⟩
  · refine ⟨Evl.Ex.refl G, fun a o ha hr => ⟨?_, hr, id⟩, fun a ha => ?_⟩
    · rw [upd_ne (fun q => hz (by rw [← q]; exact hr))]
      exact ha
    · by_cases k : a = z
      · rw [k, upd_same] at ha; cases ha
      · rw [upd_ne k] at ha; exact ha
end
/-! ### the third promise of a def: a tuple with a new list in it -/
abbrev DnT := List D → Option (List D × List D × List D × List D)
def spT (K : PySem.W.Frag) (fn : Fn) (dT : DnT) : Sp := fun vs H Q _ => ∃ (G : Hp) (β : Option Addr) (ds ds1 l ds2 bs : List D),
  dT ds = some (ds1, l, ds2, bs) ∧ vs.length = fn.ps.length ∧ Ex G H ∧ ArgR K β G H fn.io vs ds ∧
  ∀ v G' H' ρ', Fr G H (r0 β) G' H' ρ' → Ex G' H' → (∀ a, β = some a → G' a = none ∧ ∃ ws, H' a = some (.lst ws) ∧ Rps K G' ws bs) → VP K H G' H' ρ' ds1 l ds2 v → Q v H'
structure FnT (P : Program) (w : World) (K : PySem.W.Frag) (mg : Str → Option Value) (base : Heap) (k : Nat) (x : Str) (fn : Fn) (dT : DnT) : Prop where
  ex : ∃ a fd, mg x = some (.ref a) ∧ PySem.W.keepIn K (.ref a) = true ∧ FnOk P w K mg base CX0 k a fd fn.ps (spT K fn dT) ∧ Binds K fd fn.ps []
  nd : (x == ("__debug__" : Str)) = false
/-- a body that ends with such a tuple -/
def DenSsT (X : Cx) (β : Option Addr) (st : List Stmt) (a : En) (ds1 l ds2 bs : List D) : Prop :=
  ∀ (G H : Hp) (σ : L2.St) (Dn : Ends), R X.K β G H (r0 β) σ a →
    (∀ v G' H' ρ', Fr G H (r0 β) G' H' ρ' → Ex G' H' → (∀ a, β = some a → G' a = none ∧ ∃ ws, H' a = some (.lst ws) ∧ Rps X.K G' ws bs) → VP X.K H G' H' ρ' ds1 l ds2 v → Dn.rt v H') → wSs X st Dn σ H
section
variable {T : Tb} {k : Nat} {sc : Scope} {X : Cx} {β : Option Addr}
theorem app_w (co : Cos T k sc X) : ∀ (n m : Nat) (A : List Stmt) (rs : List RS) {a b : En} {B : List Stmt} {G H : Hp} {ρ : Own} {σ : L2.St} {Dn : Ends}, ckSs T n sc A rs = true → evSs T m rs a = some (.nx b) → R X.K β G H ρ σ a →
    (∀ G' H' ρ' σ', Fr G H ρ G' H' ρ' → R X.K β G' H' ρ' σ' b → wSs X B Dn σ' H') → wSs X (A ++ B) Dn σ H
  | 0, m, A, rs, a, b, B, G, H, ρ, σ, Dn, h, v, r, q => by simp only [ckSs, Bool.false_eq_true] at h
  | n + 1, 0, A, rs, a, b, B, G, H, ρ, σ, Dn, h, v, r, q => by simp only [evSs] at v; cases v
  | n + 1, m + 1, [], [], a, b, B, G, H, ρ, σ, Dn, h, v, r, q => by
    simp only [evSs] at v
    cases v
    exact q G H ρ σ .refl r
  | n + 1, m + 1, [], _ :: _, a, b, B, G, H, ρ, σ, Dn, h, v, r, q => by simp only [ckSs, Bool.false_eq_true] at h
  | n + 1, m + 1, _ :: _, [], a, b, B, G, H, ρ, σ, Dn, h, v, r, q => by simp only [ckSs, Bool.false_eq_true] at h
  | n + 1, m + 1, s :: A, q0 :: rs, a, b, B, G, H, ρ, σ, Dn, h, v, r, q => by
    simp only [ckSs, Bool.and_eq_true] at h
    simp only [evSs, Option.bind_eq_some_iff] at v
    obtain ⟨z, v1, v2⟩ := v
    cases z with
    | nx e =>
      refine ⟨_, pss_cons ps_w pss_w, (sndS_all T k n).S co h.1 v1 G H ρ σ _ r fun G1 H1 ρ1 σ1 f1 r1 => ?_⟩
      exact app_w co n m A rs h.2 v2 r1 fun G2 H2 ρ2 σ2 f2 r2 => q G2 H2 ρ2 σ2 (f1.trans f2) r2
    | rt o d e => cases v2
    | bk e => cases v2
    | ct e => cases v2
/-- return (e1, e2), e2 a new list -/
theorem retN_w {e1 e2 : Expr} {kk : Nat} {pt pos : Pos} {a b c : En} {o1 : Bool} {d1 : D} {l : List D} {G H G1 H1 : Hp} {ρ1 : Own} {σ : L2.St} {Dn : Ends} (s1 : isStar e1 = false) (s2 : isStar e2 = false) (F : Fr G H (r0 β) G1 H1 ρ1) (r : R X.K β G1 H1 ρ1 σ a) (h1 : Den X β e1 a o1 d1 b) (h2 : Den X β e2 b true (.list l) c)
    (q : ∀ v G' H' ρ', Fr G H (r0 β) G' H' ρ' → Ex G' H' → (∀ a, β = some a → G' a = none ∧ ∃ ws, H' a = some (.lst ws) ∧ Rps X.K G' ws c.bg) → VP X.K H G' H' ρ' [d1] l [] v → Dn.rt v H') : wSs X [.Return (some (.Tuple [e1, e2] kk pt)) pos] Dn σ H1 := by
  refine ⟨_, pss_cons ps_w pss_w, ⟨_, ps_ret pe_w, ⟨_, pe_tup (pa_cons pe_w (pa_cons pe_w pa_nil (star_ok s2)) (star_ok s1)), ?_⟩⟩⟩
  refine h1.fz G1 H1 ρ1 σ _ r fun v1 G2 H2 ρ2 f2 r2 x2 => h2 G2 H2 ρ2 σ _ r2 fun v2 G3 H3 ρ3 f3 r3 x3 => ?_
  obtain ⟨p, l', ws, rfl, e2, w3, w4, w5, w6, w7⟩ := x3
  cases e2
  refine ⟨by show 2 ≤ sizeLine; exact len_ok (by decide), fun t ht => ?_⟩
  have ne : p ≠ t := ne_of_none w6 ht
  have f := (f2.trans f3)
  have hp0 : H p = none := F.dom p (f2.dom p w3)
  have r4 := (r3.grow (o := .tup [v1, .ref p]) ht).lock (o := .tup [v1, .ref p]) upd_same (r3.free ht).2 (r3.free ht).1
  have x4 : Ex G3 (upd G3 t (.tup [v1, .ref p])) := Evl.Ex.new (r3.free ht).2
  refine q (.ref t) (upd G3 t (.tup [v1, .ref p])) _ ρ3 (F.trans (f.trans ((Fr.grow ht).lock ht (r3.free ht).2))) r4.ex (fun a ha => ?_) ⟨t, p, [v1], [], ws, rfl, .inl (.inl upd_same), .cons (Rp.mono x4 (Rp.mono f3.ex x2)) .nil, .nil, hp0, by rw [upd_ne ne]; exact w4, w5, by rw [upd_ne ne]; exact w6, w7.mono x4⟩
  obtain ⟨b1, ws', b2, b3⟩ := r4.bg a ha
  exact ⟨(r4.ow a (by rw [b1]; simp)).1, ws', b2, b3⟩
/-- return (x, e2), x a name that owns a list -/
theorem retO_w {x : Str} {e2 : Expr} {kk i : Nat} {px pt pos : Pos} {a c : En} {o2 : Bool} {d2 : D} {l0 l : List D} {G H G1 H1 : Hp} {ρ1 : Own} {σ : L2.St} {Dn : Ends} (hN : X.N[i]? = some x) (hv : Vis X.env.scope x) (hdb : (x == ("__debug__" : Str)) = false) (hcd : (x == ("__classdict__" : Str)) = false) (s2 : isStar e2 = false)
    (F : Fr G H (r0 β) G1 H1 ρ1) (r : R X.K β G1 H1 ρ1 σ a) (h0 : a.sl[i]? = some (.own l0)) (h2 : Den X β e2 a o2 d2 c) (hc : c.sl[i]? = some (.own l))
    (q : ∀ v G' H' ρ', Fr G H (r0 β) G' H' ρ' → Ex G' H' → (∀ a, β = some a → G' a = none ∧ ∃ ws, H' a = some (.lst ws) ∧ Rps X.K G' ws c.bg) → VP X.K H G' H' ρ' [] l [d2] v → Dn.rt v H') : wSs X [.Return (some (.Tuple [.Name x px, e2] kk pt)) pos] Dn σ H1 := by
  refine ⟨_, pss_cons ps_w pss_w, ⟨_, ps_ret pe_w, ⟨_, pe_tup (pa_cons pe_w (pa_cons pe_w pa_nil (star_ok s2)) (star_ok rfl)), ?_⟩⟩⟩
  obtain ⟨p, us, p1, p2, p3, p4⟩ := r.sl i _ h0
  refine peek hN hv hdb hcd p1 (h2.fz G1 H1 ρ1 σ _ r fun v2 G3 H3 ρ3 f3 r3 x3 => ?_)
  obtain ⟨p', ws, w1, w5, w6, w7⟩ := r3.sl i _ hc
  rw [p1] at w1
  cases w1
  refine ⟨by show 2 ≤ sizeLine; exact len_ok (by decide), fun t ht => ?_⟩
  have ne : p ≠ t := ne_of_none w6 ht
  have hg : G3 p = none := (r3.ow p (by rw [w5]; simp)).1
  have FF := F.trans f3
  have hp0 : H p = none := by
    cases z : H p with
    | none => rfl
    | some o =>
      by_cases zb : β = some p
      · obtain ⟨b1, _⟩ := r3.bg p zb
        rw [w5] at b1
        cases b1
      · obtain ⟨_, k2, _⟩ := FF.keep p o z (by unfold r0; rw [if_neg zb])
        rw [w5] at k2
        cases k2
  have r4 := (r3.grow (o := .tup [.ref p, v2]) ht).lock (o := .tup [.ref p, v2]) upd_same (r3.free ht).2 (r3.free ht).1
  have x4 : Ex G3 (upd G3 t (.tup [.ref p, v2])) := Evl.Ex.new (r3.free ht).2
  have F4 := FF.trans ((Fr.grow (o := .tup [.ref p, v2]) ht).lock (o := .tup [.ref p, v2]) ht (r3.free ht).2)
  refine q (.ref t) (upd G3 t (.tup [.ref p, v2])) _ (fun z => if z = p then none else ρ3 z) ⟨F4.ex, fun z o hz hr => ?_, F4.dom⟩ r4.ex (fun a ha => ?_) ⟨t, p, [], [v2], ws, rfl, .inl (.inl upd_same), .nil, .cons (Rp.mono x4 x3) .nil, hp0, by rw [upd_ne ne]; exact hg, by simp, by rw [upd_ne ne]; exact w6, w7.mono x4⟩
  · obtain ⟨k1, k2, k3⟩ := F4.keep z o hz hr
    exact ⟨k1, by simp [k2], k3⟩
  · obtain ⟨b1, ws', b2, b3⟩ := r4.bg a ha
    exact ⟨(r4.ow a (by rw [b1]; simp)).1, ws', b2, b3⟩
end
section
variable {P : Program} {w : World} {K : PySem.W.Frag} {mg : Str → Option Value} {base : Heap}
theorem defT_env {x : Str} {st : Stmt} {p : Addr} {fd : FuncData} {k W : Nat} {fn : Fn} {N : List Str} {fs : List (Str × Fn)} {dT : DnT} (hmg : mg x = some (.ref p)) (F : FnP K x st p fd) (S : FnScope N fn.ps (defScope st)) (B : Bnd x st fn)
    (hb : ∀ y, bltNames.contains y = true → mg y = none) (hf : ∀ (j : Nat) (q : Str × Fn), fs[j]? = some q → Env1 P w K mg base k q.1 q.2)
    (hd : ∀ (X : Cx) (β : Option Addr), Cos ⟨N, fs, W⟩ k (defScope st) X → X.prog = P → X.w = w → X.K = K → X.mg = mg → X.base = base → ∀ ds ds1 l ds2 bs, dT ds = some (ds1, l, ds2, bs) → DenSsT X β (defBody st) (en0 N.length fn.io ds) ds1 l ds2 bs) (nd : (x == ("__debug__" : Str)) = false) :
    FnT P w K mg base (k + 1) x fn dT := by
  have hpl : fn.ps.length ≤ N.length := by have := congrArg List.length S.pre; rw [List.length_take] at this; omega
  refine ⟨⟨p, fd, hmg, F.kp, ?_, FunD.bindsN F B.b⟩, nd⟩
  refine FunD.ok F S (fun vs H Q E h => ?_) (fun cdv A outer s H vs Q E hr h => ?_)
  · obtain ⟨G, β, ds, ds1, l, ds2, bs, h1, h2, _⟩ := h
    exact h2
  · obtain ⟨G, β, ds, ds1, l, ds2, bs, h1, h2, ex, ha, q⟩ := h
    refine ⟨_, PSs.nox pss_w, hd (cxOf CX0 P w K mg base N x (defScope st) p cdv A outer s H E).nox β ⟨⟨rfl, S.nd, rfl, hr, rfl, hb, fun j z hz => ⟨(hf j z hz).ex, (hf j z hz).nd⟩⟩, S.kind, fun _ => rfl, PassesOwn.never⟩ rfl rfl rfl rfl rfl ds ds1 l ds2 bs h1 G H (L2.start N vs) _ (start_R (by rw [h2]; exact hpl) ex ha) fun v G' H' ρ' f' ex' hbag x => ?_⟩
    exact q v G' H' ρ' f' ex' hbag x
theorem FnT.up {k : Nat} {x : Str} {fn : Fn} {dT : DnT} (h : FnT P w K mg base k x fn dT) : ∀ n : Nat, FnT P w K mg base (k + n) x fn dT := fun n => by
  obtain ⟨a, fd, h1, h2, h3, h4⟩ := h.ex
  exact ⟨⟨a, fd, h1, h2, h3.mono (Nat.le_add_right k n), h4⟩, h.nd⟩
end
/-! ### calls -/
def DenP (X : Cx) (β : Option Addr) (e : Expr) (a : En) (ds1 l ds2 : List D) (b : En) : Prop :=
  ∀ (G H : Hp) (ρ : Own) (σ : L2.St) (Q : VK), R X.K β G H ρ σ a → KnP X.K β G H ρ σ b ds1 l ds2 Q → wE X e σ H Q
section
variable {X : Cx} {β : Option Addr} {k : Nat} {x : Str} {fn : Fn} {dT : DnT} {ds1 l ds2 : List D}
theorem rps_all_hide {K : PySem.W.Frag} {G : Hp} {p : Addr} {ws vs : List V} {ds : List D} (hp : G p = some (.lst ws)) (h : ds.all (noL 3) = true) (r : Rps K G vs ds) : Rps K (hide G p) vs ds := rps_hide (fun v d => rp_hide hp 3 v d) vs ds h r
theorem spT_lent {b : En} {i : Nat} {ds es bs bs' : List D} {G H : Hp} {ρ : Own} {σ : L2.St} {us vs : List V} {p : Addr} {Q : VK} {E : XK} (hio : fn.io = false) (hd : dT (ds ++ .list bs :: es) = some (ds1, l, ds2, bs')) (hl : (ds ++ .list bs :: es).length = fn.ps.length) (n1 : ds1.all (noL 3) = true) (n2 : l.all (noL 3) = true) (n3 : ds2.all (noL 3) = true)
    (r : R X.K β G H ρ σ b) (hu : Rps X.K G us ds) (hv : Rps X.K G vs es) (hb : slotL b i = some bs) (hp : σ[i]? = some (some (.ref p))) (q : KnP X.K β G H ρ σ b ds1 l ds2 Q) : spT X.K fn dT (us ++ .ref p :: vs) H Q E := by
  obtain ⟨p', ws, q1, q2, q3, q4⟩ := r.ownAt hb
  rw [hp] at q1
  cases q1
  have hg : G p = none := (r.ow p q4).1
  have x0 : Ex G (upd G p (.lst ws)) := Evl.Ex.new hg
  have x1 : Ex (upd G p (.lst ws)) H := fun a o ha => by
    by_cases z : a = p
    · subst z
      rw [upd_same] at ha
      rw [q2, ha]
    · rw [upd_ne z] at ha
      exact r.ex a o ha
  have hx : Rps X.K (upd G p (.lst ws)) (us ++ .ref p :: vs) (ds ++ .list bs :: es) := (hu.mono x0).append (.cons (.lst (Rd.of upd_same) (q3.mono x0)) (hv.mono x0))
  refine ⟨upd G p (.lst ws), none, ds ++ .list bs :: es, ds1, l, ds2, bs', hd, by rw [hx.length]; exact hl, x1, by rw [hio]; exact ⟨rfl, hx⟩, fun v G' H' ρ' f ex _ y => ?_⟩
  have gp : G' p = some (.lst ws) := f.ex p _ upd_same
  have kp : ∀ a u, H a = some u → H' a = some u ∧ (G a = none → hide G' p a = none) := fun a u ha => by
    obtain ⟨k1, _, k3⟩ := f.keep a u ha rfl
    refine ⟨k1, fun z => ?_⟩
    unfold hide
    by_cases e : a = p
    · rw [if_pos e]
    · rw [if_neg e]
      exact k3 (by rw [upd_ne e]; exact z)
  have kh : ∀ a, ρ a ≠ none → H' a = H a ∧ hide G' p a = none := fun a ha => by
    obtain ⟨h1, h2⟩ := r.ow a ha
    cases z : H a with
    | none => exact absurd z h2
    | some u =>
      obtain ⟨k1, k2⟩ := kp a u z
      exact ⟨k1, k2 h1⟩
  have x2 : Ex G (hide G' p) := fun a o ha => by
    have ne : a ≠ p := fun e => by rw [e, hg] at ha; cases ha
    unfold hide
    rw [if_neg ne]
    exact f.ex a o (by rw [upd_ne ne]; exact ha)
  have x3 : Ex (hide G' p) H' := fun a o ha => by
    unfold hide at ha
    split at ha
    · cases ha
    · exact ex a o ha
  have r' : R X.K β (hide G' p) H' ρ σ b := ⟨r.len, x3, fun a ha => ⟨(kh a ha).2, by rw [(kh a ha).1]; exact (r.ow a ha).2⟩, fun i s hs => (r.sl i s hs).mono x2 fun a ha => (kh a ha).1, fun a ha => by
    obtain ⟨b1, ws, b2, b3⟩ := r.bg a ha
    exact ⟨b1, ws, by rw [(kh a (by rw [b1]; simp)).1]; exact b2, b3.mono x2⟩⟩
  obtain ⟨t, z, us1, us2, zs, y1, y2, y3, y4, y5, y6, y7, y8, y9⟩ := y
  refine q v _ H' ρ ⟨x2, fun a u ha hr => ⟨(kp a u ha).1, hr, (kp a u ha).2⟩, f.dom⟩ r' ⟨t, z, us1, us2, zs, y1, sqt_hide gp y2, rps_all_hide gp n1 y3, rps_all_hide gp n3 y4, y5, ?_, (r.free y5).1, y8, rps_all_hide gp n2 y9⟩
  unfold hide
  split
  · rfl
  · exact y6
/-- f(e, xs), xs an own list that stays -/
theorem denP_lent1 {y : Str} {p pos py : Pos} {e0 : Expr} {a b : En} {i : Nat} {bs bs' : List D} {o0 : Bool} {d0 : D} (F : FnT X.prog X.w X.K X.mg X.base k x fn dT) (hr : Room k X.A) (hg : Gl X x) (hs0 : isStar e0 = false) (hio : fn.io = false)
    (hN : X.N[i]? = some y) (hv : Vis X.env.scope y) (hdb : (y == ("__debug__" : Str)) = false) (hcd : (y == ("__classdict__" : Str)) = false) (he : Den X β e0 a o0 d0 b) (hb : slotL b i = some bs) (hd : dT [d0, .list bs] = some (ds1, l, ds2, bs')) (hl : 2 = fn.ps.length) (n1 : ds1.all (noL 3) = true) (n2 : l.all (noL 3) = true) (n3 : ds2.all (noL 3) = true) :
    DenP X β (.Call (.Name x p) [e0, .Name y py] [] pos) a ds1 l ds2 b := by
  intro G H ρ σ Q r q
  obtain ⟨f, fd, hm, hk, Fk, hbd⟩ := F.ex
  refine ⟨_, pe_call Fk hr hg hm hk hbd .nil pass0 (pa_cons pe_w (pa_cons pe_w pa_nil (star_ok rfl)) (star_ok hs0)) F.nd (star_ok hs0) (stars_ok rfl), ?_⟩
  refine he.fz G H ρ σ _ r fun v0 G0 H0 ρ0 f0 r0' x0 => ?_
  obtain ⟨p0, vs0, p1, p2, p3, p4⟩ := r0'.ownAt hb
  refine peek hN hv hdb hcd p1 ?_
  show spT X.K fn dT [v0, V.ref p0] H0 _ E0
  exact spT_lent (us := [v0]) (ds := [d0]) (vs := []) (es := []) hio hd hl n1 n2 n3 r0' (.cons x0 .nil) .nil hb p1 (q.at f0)
/-- f(bag, e) -/
theorem denP_callIo {y : Str} {p pos py : Pos} {e : Expr} {a b : En} {i : Nat} {bs bs' : List D} {o : Bool} {d : D} (F : FnT X.prog X.w X.K X.mg X.base k x fn dT) (hr : Room k X.A) (hg : Gl X x) (hs : isStar e = false) (hio : fn.io = true)
    (hN : X.N[i]? = some y) (hv : Vis X.env.scope y) (hdb : (y == ("__debug__" : Str)) = false) (hcd : (y == ("__classdict__" : Str)) = false) (h0 : (slotL a i).isSome = true) (he : Den X β e a o d b) (hb : slotL b i = some bs) (hd : dT [.list bs, d] = some (ds1, l, ds2, bs')) (hl : 2 = fn.ps.length) :
    DenP X β (.Call (.Name x p) [.Name y py, e] [] pos) a ds1 l ds2 (putL b i bs') := by
  intro G H ρ σ Q r q
  obtain ⟨f, fd, hm, hk, Fk, hbd⟩ := F.ex
  obtain ⟨l0, h0⟩ := Option.isSome_iff_exists.mp h0
  obtain ⟨p0, vs0, p1, p2, p3, p4⟩ := r.ownAt h0
  refine ⟨_, pe_call Fk hr hg hm hk hbd .nil pass0 (pa_cons pe_w (pa_cons pe_w pa_nil (star_ok hs)) (star_ok rfl)) F.nd rfl (stars_ok (by rw [List.all_cons, hs]; rfl)), peek hN hv hdb hcd p1 (he.fz G H ρ σ _ r fun v0 G1 H1 ρ1 f1 r1 x1 => ?_)⟩
  show spT X.K fn dT [V.ref p0, v0] H1 _ E0
  obtain ⟨p', ws, q1, q2, q3, q4⟩ := r1.ownAt hb
  rw [p1] at q1
  cases q1
  have hg1 : G1 p0 = none := (r1.ow p0 q4).1
  refine ⟨G1, some p0, [.list bs, d], ds1, l, ds2, bs', hd, hl, r1.ex, by rw [hio]; exact ⟨p0, bs, ws, [v0], [d], rfl, rfl, rfl, hg1, q2, q3, .cons x1 .nil⟩, fun v G' H' ρ' f ex hbag x => ?_⟩
  obtain ⟨g', ws', k1, k2⟩ := hbag p0 rfl
  obtain ⟨r', f'⟩ := r1.calledIo hb p1 f ex g' k1 k2
  obtain ⟨t, z, us1, us2, zs, y1, y2, y3, y4, y5, y6, y7, y8, y9⟩ := x
  exact q.at f1 v G' H' ρ1 f' r' ⟨t, z, us1, us2, zs, y1, y2, y3, y4, y5, y6, (r1.free y5).1, y8, y9⟩
/-! ### names that get such a tuple -/
theorem dens_setT {y : Str} {py pos : Pos} {e : Expr} {a b : En} {i : Nat} (nd : X.N.Nodup) (hN : idxOf X.N y = some i) (hs : StOk X y) (hsw : swapsWith e (some (.Name y py)) pos.line X.env = pure false) (hi : i < b.sl.length) (h : DenP X β e a ds1 l ds2 b) :
    DenS X β (.Assign [.Name y py] e pos) a (.nx (putT b i ds1 l ds2)) := fun G H ρ σ Dn r q => by
  refine ⟨_, ps_set nd (idxOf_get hN) hs.1 pe_w hsw hs.2, h G H ρ σ _ r fun v G1 H1 ρ1 f1 r1 x1 => ?_⟩
  obtain ⟨ρ2, r2, f2⟩ := r1.storeT hi x1 f1
  exact q G1 H1 ρ2 _ f2 r2
/-- x, y = e: x gets the list, y the other item -/
theorem dens_unpT {tg e : Expr} {pos : Pos} {a b : En} {i j : Nat} {d : D} {tl : List (Str × Nat)} (nd : X.N.Nodup) (hc : X.calm = true) (ht : tgOf X.N tg = some (.tup [i, j], tl)) (hs : ∀ p ∈ tl, StOk X p.1)
    (h1 : swapsWithSole [tg] e pos.line X.env = pure false) (h2 : swappedStores [tg] e X.env = pure none) (h3 : (assignEach [tg] X.env).map (·.2) = [assign tg X.env]) (h : DenP X β e a [] l [d] b) (hi : i < b.sl.length) (hj : j < b.sl.length) :
    DenS X β (.Assign [tg] e pos) a (.nx (setS (setS b i true (.list l)) j false d)) := fun G H ρ σ Dn r q => by
  refine ⟨_, ps_asg pe_w (pg_tg nd hc ht hs) h1 h2 h3, h G H ρ σ _ r fun v G1 H1 ρ1 f1 r1 x1 => ?_⟩
  obtain ⟨t, z, us1, us2, ws, rfl, y2, y3, y4, y5, y6, y7, y8, y9⟩ := x1
  have e1 : us1 = [] := List.eq_nil_of_length_eq_zero y3.length
  subst e1
  obtain ⟨w, rfl, y4w⟩ := rps1 y4
  have r2 := r1.claim hi y6 y7 y8 (s := .own l) (o := some (.ref z)) ⟨z, ws, rfl, by simp, y8, y9⟩
  have r3 := r2.storeV (i := j) (by simpa using hj) y4w
  have hq := q G1 H1 _ _ (f1.claim (i := i) y5) r3
  exact ⟨t, [.ref z, w], rfl, Evl.ex_t r1.ex y2, rfl, .ref z, [w], rfl, w, [], rfl, rfl, hq⟩
/-! ### what is done with such a name -/
variable {y : Str} {py pos : Pos} {a b : En} {i : Nat}
theorem atI_c0 {a : V} {l : List V} : atI ([a] ++ l) 0 = some a := by
  rw [atI_0]; rfl
theorem atI_c1 {a b : V} {l : List V} : atI ([a] ++ b :: l) 1 = some b := by
  rw [atI_1]; rfl
theorem den_tp0 {d : D} {jz : Nat} {pz : Pos} (hN : X.N[i]? = some y) (hv : Vis X.env.scope y) (hdb : (y == ("__debug__" : Str)) = false) (hcd : (y == ("__classdict__" : Str)) = false) (hs : a.sl[i]? = some (.tpo [d] l ds2)) : Den X β (.Subscript (.Name y py) (.Constant (.int 0) jz pz) pos) a false d a := by
  intro G H ρ σ Q r q
  obtain ⟨t, z, us1, us2, ws, h1, h2, h3, h4, h5, h6, h7⟩ := r.sl i _ hs
  obtain ⟨v, rfl, hv1⟩ := rps1 h3
  refine ⟨_, pe_ix ix_seq pe_w pe_w (ix_ok rfl), peek hN hv hdb hcd h1 ⟨_, pe_int, ?_⟩⟩
  exact .inr (.inl ⟨_, _, 0, v, rfl, rfl, Evl.ex_t r.ex h2, atI_c0, r.flat q hv1⟩)
theorem tp1 {d : D} {jz : Nat} {pz : Pos} {G H : Hp} {ρ : Own} {σ : L2.St} {Q : VK} (hN : X.N[i]? = some y) (hv : Vis X.env.scope y) (hdb : (y == ("__debug__" : Str)) = false) (hcd : (y == ("__classdict__" : Str)) = false) (hs : a.sl[i]? = some (.tpo [d] l ds2)) (r : R X.K β G H ρ σ a)
    (q : ∀ z ws, ρ z = some (i + 1) → H z = some (.lst ws) → Rps X.K G ws l → Q (.ref z) H) : wE X (.Subscript (.Name y py) (.Constant (.int 1) jz pz) pos) σ H Q := by
  obtain ⟨t, z, us1, us2, ws, h1, h2, h3, h4, h5, h6, h7⟩ := r.sl i _ hs
  obtain ⟨v, rfl, hv1⟩ := rps1 h3
  refine ⟨_, pe_ix ix_seq pe_w pe_w (ix_ok rfl), peek hN hv hdb hcd h1 ⟨_, pe_int, ?_⟩⟩
  refine .inr (.inl ⟨_, _, 1, .ref z, rfl, rfl, Evl.ex_t r.ex h2, ?_, q z ws h5 h6 h7⟩)
  exact atI_c1
/-- tuple(t[1]) -/
theorem den_tptup {d : D} {jz : Nat} {pz p pc : Pos} (hN : X.N[i]? = some y) (hv : Vis X.env.scope y) (hdb : (y == ("__debug__" : Str)) = false) (hcd : (y == ("__classdict__" : Str)) = false) (hg : Gl X "tuple") (hm : X.mg "tuple" = none) (hs : a.sl[i]? = some (.tpo [d] l ds2)) :
    Den X β (.Call (.Name "tuple" p) [.Subscript (.Name y py) (.Constant (.int 1) jz pz) pos] [] pc) a false (.tuple l) a := by
  intro G H ρ σ Q r q
  refine ⟨_, pe_callTy call_tuple_of hg hm (by decide +kernel) (pa_cons pe_w pa_nil (star_ok rfl)) (by decide) (by decide) (star_ok rfl) (stars_ok rfl), ?_⟩
  refine tp1 hN hv hdb hcd hs r fun z ws h5 h6 h7 => ?_
  exact ⟨_, _, rfl, .inl ⟨.inl (.inl h6), r.newT h7 q⟩⟩
/-- t[1].append((c,)) -/
theorem den_tpapp {d0 : D} {c : Int} {jz jc kc : Nat} {pz pa cp pc pt : Pos} (hN : X.N[i]? = some y) (hv : Vis X.env.scope y) (hdb : (y == ("__debug__" : Str)) = false) (hcd : (y == ("__classdict__" : Str)) = false) (hln : (pa.endLine == cp.line) = true)
    (hs : a.sl[i]? = some (.tpo [d0] l [])) (hz : l.length < 1000000) :
    Den X β (.Call (.Attribute (.Subscript (.Name y py) (.Constant (.int 1) jz pz) pos) "append" pa) [.Tuple [.Constant (.int c) jc pc] kc pt] [] cp) a false .none (putT a i [d0] (l ++ [.tuple [.int c]]) []) := by
  intro G H ρ σ Q r q
  have st : starEach [Expr.Tuple [.Constant (.int c) jc pc] kc pt] X.env = (false, eval (.Tuple [.Constant (.int c) jc pc] kc pt) X.env) :: starEach [] X.env := star_ok rfl
  obtain ⟨t, z, us1, us2, ws, h1, h2, h3, h4, h5, h6, h7⟩ := r.sl i _ hs
  obtain ⟨v, rfl, hv1⟩ := rps1 h3
  refine ⟨_, pe_bm PySem.F.plainAttrs_list PySem.F.slot_list_append PySem.F.type_list_append mt_append pe_w (pa_cons (pe_tup (pa_cons pe_int pa_nil (star_ok rfl))) pa_nil st) rfl (by rw [st]; rfl) hln st, ?_⟩
  refine ⟨_, pe_ix ix_seq pe_w pe_w (ix_ok rfl), peek hN hv hdb hcd h1 ⟨_, pe_int, ?_⟩⟩
  refine .inr (.inl ⟨_, _, 1, .ref z, rfl, rfl, Evl.ex_t r.ex h2, ?_, .inl ⟨rfl, _, .inl (.inl h6)⟩, by show 1 ≤ sizeLine; exact len_ok (by decide), fun p hp => ?_⟩)
  · exact atI_c1
  have ne : z ≠ p := ne_of_none h6 hp
  have hg := (r.free hp).2
  have r1 := (r.grow (o := .tup [.int c]) hp).lock (o := .tup [.int c]) upd_same hg (r.free hp).1
  have x1 : Ex G (upd G p (.tup [.int c])) := Evl.Ex.new hg
  have hxp : Rp X.K (upd G p (.tup [.int c])) (.ref p) (.tuple [.int c]) := .tup (.inl (.inl upd_same)) (.cons (.int c) .nil)
  have h6' : upd H p (.tup [.int c]) z = some (.lst ws) := by rw [upd_ne ne]; exact h6
  obtain ⟨r2, f2⟩ := r1.putT hs h1 (Evl.ex_t x1 h2) (h3.mono x1) (h4.mono x1) h5 h6' ((h7.mono x1).append (.cons hxp .nil))
  exact ⟨z, ws, .ref p, rfl, rfl, h6', Nat.lt_of_lt_of_le (by rw [h7.length]; exact hz) (by decide), r2.flat (Kn.at q (((Fr.grow hp).lock hp hg).trans f2)) .non⟩
/-- f(e, e', t): the tuple lent -/
theorem den_lentT {p pc : Pos} {e0 e1 : Expr} {c : En} {d0 d1 d2 d : D} {o0 o1 : Bool} {l' : List D} (F : FnAt X k x fn) (hr : Room k X.A) (hg : Gl X x) (hs0 : isStar e0 = false) (hs1 : isStar e1 = false) (hio : fn.io = false)
    (hN : X.N[i]? = some y) (hv : Vis X.env.scope y) (hdb : (y == ("__debug__" : Str)) = false) (hcd : (y == ("__classdict__" : Str)) = false) (he : Den X β e0 a o0 d0 b) (he1 : Den X β e1 b o1 d1 c) (hs : c.sl[i]? = some (.tpo [d2] l [])) (hd : fn.den [d0, d1, .tuple [d2, .list l]] = some (false, d, l')) (hl : 3 = fn.ps.length) (hn : noL 3 d = true) :
    Den X β (.Call (.Name x p) [e0, e1, .Name y py] [] pc) a false d c := by
  intro G H ρ σ Q r q
  obtain ⟨f, fd, hm, hk, Fk, hbd, _⟩ := F.ex
  refine ⟨_, pe_call Fk hr hg hm hk hbd .nil pass0 (pa_cons pe_w (pa_cons pe_w (pa_cons pe_w pa_nil (star_ok rfl)) (star_ok hs1)) (star_ok hs0)) F.nd (star_ok hs0) (stars_ok (by rw [List.all_cons, List.all_cons, hs1]; rfl)), ?_⟩
  refine he.fz G H ρ σ _ r fun v0 G0 H0 ρ0 f0 r0' x0 => ?_
  refine he1.fz G0 H0 ρ0 σ _ r0' fun v1 G1 H1 ρ1 f1 r1 x1 => ?_
  obtain ⟨t, z, us1, us2, ws, h1, h2, h3, h4, h5, h6, h7⟩ := r1.sl i _ hs
  refine peek hN hv hdb hcd h1 ?_
  show spD X.K fn [v0, v1, V.ref t] H1 _ E0
  have hz : ρ1 z ≠ none := by rw [h5]; simp
  have hg1 : G1 z = none := (r1.ow z hz).1
  have xz : Ex G1 (upd G1 z (.lst ws)) := Evl.Ex.new hg1
  have xh : Ex (upd G1 z (.lst ws)) H1 := fun a o ha => by
    by_cases k : a = z
    · subst k
      rw [upd_same] at ha
      rw [h6, ha]
    · rw [upd_ne k] at ha
      exact r1.ex a o ha
  cases h4
  obtain ⟨w2, rfl, hw2⟩ := rps1 h3
  have hx : Rps X.K (upd G1 z (.lst ws)) [v0, v1, .ref t] [d0, d1, .tuple [d2, .list l]] := .cons (Rp.mono xz (Rp.mono f1.ex x0)) (.cons (Rp.mono xz x1) (.cons (.tup (Evl.ex_t xz h2) (.cons (Rp.mono xz hw2) (.cons (.lst (Rd.of upd_same) (h7.mono xz)) .nil))) .nil))
  refine ⟨upd G1 z (.lst ws), none, _, false, d, l', hd, hl, xh, by rw [hio]; exact ⟨rfl, hx⟩, fun v G' H' ρ' f ex _ yv => ?_⟩
  have gp : G' z = some (.lst ws) := f.ex z _ upd_same
  have kp : ∀ a u, H1 a = some u → H' a = some u ∧ (G1 a = none → hide G' z a = none) := fun a u ha => by
    obtain ⟨k1, _, k3⟩ := f.keep a u ha rfl
    refine ⟨k1, fun q => ?_⟩
    unfold hide
    by_cases e : a = z
    · rw [if_pos e]
    · rw [if_neg e]
      exact k3 (by rw [upd_ne e]; exact q)
  have kh : ∀ a, ρ1 a ≠ none → H' a = H1 a ∧ hide G' z a = none := fun a ha => by
    obtain ⟨h1, h2⟩ := r1.ow a ha
    cases q : H1 a with
    | none => exact absurd q h2
    | some u =>
      obtain ⟨k1, k2⟩ := kp a u q
      exact ⟨k1, k2 h1⟩
  have x2 : Ex G1 (hide G' z) := fun a o ha => by
    have ne : a ≠ z := fun e => by rw [e, hg1] at ha; cases ha
    unfold hide
    rw [if_neg ne]
    exact f.ex a o (by rw [upd_ne ne]; exact ha)
  have x3 : Ex (hide G' z) H' := fun a o ha => by
    unfold hide at ha
    split at ha
    · cases ha
    · exact ex a o ha
  have r' : R X.K β (hide G' z) H' ρ1 σ c := ⟨r1.len, x3, fun a ha => ⟨(kh a ha).2, by rw [(kh a ha).1]; exact (r1.ow a ha).2⟩, fun i s hs => (r1.sl i s hs).mono x2 fun a ha => (kh a ha).1, fun a ha => by
    obtain ⟨b1, ws, b2, b3⟩ := r1.bg a ha
    exact ⟨b1, ws, by rw [(kh a (by rw [b1]; simp)).1]; exact b2, b3.mono x2⟩⟩
  exact Kn.at (Kn.at q f0) f1 v _ H' ρ1 ⟨x2, fun a u ha hr => ⟨(kp a u ha).1, hr, (kp a u ha).2⟩, f.dom⟩ r' (rp_hide gp 3 v d hn yv)
end
end Fz
set_option Elab.async false
set_option linter.all false
set_option maxRecDepth 100000
set_option maxHeartbeats 4000000
/-! What raises an error with its attributes, in a loop too; what catches it by a name. -/
namespace Fz
open PySem PySem.Spec PyProof.Rows L2
/-- the wish, behind an error of the class at C whose dict holds fs -/
def OutF (K : PySem.W.Frag) (β : Option Addr) (G H : Hp) (ρ : Own) (b : En) (C : Addr) (fs : List (Str × V)) (W : WX) : Prop :=
  ∀ G' H' ρ' σ' d, Fr G H ρ G' H' ρ' → R K β G' H' ρ' σ' b → H' d = some (.xd fs) → W (.ref C) (some d) σ' H'
theorem OutF.at {K : PySem.W.Frag} {β : Option Addr} {G H G1 H1 : Hp} {ρ ρ1 : Own} {b : En} {C : Addr} {fs : List (Str × V)} {W : WX} (q : OutF K β G H ρ b C fs W) (k : Fr G H ρ G1 H1 ρ1) : OutF K β G1 H1 ρ1 b C fs W :=
  fun G' H' ρ' σ' d f' r' e => q G' H' ρ' σ' d (k.trans f') r' e
def DenF (X : Cx) (β : Option Addr) (e : Expr) (a b : En) (C : Addr) (fs : List (Str × V)) : Prop :=
  ∀ (G H : Hp) (ρ : Own) (σ : L2.St) (W : WX) (Q : VK), Takes X W → R X.K β G H ρ σ a → OutF X.K β G H ρ b C fs W → wE X e σ H Q
def DenSF (X : Cx) (β : Option Addr) (st : Stmt) (a b : En) (C : Addr) (fs : List (Str × V)) : Prop :=
  ∀ (G H : Hp) (ρ : Own) (σ : L2.St) (W : WX) (Dn : Ends), Takes X W → R X.K β G H ρ σ a → OutF X.K β G H ρ b C fs W → wS X st Dn σ H
def DenSsF (X : Cx) (β : Option Addr) (st : List Stmt) (a b : En) (C : Addr) (fs : List (Str × V)) : Prop :=
  ∀ (G H : Hp) (ρ : Own) (σ : L2.St) (W : WX) (Dn : Ends), Takes X W → R X.K β G H ρ σ a → OutF X.K β G H ρ b C fs W → wSs X st Dn σ H
section
variable {X : Cx} {β : Option Addr} {C : Addr} {fs : List (Str × V)} {a b : En}
theorem denssF_here {st : Stmt} {rest : List Stmt} (h : DenSF X β st a b C fs) : DenSsF X β (st :: rest) a b C fs := fun G H ρ σ W Dn tk r q =>
  ⟨_, pss_cons ps_w pss_w, h G H ρ σ W _ tk r q⟩
theorem denssF_cons {st : Stmt} {rest : List Stmt} {m : En} (h1 : DenS X β st a (.nx m)) (h2 : DenSsF X β rest m b C fs) : DenSsF X β (st :: rest) a b C fs := fun G H ρ σ W Dn tk r q =>
  ⟨_, pss_cons ps_w pss_w, h1 G H ρ σ _ r fun G1 H1 ρ1 σ1 f1 r1 => h2 G1 H1 ρ1 σ1 W Dn tk r1 (q.at f1)⟩
theorem denF_if {t : Expr} {A B : List Stmt} {pos : Pos} {m : En} {k : Bool} (h : DenT X β t a k m) (h1 : DenSsF X β (if k then A else B) m b C fs) : DenSF X β (.If t A B pos) a b C fs := fun G H ρ σ W Dn tk r q => by
  refine ⟨_, ps_if pt_w pss_w pss_w, h G H ρ σ _ r fun G1 H1 ρ1 f1 r1 => ?_⟩
  cases k with
  | true => exact h1 G1 H1 ρ1 σ W Dn tk r1 (q.at f1)
  | false => exact h1 G1 H1 ρ1 σ W Dn tk r1 (q.at f1)
theorem denF_ret {e : Expr} {pos : Pos} (h : DenF X β e a b C fs) : DenSF X β (.Return (some e) pos) a b C fs := fun G H ρ σ W Dn tk r q => ⟨_, ps_ret pe_w, h G H ρ σ W _ tk r q⟩
theorem denF_ife {t e1 e2 : Expr} {pos : Pos} {m : En} {k : Bool} (h : DenT X β t a k m) (h1 : DenF X β (if k then e1 else e2) m b C fs) : DenF X β (.IfExp t e1 e2 pos) a b C fs := fun G H ρ σ W Q tk r q => by
  refine ⟨_, pe_ifExp pt_w pe_w pe_w, h G H ρ σ _ r fun G1 H1 ρ1 f1 r1 => ?_⟩
  cases k with
  | true => exact h1 G1 H1 ρ1 σ W _ tk r1 (q.at f1)
  | false => exact h1 G1 H1 ρ1 σ W _ tk r1 (q.at f1)
theorem denF_raise {x f1 f2 c : Str} {p pos pos2 : Pos} {k : Nat} {e : Expr} {o : Bool} {i : Int} (hc : X.calm = true) (T : Er.Kls2 X.prog X.K X.mg x f1 f2 c C) (hr : Room (k + 1) X.A) (hg : Gl X x) (hd : (x == ("__debug__" : Str)) = false) (hs : isStar e = false) (h : Den X β e a o (.int i) b) :
    DenSF X β (.Raise (some (.Call (.Name x p) [e] [] pos)) none pos2) a b C (fld2 f1 f2 c (.int i)) := fun G H ρ σ W Dn tk r q =>
  ⟨_, ps_raiseK2 hc T hr tk hg hd pe_w (star_ok hs), h.fz G H ρ σ _ r fun v G1 H1 ρ1 f1 r1 x1 => by
    cases (show Rp X.K G1 v (.int i) from x1)
    exact ⟨i, rfl, fun d hd => q G1 _ ρ1 σ d (f1.trans (Fr.grow hd)) (r1.grow hd) upd_same⟩⟩
/-- turns that run through -/
def runN (f : D → En → Option SR) : List D → En → Option En
  | [], e => some e
  | d :: ds, e => match f d e with
    | some (.nx e2) => runN f ds e2
    | _ => none
theorem runN_nx {f : D → En → Option SR} {d : D} {ds : List D} {e e2 : En} (h : f d e = some (.nx e2)) : runN f (d :: ds) e = runN f ds e2 := by
  show (match f d e with | some (.nx e2) => runN f ds e2 | _ => none) = _
  rw [h]
theorem denF_for {tg it : Expr} {body : List Stmt} {pos : Pos} {m c : En} {ds pre post : List D} {x : D} {t : Tg} {l : List (Str × Nat)} {f : D → En → Option SR} {e1 e2 : En} (hp : PassesOwn (model X.prog X.w) X.A X.env X.xe) (nd : X.N.Nodup) (hc : X.calm = true)
    (ht : tgOf X.N tg = some (t, l)) (hs : ∀ p ∈ l, StOk X p.1) (hset : isSet it = false) (hi : DenI X β tg it a ds m) (hds : ds = pre ++ x :: post)
    (hf : ∀ d e r, f d e = some r → ∃ e1, stT e t d = some e1 ∧ DenSs X β body e1 r) (h : runN f pre m = some e1) (hst : stT e1 t x = some e2) (hx : DenSsF X β body e2 c C fs) :
    DenSF X β (.For tg it body [] pos) a c C fs := fun G H ρ σ W Dn tk r0 q => by
  refine ⟨_, ps_for hp hc pi_w (pg_tg nd hc ht hs) pss_w (fun x => by cases it <;> first | rfl | cases hset), hi G H ρ σ _ r0 fun J G1 H1 ρ1 f1 r1 wk => ?_⟩
  refine ⟨fun i m σ' H' => m = pre.length - i ∧ i ≤ pre.length ∧ ∃ e G' ρ', Fr G1 H1 ρ1 G' H' ρ' ∧ R X.K β G' H' ρ' σ' e ∧ runN f (pre.drop i) e = some e1, ⟨pre.length, by simp, Nat.zero_le _, m, G1, ρ1, .refl, r1, h⟩, ?_⟩
  rintro i m2 σ2 H2 ⟨rfl, hle, e, G2, ρ2, f2, r2, h2⟩
  have hlen : i < ds.length := by rw [hds]; simp; omega
  by_cases hlt : i < pre.length
  · have hd : ds[i]? = some pre[i] := by rw [hds, List.getElem?_append_left hlt]; exact List.getElem?_eq_getElem hlt
    rw [List.drop_eq_getElem_cons hlt] at h2
    refine .inr ⟨wk.go i G2 H2 f2.ex r2.ex hlen, fun σ' H' => i + 1 ≤ pre.length ∧ ∃ e G' ρ', Fr G1 H1 ρ1 G' H' ρ' ∧ R X.K β G' H' ρ' σ' e ∧ runN f (pre.drop (i + 1)) e = some e1,
      fun σ' H' w => ⟨pre.length - (i + 1), by omega, rfl, w.1, w.2⟩, fun x H' hy => ?_⟩
    obtain ⟨G3, f3, r3, x3⟩ := wk.turn f2.ex r2 hd hy
    unfold runN at h2
    cases z : f pre[i] e with
    | none => rw [z] at h2; cases h2
    | some rr =>
      obtain ⟨e3, st, hb⟩ := hf _ _ _ z
      refine gOf_ok r3 x3 st fun σ4 r4 _ _ => hb G3 H' ρ2 σ4 _ r4 ?_
      rw [z] at h2
      have F : Fr G1 H1 ρ1 G3 H' ρ2 := f2.trans f3
      cases rr with
      | nx e2 => exact fun G5 H5 ρ5 σ5 f5 r5 => ⟨hlt, e2, G5, ρ5, F.trans f5, r5, h2⟩
      | ct e2 => cases h2
      | bk e2 => cases h2
      | rt o d e2 => cases h2
  · have e4 : i = pre.length := by omega
    subst e4
    rw [List.drop_length] at h2
    cases h2
    have hd : ds[pre.length]? = some x := by rw [hds, List.getElem?_append_right (Nat.le_refl _)]; simp
    refine .inr ⟨wk.go _ G2 H2 f2.ex r2.ex hlen, fun _ _ => False, fun _ _ w => w.elim, fun x' H' hy => ?_⟩
    obtain ⟨G3, f3, r3, x3⟩ := wk.turn f2.ex r2 hd hy
    exact gOf_ok r3 x3 hst fun σ4 r4 _ _ => hx G3 H' ρ2 σ4 W _ tk r4 (q.at (f1.trans (f2.trans f3)))
/-! ### a def that raises -/
def spF (K : PySem.W.Frag) (C : Addr) (n : Nat) (ok : List D → List (Str × V) → Prop) : Sp := fun vs H _ E => ∃ (G : Hp) (ds : List D) (fs : List (Str × V)), ok ds fs ∧ vs.length = n ∧ Ex G H ∧ Rps K G vs ds ∧
  ∀ G' H' ρ' d, Fr G H (r0 none) G' H' ρ' → Ex G' H' → H' d = some (.xd fs) → E (.ref C) (some d) H'
/-- a def of the text that raises at some arguments -/
structure FnF (P : Program) (w : World) (K : PySem.W.Frag) (mg : Str → Option Value) (base : Heap) (k : Nat) (x : Str) (fn : Fn) (C : Addr) (ok : List D → List (Str × V) → Prop) : Prop where
  ex : ∃ a fd, mg x = some (.ref a) ∧ PySem.W.keepIn K (.ref a) = true ∧ FnOk P w K mg base (L2.CX P w) k a fd fn.ps (spF K C fn.ps.length ok) ∧ Binds K fd fn.ps [] ∧
    ∀ kw ∈ fn.kws, KBn K fd fn.ps kw.n kw.ks (arr kw.perm) (arr kw.perm)
  nd : (x == ("__debug__" : Str)) = false
variable {k : Nat} {x : Str} {fn : Fn} {ok : List D → List (Str × V) → Prop}
theorem spf_at {G H : Hp} {ρ : Own} {σ : L2.St} {W : WX} {vs : List V} {ds : List D} {Q : VK} (hok : ok ds fs) (hl : ds.length = fn.ps.length) (r : R X.K β G H ρ σ b) (hx : Rps X.K G vs ds) (q : OutF X.K β G H ρ b C fs W) : spF X.K C fn.ps.length ok vs H Q (WE W σ) := by
  refine ⟨G, ds, fs, hok, by rw [hx.length]; exact hl, r.ex, hx, fun G' H' ρ' d k1 ex e => ?_⟩
  obtain ⟨r', k2⟩ := r.called k1 ex
  exact q G' H' ρ σ d k2 r' e
theorem denF_call {p pos : Pos} {e : Expr} {es : List Expr} {ds : List D} (F : FnF X.prog X.w X.K X.mg X.base k x fn C ok) (hr : Room k X.A) (hg : Gl X x) (hs : (e :: es).all (fun e => !isStar e) = true) (ha : DenA X β (e :: es) a ds b) (hok : ok ds fs) (hl : ds.length = fn.ps.length) : DenF X β (.Call (.Name x p) (e :: es) [] pos) a b C fs := by
  intro G H ρ σ W Q tk r q
  obtain ⟨p0, fd, hm, hk, Fk, hb, _⟩ := F.ex
  rw [List.all_cons, Bool.and_eq_true] at hs
  refine ⟨_, pe_callS Fk hr hg hm hk hb (fun σ => passAt tk σ) pa_w F.nd (star_ok (by simpa using hs.1)) (stars_ok hs.2), ha G H ρ σ _ r fun vs G1 H1 ρ1 f1 r1 x1 => ?_⟩
  exact spf_at hok hl r1 x1 (q.at f1)
theorem denF_callK0 {p pos : Pos} {kws : List Keyword} {kw : Kw} {ds : List D} (F : FnF X.prog X.w X.K X.mg X.base k x fn C ok) (hr : Room k X.A) (hg : Gl X x) (hkw : kw ∈ fn.kws) (hn : kwNames kws = some kw.ks) (h0 : kw.n = 0) (hka : DenK X β kws a ds b) (hkl : ds.length = kw.ks.length)
    (hok : ok (arr kw.perm [] ds) fs) (hl : (arr kw.perm ([] : List D) ds).length = fn.ps.length) : DenF X β (.Call (.Name x p) [] kws pos) a b C fs := by
  intro G H ρ σ W Q tk r q
  obtain ⟨p0, fd, hm, hk, Fk, _, hb⟩ := F.ex
  have hb := hb kw hkw
  rw [h0] at hb
  obtain ⟨h1, h2, h3⟩ := kw_ok (pos := pos) (env := X.env) hn
  obtain ⟨tk1, hkp, hkq⟩ := hka G H ρ σ (fun zs H2 => zs.length = kw.ks.length ∧ spF X.K C fn.ps.length ok (arr kw.perm [] zs) H2 Q (WE W σ)) r fun vs G1 H1 ρ1 f1 r1 x1 => ⟨by rw [x1.length]; exact hkl, spf_at hok hl r1 (arr_rps .nil x1 kw.perm) (q.at f1)⟩
  refine ⟨fun σ1 H1 Q1 => σ1 = σ ∧ tk1 σ H1 fun zs H2 => zs.length = kw.ks.length ∧ spF X.K C fn.ps.length ok (arr kw.perm [] zs) H2 Q1 (WE W σ), ⟨fun pins s σ1 H1 Q1 I h => ?_⟩, rfl, hkq⟩
  obtain ⟨rfl, h⟩ := h
  refine wpAny_Call_Name_kw (ld_glob I hg hm ?_ F.nd)
  refine PySem.W.callWith_KW0 (h₀ := X.base) I.ok.mod.kin hk h1 (thn (hkp.run pos pins s σ1 H1 _ I h) fun ws s2 ⟨zs, H2, I2, rz, l2, q2⟩ => ⟨I2.kIn, ?_⟩) (by rw [h3]; rfl)
  rw [h2]
  exact run_fnNS (E := WE W) (vs := []) Fk hr hb (passAt tk σ1) I2 .nil rz rfl l2 q2
end
section
variable {P : Program} {w : World} {K : PySem.W.Frag} {mg : Str → Option Value} {base : Heap} {C : Addr} {ok : List D → List (Str × V) → Prop}
theorem defF_env {x : Str} {st : Stmt} {p : Addr} {fd : FuncData} {k W : Nat} {fn : Fn} {N : List Str} {fs : List (Str × Fn)} (hmg : mg x = some (.ref p)) (F : FnP K x st p fd) (S : FnScope N fn.ps (defScope st)) (B : Bnd x st fn)
    (hb : ∀ y, bltNames.contains y = true → mg y = none) (hf : ∀ (j : Nat) (q : Str × Fn), fs[j]? = some q → Env1 P w K mg base k q.1 q.2)
    (hd : ∀ X : Cx, Cos ⟨N, fs, W⟩ k (defScope st) X → X.prog = P → X.w = w → X.K = K → X.mg = mg → X.base = base → ∀ ds fl, ok ds fl → ∃ b, DenSsF X none (defBody st) (en0 N.length false ds) b C fl) (nd : (x == ("__debug__" : Str)) = false) :
    FnF P w K mg base (k + 1) x fn C ok := by
  refine ⟨⟨p, fd, hmg, F.kp, ?_, FunD.bindsN F B.b, FunD.kbPlain F B⟩, nd⟩
  have hpl : fn.ps.length ≤ N.length := by have := congrArg List.length S.pre; rw [List.length_take] at this; omega
  refine FunD.ok (CX := L2.CX P w) F S (fun vs H Q E h => ?_) (fun cdv A outer s H vs Q E hr h => ?_)
  · obtain ⟨G, ds, fl, _, h2, _⟩ := h
    exact h2
  · obtain ⟨G, ds, fl, h1, h2, ex, hx, q⟩ := h
    obtain ⟨b, hD⟩ := hd (cxOf (L2.CX P w) P w K mg base N x (defScope st) p cdv A outer s H E) ⟨⟨rfl, S.nd, rfl, hr, rfl, hb, fun j z hz => ⟨(hf j z hz).ex, (hf j z hz).nd⟩⟩, S.kind, fun _ => rfl, passes_of rfl⟩ rfl rfl rfl rfl rfl ds fl h1
    exact ⟨_, pss_w, hD G H (r0 none) (L2.start N vs) (fun cls d _ H' => E cls d H') _ (takes_of rfl rfl rfl rfl) (start_R (io := false) (by rw [h2]; exact hpl) ex ⟨rfl, hx⟩) fun G' H' ρ' σ' d f' r' e => q G' H' ρ' d f' r'.ex e⟩
theorem FnF.up {k : Nat} {x : Str} {fn : Fn} (h : FnF P w K mg base k x fn C ok) : ∀ n : Nat, FnF P w K mg base (k + n) x fn C ok := fun n => by
  obtain ⟨a, fd, h1, h2, h3, h4, h5⟩ := h.ex
  exact ⟨⟨a, fd, h1, h2, h3.mono (Nat.le_add_right k n), h4, h5⟩, h.nd⟩
end
/-! ### try .. except x as n: -/
theorem R.setNo {K : PySem.W.Frag} {β : Option Addr} {G H : Hp} {ρ : Own} {σ : L2.St} {e : En} {i : Nat} {o : Option V} (r : R K β G H ρ σ e) (h : e.sl[i]? = some .no) : R K β G H ρ (σ.set i o) e := by
  refine ⟨by rw [List.length_set]; exact r.len, r.ex, r.ow, fun j s hj => ?_, r.bg⟩
  by_cases z : j = i
  · subst z
    rw [h] at hj
    cases hj
    trivial
  · rw [List.getElem?_set_ne (Ne.symm z)]
    exact r.sl j s hj
/-- plain data that a dict of an error may hold -/
inductive VD : V → D → Prop
  | int (i : Int) : VD (.int i) (.int i)
  | str (x : Str) : VD (.str x) (.str x)
theorem VD.rp {K : PySem.W.Frag} {G : Hp} {v : V} {d : D} (h : VD v d) : Rp K G v d := by
  cases h with
  | int i => exact .int i
  | str x => exact .str x
section
variable {X : Cx} {β : Option Addr} {C : Addr} {fs : List (Str × V)} {x n : Str} {a b : En} {r : SR} {body suite : List Stmt} {b0 : Stmt} {np pos pos' : Pos} {i : Nat}
theorem dens_try_as (hs : X.stack = X.env :: X.outer) (hf : X.env.frame = some X.env.locals) (nd : X.N.Nodup) (hi : X.N[i]? = some n) (hln : X.env.kindOf n = some .local) (hc : Names X x (.ref C)) (h : ∀ pn xe, PassesOwn (model X.prog X.w) X.A X.env xe → DenSs (X.tr pn xe) β body a r) :
    DenS X β (.Try body [.ExceptHandler (some (.Name x np)) (some n) (b0 :: suite) pos'] [] [] pos) a r := fun G H ρ σ Dn r0 q =>
  ⟨_, ps_try_as (tb := fun W D σ H => ∀ pn xe, Takes (X.tr pn xe) W → PassesOwn (model X.prog X.w) X.A X.env xe → wSs (X.tr pn xe) body D σ H) (ts := fun _ _ _ _ _ _ => False) hs hf nd hi hln hc takes0
    (fun W pn xe tk po => ⟨fun pins s σ1 H1 D I z => pss_w.run pins s σ1 H1 D I (z pn xe tk po)⟩) (fun _ _ _ _ _ _ _ => ⟨fun _ _ _ _ _ _ z => z.elim⟩), fun pn xe _ po => h pn xe po G H ρ σ Dn r0 q⟩
theorem dens_caught_as {s f : Str} {j kk : Nat} {q1 q2 q3 q4 q5 : Pos} {v : V} {d0 : D} (hs : X.stack = X.env :: X.outer) (hf : X.env.frame = some X.env.locals) (nd : X.N.Nodup) (hi : X.N[i]? = some n) (hln : X.env.kindOf n = some .local) (hv : Vis X.env.scope n) (hnd : (n == ("__debug__" : Str)) = false) (hncd : (n == ("__classdict__" : Str)) = false)
    (hc : Names X x (.ref C)) (te : PySem.W.exmOne X.K (.ref C) (.ref C) = some true) (T : XfC X.K C) (hno : PySem.W.findIn X.K (.ref C) f = some none) (hl : fs.lookup f = some v) (hd : VD v d0) (hb : b.sl[i]? = some .no)
    (h : ∀ pn xe, DenSsF (X.tr pn xe) β body a b C fs) :
    DenS X β (.Try body [.ExceptHandler (some (.Name x np)) (some n) [.Return (some (.Tuple [.Constant (.str s) j q1, .Attribute (.Name n q2) f q3] kk q4)) q5] pos'] [] [] pos) a (.rt false (.tuple [.str s, d0]) b) := fun G H ρ σ Dn r0 q => by
  refine ⟨_, ps_try_as (tb := fun W D σ H => ∀ pn xe, Takes (X.tr pn xe) W → PassesOwn (model X.prog X.w) X.A X.env xe → wSs (X.tr pn xe) body D σ H) (ts := fun a0 cls d D σ H => ∀ oe pn, Zc cls d oe → (∃ vs, oe.data = .fields vs) → wSs (X.suite a0 ((a0, oe) :: pn)) [.Return (some (.Tuple [.Constant (.str s) j q1, .Attribute (.Name n q2) f q3] kk q4)) q5] D σ H) hs hf nd hi hln hc takes0
    (fun W pn xe tk po => ⟨fun pins s σ1 H1 D I z => pss_w.run pins s σ1 H1 D I (z pn xe tk po)⟩) (fun a0 oe cls d pn hz hvs => ⟨fun pins s σ1 H1 D I z => pss_w.run pins s σ1 H1 D I (z oe pn hz hvs)⟩), fun pn xe tk _ => ?_⟩
  refine h pn xe G H ρ σ _ Dn tk r0 fun G' H' ρ' σ' d f' r' e => ⟨true, te, fun _ a0 _ oe pn2 hz hvs => ?_, fun z => Bool.noConfusion z⟩
  have r2 := r'.setNo (o := some (.ref a0)) hb
  have hσ : i < σ'.length := by
    rw [r'.len]
    exact (List.getElem?_eq_some_iff.mp hb).1
  refine ⟨_, pss_cons ps_w pss_w, ⟨_, ps_ret pe_w, ⟨_, pe_tup (pa_cons pe_str (pa_cons (pe_xf T hno hz hvs pe_w) pa_nil (star_ok rfl)) (star_ok rfl)), ?_⟩⟩⟩
  show wE _ _ _ _ _
  refine peek (X := X.suite a0 ((a0, oe) :: pn2)) hi hv hnd hncd (by rw [List.getElem?_set_self hσ]) ⟨rfl, rfl, d, fs, v, rfl, e, hl, ⟨by show 2 ≤ sizeLine; exact len_ok (by decide), fun p hp => ?_⟩⟩
  exact r2.newT (vs := [.str s, v]) (l := [.str s, d0]) (.cons (.str s) (.cons hd.rp .nil)) (fun v' G3 H3 ρ3 f3 r3 x3 => (q.at f') v' G3 H3 ρ3 _ f3 r3 x3) p hp
end
end Fz
set_option Elab.async false
set_option linter.all false
set_option maxRecDepth 100000
set_option maxHeartbeats 4000000
/-! Two bodies by hand: a loop with a raise in it, a try with a name. -/
namespace Fz
open PySem PySem.Spec PyProof.Rows L2
def ckLoopX (T : Tb) (n : Nat) (sc : Scope) (body : List Stmt) (z : Str) (r1 r2 : RS) (t : Tg) (it : RI) (rs : List RS) (q1 : RS) (qt : RT) (qe : RE) : Bool := match body with
  | s1 :: s2 :: .For tg itx (f1 :: .If tt [.Raise (some (.Call (.Name x p) [e] [] p2)) none p3] [] p4 :: frest) [] _ :: _ =>
    (x == z) && (isGl sc z && (ckS T n sc s1 r1 && (ckS T n sc s2 r2 && (ckTg T sc tg t && (!isSet itx && (ckI T n sc tg itx it && (ckS T n sc f1 q1 && (ckT T n sc tt qt && (ckE T n sc e qe && (!isStar e &&
      ckSs T n sc (f1 :: .If tt [.Raise (some (.Call (.Name x p) [e] [] p2)) none p3] [] p4 :: frest) rs))))))))))
  | _ => false
section
variable {T : Tb} {k n m m2 : Nat} {sc : Scope} {X : Cx} {β : Option Addr} {body : List Stmt} {z fa fb cl : Str} {C : Addr}
theorem loopX_ok {r1 r2 : RS} {t : Tg} {it : RI} {rs : List RS} {q1 : RS} {qt : RT} {qe : RE} {a b c d e1 e2 e3 e4 e5 : En} {ds pre post : List D} {x : D} {o : Bool} {i : Int} {j : Nat} (co : Cos T k sc X) (K : Er.Kls2 X.prog X.K X.mg z fa fb cl C) (hd : (z == ("__debug__" : Str)) = false) (hk : k = j + 1) (h : ckLoopX T n sc body z r1 r2 t it rs q1 qt qe = true)
    (v1 : evS T m r1 a = some (.nx b)) (v2 : evS T m r2 b = some (.nx c)) (v3 : evI T m it c = some (ds, d)) (hds : ds = pre ++ x :: post) (hr : runN (bodyF T m2 t rs) pre d = some e1) (st : stT e1 t x = some e2)
    (w1 : evS T m q1 e2 = some (.nx e3)) (w2 : evT T m qt e3 = some (true, e4)) (w3 : evE T m qe e4 = some (o, .int i, e5)) : DenSsF X β body a e5 C (fld2 fa fb cl (.int i)) := by
  unfold ckLoopX at h
  split at h
  · simp only [Bool.and_eq_true, beq_iff_eq, Bool.not_eq_true'] at h
    obtain ⟨rfl, g1, c1, c2, c3, c4, c5, c6, c7, c8, c9, c10⟩ := h
    obtain ⟨tl, t1, t2⟩ := co.tg c3
    have S := sndS_all T k n
    have E := snd_all T k n
    refine denssF_cons (S.S co c1 v1) (denssF_cons (S.S co c2 v2) (denssF_here (denF_for co.po (by rw [co.ok.N]; exact co.ok.nd) co.ok.calm t1 t2 c4 (E.I co.ok c5 v3) hds (f := bodyF T m2 t rs) (fun d e r hf => ?_) hr st ?_)))
    · unfold bodyF at hf
      rw [Option.bind_eq_some_iff] at hf
      obtain ⟨e1, w1, w2⟩ := hf
      exact ⟨e1, w1, S.Ss co c10 w2⟩
    · exact denssF_cons (S.S co c6 w1) (denssF_here (denF_if (k := true) (E.Tt co.ok c7 w2) (denssF_here (denF_raise co.ok.calm K (by rw [← hk]; exact co.ok.room) (co.ok.gl g1) hd c9 (E.E co.ok c8 w3)))))
  · cases h
def ckTryA (T : Tb) (n : Nat) (sc : Scope) (body : List Stmt) (f z nm : Str) (i : Nat) (rt : RT) (rk ra : List RE) (rs : List RS) (ks : List Str) (s1 fld : Str) : Bool := match body with
  | [.Try [.Return (some (.IfExp t (.Call (.Name f1 p1) [] kws p2) (.Call (.Name f2 p5) (e0 :: es) [] p6) p8)) p7] [.ExceptHandler (some (.Name z1 _)) (some n1) [.Return (some (.Tuple [.Constant (.str x1) _ _, .Attribute (.Name n2 _) x2 _] _ _)) _] _] [] [] _] =>
    (f1 == f) && ((f2 == f) && ((z1 == z) && ((n1 == nm) && ((n2 == nm) && ((x1 == s1) && ((x2 == fld) && (isGl sc f && (isGl sc z && (parN T sc nm i && ((slotN T sc nm == some i) && (ckT T n sc t rt && (ckK T n sc kws rk && ((kwNames kws == some ks) && (ckA T n sc (e0 :: es) ra && (noStars (e0 :: es) &&
      ckSs T n sc [.Return (some (.IfExp t (.Call (.Name f1 p1) [] kws p2) (.Call (.Name f2 p5) (e0 :: es) [] p6) p8)) p7] rs)))))))))))))))
  | _ => false
variable {f nm : Str} {i : Nat} {rt : RT} {rk ra : List RE} {rs : List RS} {ks : List Str} {s1 fld : Str} {a b c : En} {r : SR}
theorem tryA_ok (co : Cos T k sc X) (hs : X.stack = X.env :: X.outer) (hf : X.env.frame = some X.env.locals) (gC : X.mg z = some (.ref C)) (hd : (z == ("__debug__" : Str)) = false) (h : ckTryA T n sc body f z nm i rt rk ra rs ks s1 fld = true) (hz : evSs T m rs a = some r) (hr : ∀ e, r ≠ .nx e) : DenSs X β body a r := by
  unfold ckTryA at h
  split at h
  · simp only [Bool.and_eq_true, beq_iff_eq] at h
    obtain ⟨rfl, rfl, rfl, rfl, rfl, rfl, rfl, g1, g2, c1, c2, c3, c4, c5, c6, c7, c8⟩ := h
    obtain ⟨q1, q2⟩ := co.par c1
    exact denss_stop hr (dens_try_as (C := C) hs hf (by rw [co.ok.N]; exact co.ok.nd) (idxOf_get q1) q2 ⟨co.ok.gl g2, hd, .inl gC⟩ fun pn xe po => (sndS_all T k n).Ss (co.tr po) c8 hz)
  · cases h
theorem tryA_caught {fn : Fn} {ok : List D → List (Str × V) → Prop} {kw : Kw} {kk : Bool} {ds : List D} {fs : List (Str × V)} {v : V} {d0 : D} (co : Cos T k sc X) (hs : X.stack = X.env :: X.outer) (hf : X.env.frame = some X.env.locals) (gC : X.mg z = some (.ref C)) (hd : (z == ("__debug__" : Str)) = false)
    (te : PySem.W.exmOne X.K (.ref C) (.ref C) = some true) (Tx : XfC X.K C) (hno : PySem.W.findIn X.K (.ref C) fld = some none) (hl : fs.lookup fld = some v) (hvd : VD v d0) (F : FnF X.prog X.w X.K X.mg X.base k f fn C ok)
    (h : ckTryA T n sc body f z nm i rt rk ra rs ks s1 fld = true) (hb : c.sl[i]? = some .no) (ht : evT T m rt a = some (kk, b)) (hkw : kw ∈ fn.kws) (hks : kw.ks = ks) (hkn : kw.n = 0) (hka : kk = true → evA T m rk b = some (ds, c) ∧ ok (arr kw.perm [] ds) fs ∧ (arr kw.perm ([] : List D) ds).length = fn.ps.length ∧ ds.length = kw.ks.length)
    (hpa : kk = false → evA T m ra b = some (ds, c) ∧ ok ds fs ∧ ds.length = fn.ps.length) : DenSs X β body a (.rt false (.tuple [.str s1, d0]) c) := by
  unfold ckTryA at h
  split at h
  · simp only [Bool.and_eq_true, beq_iff_eq] at h
    obtain ⟨rfl, rfl, rfl, rfl, rfl, rfl, rfl, g1, g2, c1, c2, c3, c4, c5, c6, c7, c8⟩ := h
    obtain ⟨q1, q2⟩ := co.par c1
    obtain ⟨y1, y2, y3, y4⟩ := co.ok.slot c2
    refine denss_stop (fun e q => by cases q) (dens_caught_as (C := C) (fs := fs) (b := c) hs hf (by rw [co.ok.N]; exact co.ok.nd) (idxOf_get q1) q2 y2 y3 y4 ⟨co.ok.gl g2, hd, .inl gC⟩ te Tx hno hl hvd hb (fun pn xe => ?_))
    have ck : Cok T k sc (X.tr pn xe) := co.ok.tr
    have S := snd_all T k n
    have FX : FnF (X.tr pn xe).prog (X.tr pn xe).w (X.tr pn xe).K (X.tr pn xe).mg (X.tr pn xe).base k _ fn C ok := F
    have hT := S.Tt (β := β) ck c3 ht
    refine denssF_here (denF_ret (denF_ife (k := kk) hT ?_))
    cases kk with
    | true =>
      obtain ⟨k1, k2, k3, k4⟩ := hka rfl
      exact denF_callK0 FX ck.room (ck.gl g1) hkw (by rw [hks]; exact c5) hkn (S.Kw ck c4 k1) k4 k2 k3
    | false =>
      obtain ⟨k1, k2, k3⟩ := hpa rfl
      exact denF_call FX ck.room (ck.gl g1) c7 (S.A ck c6 c7 k1).1 k2 k3
  · cases h
end
end Fz
set_option Elab.async false
set_option linter.all false
set_option maxRecDepth 100000
set_option maxHeartbeats 4000000
/-! list(range(n)); two names at once, each with a list of its own; an own list lent beside the bag. -/
namespace Fz
open PySem PySem.Spec PyProof.Rows L2
section
variable {X : Cx} {β : Option Addr}
theorem rps_rng {K : PySem.W.Frag} {G : Hp} (i : Int) : Rps K G (rgV 0 i) (rngD 0 i.toNat) := by
  unfold rgV rngD
  rw [Int.sub_zero]
  generalize List.range i.toNat = l
  induction l with
  | nil => exact .nil
  | cons x l ih => exact .cons (.int _) ih
theorem den_lrg {p p2 pos pos2 : Pos} {e : Expr} {a b : En} {o : Bool} {i : Int} (hc : X.calm = true) (hs : isStar e = false) (hg : Gl X "list") (hm : X.mg "list" = none) (hg2 : Gl X "range") (hm2 : X.mg "range" = none) (h : Den X β e a o (.int i) b) (h0 : 0 ≤ i) (h1 : i ≤ 1000) :
    Den X β (.Call (.Name "list" p) [.Call (.Name "range" p2) [e] [] pos2] [] pos) a true (.list (rngD 0 i.toNat)) b := fun G H ρ σ Q r q =>
  ⟨_, pe_listRg hc hg hm (prg_1 hg2 hm2 pe_w (star_ok hs)) (star_ok rfl), h.fz G H ρ σ _ r fun v G1 H1 ρ1 f1 r1 x1 => by
    cases (show Rp X.K G1 v (.int i) from x1)
    exact ⟨i, rfl, RgOk.of_le (Int.le_refl _) (by omega) (by decide) h0, fun p hp => r1.newL (rps_rng i) (Kn.at q f1) p hp⟩⟩
theorem dens_par2o {x y : Str} {e1 e2 : Expr} {px py pt pt2 pos : Pos} {kt k2 : Nat} {a b c : En} {l1 l2 : List D} {i j : Nat} (hc : X.calm = true) (nd : X.N.Nodup) (h1 : idxOf X.N x = some i) (h2 : idxOf X.N y = some j) (hij : i ≠ j)
    (hx : X.env.scope.names.lookup x = some .local) (hy : X.env.scope.names.lookup y = some .local) (hw : swappedStores [.Tuple [.Name x px, .Name y py] kt pt] (.Tuple [e1, e2] k2 pt2) X.env = pure (some [x, y]))
    (s1 : isStar e1 = false) (s2 : isStar e2 = false) (g1 : Den X β e1 a true (.list l1) b) (g2 : Den X β e2 b true (.list l2) c) (hi : i < c.sl.length) (hj : j < c.sl.length) : DenS X β (.Assign [.Tuple [.Name x px, .Name y py] kt pt] (.Tuple [e1, e2] k2 pt2) pos) a (.nx (setS (setS c i true (.list l1)) j true (.list l2))) := fun G H ρ σ Dn r q => by
  refine ⟨_, ps_par hc nd (idxOf_get h1) (idxOf_get h2) hij hx hy (pa_cons pe_w (pa_cons pe_w pa_nil (star_ok s2)) (star_ok s1)) hw rfl, g1 G H ρ σ _ r fun v G1 H1 ρ1 f1 r1 x1 => g2 G1 H1 ρ1 σ _ r1 fun w G2 H2 ρ2 f2 r2 x2 => ?_⟩
  have y1 := VR.keepR x1 f2
  obtain ⟨p, ρ4, e4, n4, n5, r4, f4, k4⟩ := R.storeO r2 hi y1 (f1.trans f2)
  obtain ⟨p2, l2', vs2, w1, w2, w3, w4, w5, w6, w7⟩ := x2
  have hp1 : H1 p ≠ none := by
    obtain ⟨p', _, _, z1, _, _, _, _, z6, _⟩ := x1
    rw [e4] at z1
    cases z1
    rw [z6]
    simp
  have ne : p2 ≠ p := fun z => hp1 (by rw [← z]; exact w3)
  obtain ⟨p5, ρ5, _, _, _, r5, f5, _⟩ := R.storeO (i := j) r4 (by simpa [setS] using hj) (H0 := H) (l := l2) (v := w) ⟨p2, l2', vs2, w1, w2, f1.dom p2 w3, w4, by rw [k4 p2 ne]; exact w5, w6, w7⟩ f4
  exact ⟨v, w, rfl, q G2 H2 ρ5 _ f5 r5⟩
end
/-! ### rows one after another, the last ones by hand -/
section
variable {T : Tb} {k : Nat} {sc : Scope} {X : Cx} {β : Option Addr}
theorem denss_app (co : Cos T k sc X) : ∀ (n m : Nat) (A : List Stmt) (rs : List RS) {a b : En} {B : List Stmt} {r : SR}, ckSs T n sc A rs = true → evSs T m rs a = some (.nx b) → DenSs X β B b r → DenSs X β (A ++ B) a r
  | 0, m, A, rs, a, b, B, r, h, v, hB => by simp only [ckSs, Bool.false_eq_true] at h
  | n + 1, 0, A, rs, a, b, B, r, h, v, hB => by simp only [evSs] at v; cases v
  | n + 1, m + 1, [], [], a, b, B, r, h, v, hB => by
    simp only [evSs] at v
    cases v
    exact hB
  | n + 1, m + 1, [], _ :: _, a, b, B, r, h, v, hB => by simp only [ckSs, Bool.false_eq_true] at h
  | n + 1, m + 1, _ :: _, [], a, b, B, r, h, v, hB => by simp only [ckSs, Bool.false_eq_true] at h
  | n + 1, m + 1, s :: A, q :: rs, a, b, B, r, h, v, hB => by
    simp only [ckSs, Bool.and_eq_true] at h
    simp only [evSs, Option.bind_eq_some_iff] at v
    obtain ⟨z, v1, v2⟩ := v
    cases z with
    | nx e => exact denss_cons ((sndS_all T k n).S co h.1 v1) (denss_app co n m A rs h.2 v2 hB)
    | rt o d e => cases v2
    | bk e => cases v2
    | ct e => cases v2
theorem denss_appr (co : Cos T k sc X) : ∀ (n m : Nat) (A : List Stmt) (rs : List RS) {a : En} {B : List Stmt} {r : SR}, ckSs T n sc A rs = true → evSs T m rs a = some r → (∀ e, r ≠ .nx e) → DenSs X β (A ++ B) a r
  | 0, m, A, rs, a, B, r, h, v, hr => by simp only [ckSs, Bool.false_eq_true] at h
  | n + 1, 0, A, rs, a, B, r, h, v, hr => by simp only [evSs] at v; cases v
  | n + 1, m + 1, [], [], a, B, r, h, v, hr => by
    simp only [evSs] at v
    cases v
    exact absurd rfl (hr _)
  | n + 1, m + 1, [], _ :: _, a, B, r, h, v, hr => by simp only [ckSs, Bool.false_eq_true] at h
  | n + 1, m + 1, _ :: _, [], a, B, r, h, v, hr => by simp only [ckSs, Bool.false_eq_true] at h
  | n + 1, m + 1, s :: A, q :: rs, a, B, r, h, v, hr => by
    simp only [ckSs, Bool.and_eq_true] at h
    simp only [evSs, Option.bind_eq_some_iff] at v
    obtain ⟨z, v1, v2⟩ := v
    cases z with
    | nx e => exact denss_cons ((sndS_all T k n).S co h.1 v1) (denss_appr co n m A rs h.2 v2 hr)
    | rt o d e => cases v2; exact denss_stop (fun _ q => by cases q) ((sndS_all T k n).S co h.1 v1)
    | bk e => cases v2; exact denss_stop (fun _ q => by cases q) ((sndS_all T k n).S co h.1 v1)
    | ct e => cases v2; exact denss_stop (fun _ q => by cases q) ((sndS_all T k n).S co h.1 v1)
end
/-! ### a def to which the bag and an own list are lent -/
abbrev DnO := List D → List D → Option (D × List D)
def r2 (β p : Addr) : Own := fun a => if a = β then some 0 else if a = p then some 2 else none
def spO (K : PySem.W.Frag) (den : DnO) : Sp := fun vs H Q _ => ∃ (G : Hp) (β p : Addr) (bs l : List D) (d : D) (bs' : List D) (ws us : List V), den bs l = some (d, bs') ∧ vs = [.ref β, .ref p] ∧ β ≠ p ∧ Ex G H ∧ G β = none ∧ G p = none ∧
  H β = some (.lst ws) ∧ Rps K G ws bs ∧ H p = some (.lst us) ∧ Rps K G us l ∧
  ∀ v G' H' ρ', Fr G H (r2 β p) G' H' ρ' → Ex G' H' → (G' β = none ∧ ∃ ws, H' β = some (.lst ws) ∧ Rps K G' ws bs') → (G' p = none ∧ ∃ us, H' p = some (.lst us) ∧ Rps K G' us l) → Rp K G' v d → Q v H'
structure FnO (P : Program) (w : World) (K : PySem.W.Frag) (mg : Str → Option Value) (base : Heap) (k : Nat) (x : Str) (ps : List Str) (den : DnO) : Prop where
  ex : ∃ a fd, mg x = some (.ref a) ∧ PySem.W.keepIn K (.ref a) = true ∧ FnOk P w K mg base CX0 k a fd ps (spO K den) ∧ Binds K fd ps []
  nd : (x == ("__debug__" : Str)) = false
def ckOne (T : Tb) (n : Nat) (sc : Scope) (body : List Stmt) (re : RE) : Bool := match body with
  | [.Return (some e) _] => ckE T n sc e re
  | _ => false
section
variable {P : Program} {w : World} {K : PySem.W.Frag} {mg : Str → Option Value} {base : Heap}
theorem defO_env {x : Str} {st : Stmt} {p : Addr} {fd : FuncData} {k n W : Nat} {fn : Fn} {N : List Str} {fs : List (Str × Fn)} {den : DnO} {re : RE} (hmg : mg x = some (.ref p)) (F : FnP K x st p fd) (S : FnScope N fn.ps (defScope st)) (B : Bnd x st fn) (hN : N.length = 2) (hps : fn.ps.length = 2)
    (hb : ∀ y, bltNames.contains y = true → mg y = none) (hf : ∀ (j : Nat) (q : Str × Fn), fs[j]? = some q → Env1 P w K mg base k q.1 q.2) (hck : ckOne ⟨N, fs, W⟩ n (defScope st) (defBody st) re = true)
    (hd : ∀ bs l d bs', den bs l = some (d, bs') → ∃ m, evE ⟨N, fs, W⟩ m re ⟨[.bag, .own l], bs⟩ = some (false, d, ⟨[.bag, .own l], bs'⟩)) (nd : (x == ("__debug__" : Str)) = false) :
    FnO P w K mg base (k + 1) x fn.ps den := by
  refine ⟨⟨p, fd, hmg, F.kp, ?_, FunD.bindsN F B.b⟩, nd⟩
  refine FunD.ok F S (fun vs H Q E h => ?_) (fun cdv A outer s H vs Q E hr h => ?_)
  · obtain ⟨G, β, p, bs, l, d, bs', ws, us, h1, rfl, _⟩ := h
    exact hps.symm
  · obtain ⟨G, β, q, bs, l, d, bs', ws, us, h1, rfl, ne, ex, g1, g2, a1, a2, a3, a4, fin⟩ := h
    obtain ⟨m, hm⟩ := hd bs l d bs' h1
    have co : Cos ⟨N, fs, W⟩ k (defScope st) (cxOf CX0 P w K mg base N x (defScope st) p cdv A outer s H E).nox := ⟨⟨rfl, S.nd, rfl, hr, rfl, hb, fun j z hz => ⟨(hf j z hz).ex, (hf j z hz).nd⟩⟩, S.kind, fun _ => rfl, PassesOwn.never⟩
    unfold ckOne at hck
    split at hck
    · rename_i e pos hbody
      rw [hbody]
      have hE := (snd_all ⟨N, fs, W⟩ k n).E (β := some β) co.ok hck hm
      have hs : L2.start N [V.ref β, V.ref q] = [some (.ref β), some (.ref q)] := by
        unfold L2.start
        rw [hN]
        rfl
      rw [hs]
      have R0 : R K (some β) G H (r2 β q) [some (.ref β), some (.ref q)] ⟨[.bag, .own l], bs⟩ := by
        refine ⟨rfl, ex, fun a ha => ?_, fun i s hs => ?_, fun a ha => ?_⟩
        · unfold r2 at ha
          by_cases z : a = β
          · rw [z]; exact ⟨g1, by rw [a1]; simp⟩
          · by_cases z2 : a = q
            · rw [z2]; exact ⟨g2, by rw [a3]; simp⟩
            · rw [if_neg z, if_neg z2] at ha; exact absurd rfl ha
        · match i, hs with
          | 0, hs => cases hs; exact ⟨β, rfl, rfl⟩
          | 1, hs => cases hs; exact ⟨q, us, rfl, by unfold r2; rw [if_neg (Ne.symm ne), if_pos rfl], a3, a4⟩
          | i + 2, hs => simp at hs
        · cases ha
          exact ⟨by unfold r2; rw [if_pos rfl], ws, a1, a2⟩
      refine ⟨_, PSs.nox (pss_cons ps_w pss_w), ⟨_, ps_ret pe_w, hE G H (r2 β q) _ _ R0 fun v G' H' ρ' f r x => ?_⟩⟩
      obtain ⟨b1, ws', b2, b3⟩ := r.bg β rfl
      obtain ⟨q', us', w1, w2, w3, w4⟩ := r.sl 1 (.own l) rfl
      cases w1
      exact fin v G' H' ρ' f r.ex ⟨(r.ow β (by rw [b1]; simp)).1, ws', b2, b3⟩ ⟨(r.ow q (by rw [w2]; simp)).1, us', w3, w4⟩ x
    · cases hck
theorem FnO.up {k : Nat} {x : Str} {ps : List Str} {den : DnO} (h : FnO P w K mg base k x ps den) : ∀ n : Nat, FnO P w K mg base (k + n) x ps den := fun n => by
  obtain ⟨a, fd, h1, h2, h3, h4⟩ := h.ex
  exact ⟨⟨a, fd, h1, h2, h3.mono (Nat.le_add_right k n), h4⟩, h.nd⟩
end
section
variable {X : Cx} {β : Option Addr} {k : Nat} {x : Str} {ps : List Str} {den : DnO}
theorem den_callO {y1 y2 : Str} {p pos q1 q2 : Pos} {a : En} {i j : Nat} {l : List D} {d : D} {bs' : List D} (F : FnO X.prog X.w X.K X.mg X.base k x ps den) (hr : Room k X.A) (hg : Gl X x)
    (n1 : X.N[i]? = some y1) (v1 : Vis X.env.scope y1) (d1 : (y1 == ("__debug__" : Str)) = false) (c1 : (y1 == ("__classdict__" : Str)) = false) (n2 : X.N[j]? = some y2) (v2 : Vis X.env.scope y2) (d2 : (y2 == ("__debug__" : Str)) = false) (c2 : (y2 == ("__classdict__" : Str)) = false)
    (h1 : a.sl[i]? = some .bag) (h2 : a.sl[j]? = some (.own l)) (hd : den a.bg l = some (d, bs')) : Den X β (.Call (.Name x p) [.Name y1 q1, .Name y2 q2] [] pos) a false d ⟨a.sl, bs'⟩ := by
  intro G H ρ σ Q r q
  obtain ⟨f, fd, hm, hk, Fk, hbd⟩ := F.ex
  obtain ⟨b0, e1, e2⟩ := r.sl i _ h1
  obtain ⟨b1, ws, b2, b3⟩ := r.bg b0 e1
  obtain ⟨p0, us, w1, w2, w3, w4⟩ := r.sl j _ h2
  have ne : b0 ≠ p0 := fun z => by rw [z, w2] at b1; cases b1
  refine ⟨_, pe_call Fk hr hg hm hk hbd .nil pass0 (pa_cons pe_w (pa_cons pe_w pa_nil (star_ok rfl)) (star_ok rfl)) F.nd rfl (stars_ok rfl), ?_⟩
  refine peek n1 v1 d1 c1 e2 (peek n2 v2 d2 c2 w1 ?_)
  show spO X.K den [V.ref b0, V.ref p0] H _ E0
  refine ⟨G, b0, p0, a.bg, l, d, bs', ws, us, hd, rfl, ne, r.ex, (r.ow b0 (by rw [b1]; simp)).1, (r.ow p0 (by rw [w2]; simp)).1, b2, b3, w3, w4, fun v G' H' ρ' f' ex ⟨g1, ws', k1, k2⟩ ⟨g2, us', k3, k4⟩ xv => ?_⟩
  have kp : ∀ z, ρ z ≠ none → z ≠ b0 → z ≠ p0 → H' z = H z ∧ G' z = none := fun z hz na nb => by
    obtain ⟨o1, o2⟩ := r.ow z hz
    cases e : H z with
    | none => exact absurd e o2
    | some u =>
      obtain ⟨t1, t2, t3⟩ := f'.keep z u e (by unfold r2; rw [if_neg na, if_neg nb])
      exact ⟨t1, t3 o1⟩
  have r' : R X.K β G' H' ρ σ ⟨a.sl, bs'⟩ := by
    refine ⟨r.len, ex, fun z hz => ?_, fun i' s hs => ?_, fun z hz => ?_⟩
    · by_cases na : z = b0
      · rw [na]; exact ⟨g1, by rw [k1]; simp⟩
      · by_cases nb : z = p0
        · rw [nb]; exact ⟨g2, by rw [k3]; simp⟩
        · exact ⟨(kp z hz na nb).2, by rw [(kp z hz na nb).1]; exact (r.ow z hz).2⟩
    · have w := r.sl i' s hs
      cases s with
      | no => trivial
      | bag => exact w
      | val d => obtain ⟨v, t1, t2⟩ := w; exact ⟨v, t1, t2.mono f'.ex⟩
      | own l' =>
        obtain ⟨z, vs, t1, t2, t3, t4⟩ := w
        have na : z ≠ b0 := fun e => by rw [e, b1] at t2; cases t2
        by_cases nb : z = p0
        · subst nb
          rw [w2] at t2
          have ej : j = i' := by
            have := Option.some.inj t2
            omega
          subst ej
          have hs' : a.sl[j]? = some (.own l') := hs
          rw [h2] at hs'
          cases hs'
          exact ⟨z, us', w1, w2, k3, k4⟩
        · exact ⟨z, vs, t1, t2, (kp z (by rw [t2]; simp) na nb).1.trans t3, t4.mono f'.ex⟩
      | tpo ds1 l2 ds2 =>
        obtain ⟨t, z, us1, us2, vs, t1, t2, t3, t4, t5, t6, t7⟩ := w
        have na : z ≠ b0 := fun e => by rw [e, b1] at t5; cases t5
        have nb : z ≠ p0 := fun e => by
          rw [e, w2] at t5
          have ej : j = i' := by
            have := Option.some.inj t5
            omega
          subst ej
          have hs' : a.sl[j]? = some (.tpo ds1 l2 ds2) := hs
          rw [h2] at hs'
          cases hs'
        exact ⟨t, z, us1, us2, vs, t1, Evl.ex_t f'.ex t2, t3.mono f'.ex, t4.mono f'.ex, t5, (kp z (by rw [t5]; simp) na nb).1.trans t6, t7.mono f'.ex⟩
    · rw [e1] at hz
      cases hz
      exact ⟨b1, ws', k1, k2⟩
  refine q v G' H' ρ ⟨f'.ex, fun z u hz hρ => ?_, f'.dom⟩ r' xv
  have na : z ≠ b0 := fun e => by rw [e, b1] at hρ; cases hρ
  have nb : z ≠ p0 := fun e => by rw [e, w2] at hρ; cases hρ
  obtain ⟨t1, t2, t3⟩ := f'.keep z u hz (by unfold r2; rw [if_neg na, if_neg nb])
  exact ⟨t1, hρ, t3⟩
end
end Fz
set_option Elab.async false
set_option linter.all false
set_option maxRecDepth 100000
set_option maxHeartbeats 4000000
/-! A body: two lists at once; rows; a loop that puts pairs into a list of its own; rows. -/
namespace Fz
open PySem PySem.Spec PyProof.Rows L2
def ckTwo (T : Tb) (n : Nat) (sc : Scope) (st : Stmt) (i j : Nat) (re : RE) : Bool := match st with
  | .Assign [.Tuple [.Name x px, .Name y py] _ _] (.Tuple [.Call (.Name l p1) [.Call (.Name r p2) [e] [] p3] [] p4, .List [] p5] _ _) _ =>
    parN T sc x i && (parN T sc y j && ((i != j) && ((swF sc [.Name x px, .Name y py] [.Call (.Name l p1) [.Call (.Name r p2) [e] [] p3] [] p4, .List [] p5] == some (some [x, y])) && (fnBlt sc l "list" && (fnBlt sc r "range" && (!isStar e && ckE T n sc e re))))))
  | _ => false
section
variable {T : Tb} {k n m : Nat} {sc : Scope} {X : Cx} {β : Option Addr}
theorem two_ok {st : Stmt} {i j : Nat} {re : RE} {a b : En} {o : Bool} {v : Int} (co : Cos T k sc X) (h : ckTwo T n sc st i j re = true) (hv : evE T m re a = some (o, .int v, b)) (h0 : 0 ≤ v) (h1 : v ≤ 1000) (hi : i < b.sl.length) (hj : j < b.sl.length) :
    DenS X β st a (.nx (setS (setS b i true (.list (rngD 0 v.toNat))) j true (.list []))) := by
  unfold ckTwo at h
  split at h
  · rename_i x px y py kt pt l p1 r p2 e p3 p4 p5 k2 pt2 pos
    simp only [Bool.and_eq_true, bne_iff_ne, ne_eq, Bool.not_eq_true'] at h
    obtain ⟨a1, a2, n1, sw, b1, b2, s1, c1⟩ := h
    obtain ⟨x1, x2⟩ := co.par a1
    obtain ⟨y1, y2⟩ := co.par a2
    rw [beq_iff_eq] at sw
    obtain ⟨g1, g2, rfl⟩ := fnb co.ok b1
    obtain ⟨g3, g4, rfl⟩ := fnb co.ok b2
    have E := snd_all T k n
    exact dens_par2o co.ok.calm (by rw [co.ok.N]; exact co.ok.nd) x1 y1 n1 x2 y2 (sw_tab (by rw [co.ok.sc]; exact co.kind) (by rw [co.ok.sc]; exact sw)) rfl rfl (den_lrg co.ok.calm s1 g1 g2 g3 g4 (E.E co.ok c1 hv) h0 h1) (den_list dena_nil (by decide)) hi hj
  · cases h
/-! ### the loop that puts pairs in -/
def ofS (den : DnO) (ib i : Nat) (e : En) : Option (D × En) := match e.sl[ib]?, e.sl[i]? with
  | some .bag, some (.own l) => (den e.bg l).map fun z => (z.1, ⟨e.sl, z.2⟩)
  | _, _ => none
def insF (T : Tb) (m : Nat) (den : DnO) (ib i : Nat) (r1 r3 : RE) (t : Tg) : D → En → Option SR := fun d e => (stT e t d).bind fun e1 => (slotL e1 i).bind fun _ => (evE T m r1 e1).bind fun p => (ofS den ib i p.2.2).bind fun w => (ixD w.1 (.int 0)).bind fun d0 => (evE T m r3 w.2).bind fun q => (slotL q.2.2 i).bind fun l => (intV p.2.1).bind fun k =>
  if 0 ≤ k ∧ k ≤ 1000000 ∧ l.length < 1000000 then some (.nx (putL q.2.2 i (l.take k.toNat ++ [.tuple [d0, q.2.1]] ++ l.drop k.toNat))) else none
def ckIns (T : Tb) (n : Nat) (sc : Scope) (st : Stmt) (f : Str) (ib i : Nat) (r1 r3 : RE) (t : Tg) (it : RI) : Bool := match st with
  | .For tg itx [.Expr (.Call (.Attribute (.Name y _) mth pa) [e1, .Tuple [.Subscript (.Call (.Name g _) [.Name b _, .Name y2 _] [] _) (.Constant (.int z) _ _) _, e3] _ _] [] cp) _] [] _ =>
    (mth == ("insert" : Str)) && ((g == f) && ((z == 0) && (isGl sc g && ((slotN T sc y == some i) && ((slotN T sc y2 == some i) && ((slotN T sc b == some ib) && (!isStar e1 && (!isStar e3 && ((pa.endLine == cp.line) && (ckE T n sc e1 r1 && (ckE T n sc e3 r3 && (ckTg T sc tg t && (!isSet itx && ckI T n sc tg itx it)))))))))))))
  | _ => false
theorem ins_ok {st : Stmt} {f : Str} {ib i : Nat} {r1 r3 : RE} {t : Tg} {it : RI} {a b : En} {ds : List D} {r : SR} {m2 : Nat} {den : DnO} {ps : List Str} (co : Cos T k sc X) (F : FnO X.prog X.w X.K X.mg X.base k f ps den) (h : ckIns T n sc st f ib i r1 r3 t it = true)
    (v1 : evI T m it a = some (ds, b)) (v2 : forL (insF T m2 den ib i r1 r3 t) ds b = some r) : DenS X β st a r := by
  unfold ckIns at h
  split at h
  · rename_i tg itx y py mth pa e1 g pg b0 pb y2 py2 pc z jz pz ps' e3 kt pt cp px pos
    simp only [Bool.and_eq_true, beq_iff_eq, Bool.not_eq_true'] at h
    obtain ⟨rfl, rfl, rfl, g1, s1, s2, s3, n1, n3, ln, c1, c3, c4, c5, c6⟩ := h
    obtain ⟨tl, t1, t2⟩ := co.tg c4
    have E := snd_all T k n
    refine dens_for co.po (by rw [co.ok.N]; exact co.ok.nd) co.ok.calm t1 t2 c5 (E.I co.ok c6 v1) (fun d e rr hf => ?_) v2
    unfold insF at hf
    simp only [Option.bind_eq_some_iff] at hf
    obtain ⟨e1', w1, l00, w0, ⟨o1, d1, e2⟩, w2, ⟨d2, e4⟩, w3, d0, w4, ⟨o3, d3, e5⟩, w5, l, w6, kk, w7, hf⟩ := hf
    dsimp only at w3 w4 w5 w6 w7 hf
    split at hf
    · rename_i hk
      cases hf
      refine ⟨e1', w1, ?_⟩
      have hd1 : d1 = .int kk := by
        cases d1 with
        | int i => cases w7; rfl
        | _ => cases w7
      subst hd1
      unfold ofS at w3
      split at w3
      · rename_i l0 q1 q2
        rw [Option.map_eq_some_iff] at w3
        obtain ⟨⟨dz, bz⟩, w3, w8⟩ := w3
        cases w8
        obtain ⟨y1, y3, y4, y5⟩ := co.ok.slot s1
        obtain ⟨u1, u2, u3, u4⟩ := co.ok.slot s2
        obtain ⟨x1, x2, x3, x4⟩ := co.ok.slot s3
        have dOf : Den X β (.Call (.Name g pg) [.Name b0 pb, .Name y2 py2] [] pc) e2 false dz ⟨e2.sl, bz⟩ := den_callO F co.ok.room (co.ok.gl g1) (idxOf_get x1) x2 x3 x4 (idxOf_get u1) u2 u3 u4 q1 q2 w3
        have dIx : Den X β (.Subscript (.Call (.Name g pg) [.Name b0 pb, .Name y2 py2] [] pc) (.Constant (.int 0) jz pz) ps') e2 false d0 ⟨e2.sl, bz⟩ := den_ix rfl dOf den_int w4
        have d3' := E.E (β := β) co.ok c3 w5
        have h0 : (slotL e1' i).isSome = true := by rw [w0]; rfl
        exact denss_cons (dens_expr rfl (den_ins (idxOf_get y1) y3 y4 y5 n1 rfl (by rw [beq_iff_eq]; exact ln) h0 (E.E co.ok c1 w2) (den_tuple (dena_cons rfl dIx (dena_cons n3 d3' dena_nil)) (by show 2 ≤ 1000000; decide)) w6 hk.1 hk.2.1 hk.2.2)) denss_nil
      · cases w3
    · cases hf
  · cases h
end
end Fz
namespace Fz
open PySem PySem.Spec PyProof.Rows L2
/-! ### y = list(x), x staying own -/
def ckCpy (T : Tb) (sc : Scope) (st : Stmt) (i j : Nat) : Bool := match st with
  | .Assign [.Name y _] (.Call (.Name l _) [.Name x _] [] _) _ => (l == ("list" : Str)) && (fnBlt sc l "list" && ((slotN T sc x == some i) && ((idxOf T.N y == some j) && stoOk sc y)))
  | _ => false
theorem cpy_ok {T : Tb} {k : Nat} {sc : Scope} {X : Cx} {β : Option Addr} {st : Stmt} {i j : Nat} {a : En} {l : List D} (co : Cos T k sc X) (h : ckCpy T sc st i j = true) (hl : slotL a i = some l) (hj : j < a.sl.length) : DenS X β st a (.nx (setS a j true (.list l))) := by
  unfold ckCpy at h
  split at h
  · rename_i y py f pf x px pc pos
    simp only [Bool.and_eq_true, beq_iff_eq] at h
    obtain ⟨rfl, b1, s1, h1, h2⟩ := h
    obtain ⟨g1, g2, _⟩ := fnb co.ok b1
    obtain ⟨q1, q2, q3, q4⟩ := co.ok.slot s1
    have D1 : Den X β (.Call (.Name "list" pf) [.Name x px] [] pc) a true (.list l) a := by
      intro G H ρ σ Q r q
      obtain ⟨p, vs, p1, p2, p3, p4⟩ := r.ownAt hl
      refine ⟨_, pe_callTy call_list_of g1 g2 (by decide +kernel) (pa_cons pe_w pa_nil (star_ok rfl)) (by decide) (by decide) (star_ok rfl) (stars_ok rfl), ?_⟩
      exact peek (idxOf_get q1) q2 q3 q4 p1 ⟨_, _, rfl, .inl (.inl (.inl p2)), r.newL p3 q⟩
    refine dens_set (by rw [co.ok.N]; exact co.ok.nd) (by rw [co.ok.N]; exact h1) ⟨?_, .inl (co.fn y)⟩ (swaps_ok rfl) hj D1
    unfold stoOk at h2
    rw [← co.ok.sc] at h2
    unfold L2.Loc
    cases q : X.env.scope.names.lookup y with
    | none => rw [q] at h2; cases h2
    | some kd =>
      rw [q] at h2
      cases kd with
      | «local» => exact .inl rfl
      | cell => exact .inr rfl
      | _ => cases h2
  · cases h
/-- the body of k05's pairs -/
def ckPairs (T : Tb) (n : Nat) (sc : Scope) (body : List Stmt) (f : Str) (r0 : RE) (q1 : RS) (A : List RS) (r1 r3 : RE) (t : Tg) (it : RI) (B : List RS) : Bool := match body with
  | s0 :: s1 :: s2 :: s3 :: s4 :: s5 :: s6 :: s7 :: rest => ckTwo T n sc s0 2 3 r0 && (ckS T n sc s1 q1 && (ckCpy T sc s2 3 5 && (ckSs T n sc [s3, s4, s5, s6] A && (ckIns T n sc s7 f 0 3 r1 r3 t it && ckSs T n sc rest B))))
  | _ => false
section
variable {T : Tb} {k n m m2 : Nat} {sc : Scope} {X : Cx} {β : Option Addr} {body : List Stmt} {f : Str} {r0 : RE} {q1 : RS} {A B : List RS} {r1 r3 : RE} {t : Tg} {it : RI} {a b c d e g e1 e2 : En} {o : Bool} {v : Int} {l : List D} {den : DnO} {ps : List Str} {r : SR} {ds : List D}
theorem pairs_end (co : Cos T k sc X) (h : ckPairs T n sc body f r0 q1 A r1 r3 t it B = true) (v0 : evE T m r0 a = some (o, .int v, b)) (h0 : 0 ≤ v) (h1 : v ≤ 1000) (hi : 2 < b.sl.length) (hj : 3 < b.sl.length)
    (v1 : evS T m q1 (setS (setS b 2 true (.list (rngD 0 v.toNat))) 3 true (.list [])) = some (.nx c)) (hl : slotL c 3 = some l) (hc : 5 < c.sl.length) (v2 : evSs T m A (setS c 5 true (.list l)) = some r) (hr : ∀ e, r ≠ .nx e) : DenSs X β body a r := by
  unfold ckPairs at h
  split at h
  · rename_i s0 s1 s2 s3 s4 s5 s6 s7 rest
    simp only [Bool.and_eq_true] at h
    obtain ⟨c0, c1, c2, c3, c4, c5⟩ := h
    exact denss_cons (two_ok co c0 v0 h0 h1 hi hj) (denss_cons ((sndS_all T k n).S co c1 v1) (denss_cons (cpy_ok co c2 hl hc) (denss_appr co n m [s3, s4, s5, s6] A (B := s7 :: rest) c3 v2 hr)))
  · cases h
theorem pairs_on (co : Cos T k sc X) (F : FnO X.prog X.w X.K X.mg X.base k f ps den) (h : ckPairs T n sc body f r0 q1 A r1 r3 t it B = true) (v0 : evE T m r0 a = some (o, .int v, b)) (h0 : 0 ≤ v) (h1 : v ≤ 1000) (hi : 2 < b.sl.length) (hj : 3 < b.sl.length)
    (v1 : evS T m q1 (setS (setS b 2 true (.list (rngD 0 v.toNat))) 3 true (.list [])) = some (.nx c)) (hl : slotL c 3 = some l) (hc : 5 < c.sl.length) (v2 : evSs T m A (setS c 5 true (.list l)) = some (.nx d)) (v3 : evI T m it d = some (ds, e)) (v4 : forL (insF T m2 den 0 3 r1 r3 t) ds e = some (.nx g)) (v5 : evSs T m B g = some r) : DenSs X β body a r := by
  unfold ckPairs at h
  split at h
  · rename_i s0 s1 s2 s3 s4 s5 s6 s7 rest
    simp only [Bool.and_eq_true] at h
    obtain ⟨c0, c1, c2, c3, c4, c5⟩ := h
    exact denss_cons (two_ok co c0 v0 h0 h1 hi hj) (denss_cons ((sndS_all T k n).S co c1 v1) (denss_cons (cpy_ok co c2 hl hc) (denss_app co n m [s3, s4, s5, s6] A (B := s7 :: rest) c3 v2 (denss_cons (ins_ok co F c4 v3 v4) ((sndS_all T k n).Ss co c5 v5)))))
  · cases h
end
end Fz
set_option Elab.async false
set_option linter.all false
set_option maxRecDepth 100000
set_option maxHeartbeats 1000000
/-! Bodies that end with a tuple that holds a new list; statements on names that hold one; a loop of three turns. -/
namespace Fz
open PySem PySem.Spec PyProof.Rows L2
section
variable {T : Tb} {k n m : Nat} {sc : Scope} {X : Cx} {β : Option Addr} {fn : Fn} {dT : DnT}
theorem last_split {st : List Stmt} {s : Stmt} (h : st.getLast? = some s) : st = st.dropLast ++ [s] := by
  rcases List.eq_nil_or_concat st with rfl | ⟨l, y, rfl⟩
  · simp at h
  · rw [List.concat_eq_append] at h ⊢
    simp at h
    rw [h]
    simp
def ckRN (T : Tb) (n : Nat) (sc : Scope) (body : List Stmt) (rs : List RS) (r1 r2 : RE) : Bool := match body.getLast? with
  | some (.Return (some (.Tuple [e1, e2] _ _)) _) => ckSs T n sc body.dropLast rs && (!isStar e1 && (!isStar e2 && (ckE T n sc e1 r1 && ckE T n sc e2 r2)))
  | _ => false
theorem retN_ok {body : List Stmt} {rs : List RS} {r1 r2 : RE} {a b c d : En} {o1 : Bool} {d1 : D} {l : List D} (co : Cos T k sc X) (h : ckRN T n sc body rs r1 r2 = true) (v : evSs T m rs a = some (.nx b)) (v1 : evE T m r1 b = some (o1, d1, c)) (v2 : evE T m r2 c = some (true, .list l, d)) :
    DenSsT X β body a [d1] l [] d.bg := by
  unfold ckRN at h
  split at h
  · rename_i e1 e2 kk pt pos hb
    simp only [Bool.and_eq_true, Bool.not_eq_true'] at h
    obtain ⟨c1, s1, s2, c2, c3⟩ := h
    intro G H σ Dn r q
    rw [last_split hb]
    have E := snd_all T k n
    exact app_w co n m body.dropLast rs c1 v r fun G1 H1 ρ1 σ1 f1 r1' => retN_w s1 s2 f1 r1' (E.E co.ok c2 v1) (E.E co.ok c3 v2) q
  · cases h
def ckRO (T : Tb) (n : Nat) (sc : Scope) (body : List Stmt) (rs : List RS) (i : Nat) (r2 : RE) : Bool := match body.getLast? with
  | some (.Return (some (.Tuple [.Name x _, e2] _ _)) _) => ckSs T n sc body.dropLast rs && ((slotN T sc x == some i) && (!isStar e2 && ckE T n sc e2 r2))
  | _ => false
theorem retO_ok {body : List Stmt} {rs : List RS} {i : Nat} {r2 : RE} {a b c : En} {o2 : Bool} {d2 : D} {l0 l : List D} (co : Cos T k sc X) (h : ckRO T n sc body rs i r2 = true) (v : evSs T m rs a = some (.nx b)) (h0 : b.sl[i]? = some (.own l0)) (v2 : evE T m r2 b = some (o2, d2, c)) (hc : c.sl[i]? = some (.own l)) :
    DenSsT X β body a [] l [d2] c.bg := by
  unfold ckRO at h
  split at h
  · rename_i x px e2 kk pt pos hb
    simp only [Bool.and_eq_true, Bool.not_eq_true', beq_iff_eq] at h
    obtain ⟨c1, s1, s2, c3⟩ := h
    obtain ⟨y1, y2, y3, y4⟩ := co.ok.slot s1
    intro G H σ Dn r q
    rw [last_split hb]
    have E := snd_all T k n
    exact app_w co n m body.dropLast rs c1 v r fun G1 H1 ρ1 σ1 f1 r1' => retO_w (idxOf_get y1) y2 y3 y4 s2 f1 r1' h0 (E.E co.ok c3 v2) hc q
  · cases h
/-! ### x, y = f(bag, e) -/
def ckUnp (T : Tb) (n : Nat) (sc : Scope) (st : Stmt) (f : Str) (ib i j : Nat) (re : RE) : Bool := match st with
  | .Assign [.Tuple ts kk pt] (.Call (.Name g _) [.Name b _, e] [] _) _ => ckTg T sc (.Tuple ts kk pt) (.tup [i, j]) && ((g == f) && (isGl sc g && ((slotN T sc b == some ib) && (!isStar e && ckE T n sc e re))))
  | _ => false
theorem unp_ok {st : Stmt} {f : Str} {ib i j : Nat} {re : RE} {a b : En} {o : Bool} {d d2 : D} {bs bs' l : List D} (co : Cos T k sc X) (F : FnT X.prog X.w X.K X.mg X.base k f fn dT) (h : ckUnp T n sc st f ib i j re = true) (hio : fn.io = true) (hl : 2 = fn.ps.length) (v : evE T m re a = some (o, d, b)) (h0 : (slotL a ib).isSome = true) (hb : slotL b ib = some bs)
    (hd : dT [.list bs, d] = some ([], l, [d2], bs')) (hi : i < (putL b ib bs').sl.length) (hj : j < (putL b ib bs').sl.length) : DenS X β st a (.nx (setS (setS (putL b ib bs') i true (.list l)) j false d2)) := by
  unfold ckUnp at h
  split at h
  · simp only [Bool.and_eq_true, Bool.not_eq_true', beq_iff_eq] at h
    obtain ⟨c1, rfl, g1, s1, s2, c2⟩ := h
    obtain ⟨tl, t1, t2⟩ := co.tg c1
    obtain ⟨y1, y2, y3, y4⟩ := co.ok.slot s1
    have E := snd_all T k n
    exact dens_unpT (by rw [co.ok.N]; exact co.ok.nd) co.ok.calm t1 t2 swaps_tup rfl rfl (denP_callIo F co.ok.room (co.ok.gl g1) s2 hio (idxOf_get y1) y2 y3 y4 h0 (E.E co.ok c2 v) hb hd hl) hi hj
  · cases h
/-! ### t = f(e, xs) -/
def ckSetT (T : Tb) (n : Nat) (sc : Scope) (st : Stmt) (f : Str) (ix i : Nat) (re : RE) : Bool := match st with
  | .Assign [.Name y _] (.Call (.Name g _) [e, .Name x _] [] _) _ => (idxOf T.N y == some i) && (stoOk sc y && ((g == f) && (isGl sc g && ((slotN T sc x == some ix) && (!isStar e && ckE T n sc e re)))))
  | _ => false
theorem setT_ok {st : Stmt} {f : Str} {ix i : Nat} {re : RE} {a b : En} {o : Bool} {d : D} {bs bs' ds1 l ds2 : List D} (co : Cos T k sc X) (F : FnT X.prog X.w X.K X.mg X.base k f fn dT) (h : ckSetT T n sc st f ix i re = true) (hio : fn.io = false) (hl : 2 = fn.ps.length) (v : evE T m re a = some (o, d, b)) (hb : slotL b ix = some bs)
    (hd : dT [d, .list bs] = some (ds1, l, ds2, bs')) (n1 : ds1.all (noL 3) = true) (n2 : l.all (noL 3) = true) (n3 : ds2.all (noL 3) = true) (hi : i < b.sl.length) : DenS X β st a (.nx (putT b i ds1 l ds2)) := by
  unfold ckSetT at h
  split at h
  · rename_i y py g pg e x px pc pos
    simp only [Bool.and_eq_true, Bool.not_eq_true', beq_iff_eq] at h
    obtain ⟨h1, h2, rfl, g1, s1, s2, c2⟩ := h
    obtain ⟨y1, y2, y3, y4⟩ := co.ok.slot s1
    have E := snd_all T k n
    refine dens_setT (by rw [co.ok.N]; exact co.ok.nd) (by rw [co.ok.N]; exact h1) ⟨?_, .inl (co.fn y)⟩ (swaps_ok rfl) hi (denP_lent1 F co.ok.room (co.ok.gl g1) s2 hio (idxOf_get y1) y2 y3 y4 (E.E co.ok c2 v) hb hd hl n1 n2 n3)
    unfold stoOk at h2
    rw [← co.ok.sc] at h2
    unfold L2.Loc
    cases q : X.env.scope.names.lookup y with
    | none => rw [q] at h2; cases h2
    | some kd =>
      rw [q] at h2
      cases kd with
      | «local» => exact .inl rfl
      | cell => exact .inr rfl
      | _ => cases h2
  · cases h
/-! ### if e or not f(e', e'', t): -/
def ckTst (T : Tb) (n : Nat) (sc : Scope) (st : Stmt) (f : Str) (i : Nat) (rt : RT) (r0 r1 : RE) : Bool := match st with
  | .If (.BoolOp .Or [e, .UnaryOp .Not (.Call (.Name g _) [e0, e1, .Name y _] [] _) _] _) _ [] _ => ckT T n sc e rt && ((g == f) && (isGl sc g && ((slotN T sc y == some i) && (!isStar e0 && (!isStar e1 && (ckE T n sc e0 r0 && ckE T n sc e1 r1))))))
  | _ => false
theorem tst_ok {st : Stmt} {f : Str} {i : Nat} {rt : RT} {r0 r1 : RE} {a b c d : En} {o0 o1 : Bool} {d0 d1 d2 : D} {l l' : List D} (co : Cos T k sc X) (F : FnAt X k f fn) (h : ckTst T n sc st f i rt r0 r1 = true) (hio : fn.io = false) (hl : 3 = fn.ps.length) (vt : evT T m rt a = some (false, b)) (v0 : evE T m r0 b = some (o0, d0, c)) (v1 : evE T m r1 c = some (o1, d1, d))
    (hs : d.sl[i]? = some (.tpo [d2] l [])) (hd : fn.den [d0, d1, .tuple [d2, .list l]] = some (false, .bool true, l')) : DenS X β st a (.nx d) := by
  unfold ckTst at h
  split at h
  · simp only [Bool.and_eq_true, Bool.not_eq_true', beq_iff_eq] at h
    obtain ⟨c0, rfl, g1, s1, s2, s3, c1, c2⟩ := h
    obtain ⟨y1, y2, y3, y4⟩ := co.ok.slot s1
    have E := snd_all T k n
    exact dens_if (k := false) (denw_on (k := false) (E.Tt co.ok c0 vt) rfl (dent_bool1 (dent_not (k := true) (dent_val rfl (den_lentT F co.ok.room (co.ok.gl g1) s2 s3 hio (idxOf_get y1) y2 y3 y4 (E.E co.ok c1 v0) (E.E co.ok c2 v1) hs hd hl rfl) rfl)))).t denss_nil
  · cases h
/-! ### x, y = t[0], tuple(t[1]) -/
def ckTld (T : Tb) (sc : Scope) (st : Stmt) (it i j : Nat) : Bool := match st with
  | .Assign [.Tuple [.Name x px, .Name y py] _ _] (.Tuple [.Subscript (.Name t pt0) (.Constant (.int z0) j0 q0) p0, .Call (.Name f pf) [.Subscript (.Name t2 pt2) (.Constant (.int z1) j1 q1) p1] [] pc] _ _) _ =>
    (z0 == 0) && ((z1 == 1) && ((slotN T sc t == some it) && ((slotN T sc t2 == some it) && (fnBlt sc f "tuple" && (parN T sc x i && (parN T sc y j && ((i != j) &&
      (swF sc [.Name x px, .Name y py] [.Subscript (.Name t pt0) (.Constant (.int z0) j0 q0) p0, .Call (.Name f pf) [.Subscript (.Name t2 pt2) (.Constant (.int z1) j1 q1) p1] [] pc] == some (some [x, y])))))))))
  | _ => false
theorem tld_ok {st : Stmt} {it i j : Nat} {a b : En} {d : D} {l : List D} (co : Cos T k sc X) (h : ckTld T sc st it i j = true) (hs : a.sl[it]? = some (.tpo [d] l [])) (hb : stAll a [i, j] [d, .tuple l] = some b) : DenS X β st a (.nx b) := by
  unfold ckTld at h
  split at h
  · simp only [Bool.and_eq_true, beq_iff_eq, bne_iff_ne, ne_eq] at h
    obtain ⟨rfl, rfl, s1, s2, b1, a1, a2, hne, sw⟩ := h
    obtain ⟨x1, x2⟩ := co.par a1
    obtain ⟨y1, y2⟩ := co.par a2
    obtain ⟨g1, g2, rfl⟩ := fnb co.ok b1
    obtain ⟨t1, t2, t3, t4⟩ := co.ok.slot s1
    obtain ⟨u1, u2, u3, u4⟩ := co.ok.slot s2
    exact dens_par2 co.ok.calm (by rw [co.ok.N]; exact co.ok.nd) x1 y1 hne x2 y2 (sw_tab (by rw [co.ok.sc]; exact co.kind) (by rw [co.ok.sc]; exact sw)) (dena_cons rfl (den_tp0 (idxOf_get t1) t2 t3 t4 hs) (dena_cons rfl (den_tptup (idxOf_get u1) u2 u3 u4 g1 g2 hs) dena_nil)) hb
  · cases h
/-! ### t[1].append((c,)) -/
def ckTap (T : Tb) (sc : Scope) (st : Stmt) (it : Nat) (c : Int) : Bool := match st with
  | .Expr (.Call (.Attribute (.Subscript (.Name t _) (.Constant (.int z) _ _) _) mth pa) [.Tuple [.Constant (.int c') _ _] _ _] [] cp) _ => (mth == ("append" : Str)) && ((z == 1) && ((c' == c) && ((slotN T sc t == some it) && (pa.endLine == cp.line))))
  | _ => false
theorem tap_ok {st : Stmt} {it : Nat} {c : Int} {a : En} {d : D} {l : List D} (co : Cos T k sc X) (h : ckTap T sc st it c = true) (hs : a.sl[it]? = some (.tpo [d] l [])) (hz : l.length < 1000000) : DenS X β st a (.nx (putT a it [d] (l ++ [.tuple [.int c]]) [])) := by
  unfold ckTap at h
  split at h
  · simp only [Bool.and_eq_true, beq_iff_eq] at h
    obtain ⟨rfl, rfl, rfl, s1, ln⟩ := h
    obtain ⟨t1, t2, t3, t4⟩ := co.ok.slot s1
    exact dens_expr rfl (den_tpapp (idxOf_get t1) t2 t3 t4 (by rw [beq_iff_eq]; exact ln) hs hz)
  · cases h
/-! ### three turns -/
open Classical in
theorem dens_for3 {tg it : Expr} {body : List Stmt} {pos : Pos} {a E0 F0 E1 F1 E2 F2 E3 : En} {t : Tg} {l : List (Str × Nat)} (hp : PassesOwn (model X.prog X.w) X.A X.env X.xe) (nd : X.N.Nodup) (hc : X.calm = true) (ht : tgOf X.N tg = some (t, l)) (hs : ∀ p ∈ l, StOk X p.1) (hset : isSet it = false)
    (hi : DenI X β tg it a [.int 0, .int 1, .int 2] E0) (t0 : stT E0 t (.int 0) = some F0) (b0 : DenSs X β body F0 (.nx E1)) (t1 : stT E1 t (.int 1) = some F1) (b1 : DenSs X β body F1 (.nx E2)) (t2 : stT E2 t (.int 2) = some F2) (b2 : DenSs X β body F2 (.nx E3)) : DenS X β (.For tg it body [] pos) a (.nx E3) := by
  let f : D → En → Option SR := fun d e => if d = .int 0 ∧ e = E0 then some (.nx E1) else if d = .int 1 ∧ e = E1 then some (.nx E2) else if d = .int 2 ∧ e = E2 then some (.nx E3) else none
  refine dens_for (f := f) hp nd hc ht hs hset hi (fun d e r hf => ?_) ?_
  · have hf : (if d = .int 0 ∧ e = E0 then some (SR.nx E1) else if d = .int 1 ∧ e = E1 then some (.nx E2) else if d = .int 2 ∧ e = E2 then some (.nx E3) else none) = some r := hf
    by_cases q : d = .int 0 ∧ e = E0
    · rw [if_pos q] at hf
      cases hf
      rw [q.1, q.2]
      exact ⟨F0, t0, b0⟩
    rw [if_neg q] at hf
    by_cases q : d = .int 1 ∧ e = E1
    · rw [if_pos q] at hf
      cases hf
      rw [q.1, q.2]
      exact ⟨F1, t1, b1⟩
    rw [if_neg q] at hf
    by_cases q : d = .int 2 ∧ e = E2
    · rw [if_pos q] at hf
      cases hf
      rw [q.1, q.2]
      exact ⟨F2, t2, b2⟩
    rw [if_neg q] at hf
    cases hf
  · have f0 : f (.int 0) E0 = some (.nx E1) := if_pos ⟨rfl, rfl⟩
    have f1 : f (.int 1) E1 = some (.nx E2) := (if_neg (by rintro ⟨q, _⟩; cases q)).trans (if_pos ⟨rfl, rfl⟩)
    have f2 : f (.int 2) E2 = some (.nx E3) := (if_neg (by rintro ⟨q, _⟩; cases q)).trans ((if_neg (by rintro ⟨q, _⟩; cases q)).trans (if_pos ⟨rfl, rfl⟩))
    rw [forL_nx f0, forL_nx f1, forL_nx f2]
    rfl
end
end Fz
set_option Elab.async false
set_option linter.all false
set_option maxRecDepth 100000
set_option maxHeartbeats 1000000
/-! x.insert(e, f(bag, e' + x)), x staying own. -/
namespace Fz
open PySem PySem.Spec PyProof.Rows L2
section
variable {T : Tb} {k n m : Nat} {sc : Scope} {X : Cx} {β : Option Addr}
theorem den_addO {e0 : Expr} {y : Str} {py pos : Pos} {i : Nat} {a b : En} {l1 l : List D} (hN : X.N[i]? = some y) (hv : Vis X.env.scope y) (hdb : (y == ("__debug__" : Str)) = false) (hcd : (y == ("__classdict__" : Str)) = false) (h1 : Den X β e0 a true (.list l1) b) (hl : slotL b i = some l) (hz : (l1 ++ l).length ≤ 1000000) :
    Den X β (.BinOp e0 .Add (.Name y py) pos) a true (.list (l1 ++ l)) b := by
  intro G H ρ σ Q r q
  refine ⟨_, pe_op op_cat pe_w pe_w, h1 G H ρ σ _ r fun v G1 H1 ρ1 f1 r1 x1 => ?_⟩
  obtain ⟨p, l', vs, rfl, e, w3, w4, w5, w6, w7⟩ := x1
  cases e
  obtain ⟨p2, us, p1, p3, p4, p5⟩ := r1.ownAt hl
  refine peek hN hv hdb hcd p1 ⟨p, p2, vs, us, rfl, rfl, w6, p3, ?_, r1.newL (w7.append p4) (Kn.at q f1)⟩
  rw [w7.length, p4.length, ← List.length_append]
  exact len_ok hz
def listV : D → Option (List D)
  | .list l => some l
  | _ => none
def in2F (T : Tb) (m : Nat) (den : List D → Option (Bool × D × List D)) (ib i : Nat) (r1 r0 : RE) (t : Tg) : D → En → Option SR := fun d e => (stT e t d).bind fun e1 => (slotL e1 i).bind fun _ => (evE T m r1 e1).bind fun p => (slotL p.2.2 ib).bind fun _ => (evE T m r0 p.2.2).bind fun q => (slotL q.2.2 i).bind fun l => (slotL q.2.2 ib).bind fun bs => (listV q.2.1).bind fun l1 =>
  if q.1 = true ∧ (l1 ++ l).length ≤ 1000000 then (den [.list bs, .list (l1 ++ l)]).bind fun w => (slotL (putL q.2.2 ib w.2.2) i).bind fun l' => (intV p.2.1).bind fun kk => if w.1 = false ∧ 0 ≤ kk ∧ kk ≤ 1000000 ∧ l'.length < 1000000 then some (.nx (putL (putL q.2.2 ib w.2.2) i (l'.take kk.toNat ++ [w.2.1] ++ l'.drop kk.toNat))) else none else none
def ckIn2 (T : Tb) (n : Nat) (sc : Scope) (st : Stmt) (f : Str) (ib i : Nat) (r1 r0 : RE) (t : Tg) (it : RI) : Bool := match st with
  | .For tg itx [.Expr (.Call (.Attribute (.Name y _) mth pa) [e1, .Call (.Name g _) [.Name b _, .BinOp e0 .Add (.Name y2 _) _] [] _] [] cp) _] [] _ =>
    (mth == ("insert" : Str)) && ((g == f) && (isGl sc g && ((slotN T sc y == some i) && ((slotN T sc y2 == some i) && ((slotN T sc b == some ib) && (!isStar e1 && ((pa.endLine == cp.line) && (ckE T n sc e1 r1 && (ckE T n sc e0 r0 && (ckTg T sc tg t && (!isSet itx && ckI T n sc tg itx it)))))))))))
  | _ => false
theorem in2_ok {st : Stmt} {f : Str} {ib i : Nat} {r1 r0 : RE} {t : Tg} {it : RI} {a b : En} {ds : List D} {r : SR} {m2 : Nat} {fn : Fn} (co : Cos T k sc X) (F : FnAt X k f fn) (hio : fn.io = true) (hps : 2 = fn.ps.length) (h : ckIn2 T n sc st f ib i r1 r0 t it = true)
    (v1 : evI T m it a = some (ds, b)) (v2 : forL (in2F T m2 fn.den ib i r1 r0 t) ds b = some r) : DenS X β st a r := by
  unfold ckIn2 at h
  split at h
  · simp only [Bool.and_eq_true, beq_iff_eq, Bool.not_eq_true'] at h
    obtain ⟨rfl, rfl, g1, s1, s2, s3, n1, ln, c1, c3, c4, c5, c6⟩ := h
    obtain ⟨tl, t1, t2⟩ := co.tg c4
    have E := snd_all T k n
    refine dens_for co.po (by rw [co.ok.N]; exact co.ok.nd) co.ok.calm t1 t2 c5 (E.I co.ok c6 v1) (fun d e rr hf => ?_) v2
    unfold in2F at hf
    simp only [Option.bind_eq_some_iff] at hf
    obtain ⟨e1', w1, l00, w0, ⟨o1, d1, e2⟩, w2, b00, wb, ⟨o3, d3, e3⟩, w3, l, w4, bs, w5, l1, w6, hf⟩ := hf
    dsimp only at w3 w4 w5 w6 wb hf
    split at hf
    · rename_i hq
      obtain ⟨rfl, hz⟩ := hq
      simp only [Option.bind_eq_some_iff] at hf
      obtain ⟨⟨o4, d4, bs'⟩, w7, l', w8, kk, w9, hf⟩ := hf
      dsimp only at w8 hf
      split at hf
      · rename_i hk
        obtain ⟨rfl, k0, k1, k2⟩ := hk
        cases hf
        refine ⟨e1', w1, ?_⟩
        have hd1 : d1 = .int kk := by
          cases d1 with
          | int i => cases w9; rfl
          | _ => cases w9
        subst hd1
        have hd3 : d3 = .list l1 := by
          cases d3 with
          | list i => cases w6; rfl
          | _ => cases w6
        subst hd3
        obtain ⟨y1, y3, y4, y5⟩ := co.ok.slot s1
        obtain ⟨u1, u2, u3, u4⟩ := co.ok.slot s2
        obtain ⟨x1, x2, x3, x4⟩ := co.ok.slot s3
        have h0 : (slotL e1' i).isSome = true := by rw [w0]; rfl
        have hb0 : (slotL e2 ib).isSome = true := by rw [wb]; rfl
        exact denss_cons (dens_expr rfl (den_ins (idxOf_get y1) y3 y4 y5 n1 rfl (by rw [beq_iff_eq]; exact ln) h0 (E.E co.ok c1 w2)
          (den_callIo F co.ok.room (co.ok.gl g1) rfl hio (idxOf_get x1) x2 x3 x4 hb0 (dena_cons rfl (den_addO (idxOf_get u1) u2 u3 u4 (E.E co.ok c3 w3) w4 hz) dena_nil) w5 w7 hps) w8 k0 k1 k2)) denss_nil
      · cases hf
    · cases hf
  · cases h
end
end Fz
set_option Elab.async false
set_option linter.all false
set_option maxRecDepth 100000
set_option maxHeartbeats 1000000
/-! Rows, a loop that inserts, return (x, e). -/
namespace Fz
open PySem PySem.Spec PyProof.Rows L2
section
variable {T : Tb} {k n m m2 : Nat} {sc : Scope} {X : Cx} {β : Option Addr}
def ckSome (T : Tb) (n : Nat) (sc : Scope) (body : List Stmt) (rs : List RS) (f : Str) (ib i : Nat) (r1 r0 : RE) (t : Tg) (it : RI) (r2 : RE) : Bool := match body with
  | [s0, s1, s2, s3, s4, .Return (some (.Tuple [.Name x _, e2] _ _)) _] => ckSs T n sc [s0, s1, s2, s3] rs && (ckIn2 T n sc s4 f ib i r1 r0 t it && ((slotN T sc x == some i) && (!isStar e2 && ckE T n sc e2 r2)))
  | _ => false
theorem some_ok {body : List Stmt} {rs : List RS} {f : Str} {ib i : Nat} {r1 r0 r2 : RE} {t : Tg} {it : RI} {a b c d e : En} {ds l0 l : List D} {fn : Fn} {o2 : Bool} {d2 : D} (co : Cos T k sc X) (F : FnAt X k f fn) (hio : fn.io = true) (hps : 2 = fn.ps.length) (h : ckSome T n sc body rs f ib i r1 r0 t it r2 = true)
    (v : evSs T m rs a = some (.nx b)) (v1 : evI T m it b = some (ds, c)) (v2 : forL (in2F T m2 fn.den ib i r1 r0 t) ds c = some (.nx d)) (h0 : d.sl[i]? = some (.own l0)) (vr : evE T m r2 d = some (o2, d2, e)) (he : e.sl[i]? = some (.own l)) : DenSsT X β body a [] l [d2] e.bg := by
  unfold ckSome at h
  split at h
  · rename_i s0 s1 s2 s3 s4 x px e2 kk pt pos
    simp only [Bool.and_eq_true, Bool.not_eq_true', beq_iff_eq] at h
    obtain ⟨c1, c2, n1, n2, c3⟩ := h
    obtain ⟨y1, y2, y3, y4⟩ := co.ok.slot n1
    intro G H σ Dn r q
    have E := snd_all T k n
    refine app_w co n m [s0, s1, s2, s3] rs (B := [s4, .Return (some (.Tuple [.Name x px, e2] kk pt)) pos]) c1 v r fun G1 H1 ρ1 σ1 f1 r1' => ?_
    refine ⟨_, pss_cons ps_w pss_w, in2_ok co F hio hps c2 v1 v2 G1 H1 ρ1 σ1 _ r1' fun G2 H2 ρ2 σ2 f2 r2' => ?_⟩
    exact retO_w (idxOf_get y1) y2 y3 y4 n2 (f1.trans f2) r2' h0 (E.E co.ok c3 vr) he q
  · cases h
end
end Fz
set_option Elab.async false
set_option linter.all false
set_option maxRecDepth 100000
set_option maxHeartbeats 4000000
namespace K03
open PySem PySem.Spec PyProof.Rows L2 Fz W1 K05
variable {fs : List (Str × Fn)} {N : List Str} {j j13 j14 j21 j25 j26 : Nat} {P : Prm}
theorem d_of_at {b : Bag} {xs : List D} (h : Inv b 999999999) (h0 : xs ≠ []) (h1 : xs.length < 1000) : d_of [.list (bagD b), .list xs] = some (false, (ofL b xs).1, bagD (ofL b xs).2) := by
  unfold d_of withBag
  dsimp only
  rw [bagOf_D]
  simp only [Option.bind_some]
  rw [if_pos h, if_pos ⟨h0, h1⟩]
  rfl
theorem P97 (P : Prm) : 2 ≤ (P.1 : Int) ∧ (P.1 : Int) < 100 := by
  have := PR_le P.2
  omega
/-- forms that are multiples of C -/
def Ok (C : Po P) (l : List (Po P)) : Prop := ∀ f ∈ l, f.len ≤ 60 ∧ Dv C f
theorem Ok.nil {C : Po P} : Ok C ([] : List (Po P)) := fun f h => by cases h
theorem Ok.cons {C f : Po P} {l : List (Po P)} (h : f.len ≤ 60 ∧ Dv C f) (k : Ok C l) : Ok C (f :: l) := fun g hg => by
  rcases List.mem_cons.mp hg with rfl | hg
  · exact h
  · exact k g hg
theorem gm_loop (T : Tb) (h21 : At T.fs j21 false 3 d_multiply) (h25 : At T.fs j25 true 3 W1.d_form) {C : Po P} (lC : C.len ≤ 5) {deg : Int} (d0 : 0 ≤ deg) (d1 : deg ≤ 40) {s4 : Sl} (m : Nat) : ∀ (k : Nat) (s : Int) (b : Bag) (n : Int), Inv b n → n + 43 * k ≤ 999900000 →
    ∃ (l : List (Po P)) (b' : Bag), lcL (evC T (m + 15) (.one 5) [5] none (.app j21 [(.nm 1), (.nm 2), (.appio j25 0 [(.nm 1), (.nm 3)])])) (rngD s k) ⟨[.bag, .val (.int P.1), .val (.tuple (I C.f)), .val (.int deg), s4, .no], bagD b⟩ = some (Ft l, ⟨[.bag, .val (.int P.1), .val (.tuple (I C.f)), .val (.int deg), s4, .no], bagD b'⟩) ∧
      Inv b' (n + 43 * k) ∧ l.length = k ∧ Ok C l
  | 0, s, b, n, h, _ => ⟨[], b, rfl, h.up (by omega), rfl, .nil⟩
  | k + 1, s, b, n, h, hn => by
    obtain ⟨p0, p1⟩ := P97 P
    obtain ⟨i1, f1, f2⟩ := form_inv (p := (P.1 : Int)) (deg := deg) h (by omega) d0 d1
    have c25 := call_lform h25 (p := P.1) (deg := deg) (b := b) (h.up (by omega)) (by omega) p1 d0 d1
    generalize hF : formB b P.1 deg = R at *
    obtain ⟨F, b1⟩ := R
    dsimp only at i1 f1 f2 c25
    obtain ⟨l, b', e, i2, h3, h4⟩ := gm_loop T h21 h25 lC d0 d1 (s4 := s4) m k (s + 1) b1 (n + 43) i1 (by omega)
    have c21 := call_mulP h21 C ⟨F, f1⟩ (by omega) (by show F.length ≤ 1000; omega)
    change cAt T.fs j21 [_, _, .tuple (I F)] = _ at c21
    refine ⟨C * ⟨F, f1⟩ :: l, b', ?_, i2.up (by omega), by rw [List.length_cons, h3], .cons ⟨?_, ⟨⟨F, f1⟩, by grind⟩⟩ h4⟩
    · rw [rngD_succ]
      unfold lcL
      have st : evC T (m + 15) (.one 5) [5] none (.app j21 [(.nm 1), (.nm 2), (.appio j25 0 [(.nm 1), (.nm 3)])]) (.int s) ⟨[.bag, .val (.int P.1), .val (.tuple (I C.f)), .val (.int deg), s4, .no], bagD b⟩ = some (some (.tuple (I (C * ⟨F, f1⟩).f)), ⟨[.bag, .val (.int P.1), .val (.tuple (I C.f)), .val (.int deg), s4, .no], bagD b1⟩) := by
        generalize bagD b1 = B1 at *
        generalize bagD b = B at *
        generalize I (C * ⟨F, f1⟩).f = R at *
        generalize I F = X at *
        generalize I C.f = Y at *
        simp (config := {implicitDefEqProofs := false}) (disch := omega) [c25, c21, q_int, q_bl, q_non, q_nm, q_bin, q_neg, q_negI, q_not, q_bop, q_ife, q_cmp, q_ix, q_ixn, q_sl, q_sln, q_blt, q_lenn, q_isi, q_lst, q_tup, q_lc, q_popA, q_ins, q_push, q_pop, q_evc, q_to0, q_to1, q_o0, q_o1, q_intD, q_a0, q_a1, q_tnt, q_tbop, q_tcmp, q_chn, q_tchn, q_tcmpo, q_tval, q_tnm, q_iseq, q_irng, q_ienu, q_izip, q_irrg, q_revL, q_iez, q_irev, q_sset, q_stgt, q_saug, q_intV, q_valI, q_spro, q_spar, q_sput2, q_sput, q_sret, q_sretn, q_sife, q_swhl, q_sfor, q_sex, q_spass, q_sbrk, q_scnt, q_ss0, q_ss1, q_gonx, q_gort, q_gobk, q_goct, q_add, q_addl, q_addt, q_sub, q_mul, q_mull, q_mult, q_div, q_mod, q_pow, q_eq, q_ne, q_lt, q_le, q_gt, q_ge, q_is1, q_is2, q_is3, q_is4, q_is5, q_tr0, q_trb, q_tri, q_trl, q_trt, q_ixl, q_ixt, q_sll, q_slt, q_sls, q_lenl, q_lent, q_inti, q_absi, q_lisl, q_list, q_tupl, q_tupt, q_all, q_maxl, q_max, q_min, q_itl, q_itt, q_seql, q_seqt, q_rng1, q_rng2, q_enu1, q_enu2, q_end1, q_end2, q_own, q_val, q_st1, q_stt, q_stpr, q_sta0, q_sta1, q_re1, q_re0, q_appA, q_appioA, q_lent0, q_lent1, q_lent2, q_appkA, ↓bind_o, obind_some, List.getElem?_cons_zero, List.getElem?_cons_succ, List.set_cons_zero, List.set_cons_succ, lockS, slotL, Fz.atS, putL, runD, en0, vals, setS, opStop, wipeE, wipeS, restE, restS, plainS, szB_of, posB_of, b62_of, mulB_of, divB_of, powB_of, repB_one, timB_one, flat_one, I_rep, atI_0, atI_1, atI_2, atI_3, atI_4, ixN_of, cut_from, cut_to, eqv_int, eqv_none, shp_int, shp_bool, shp_none, zip_I]
      rw [st]
      dsimp only
      rw [e]
      rfl
    · have := Po.len_mul_le C ⟨F, f1⟩
      have : (⟨F, f1⟩ : Po P).len ≤ 41 := f2
      omega
def in_r1 (j13 : Nat) : RE := .appio j13 0 [(.bin .Add (.lenn 4) (.int 1))]
def in_r0 : RE := .lst [(.tup [])]
theorem in_loop (T : Tb) (h13 : At T.fs j13 true 2 d_draw) {C : Po P} {s1 s2 s3 : Sl} (m : Nat) : ∀ (k : Nat) (s : Int) (l : List (Po P)) (b : Bag) (n : Int) (x5 : Sl), Inv b n → n + 2 * k ≤ 999900000 → l.length + k ≤ 8 → Ok C l →
    ∃ (l' : List (Po P)) (b' : Bag) (y5 : Sl), forL (in2F T (m + 15) d_of 0 4 (in_r1 j13) in_r0 (.one 5)) (rngD s k) ⟨[.bag, s1, s2, s3, .own (Ft l), x5], bagD b⟩ = some (.nx ⟨[.bag, s1, s2, s3, .own (Ft l'), y5], bagD b'⟩) ∧ Inv b' (n + 2 * k) ∧ l'.length ≤ 8 ∧ Ok C l'
  | 0, s, l, b, n, x5, h, _, hl, ho => ⟨l, b, x5, rfl, h.up (by omega), by omega, ho⟩
  | k + 1, s, l, b, n, x5, h, hn, hl, ho => by
    have hp : (0 : Int) < (l.length : Int) + 1 := by omega
    obtain ⟨i1, e0, e1⟩ := draw_inv h hp
    have c13 := call_draw h13 (b := b) (top := (l.length : Int) + 1) (h.up (by omega)) hp (by omega)
    generalize hD : draw b ((l.length : Int) + 1) = R at *
    obtain ⟨a, b1⟩ := R
    dsimp only at i1 e0 e1 c13
    have hx : (.tuple [] :: Ft l : List D) = Ft (0 :: l) := by unfold Ft; rw [List.map_cons, zero_f]; rfl
    have hne : (Ft ((0 : Po P) :: l)) ≠ [] := by rw [← hx]; simp
    obtain ⟨i2, m2⟩ := of_inv i1 hne
    have dof := d_of_at (b := b1) (xs := Ft ((0 : Po P) :: l)) (i1.up (by omega)) hne (by rw [Ft_len, List.length_cons]; omega)
    have ⟨G, hG, hGo⟩ : ∃ G : Po P, (ofL b1 (Ft ((0 : Po P) :: l))).1 = .tuple (I G.f) ∧ G.len ≤ 60 ∧ Dv C G := by
      rw [Ft_map] at m2
      obtain ⟨G, g1, g2⟩ := List.mem_map.mp m2
      refine ⟨G, by rw [Ft_map]; exact g2.symm, ?_⟩
      rcases List.mem_cons.mp g1 with rfl | g1
      · exact ⟨by rw [Po.len0]; omega, .zero _⟩
      · exact ho G g1
    rw [hG] at dof
    generalize (ofL b1 (Ft ((0 : Po P) :: l))).2 = b2 at *
    obtain ⟨l', b', y5, ih, j1, j2, j3⟩ := in_loop T h13 (C := C) (s1 := s1) (s2 := s2) (s3 := s3) m k (s + 1) (l.take a.toNat ++ [G] ++ l.drop a.toNat) b2 (n + 2) (.val (.int s)) (i2.up (by omega)) (by omega) (by simp; omega) (fun f hf => by
      simp only [List.mem_append, List.mem_singleton] at hf
      rcases hf with (hf | rfl) | hf
      · exact ho f (List.mem_of_mem_take hf)
      · exact hGo
      · exact ho f (List.mem_of_mem_drop hf))
    refine ⟨l', b', y5, ?_, j1.up (by omega), j2, j3⟩
    rw [rngD_succ, ← ih]
    refine forL_nx ?_
    have ef : Ft (l.take a.toNat ++ [G] ++ l.drop a.toNat) = (Ft l).take a.toNat ++ [.tuple (I G.f)] ++ (Ft l).drop a.toNat := by
      rw [Ft_app, Ft_app, Ft_map (l.take _), Ft_map (l.drop _), Ft_map l, List.map_take, List.map_drop]
      rfl
    rw [ef]
    rw [← hx] at dof
    have lf : ((Ft l).length : Int) = (l.length : Int) := by rw [Ft_len]
    have lf2 : (Ft l).length ≤ 8 := by rw [Ft_len]; omega
    have v1 : evE T (m + 15) (in_r1 j13) ⟨[.bag, s1, s2, s3, .own (Ft l), .val (.int s)], bagD b⟩ = some (false, .int a, ⟨[.bag, s1, s2, s3, .own (Ft l), .val (.int s)], bagD b1⟩) := by
      generalize bagD b1 = B1 at *
      generalize bagD b = B at *
      generalize Ft l = Y at *
      unfold in_r1
      simp (config := {implicitDefEqProofs := false}) (disch := omega) [lf, c13, q_int, q_bl, q_non, q_nm, q_bin, q_neg, q_negI, q_not, q_bop, q_ife, q_cmp, q_ix, q_ixn, q_sl, q_sln, q_blt, q_lenn, q_isi, q_lst, q_tup, q_lc, q_popA, q_ins, q_push, q_pop, q_evc, q_to0, q_to1, q_o0, q_o1, q_intD, q_a0, q_a1, q_tnt, q_tbop, q_tcmp, q_chn, q_tchn, q_tcmpo, q_tval, q_tnm, q_iseq, q_irng, q_ienu, q_izip, q_irrg, q_revL, q_iez, q_irev, q_sset, q_stgt, q_saug, q_intV, q_valI, q_spro, q_spar, q_sput2, q_sput, q_sret, q_sretn, q_sife, q_swhl, q_sfor, q_sex, q_spass, q_sbrk, q_scnt, q_ss0, q_ss1, q_gonx, q_gort, q_gobk, q_goct, q_add, q_addl, q_addt, q_sub, q_mul, q_mull, q_mult, q_div, q_mod, q_pow, q_eq, q_ne, q_lt, q_le, q_gt, q_ge, q_is1, q_is2, q_is3, q_is4, q_is5, q_tr0, q_trb, q_tri, q_trl, q_trt, q_ixl, q_ixt, q_sll, q_slt, q_sls, q_lenl, q_lent, q_inti, q_absi, q_lisl, q_list, q_tupl, q_tupt, q_all, q_maxl, q_max, q_min, q_itl, q_itt, q_seql, q_seqt, q_rng1, q_rng2, q_enu1, q_enu2, q_end1, q_end2, q_own, q_val, q_st1, q_stt, q_stpr, q_sta0, q_sta1, q_re1, q_re0, q_appA, q_appioA, q_lent0, q_lent1, q_lent2, q_appkA, ↓bind_o, obind_some, List.getElem?_cons_zero, List.getElem?_cons_succ, List.set_cons_zero, List.set_cons_succ, lockS, slotL, Fz.atS, putL, runD, en0, vals, setS, opStop, wipeE, wipeS, restE, restS, plainS, szB_of, posB_of, b62_of, mulB_of, divB_of, powB_of, repB_one, timB_one, flat_one, I_rep, atI_0, atI_1, atI_2, atI_3, atI_4, ixN_of, cut_from, cut_to, eqv_int, eqv_none, shp_int, shp_bool, shp_none, zip_I]
    have v0 : evE T (m + 15) in_r0 ⟨[.bag, s1, s2, s3, .own (Ft l), .val (.int s)], bagD b1⟩ = some (true, .list [.tuple []], ⟨[.bag, s1, s2, s3, .own (Ft l), .val (.int s)], bagD b1⟩) := by
      generalize bagD b1 = B1 at *
      generalize Ft l = Y at *
      unfold in_r0
      simp (config := {implicitDefEqProofs := false}) (disch := omega) [q_int, q_bl, q_non, q_nm, q_bin, q_neg, q_negI, q_not, q_bop, q_ife, q_cmp, q_ix, q_ixn, q_sl, q_sln, q_blt, q_lenn, q_isi, q_lst, q_tup, q_lc, q_popA, q_ins, q_push, q_pop, q_evc, q_to0, q_to1, q_o0, q_o1, q_intD, q_a0, q_a1, q_tnt, q_tbop, q_tcmp, q_chn, q_tchn, q_tcmpo, q_tval, q_tnm, q_iseq, q_irng, q_ienu, q_izip, q_irrg, q_revL, q_iez, q_irev, q_sset, q_stgt, q_saug, q_intV, q_valI, q_spro, q_spar, q_sput2, q_sput, q_sret, q_sretn, q_sife, q_swhl, q_sfor, q_sex, q_spass, q_sbrk, q_scnt, q_ss0, q_ss1, q_gonx, q_gort, q_gobk, q_goct, q_add, q_addl, q_addt, q_sub, q_mul, q_mull, q_mult, q_div, q_mod, q_pow, q_eq, q_ne, q_lt, q_le, q_gt, q_ge, q_is1, q_is2, q_is3, q_is4, q_is5, q_tr0, q_trb, q_tri, q_trl, q_trt, q_ixl, q_ixt, q_sll, q_slt, q_sls, q_lenl, q_lent, q_inti, q_absi, q_lisl, q_list, q_tupl, q_tupt, q_all, q_maxl, q_max, q_min, q_itl, q_itt, q_seql, q_seqt, q_rng1, q_rng2, q_enu1, q_enu2, q_end1, q_end2, q_own, q_val, q_st1, q_stt, q_stpr, q_sta0, q_sta1, q_re1, q_re0, q_appA, q_appioA, q_lent0, q_lent1, q_lent2, q_appkA, ↓bind_o, obind_some, List.getElem?_cons_zero, List.getElem?_cons_succ, List.set_cons_zero, List.set_cons_succ, lockS, slotL, Fz.atS, putL, runD, en0, vals, setS, opStop, wipeE, wipeS, restE, restS, plainS, szB_of, posB_of, b62_of, mulB_of, divB_of, powB_of, repB_one, timB_one, flat_one, I_rep, atI_0, atI_1, atI_2, atI_3, atI_4, ixN_of, cut_from, cut_to, eqv_int, eqv_none, shp_int, shp_bool, shp_none, zip_I]
    generalize bagD b2 = B2 at *
    generalize bagD b1 = B1 at *
    generalize bagD b = B at *
    generalize I G.f = Z at *
    generalize Ft l = Y at *
    have hle : ([PyData.tuple []] ++ Y).length ≤ 1000000 := by simp; omega
    have q1 : stT ⟨[.bag, s1, s2, s3, .own Y, x5], B⟩ (.one 5) (.int s) = some ⟨[.bag, s1, s2, s3, .own Y, .val (.int s)], B⟩ := rfl
    unfold in2F
    rw [q1]
    simp only [Option.bind_some]
    show Option.bind (some Y) _ = _
    simp only [Option.bind_some]
    rw [v1]
    simp only [Option.bind_some]
    show Option.bind (some B1) _ = _
    simp only [Option.bind_some]
    rw [v0]
    simp only [Option.bind_some]
    show Option.bind (some Y) _ = _
    simp only [Option.bind_some]
    show Option.bind (some B1) _ = _
    simp only [Option.bind_some]
    show Option.bind (some [PyData.tuple []]) _ = _
    simp only [Option.bind_some]
    rw [if_pos ⟨trivial, hle⟩, show [PyData.tuple []] ++ Y = .tuple [] :: Y from rfl, dof]
    simp only [Option.bind_some]
    show Option.bind (some Y) _ = _
    simp only [Option.bind_some]
    show Option.bind (some a) _ = _
    simp only [Option.bind_some]
    rw [if_pos ⟨trivial, e0, by omega, by omega⟩]
    rfl
/-! ### _law_some -/
def so_rows (j13 j14 j21 j25 j26 : Nat) : List RS := [.set 2 (.appio j26 0 [(.nm 1), (.appio j13 0 [(.int 4)])]), .set 2 (.app j21 [(.nm 1), (.nm 2), (.tup [(.bin .Add (.int 1) (.appio j13 0 [(.bin .Sub (.nm 1) (.int 1))]))])]), .set 3 (.appio j14 0 [(.lst [(.int 1), (.int 2), (.int 3), (.int 5), (.int 20)])]), .set 4 (.lc (.one 5) [5] (.rng [(.appio j13 0 [(.int 5)])]) none (.app j21 [(.nm 1), (.nm 2), (.appio j25 0 [(.nm 1), (.nm 3)])]))]
def DG : List D := [.int 1, .int 2, .int 3, .int 5, .int 20]
theorem so_run (hN : N.length = 6) (h13 : At fs j13 true 2 d_draw) (h14 : At fs j14 true 2 d_of) (h21 : At fs j21 false 3 d_multiply) (h25 : At fs j25 true 3 W1.d_form) (h26 : At fs j26 true 3 d_full) {b : Bag} {n : Int} (h : Inv b n) (hn : n ≤ 999000000) :
    ∃ (C : Po P) (l : List (Po P)) (b' : Bag) (deg : Int), evSs ⟨N, fs, WW⟩ 60 (so_rows j13 j14 j21 j25 j26) ⟨[.bag, .val (.int P.1), .no, .no, .no, .no], bagD b⟩ = some (.nx ⟨[.bag, .val (.int P.1), .val (.tuple (I C.f)), .val (.int deg), .own (Ft l), .no], bagD b'⟩) ∧ Inv b' (n + 300) ∧ l.length ≤ 4 ∧ Ok C l ∧ C ≠ 0 ∧ C.len ≤ 5 := by
  obtain ⟨p0, p1⟩ := P97 P
  obtain ⟨i1, e0, e1⟩ := draw_inv h (show (0 : Int) < 4 by decide)
  have c1 := call_draw h13 (b := b) (top := 4) (h.up (by omega)) (by decide) (by decide)
  generalize draw b 4 = R at *
  obtain ⟨dg, b1⟩ := R
  dsimp only at i1 e0 e1 c1
  obtain ⟨i2, f1, f2, f3⟩ := full_inv (p := (P.1 : Int)) (deg := dg) i1 (by omega) e0 (by omega)
  have f4 : (fullB b1 P.1 dg).1.length ≤ 4 := by
    have := (drawN_inv (show (0 : Int) < (P.1 : Int) by omega) dg.toNat i1).2.1
    unfold fullB
    simp [this]
    omega
  have c2 := call_full h26 (b := b1) (p := P.1) (deg := dg) (i1.up (by omega)) (by omega) p1 e0 (by omega)
  generalize fullB b1 P.1 dg = R at *
  obtain ⟨cf, b2⟩ := R
  dsimp only at i2 f1 f2 f3 f4 c2
  have hp0 : (0 : Int) < (P.1 : Int) - 1 := by omega
  obtain ⟨i3, u0, u1⟩ := draw_inv i2 hp0
  have c3 := call_draw h13 (b := b2) (top := (P.1 : Int) - 1) (i2.up (by omega)) hp0 (by omega)
  generalize draw b2 ((P.1 : Int) - 1) = R at *
  obtain ⟨u, b3⟩ := R
  dsimp only at i3 u0 u1 c3
  have hcs : (cs P (1 + u)).f = [1 + u] := formOf_self ⟨fun x hx => by rw [List.mem_singleton.mp hx]; show 0 ≤ 1 + u ∧ 1 + u < (P.1 : Int); omega, trim_snoc [] (by omega)⟩
  have hcn : cs P (1 + u) ≠ 0 := fun e => by
    have := congrArg Po.f e
    rw [hcs, zero_f] at this
    cases this
  have lcs : (cs P (1 + u)).len = 1 := by unfold Po.len; rw [hcs]; rfl
  have c4 := call_mulP h21 ⟨cf, f1⟩ (cs P (1 + u)) (by show cf.length ≤ 1000; omega) (by omega)
  rw [hcs] at c4
  change cAt fs j21 [_, .tuple (I cf), .tuple [.int (1 + u)]] = _ at c4
  obtain ⟨i4, m4⟩ := of_inv (xs := DG) i3 (by decide)
  have c5 := call_of h14 (b := b3) (xs := DG) (i3.up (by omega)) (by decide) (by decide)
  obtain ⟨deg, ed, d0, d1⟩ : ∃ i : Int, (ofL b3 DG).1 = .int i ∧ 0 ≤ i ∧ i ≤ 40 := by
    simp only [DG, List.mem_cons, List.not_mem_nil, or_false] at m4
    rcases m4 with e | e | e | e | e <;> exact ⟨_, e, by decide, by decide⟩
  rw [ed] at c5
  generalize (ofL b3 DG).2 = b4 at *
  obtain ⟨i5, k0, k1⟩ := draw_inv i4 (show (0 : Int) < 5 by decide)
  have c6 := call_draw h13 (b := b4) (top := 5) (i4.up (by omega)) (by decide) (by decide)
  generalize draw b4 5 = R at *
  obtain ⟨kk, b5⟩ := R
  dsimp only at i5 k0 k1 c6
  have hC : (⟨cf, f1⟩ : Po P) * cs P (1 + u) ≠ 0 := Po.mul_ne (fun e => f3 (Po.eq0.mp e)) hcn
  have lC : ((⟨cf, f1⟩ : Po P) * cs P (1 + u)).len ≤ 5 := by
    have := Po.len_mul_le ⟨cf, f1⟩ (cs P (1 + u))
    have : (⟨cf, f1⟩ : Po P).len ≤ 4 := f4
    omega
  generalize (⟨cf, f1⟩ : Po P) * cs P (1 + u) = C at *
  obtain ⟨l, b6, lp, i6, l6, o6⟩ := gm_loop ⟨N, fs, WW⟩ h21 h25 lC d0 d1 (s4 := .no) 39 kk.toNat 0 b5 _ i5 (by omega)
  have zr : szB (rngD 0 kk.toNat).length = true := szB_of (by rw [rngD_len]; omega)
  refine ⟨C, l, b6, deg, ?_, i6.up (by omega), by omega, o6, hC, lC⟩
  have hb62 : b62 kk = true := b62_of (by omega) (by omega)
  generalize bagD b = B at *
  generalize bagD b1 = B1 at *
  generalize bagD b2 = B2 at *
  generalize bagD b3 = B3 at *
  generalize bagD b4 = B4 at *
  generalize bagD b5 = B5 at *
  generalize bagD b6 = B6 at *
  generalize I C.f = CC at *
  generalize I cf = CF at *
  generalize Ft l = L at *
  unfold DG at *
  unfold so_rows
  simp (config := {implicitDefEqProofs := false}) (disch := omega) [hN, c1, c2, c3, c4, c5, c6, lp, zr, hb62, q_int, q_bl, q_non, q_nm, q_bin, q_neg, q_negI, q_not, q_bop, q_ife, q_cmp, q_ix, q_ixn, q_sl, q_sln, q_blt, q_lenn, q_isi, q_lst, q_tup, q_lc, q_popA, q_ins, q_push, q_pop, q_evc, q_to0, q_to1, q_o0, q_o1, q_intD, q_a0, q_a1, q_tnt, q_tbop, q_tcmp, q_chn, q_tchn, q_tcmpo, q_tval, q_tnm, q_iseq, q_irng, q_ienu, q_izip, q_irrg, q_revL, q_iez, q_irev, q_sset, q_stgt, q_saug, q_intV, q_valI, q_spro, q_spar, q_sput2, q_sput, q_sret, q_sretn, q_sife, q_swhl, q_sfor, q_sex, q_spass, q_sbrk, q_scnt, q_ss0, q_ss1, q_gonx, q_gort, q_gobk, q_goct, q_add, q_addl, q_addt, q_sub, q_mul, q_mull, q_mult, q_div, q_mod, q_pow, q_eq, q_ne, q_lt, q_le, q_gt, q_ge, q_is1, q_is2, q_is3, q_is4, q_is5, q_tr0, q_trb, q_tri, q_trl, q_trt, q_ixl, q_ixt, q_sll, q_slt, q_sls, q_lenl, q_lent, q_inti, q_absi, q_lisl, q_list, q_tupl, q_tupt, q_all, q_maxl, q_max, q_min, q_itl, q_itt, q_seql, q_seqt, q_rng1, q_rng2, q_enu1, q_enu2, q_end1, q_end2, q_own, q_val, q_st1, q_stt, q_stpr, q_sta0, q_sta1, q_re1, q_re0, q_appA, q_appioA, q_lent0, q_lent1, q_lent2, q_appkA, ↓bind_o, obind_some, List.getElem?_cons_zero, List.getElem?_cons_succ, List.set_cons_zero, List.set_cons_succ, lockS, slotL, Fz.atS, putL, runD, en0, vals, setS, opStop, wipeE, wipeS, restE, restS, plainS, szB_of, posB_of, b62_of, mulB_of, divB_of, powB_of, repB_one, timB_one, flat_one, I_rep, atI_0, atI_1, atI_2, atI_3, atI_4, ixN_of, cut_from, cut_to, eqv_int, eqv_none, shp_int, shp_bool, shp_none, zip_I]
/-- _law_some: its list and its form -/
def soE : SR → Option (List D × List D × List D × List D)
  | .nx d => match (d.sl[4]? : Option Sl), (d.sl[2]? : Option Sl) with
    | some (Sl.own l), some (Sl.val c) => some ([], l, [c], d.bg)
    | _, _ => none
  | _ => none
noncomputable def soF (T : Tb) (j13 : Nat) : SR → Option (List D × List D × List D × List D)
  | .nx b => (evI T 60 (.rng [(.appio j13 0 [(.int 3)])]) b).bind fun q => (forL (in2F T 60 d_of 0 4 (in_r1 j13) in_r0 (.one 5)) q.1 q.2).bind soE
  | _ => none
noncomputable def soT (T : Tb) (j13 j14 j21 j25 j26 : Nat) : DnT := fun ds => (evSs T 60 (so_rows j13 j14 j21 j25 j26) (en0 6 true ds)).bind (soF T j13)
theorem so_spec (hN : N.length = 6) (h13 : At fs j13 true 2 d_draw) (h14 : At fs j14 true 2 d_of) (h21 : At fs j21 false 3 d_multiply) (h25 : At fs j25 true 3 W1.d_form) (h26 : At fs j26 true 3 d_full) {b : Bag} {n : Int} (h : Inv b n) (hn : n ≤ 999000000) :
    ∃ (C : Po P) (l : List (Po P)) (b' : Bag), soT ⟨N, fs, WW⟩ j13 j14 j21 j25 j26 [.list (bagD b), .int P.1] = some ([], Ft l, [.tuple (I C.f)], bagD b') ∧ Inv b' (n + 400) ∧ l.length ≤ 8 ∧ Ok C l ∧ C ≠ 0 ∧ C.len ≤ 5 := by
  obtain ⟨C, l, b1, deg, e1, i1, l1, o1, hC, lC⟩ := so_run (P := P) hN h13 h14 h21 h25 h26 h hn
  obtain ⟨i2, k0, k1⟩ := draw_inv i1 (show (0 : Int) < 3 by decide)
  have c := call_draw h13 (b := b1) (top := 3) (i1.up (by omega)) (by decide) (by decide)
  generalize draw b1 3 = R at *
  obtain ⟨kk, b2⟩ := R
  dsimp only at i2 k0 k1 c
  obtain ⟨l', b', y5, e2, i3, l3, o3⟩ := in_loop ⟨N, fs, WW⟩ h13 (C := C) (s1 := .val (.int P.1)) (s2 := .val (.tuple (I C.f))) (s3 := .val (.int deg)) 45 kk.toNat 0 l b2 _ .no i2 (by omega) (by omega) o1
  refine ⟨C, l', b', ?_, i3.up (by omega), l3, o3, hC, lC⟩
  have hb62 : b62 kk = true := b62_of (by omega) (by omega)
  have e3 : evI ⟨N, fs, WW⟩ 60 (.rng [(.appio j13 0 [(.int 3)])]) ⟨[.bag, .val (.int P.1), .val (.tuple (I C.f)), .val (.int deg), .own (Ft l), .no], bagD b1⟩ = some (rngD 0 kk.toNat, ⟨[.bag, .val (.int P.1), .val (.tuple (I C.f)), .val (.int deg), .own (Ft l), .no], bagD b2⟩) := by
    generalize bagD b1 = B1 at *
    generalize bagD b2 = B2 at *
    generalize I C.f = CC at *
    generalize Ft l = L at *
    simp (config := {implicitDefEqProofs := false}) (disch := omega) [c, hb62, q_int, q_bl, q_non, q_nm, q_bin, q_neg, q_negI, q_not, q_bop, q_ife, q_cmp, q_ix, q_ixn, q_sl, q_sln, q_blt, q_lenn, q_isi, q_lst, q_tup, q_lc, q_popA, q_ins, q_push, q_pop, q_evc, q_to0, q_to1, q_o0, q_o1, q_intD, q_a0, q_a1, q_tnt, q_tbop, q_tcmp, q_chn, q_tchn, q_tcmpo, q_tval, q_tnm, q_iseq, q_irng, q_ienu, q_izip, q_irrg, q_revL, q_iez, q_irev, q_sset, q_stgt, q_saug, q_intV, q_valI, q_spro, q_spar, q_sput2, q_sput, q_sret, q_sretn, q_sife, q_swhl, q_sfor, q_sex, q_spass, q_sbrk, q_scnt, q_ss0, q_ss1, q_gonx, q_gort, q_gobk, q_goct, q_add, q_addl, q_addt, q_sub, q_mul, q_mull, q_mult, q_div, q_mod, q_pow, q_eq, q_ne, q_lt, q_le, q_gt, q_ge, q_is1, q_is2, q_is3, q_is4, q_is5, q_tr0, q_trb, q_tri, q_trl, q_trt, q_ixl, q_ixt, q_sll, q_slt, q_sls, q_lenl, q_lent, q_inti, q_absi, q_lisl, q_list, q_tupl, q_tupt, q_all, q_maxl, q_max, q_min, q_itl, q_itt, q_seql, q_seqt, q_rng1, q_rng2, q_enu1, q_enu2, q_end1, q_end2, q_own, q_val, q_st1, q_stt, q_stpr, q_sta0, q_sta1, q_re1, q_re0, q_appA, q_appioA, q_lent0, q_lent1, q_lent2, q_appkA, ↓bind_o, obind_some, List.getElem?_cons_zero, List.getElem?_cons_succ, List.set_cons_zero, List.set_cons_succ, lockS, slotL, Fz.atS, putL, runD, en0, vals, setS, opStop, wipeE, wipeS, restE, restS, plainS, szB_of, posB_of, b62_of, mulB_of, divB_of, powB_of, repB_one, timB_one, flat_one, I_rep, atI_0, atI_1, atI_2, atI_3, atI_4, ixN_of, cut_from, cut_to, eqv_int, eqv_none, shp_int, shp_bool, shp_none, zip_I]
  unfold soT
  rw [show en0 6 true [.list (bagD b), .int (P.1 : Int)] = ⟨[.bag, .val (.int P.1), .no, .no, .no, .no], bagD b⟩ from rfl, e1]
  rw [Option.bind_some]
  unfold soF
  dsimp only
  rw [e3, Option.bind_some]
  change forL (in2F _ 60 _ _ _ _ _ _) _ _ = _ at e2
  rw [e2, Option.bind_some]
  generalize bagD b' = B' at *
  generalize I C.f = CC at *
  generalize Ft l' = L' at *
  show soE (.nx ⟨[_, _, .val (.tuple CC), _, .own L', _], B'⟩) = _
  rfl
theorem hand_some {k n : Nat} {sc : Scope} {X : Cx} {β : Option Addr} {body : List Stmt} (co : Cos ⟨N, fs, WW⟩ k sc X) (hN : N.length = 6) {fn : Fn} (F : FnAt X k "_law_of" fn) (hio : fn.io = true) (hps : 2 = fn.ps.length) (hfd : fn.den = d_of)
    (hck : ckSome ⟨N, fs, WW⟩ n sc body (so_rows j13 j14 j21 j25 j26) "_law_of" 0 4 (in_r1 j13) in_r0 (.one 5) (.rng [(.appio j13 0 [(.int 3)])]) (.nm 2) = true) {ds ds1 l ds2 bs : List D} (h : soT ⟨N, fs, WW⟩ j13 j14 j21 j25 j26 ds = some (ds1, l, ds2, bs)) : DenSsT X β body (en0 N.length true ds) ds1 l ds2 bs := by
  unfold soT at h
  rw [hN]
  simp only [Option.bind_eq_some_iff] at h
  obtain ⟨z, e1, h⟩ := h
  cases z with
  | nx b =>
    unfold soF at h
    simp only [Option.bind_eq_some_iff] at h
    obtain ⟨q, e2, y, e3, h⟩ := h
    cases y with
    | nx d =>
      unfold soE at h
      dsimp only at h
      split at h
      · rename_i l0 c q1 q2
        cases h
        refine some_ok (m := 60) (m2 := 60) (e := d) co F hio hps hck e1 e2 (by rw [hfd]; exact e3) q1 ?_ q1 (o2 := false)
        show evE _ (59 + 1) (.nm 2) d = _
        obtain ⟨dsl, dbg⟩ := d
        dsimp only at q1 q2 ⊢
        simp (config := {implicitDefEqProofs := false}) (disch := omega) [q2, q_int, q_bl, q_non, q_nm, q_bin, q_neg, q_negI, q_not, q_bop, q_ife, q_cmp, q_ix, q_ixn, q_sl, q_sln, q_blt, q_lenn, q_isi, q_lst, q_tup, q_lc, q_popA, q_ins, q_push, q_pop, q_evc, q_to0, q_to1, q_o0, q_o1, q_intD, q_a0, q_a1, q_tnt, q_tbop, q_tcmp, q_chn, q_tchn, q_tcmpo, q_tval, q_tnm, q_iseq, q_irng, q_ienu, q_izip, q_irrg, q_revL, q_iez, q_irev, q_sset, q_stgt, q_saug, q_intV, q_valI, q_spro, q_spar, q_sput2, q_sput, q_sret, q_sretn, q_sife, q_swhl, q_sfor, q_sex, q_spass, q_sbrk, q_scnt, q_ss0, q_ss1, q_gonx, q_gort, q_gobk, q_goct, q_add, q_addl, q_addt, q_sub, q_mul, q_mull, q_mult, q_div, q_mod, q_pow, q_eq, q_ne, q_lt, q_le, q_gt, q_ge, q_is1, q_is2, q_is3, q_is4, q_is5, q_tr0, q_trb, q_tri, q_trl, q_trt, q_ixl, q_ixt, q_sll, q_slt, q_sls, q_lenl, q_lent, q_inti, q_absi, q_lisl, q_list, q_tupl, q_tupt, q_all, q_maxl, q_max, q_min, q_itl, q_itt, q_seql, q_seqt, q_rng1, q_rng2, q_enu1, q_enu2, q_end1, q_end2, q_own, q_val, q_st1, q_stt, q_stpr, q_sta0, q_sta1, q_re1, q_re0, q_appA, q_appioA, q_lent0, q_lent1, q_lent2, q_appkA, ↓bind_o, obind_some, List.getElem?_cons_zero, List.getElem?_cons_succ, List.set_cons_zero, List.set_cons_succ, lockS, slotL, Fz.atS, putL, runD, en0, vals, setS, opStop, wipeE, wipeS, restE, restS, plainS, szB_of, posB_of, b62_of, mulB_of, divB_of, powB_of, repB_one, timB_one, flat_one, I_rep, atI_0, atI_1, atI_2, atI_3, atI_4, ixN_of, cut_from, cut_to, eqv_int, eqv_none, shp_int, shp_bool, shp_none, zip_I]
      · cases h
    | rt o x e => cases h
    | bk e => cases h
    | ct e => cases h
  | rt o x e => cases h
  | bk e => cases h
  | ct e => cases h
end K03
set_option Elab.async false
set_option linter.all false
set_option maxRecDepth 100000
set_option maxHeartbeats 1000000
/-! What raises an error of one attribute, as what raises an error with attributes; what the head says more of such a class. -/
namespace Fz
open PySem PySem.Spec PyProof.Rows L2
section
variable {P : Program} {w : World} {K : PySem.W.Frag} {mg : Str → Option Value} {base : Heap} {k : Nat} {x : Str} {fn : Fn} {C : Addr} {f c : Str} {ok : List D → Prop}
theorem FnX.toF (h : FnX P w K mg base k x fn C f c ok) : FnF P w K mg base k x fn C (fun ds fl => ok ds ∧ fl = [(f, .str c)]) := by
  obtain ⟨a, fd, h1, h2, h3, h4, h5⟩ := h.ex
  refine ⟨⟨a, fd, h1, h2, h3.imp fun vs H Q E q => ?_, h4, h5⟩, h.nd⟩
  obtain ⟨G, ds, fl, ⟨q1, rfl⟩, q2, q3, q4, q5⟩ := q
  exact ⟨G, ds, q1, q2, q3, q4, q5⟩
end
end Fz
namespace Er
open PySem PySem.W PySem.Calls PyProof.Rows He
def okZ (K : Frag) (d : KD) : Bool := d.ok K && (L2.xfB K (ga K d.x) && decide (findIn K (.ref (ga K d.x)) d.f = some none))
theorem okZ_ok {K : Frag} {d : KD} (h : okZ K d = true) : d.ok K = true ∧ L2.XfC K (ga K d.x) ∧ findIn K (.ref (ga K d.x)) d.f = some none := by
  obtain ⟨h1, h2⟩ := ba h
  obtain ⟨h2, h3⟩ := ba h2
  exact ⟨h1, L2.xfB_ok h2, of_decide_eq_true h3⟩
abbrev AlZ : Type := AlD × Bool × FnE
def obsZ (fa : List Fa) (fn : List DefD) (kd : KD) (K : Frag) : AlZ := (obsD fa fn K, okZ K kd, fnE K kd.x)
def valZ (fn : List DefD) (kd : KD) : AlZ := (valD fn, true, kd.val)
def SaysZ (fa : List Fa) (fn : List DefD) (kd : KD) (K : Frag) : Prop := obsZ fa fn kd K = valZ fn kd
def obsZG (n : Nat) (fa : List Fa) (fn : List DefD) (kd : KD) (g : Addr → Option Obj) : AlZ := obsZ fa fn kd (frG g (cStatics :: asD g n))
def hookZ (n : Nat) (fa : List Fa) (fn : List DefD) (kd : KD) : Hook where
  α := AlZ
  obs := fun s => obsZG n fa fn kd s.heap.get?
  val := fun _ => valZ fn kd
  says := fun _ h => ∃ K : Frag, K.In h ∧ SaysZ fa fn kd K
  of := fun _ _ e => ⟨_, frG_in, e⟩
  keeps := fun _ _ _ ⟨K, hK, c⟩ k => ⟨K, Frag.In.keeps hK k, c⟩
theorem obsZG_eq {n : Nat} {fa : List Fa} {fn : List DefD} {kd : KD} {g : Addr → Option Obj} {s : Shared} (h : ∀ a, g a = s.heap.get? a) : obsZG n fa fn kd g = (hookZ n fa fn kd).obs s := by
  have e : g = s.heap.get? := funext h
  rw [e] <;> rfl
theorem SaysZ.d {fa : List Fa} {fn : List DefD} {kd : KD} {K : Frag} (c : SaysZ fa fn kd K) : SaysD fa fn K := congrArg (fun z : AlZ => z.1) c
theorem SaysZ.k {fa : List Fa} {fn : List DefD} {kd : KD} {K : Frag} (c : SaysZ fa fn kd K) : okZ K kd = true := congrArg (fun z : AlZ => z.2.1) c
theorem SaysZ.e {fa : List Fa} {fn : List DefD} {kd : KD} {K : Frag} (c : SaysZ fa fn kd K) : fnE K kd.x = kd.val := congrArg (fun z : AlZ => z.2.2) c
end Er
set_option Elab.async false
set_option linter.all false
set_option maxRecDepth 100000
set_option maxHeartbeats 4000000
namespace K03
open PySem PySem.Spec PyProof.Rows L2 Fz W1 K05
variable {fs : List (Str × Fn)} {N : List Str} {j j6 j8 j13 j14 j15 j20 j21 j23 j24 j25 j28 : Nat} {P : Prm}
/-! ### _law_parted -/
structure PT where
  P : Prm
  F : Po P
  G : Po P
  b : Bool
def PT.enc (x : PT) : List D := [.int x.P.1, .tuple (I x.F.f), .tuple (I x.G.f), .bool x.b]
def PT.ok (x : PT) : Prop := x.F.len ≤ 1000 ∧ x.G.len ≤ 1000
theorem PT.inj : ∀ x y : PT, PT.enc x = PT.enc y → x = y := by
  rintro ⟨⟨p, hp⟩, F, G, b⟩ ⟨⟨p', hp'⟩, F', G', b'⟩ h
  simp only [PT.enc, List.cons.injEq, PyData.tuple.injEq, PyData.int.injEq, PyData.bool.injEq, I_eq, and_true] at h
  obtain ⟨h0, h1, h2, h3⟩ := h
  have e : p = p' := by omega
  subst e h3
  rw [show F = F' from Po.ext h1, show G = G' from Po.ext h2]
def zeD : D := .tuple [.str "zero", .str "ZeroForm"]
noncomputable section
def ptD {P : Prm} (F G : Po P) : D := if G.f = [] then zeD else .tuple [.tuple (I (F.quo G).f), .tuple (I (F.rem G).f)]
def d_parted := wordOf PT.enc PT.ok fun x => (false, ptD x.F x.G, [])
end
theorem call_parted (h : At fs j false 4 d_parted) (F G : Po P) (b : Bool) (lf : F.len ≤ 1000) (lg : G.len ≤ 1000) : cAt fs j [.int P.1, .tuple (I F.f), .tuple (I G.f), .bool b] = some (false, ptD F G) := h.c rfl (wordOf_at PT.inj (x := ⟨P, F, G, b⟩) ⟨lf, lg⟩)
def okZR (ds : List D) : Prop := ∃ a b, ds = [a, b, .tuple []]
def pt_rs (j6 : Nat) : List RS := [.ret (.ife (.nm 3) (.appk j6 0 [] [(.nm 2), (.nm 1), (.nm 0)]) (.app j6 [(.nm 0), (.nm 1), (.nm 2)]))]
def ptk : Kw := ⟨0, ["by", "form", "prime"], [2, 1, 0]⟩
theorem hand_parted {k n : Nat} {sc : Scope} {X : Cx} {β : Option Addr} {body : List Stmt} {C : Addr} {fn : Fn} (co : Cos ⟨N, fs, WW⟩ k sc X) (hs : X.stack = X.env :: X.outer) (hf : X.env.frame = some X.env.locals) (gC : X.mg "ZeroForm" = some (.ref C)) (te : PySem.W.exmOne X.K (.ref C) (.ref C) = some true) (Tx : XfC X.K C) (hno : PySem.W.findIn X.K (.ref C) "code" = some none)
    (FX : FnX X.prog X.w X.K X.mg X.base k "divided" fn C "code" "ZeroForm" okZR) (hps : fn.ps.length = 3) (hkw : ptk ∈ fn.kws) (hN : N.length = 5) (h6 : At fs j6 false 3 d_divided) (hk : ∀ a b c, kAt fs j6 0 0 [] [a, b, c] = cAt fs j6 [c, b, a])
    (hck : ckTryA ⟨N, fs, WW⟩ n sc body "divided" "ZeroForm" "e" 4 (.nm 3) [(.nm 2), (.nm 1), (.nm 0)] [(.nm 0), (.nm 1), (.nm 2)] (pt_rs j6) ["by", "form", "prime"] "zero" "code" = true)
    {ds : List D} {z : Bool × D × List D} (h : d_parted ds = some z) : ∃ r, DenSs X β body (en0 N.length false ds) r ∧ endD r = some z := by
  obtain ⟨⟨P, F, G, b⟩, ⟨lf, lg⟩, rfl, rfl⟩ := wordOf_some h
  dsimp only at lf lg
  have e0 : en0 N.length false (PT.enc ⟨P, F, G, b⟩) = ⟨[.val (.int P.1), .val (.tuple (I F.f)), .val (.tuple (I G.f)), .val (.bool b), .no], []⟩ := by rw [hN]; rfl
  rw [e0]
  dsimp only
  unfold ptD
  by_cases hn : G.f = []
  · rw [if_pos hn, hn]
    show ∃ r, DenSs X β body ⟨[_, _, .val (.tuple []), _, _], _⟩ r ∧ _
    have ok : okZR [.int (P.1 : Int), .tuple (I F.f), .tuple []] := ⟨_, _, rfl⟩
    generalize I F.f = Y at *
    refine ⟨_, tryA_caught (m := 60) (kk := b) (fs := [("code", .str "ZeroForm")]) (v := .str "ZeroForm") (ds := if b then [.tuple [], .tuple Y, .int P.1] else [.int P.1, .tuple Y, .tuple []]) (b := ⟨[.val (.int P.1), .val (.tuple Y), .val (.tuple []), .val (.bool b), .no], []⟩) (c := ⟨[.val (.int P.1), .val (.tuple Y), .val (.tuple []), .val (.bool b), .no], []⟩) co hs hf gC (by decide) te Tx hno (by rfl) (.str "ZeroForm") FX.toF hck rfl ?_ hkw rfl rfl (fun hb => ?_) (fun hb => ?_), rfl⟩
    · cases b <;> simp (config := {implicitDefEqProofs := false}) (disch := omega) [q_int, q_bl, q_non, q_nm, q_bin, q_neg, q_negI, q_not, q_bop, q_ife, q_cmp, q_ix, q_ixn, q_sl, q_sln, q_blt, q_lenn, q_isi, q_lst, q_tup, q_lc, q_popA, q_ins, q_push, q_pop, q_evc, q_to0, q_to1, q_o0, q_o1, q_intD, q_a0, q_a1, q_tnt, q_tbop, q_tcmp, q_chn, q_tchn, q_tcmpo, q_tval, q_tnm, q_iseq, q_irng, q_ienu, q_izip, q_irrg, q_revL, q_iez, q_irev, q_sset, q_stgt, q_saug, q_intV, q_valI, q_spro, q_spar, q_sput2, q_sput, q_sret, q_sretn, q_sife, q_swhl, q_sfor, q_sex, q_spass, q_sbrk, q_scnt, q_ss0, q_ss1, q_gonx, q_gort, q_gobk, q_goct, q_add, q_addl, q_addt, q_sub, q_mul, q_mull, q_mult, q_div, q_mod, q_pow, q_eq, q_ne, q_lt, q_le, q_gt, q_ge, q_is1, q_is2, q_is3, q_is4, q_is5, q_tr0, q_trb, q_tri, q_trl, q_trt, q_ixl, q_ixt, q_sll, q_slt, q_sls, q_lenl, q_lent, q_inti, q_absi, q_lisl, q_list, q_tupl, q_tupt, q_all, q_maxl, q_max, q_min, q_itl, q_itt, q_seql, q_seqt, q_rng1, q_rng2, q_enu1, q_enu2, q_end1, q_end2, q_own, q_val, q_st1, q_stt, q_stpr, q_sta0, q_sta1, q_re1, q_re0, q_appA, q_appioA, q_lent0, q_lent1, q_lent2, q_appkA, ↓bind_o, obind_some, List.getElem?_cons_zero, List.getElem?_cons_succ, List.set_cons_zero, List.set_cons_succ, lockS, slotL, Fz.atS, putL, runD, en0, vals, setS, opStop, wipeE, wipeS, restE, restS, plainS, szB_of, posB_of, b62_of, mulB_of, divB_of, powB_of, repB_one, timB_one, flat_one, I_rep, atI_0, atI_1, atI_2, atI_3, atI_4, ixN_of, cut_from, cut_to, eqv_int, eqv_none, shp_int, shp_bool, shp_none, zip_I]
    · subst hb
      refine ⟨?_, ⟨ok, rfl⟩, by rw [hps]; rfl, rfl⟩
      simp (config := {implicitDefEqProofs := false}) (disch := omega) [q_int, q_bl, q_non, q_nm, q_bin, q_neg, q_negI, q_not, q_bop, q_ife, q_cmp, q_ix, q_ixn, q_sl, q_sln, q_blt, q_lenn, q_isi, q_lst, q_tup, q_lc, q_popA, q_ins, q_push, q_pop, q_evc, q_to0, q_to1, q_o0, q_o1, q_intD, q_a0, q_a1, q_tnt, q_tbop, q_tcmp, q_chn, q_tchn, q_tcmpo, q_tval, q_tnm, q_iseq, q_irng, q_ienu, q_izip, q_irrg, q_revL, q_iez, q_irev, q_sset, q_stgt, q_saug, q_intV, q_valI, q_spro, q_spar, q_sput2, q_sput, q_sret, q_sretn, q_sife, q_swhl, q_sfor, q_sex, q_spass, q_sbrk, q_scnt, q_ss0, q_ss1, q_gonx, q_gort, q_gobk, q_goct, q_add, q_addl, q_addt, q_sub, q_mul, q_mull, q_mult, q_div, q_mod, q_pow, q_eq, q_ne, q_lt, q_le, q_gt, q_ge, q_is1, q_is2, q_is3, q_is4, q_is5, q_tr0, q_trb, q_tri, q_trl, q_trt, q_ixl, q_ixt, q_sll, q_slt, q_sls, q_lenl, q_lent, q_inti, q_absi, q_lisl, q_list, q_tupl, q_tupt, q_all, q_maxl, q_max, q_min, q_itl, q_itt, q_seql, q_seqt, q_rng1, q_rng2, q_enu1, q_enu2, q_end1, q_end2, q_own, q_val, q_st1, q_stt, q_stpr, q_sta0, q_sta1, q_re1, q_re0, q_appA, q_appioA, q_lent0, q_lent1, q_lent2, q_appkA, ↓bind_o, obind_some, List.getElem?_cons_zero, List.getElem?_cons_succ, List.set_cons_zero, List.set_cons_succ, lockS, slotL, Fz.atS, putL, runD, en0, vals, setS, opStop, wipeE, wipeS, restE, restS, plainS, szB_of, posB_of, b62_of, mulB_of, divB_of, powB_of, repB_one, timB_one, flat_one, I_rep, atI_0, atI_1, atI_2, atI_3, atI_4, ixN_of, cut_from, cut_to, eqv_int, eqv_none, shp_int, shp_bool, shp_none, zip_I]
    · subst hb
      refine ⟨?_, ⟨ok, rfl⟩, by rw [hps]; rfl⟩
      simp (config := {implicitDefEqProofs := false}) (disch := omega) [q_int, q_bl, q_non, q_nm, q_bin, q_neg, q_negI, q_not, q_bop, q_ife, q_cmp, q_ix, q_ixn, q_sl, q_sln, q_blt, q_lenn, q_isi, q_lst, q_tup, q_lc, q_popA, q_ins, q_push, q_pop, q_evc, q_to0, q_to1, q_o0, q_o1, q_intD, q_a0, q_a1, q_tnt, q_tbop, q_tcmp, q_chn, q_tchn, q_tcmpo, q_tval, q_tnm, q_iseq, q_irng, q_ienu, q_izip, q_irrg, q_revL, q_iez, q_irev, q_sset, q_stgt, q_saug, q_intV, q_valI, q_spro, q_spar, q_sput2, q_sput, q_sret, q_sretn, q_sife, q_swhl, q_sfor, q_sex, q_spass, q_sbrk, q_scnt, q_ss0, q_ss1, q_gonx, q_gort, q_gobk, q_goct, q_add, q_addl, q_addt, q_sub, q_mul, q_mull, q_mult, q_div, q_mod, q_pow, q_eq, q_ne, q_lt, q_le, q_gt, q_ge, q_is1, q_is2, q_is3, q_is4, q_is5, q_tr0, q_trb, q_tri, q_trl, q_trt, q_ixl, q_ixt, q_sll, q_slt, q_sls, q_lenl, q_lent, q_inti, q_absi, q_lisl, q_list, q_tupl, q_tupt, q_all, q_maxl, q_max, q_min, q_itl, q_itt, q_seql, q_seqt, q_rng1, q_rng2, q_enu1, q_enu2, q_end1, q_end2, q_own, q_val, q_st1, q_stt, q_stpr, q_sta0, q_sta1, q_re1, q_re0, q_appA, q_appioA, q_lent0, q_lent1, q_lent2, q_appkA, ↓bind_o, obind_some, List.getElem?_cons_zero, List.getElem?_cons_succ, List.set_cons_zero, List.set_cons_succ, lockS, slotL, Fz.atS, putL, runD, en0, vals, setS, opStop, wipeE, wipeS, restE, restS, plainS, szB_of, posB_of, b62_of, mulB_of, divB_of, powB_of, repB_one, timB_one, flat_one, I_rep, atI_0, atI_1, atI_2, atI_3, atI_4, ixN_of, cut_from, cut_to, eqv_int, eqv_none, shp_int, shp_bool, shp_none, zip_I]
  · rw [if_neg hn]
    have hG : G ≠ 0 := fun e => hn (Po.eq0.mp e)
    have c := call_dvQ h6 F G hG lf lg
    have ck := (hk (.tuple (I G.f)) (.tuple (I F.f)) (.int P.1)).trans c
    refine ⟨.rt false (.tuple [.tuple (I (F.quo G).f), .tuple (I (F.rem G).f)]) ⟨[.val (.int P.1), .val (.tuple (I F.f)), .val (.tuple (I G.f)), .val (.bool b), .no], []⟩, tryA_ok (m := 60) co hs hf gC (by decide) hck ?_ (fun e q => by cases q), rfl⟩
    generalize I (F.quo G).f = R1 at *
    generalize I (F.rem G).f = R2 at *
    generalize I F.f = X1 at *
    generalize I G.f = X2 at *
    unfold pt_rs
    cases b <;> simp (config := {implicitDefEqProofs := false}) (disch := omega) [hN, c, ck, q_int, q_bl, q_non, q_nm, q_bin, q_neg, q_negI, q_not, q_bop, q_ife, q_cmp, q_ix, q_ixn, q_sl, q_sln, q_blt, q_lenn, q_isi, q_lst, q_tup, q_lc, q_popA, q_ins, q_push, q_pop, q_evc, q_to0, q_to1, q_o0, q_o1, q_intD, q_a0, q_a1, q_tnt, q_tbop, q_tcmp, q_chn, q_tchn, q_tcmpo, q_tval, q_tnm, q_iseq, q_irng, q_ienu, q_izip, q_irrg, q_revL, q_iez, q_irev, q_sset, q_stgt, q_saug, q_intV, q_valI, q_spro, q_spar, q_sput2, q_sput, q_sret, q_sretn, q_sife, q_swhl, q_sfor, q_sex, q_spass, q_sbrk, q_scnt, q_ss0, q_ss1, q_gonx, q_gort, q_gobk, q_goct, q_add, q_addl, q_addt, q_sub, q_mul, q_mull, q_mult, q_div, q_mod, q_pow, q_eq, q_ne, q_lt, q_le, q_gt, q_ge, q_is1, q_is2, q_is3, q_is4, q_is5, q_tr0, q_trb, q_tri, q_trl, q_trt, q_ixl, q_ixt, q_sll, q_slt, q_sls, q_lenl, q_lent, q_inti, q_absi, q_lisl, q_list, q_tupl, q_tupt, q_all, q_maxl, q_max, q_min, q_itl, q_itt, q_seql, q_seqt, q_rng1, q_rng2, q_enu1, q_enu2, q_end1, q_end2, q_own, q_val, q_st1, q_stt, q_stpr, q_sta0, q_sta1, q_re1, q_re0, q_appA, q_appioA, q_lent0, q_lent1, q_lent2, q_appkA, ↓bind_o, obind_some, List.getElem?_cons_zero, List.getElem?_cons_succ, List.set_cons_zero, List.set_cons_succ, lockS, slotL, Fz.atS, putL, runD, en0, vals, setS, opStop, wipeE, wipeS, restE, restS, plainS, szB_of, posB_of, b62_of, mulB_of, divB_of, powB_of, repB_one, timB_one, flat_one, I_rep, atI_0, atI_1, atI_2, atI_3, atI_4, ixN_of, cut_from, cut_to, eqv_int, eqv_none, shp_int, shp_bool, shp_none, zip_I]
end K03
set_option Elab.async false
set_option linter.all false
set_option maxRecDepth 100000
set_option maxHeartbeats 4000000
namespace K03
open PySem PySem.Spec PyProof.Rows L2 Fz W1 K05
variable {fs : List (Str × Fn)} {N : List Str} {P : Prm}
/-! ### _law_division_so -/
def ds2 : RS := .ife (.bop .And (.cmp .Eq (.appio 13 0 [(.int 3)]) (.int 0)) (.cmp .Lt (.bin .Add (.lenn 2) (.lenn 3)) (.int 40))) [.set 2 (.app 21 [(.nm 1), (.nm 2), (.nm 3)])] []
def ds4 : RS := .ife (.cmp .Eq (.lenn 3) (.int 0)) [.ife (.nt (.val (.app 15 [(.nm 4), (.tup [(.str "zero"), (.str "ZeroForm")])]))) [.ret (.bl false)] []] [.ife (.bop .Or (.nt (.val (.isi (.nm 4) ["tuple"]))) (.bop .Or (.cmp .NotEq (.lenn 4) (.int 2)) (.bop .Or (.nt (.val (.app 24 [(.nm 1), (.ixn 4 (.int 0))]))) (.nt (.val (.app 24 [(.nm 1), (.ixn 4 (.int 1))])))))) [.ret (.bl false)] [], .ife (.bop .Or (.cmp .GtE (.blt .len [(.ixn 4 (.int 1))]) (.lenn 3)) (.cmp .NotEq (.app 20 [(.nm 1), (.app 21 [(.nm 1), (.ixn 4 (.int 0)), (.nm 3)]), (.ixn 4 (.int 1))]) (.nm 2))) [.ret (.bl false)] []]
def ds5 : RS := .set 5 (.ife (.cmp .Eq (.nm 3) (.tup [])) (.cmp .Eq (.nm 2) (.tup [])) (.cmp .Eq (.ix (.app 23 [(.nm 1), (.nm 2), (.nm 3)]) (.int 1)) (.tup [])))
def B_dso : List RS := [.set 2 (.appio 25 0 [(.nm 1), (.appio 14 0 [(.lst [(.int 1), (.int 3), (.int 6), (.int 9), (.int 40)])])]), .set 3 (.appio 14 0 [(.lst [(.appio 25 0 [(.nm 1), (.int 3)]), (.appio 25 0 [(.nm 1), (.int 3)]), (.appio 25 0 [(.nm 1), (.int 12)]), (.tup []), (.tup [(.bin .Add (.int 1) (.appio 13 0 [(.bin .Sub (.nm 1) (.int 1))]))]), (.nm 2)])]), ds2, .set 4 (.app 28 [(.nm 1), (.nm 2), (.nm 3), (.cmp .Eq (.appio 13 0 [(.int 2)]) (.int 0))]), ds4, ds5, .ife (.bop .Or (.nt (.val (.app 15 [(.app 8 [(.nm 1), (.nm 3), (.nm 2)]), (.nm 5)]))) (.nt (.val (.app 15 [(.appk 8 0 [] [(.nm 2), (.nm 3), (.nm 1)]), (.nm 5)])))) [.ret (.bl false)] [], .ret (.app 15 [(.lst [(.app 8 [(.nm 1), (.tup []), (.tup [])]), (.app 8 [(.nm 1), (.tup []), (.tup [(.int 1)])]), (.app 8 [(.nm 1), (.tup [(.int 1)]), (.tup [])]), (.app 8 [(.nm 1), (.tup [(.bin .Sub (.nm 1) (.int 1))]), (.nm 2)])]), (.lst [(.bl true), (.bl false), (.bl true), (.bl true)])])]
theorem cs_f {x : Int} (h0 : 0 < x) (h1 : x < P.1) : (cs P x).f = [x] := formOf_self ⟨fun y hy => by rw [List.mem_singleton.mp hy]; show 0 ≤ x ∧ x < (P.1 : Int); omega, trim_snoc [] (by omega)⟩
theorem unit_dv (F : Po P) : Dv (cs P ((P.1 : Int) - 1)) F := by
  refine ⟨cs P ((P.1 : Int) - 1) * F, ?_⟩
  have e : cs P ((P.1 : Int) - 1) * cs P ((P.1 : Int) - 1) = 1 := by
    rw [cs_mul]
    refine cs_one ?_
    have e2 : ((P.1 : Int) - 1) * ((P.1 : Int) - 1) = 1 + P.i * ((P.1 : Int) - 2) := by
      show _ = 1 + (P.1 : Int) * ((P.1 : Int) - 2)
      grind
    rw [e2, Int.add_mul_emod_self_left]
    exact Int.emod_eq_of_lt (by decide) (by have := P.two; omega)
  generalize cs P ((P.1 : Int) - 1) = u at *
  grind
structure Td (fs : List (Str × Fn)) : Prop where
  a8 : At fs 8 false 3 d_divides
  k8 : ∀ a b c, kAt fs 8 0 0 [] [a, b, c] = cAt fs 8 [c, b, a]
  a13 : At fs 13 true 2 d_draw
  a14 : At fs 14 true 2 d_of
  a15 : At fs 15 false 2 (d_same3 3)
  a20 : At fs 20 false 3 d_add
  a21 : At fs 21 false 3 d_multiply
  a23 : At fs 23 false 3 d_ldiv
  a24 : At fs 24 false 2 d_is_form
  a25 : At fs 25 true 3 W1.d_form
  a28 : At fs 28 false 4 d_parted
theorem lform (T : Td fs) {b : Bag} {n deg : Int} (h : Inv b n) (hn : n ≤ 998000000) (d0 : 0 ≤ deg) (d1 : deg ≤ 40) : ∃ (F : Po P) (b' : Bag), bAt fs 25 (bagD b) [.int P.1, .int deg] = some (false, .tuple (I F.f), bagD b') ∧ Inv b' (n + 43) ∧ F.len ≤ 41 := by
  obtain ⟨p0, p1⟩ := P97 P
  obtain ⟨i1, f1, f2⟩ := form_inv (p := (P.1 : Int)) (deg := deg) h (by omega) d0 d1
  have c := call_lform T.a25 (p := P.1) (deg := deg) (b := b) (h.up (by omega)) (by omega) p1 d0 d1
  exact ⟨⟨_, f1⟩, _, c, i1, f2⟩
theorem ldraw (T : Td fs) {b : Bag} {n top : Int} (h : Inv b n) (hn : n ≤ 998000000) (d0 : 0 < top) (d1 : top ≤ 100000) : ∃ (x : Int) (b' : Bag), bAt fs 13 (bagD b) [.int top] = some (false, .int x, bagD b') ∧ Inv b' (n + 1) ∧ 0 ≤ x ∧ x < top := by
  obtain ⟨i1, e0, e1⟩ := draw_inv h d0
  exact ⟨_, _, call_draw T.a13 (h.up (by omega)) d0 (by omega), i1, e0, e1⟩
theorem lofF (T : Td fs) {b : Bag} {n : Int} {l : List (Po P)} (h : Inv b n) (hn : n ≤ 998000000) (h0 : l ≠ []) (h1 : l.length ≤ 100) : ∃ (G : Po P) (b' : Bag), bAt fs 14 (bagD b) [.list (Ft l)] = some (false, .tuple (I G.f), bagD b') ∧ Inv b' (n + 1) ∧ G ∈ l := by
  have hne : Ft l ≠ [] := fun e => h0 (by have := congrArg List.length e; rw [Ft_len] at this; exact List.eq_nil_of_length_eq_zero this)
  obtain ⟨i1, m1⟩ := of_inv h hne
  have c := call_of T.a14 (b := b) (xs := Ft l) (h.up (by omega)) hne (by rw [Ft_len]; omega)
  rw [Ft_map] at m1
  obtain ⟨G, g1, g2⟩ := List.mem_map.mp m1
  rw [← Ft_map] at g2
  rw [← g2] at c
  exact ⟨G, _, c, i1, g1⟩
def DE : List D := [.int 1, .int 3, .int 6, .int 9, .int 40]
theorem lofE (T : Td fs) {b : Bag} {n : Int} (h : Inv b n) (hn : n ≤ 998000000) : ∃ (x : Int) (b' : Bag), bAt fs 14 (bagD b) [.list DE] = some (false, .int x, bagD b') ∧ Inv b' (n + 1) ∧ 0 ≤ x ∧ x ≤ 40 := by
  obtain ⟨i1, m1⟩ := of_inv (xs := DE) h (by decide)
  have c := call_of T.a14 (b := b) (xs := DE) (h.up (by omega)) (by decide) (by decide)
  obtain ⟨x, ex, x0, x1⟩ : ∃ i : Int, (ofL b DE).1 = .int i ∧ 0 ≤ i ∧ i ≤ 40 := by
    simp only [DE, List.mem_cons, List.not_mem_nil, or_false] at m1
    rcases m1 with e | e | e | e | e <;> exact ⟨_, e, by decide, by decide⟩
  rw [ex] at c
  exact ⟨x, _, c, i1, x0, x1⟩
theorem s5 (T : Td fs) (F G : Po P) (lF : F.len ≤ 200) (lG : G.len ≤ 60) {s4 y5 : Sl} {B : List D} (m : Nat) : evS ⟨N, fs, WW⟩ (m + 20) ds5 ⟨[.bag, .val (.int P.1), .val (.tuple (I F.f)), .val (.tuple (I G.f)), s4, y5], B⟩ = some (.nx ⟨[.bag, .val (.int P.1), .val (.tuple (I F.f)), .val (.tuple (I G.f)), s4, .val (.bool (dvB G F))], B⟩) := by
  have e1 := eqv_nil G.f
  have e2 := eqv_nil F.f
  have h1 := shp_tup G.f
  have h2 := shp_tup F.f
  unfold dvB
  by_cases hg : G.f = []
  · rw [if_pos hg]
    have e3 : G.f.isEmpty = true := by rw [hg]; rfl
    rw [e3] at e1
    generalize I F.f = X at *
    generalize I G.f = Y at *
    generalize F.f.isEmpty = b at *
    unfold ds5
    simp (config := {implicitDefEqProofs := false}) (disch := omega) [e1, e2, h1, h2, shp_nil, q_int, q_bl, q_non, q_nm, q_bin, q_neg, q_negI, q_not, q_bop, q_ife, q_cmp, q_ix, q_ixn, q_sl, q_sln, q_blt, q_lenn, q_isi, q_lst, q_tup, q_lc, q_popA, q_ins, q_push, q_pop, q_evc, q_to0, q_to1, q_o0, q_o1, q_intD, q_a0, q_a1, q_tnt, q_tbop, q_tcmp, q_chn, q_tchn, q_tcmpo, q_tval, q_tnm, q_iseq, q_irng, q_ienu, q_izip, q_irrg, q_revL, q_iez, q_irev, q_sset, q_stgt, q_saug, q_intV, q_valI, q_spro, q_spar, q_sput2, q_sput, q_sret, q_sretn, q_sife, q_swhl, q_sfor, q_sex, q_spass, q_sbrk, q_scnt, q_ss0, q_ss1, q_gonx, q_gort, q_gobk, q_goct, q_add, q_addl, q_addt, q_sub, q_mul, q_mull, q_mult, q_div, q_mod, q_pow, q_eq, q_ne, q_lt, q_le, q_gt, q_ge, q_is1, q_is2, q_is3, q_is4, q_is5, q_tr0, q_trb, q_tri, q_trl, q_trt, q_ixl, q_ixt, q_sll, q_slt, q_sls, q_lenl, q_lent, q_inti, q_absi, q_lisl, q_list, q_tupl, q_tupt, q_all, q_maxl, q_max, q_min, q_itl, q_itt, q_seql, q_seqt, q_rng1, q_rng2, q_enu1, q_enu2, q_end1, q_end2, q_own, q_val, q_st1, q_stt, q_stpr, q_sta0, q_sta1, q_re1, q_re0, q_appA, q_appioA, q_lent0, q_lent1, q_lent2, q_appkA, ↓bind_o, obind_some, List.getElem?_cons_zero, List.getElem?_cons_succ, List.set_cons_zero, List.set_cons_succ, lockS, slotL, Fz.atS, putL, runD, en0, vals, setS, opStop, wipeE, wipeS, restE, restS, plainS, szB_of, posB_of, b62_of, mulB_of, divB_of, powB_of, repB_one, timB_one, flat_one, I_rep, atI_0, atI_1, atI_2, atI_3, atI_4, ixN_of, cut_from, cut_to, eqv_int, eqv_none, shp_int, shp_bool, shp_none, zip_I]
  · rw [if_neg hg]
    have hG : G ≠ 0 := fun e => hg (Po.eq0.mp e)
    have e3 : G.f.isEmpty = false := by simpa using hg
    rw [e3] at e1
    have c := call_dvQ T.a23 F G hG (by omega) (by omega)
    have e4 := eqv_nil (F.rem G).f
    have h4 := shp_tup (F.rem G).f
    generalize (F.rem G).f.isEmpty = b at *
    generalize I (F.rem G).f = R at *
    generalize I (F.quo G).f = Q at *
    generalize I F.f = X at *
    generalize I G.f = Y at *
    unfold ds5
    simp (config := {implicitDefEqProofs := false}) (disch := omega) [e1, c, e4, h1, h4, shp_nil, q_int, q_bl, q_non, q_nm, q_bin, q_neg, q_negI, q_not, q_bop, q_ife, q_cmp, q_ix, q_ixn, q_sl, q_sln, q_blt, q_lenn, q_isi, q_lst, q_tup, q_lc, q_popA, q_ins, q_push, q_pop, q_evc, q_to0, q_to1, q_o0, q_o1, q_intD, q_a0, q_a1, q_tnt, q_tbop, q_tcmp, q_chn, q_tchn, q_tcmpo, q_tval, q_tnm, q_iseq, q_irng, q_ienu, q_izip, q_irrg, q_revL, q_iez, q_irev, q_sset, q_stgt, q_saug, q_intV, q_valI, q_spro, q_spar, q_sput2, q_sput, q_sret, q_sretn, q_sife, q_swhl, q_sfor, q_sex, q_spass, q_sbrk, q_scnt, q_ss0, q_ss1, q_gonx, q_gort, q_gobk, q_goct, q_add, q_addl, q_addt, q_sub, q_mul, q_mull, q_mult, q_div, q_mod, q_pow, q_eq, q_ne, q_lt, q_le, q_gt, q_ge, q_is1, q_is2, q_is3, q_is4, q_is5, q_tr0, q_trb, q_tri, q_trl, q_trt, q_ixl, q_ixt, q_sll, q_slt, q_sls, q_lenl, q_lent, q_inti, q_absi, q_lisl, q_list, q_tupl, q_tupt, q_all, q_maxl, q_max, q_min, q_itl, q_itt, q_seql, q_seqt, q_rng1, q_rng2, q_enu1, q_enu2, q_end1, q_end2, q_own, q_val, q_st1, q_stt, q_stpr, q_sta0, q_sta1, q_re1, q_re0, q_appA, q_appioA, q_lent0, q_lent1, q_lent2, q_appkA, ↓bind_o, obind_some, List.getElem?_cons_zero, List.getElem?_cons_succ, List.set_cons_zero, List.set_cons_succ, lockS, slotL, Fz.atS, putL, runD, en0, vals, setS, opStop, wipeE, wipeS, restE, restS, plainS, szB_of, posB_of, b62_of, mulB_of, divB_of, powB_of, repB_one, timB_one, flat_one, I_rep, atI_0, atI_1, atI_2, atI_3, atI_4, ixN_of, cut_from, cut_to, eqv_int, eqv_none, shp_int, shp_bool, shp_none, zip_I]
theorem s4 (T : Td fs) (F G : Po P) (lF : F.len ≤ 200) (lG : G.len ≤ 60) {y5 : Sl} {B : List D} (m : Nat) : evS ⟨N, fs, WW⟩ (m + 30) ds4 ⟨[.bag, .val (.int P.1), .val (.tuple (I F.f)), .val (.tuple (I G.f)), .val (ptD F G), y5], B⟩ = some (.nx ⟨[.bag, .val (.int P.1), .val (.tuple (I F.f)), .val (.tuple (I G.f)), .val (ptD F G), y5], B⟩) := by
  unfold ptD
  by_cases hg : G.f = []
  · rw [if_pos hg, hg]
    have c := call_same3 T.a15 (n := 3) (d := zeD) (by decide +kernel)
    unfold zeD at c ⊢
    show evS _ _ _ ⟨[_, _, _, .val (.tuple []), _, _], _⟩ = some (.nx ⟨[_, _, _, .val (.tuple []), _, _], _⟩)
    generalize I F.f = X at *
    unfold ds4
    simp (config := {implicitDefEqProofs := false}) (disch := omega) [c, q_estr, q_int, q_bl, q_non, q_nm, q_bin, q_neg, q_negI, q_not, q_bop, q_ife, q_cmp, q_ix, q_ixn, q_sl, q_sln, q_blt, q_lenn, q_isi, q_lst, q_tup, q_lc, q_popA, q_ins, q_push, q_pop, q_evc, q_to0, q_to1, q_o0, q_o1, q_intD, q_a0, q_a1, q_tnt, q_tbop, q_tcmp, q_chn, q_tchn, q_tcmpo, q_tval, q_tnm, q_iseq, q_irng, q_ienu, q_izip, q_irrg, q_revL, q_iez, q_irev, q_sset, q_stgt, q_saug, q_intV, q_valI, q_spro, q_spar, q_sput2, q_sput, q_sret, q_sretn, q_sife, q_swhl, q_sfor, q_sex, q_spass, q_sbrk, q_scnt, q_ss0, q_ss1, q_gonx, q_gort, q_gobk, q_goct, q_add, q_addl, q_addt, q_sub, q_mul, q_mull, q_mult, q_div, q_mod, q_pow, q_eq, q_ne, q_lt, q_le, q_gt, q_ge, q_is1, q_is2, q_is3, q_is4, q_is5, q_tr0, q_trb, q_tri, q_trl, q_trt, q_ixl, q_ixt, q_sll, q_slt, q_sls, q_lenl, q_lent, q_inti, q_absi, q_lisl, q_list, q_tupl, q_tupt, q_all, q_maxl, q_max, q_min, q_itl, q_itt, q_seql, q_seqt, q_rng1, q_rng2, q_enu1, q_enu2, q_end1, q_end2, q_own, q_val, q_st1, q_stt, q_stpr, q_sta0, q_sta1, q_re1, q_re0, q_appA, q_appioA, q_lent0, q_lent1, q_lent2, q_appkA, ↓bind_o, obind_some, List.getElem?_cons_zero, List.getElem?_cons_succ, List.set_cons_zero, List.set_cons_succ, lockS, slotL, Fz.atS, putL, runD, en0, vals, setS, opStop, wipeE, wipeS, restE, restS, plainS, szB_of, posB_of, b62_of, mulB_of, divB_of, powB_of, repB_one, timB_one, flat_one, I_rep, atI_0, atI_1, atI_2, atI_3, atI_4, ixN_of, cut_from, cut_to, eqv_int, eqv_none, shp_int, shp_bool, shp_none, zip_I]
  · rw [if_neg hg]
    have hG : G ≠ 0 := fun e => hg (Po.eq0.mp e)
    have hr := Po.rem_len F hG
    have hq : (F.quo G).len ≤ 300 := by
      rcases quo_len F hG with q | q
      · rw [q, Po.len0]; omega
      · omega
    have c1 := call_is_form T.a24 (p := P.i) (F.quo G).h (by have : (F.quo G).f.length ≤ 300 := hq; omega)
    have c2 := call_is_form T.a24 (p := P.i) (F.rem G).h (by have : (F.rem G).f.length < G.len := hr; omega)
    have c3 := call_mulP T.a21 (F.quo G) G (by omega) (by omega)
    have lm := Po.len_mul_le (F.quo G) G
    have c4 := call_addP T.a20 (F.quo G * G) (F.rem G) (by omega) (by omega)
    rw [quo_rem F hG] at c4
    have e1 := eqv_tup F.f F.f
    rw [beq_self_eq_true] at e1
    have h1 := shp_tup F.f
    have l1 : (I G.f).length = G.len := I_len _
    have l2 : (I (F.rem G).f).length = (F.rem G).len := I_len _
    have g1 : ¬ ((I G.f).length : Int) = 0 := by rw [l1]; have := Po.len_pos hG; omega
    have g2 : ¬ ((I (F.rem G).f).length : Int) ≥ ((I G.f).length : Int) := by rw [l1, l2]; omega
    have g3 : decide (((I G.f).length : Int) ≤ ((I (F.rem G).f).length : Int)) = false := decide_eq_false g2
    have g4 : ¬ I G.f = [] := fun e => g1 (by rw [e]; rfl)
    change cAt fs 24 [.int (P.1 : Int), _] = _ at c1
    change cAt fs 24 [.int (P.1 : Int), _] = _ at c2
    generalize I (F.quo G * G).f = M at *
    generalize I (F.rem G).f = R at *
    generalize I (F.quo G).f = Q at *
    generalize I F.f = X at *
    generalize I G.f = Y at *
    unfold ds4
    simp (config := {implicitDefEqProofs := false}) (disch := omega) [c1, c2, c3, c4, e1, h1, g1, g2, g3, g4, noTag, isiD, tyD, isTy, q_int, q_bl, q_non, q_nm, q_bin, q_neg, q_negI, q_not, q_bop, q_ife, q_cmp, q_ix, q_ixn, q_sl, q_sln, q_blt, q_lenn, q_isi, q_lst, q_tup, q_lc, q_popA, q_ins, q_push, q_pop, q_evc, q_to0, q_to1, q_o0, q_o1, q_intD, q_a0, q_a1, q_tnt, q_tbop, q_tcmp, q_chn, q_tchn, q_tcmpo, q_tval, q_tnm, q_iseq, q_irng, q_ienu, q_izip, q_irrg, q_revL, q_iez, q_irev, q_sset, q_stgt, q_saug, q_intV, q_valI, q_spro, q_spar, q_sput2, q_sput, q_sret, q_sretn, q_sife, q_swhl, q_sfor, q_sex, q_spass, q_sbrk, q_scnt, q_ss0, q_ss1, q_gonx, q_gort, q_gobk, q_goct, q_add, q_addl, q_addt, q_sub, q_mul, q_mull, q_mult, q_div, q_mod, q_pow, q_eq, q_ne, q_lt, q_le, q_gt, q_ge, q_is1, q_is2, q_is3, q_is4, q_is5, q_tr0, q_trb, q_tri, q_trl, q_trt, q_ixl, q_ixt, q_sll, q_slt, q_sls, q_lenl, q_lent, q_inti, q_absi, q_lisl, q_list, q_tupl, q_tupt, q_all, q_maxl, q_max, q_min, q_itl, q_itt, q_seql, q_seqt, q_rng1, q_rng2, q_enu1, q_enu2, q_end1, q_end2, q_own, q_val, q_st1, q_stt, q_stpr, q_sta0, q_sta1, q_re1, q_re0, q_appA, q_appioA, q_lent0, q_lent1, q_lent2, q_appkA, ↓bind_o, obind_some, List.getElem?_cons_zero, List.getElem?_cons_succ, List.set_cons_zero, List.set_cons_succ, lockS, slotL, Fz.atS, putL, runD, en0, vals, setS, opStop, wipeE, wipeS, restE, restS, plainS, szB_of, posB_of, b62_of, mulB_of, divB_of, powB_of, repB_one, timB_one, flat_one, I_rep, atI_0, atI_1, atI_2, atI_3, atI_4, ixN_of, cut_from, cut_to, eqv_int, eqv_none, shp_int, shp_bool, shp_none, zip_I]
theorem s2 (T : Td fs) (F G : Po P) (lF : F.len ≤ 41) (lG : G.len ≤ 41) {y4 y5 : Sl} {b : Bag} {n : Int} (h : Inv b n) (hn : n ≤ 997000000) : ∃ (F' : Po P) (b' : Bag), (∀ m, evS ⟨N, fs, WW⟩ (m + 20) ds2 ⟨[.bag, .val (.int P.1), .val (.tuple (I F.f)), .val (.tuple (I G.f)), y4, y5], bagD b⟩ = some (.nx ⟨[.bag, .val (.int P.1), .val (.tuple (I F'.f)), .val (.tuple (I G.f)), y4, y5], bagD b'⟩)) ∧ Inv b' (n + 1) ∧ F'.len ≤ 82 := by
  obtain ⟨x, b', c, i1, x0, x1⟩ := ldraw T h (top := 3) (by omega) (by decide) (by decide)
  have c2 := call_mulP T.a21 F G (by omega) (by omega)
  have lm := Po.len_mul_le F G
  by_cases q : x = 0
  · by_cases q2 : ((I F.f).length : Int) + ((I G.f).length : Int) < 40
    · refine ⟨F * G, b', fun m => ?_, i1, by omega⟩
      generalize bagD b = B at *
      generalize bagD b' = B' at *
      generalize I (F * G).f = M at *
      generalize I F.f = X at *
      generalize I G.f = Y at *
      subst q
      unfold ds2
      simp (config := {implicitDefEqProofs := false}) (disch := omega) [c, c2, decide_eq_true q2, q_int, q_bl, q_non, q_nm, q_bin, q_neg, q_negI, q_not, q_bop, q_ife, q_cmp, q_ix, q_ixn, q_sl, q_sln, q_blt, q_lenn, q_isi, q_lst, q_tup, q_lc, q_popA, q_ins, q_push, q_pop, q_evc, q_to0, q_to1, q_o0, q_o1, q_intD, q_a0, q_a1, q_tnt, q_tbop, q_tcmp, q_chn, q_tchn, q_tcmpo, q_tval, q_tnm, q_iseq, q_irng, q_ienu, q_izip, q_irrg, q_revL, q_iez, q_irev, q_sset, q_stgt, q_saug, q_intV, q_valI, q_spro, q_spar, q_sput2, q_sput, q_sret, q_sretn, q_sife, q_swhl, q_sfor, q_sex, q_spass, q_sbrk, q_scnt, q_ss0, q_ss1, q_gonx, q_gort, q_gobk, q_goct, q_add, q_addl, q_addt, q_sub, q_mul, q_mull, q_mult, q_div, q_mod, q_pow, q_eq, q_ne, q_lt, q_le, q_gt, q_ge, q_is1, q_is2, q_is3, q_is4, q_is5, q_tr0, q_trb, q_tri, q_trl, q_trt, q_ixl, q_ixt, q_sll, q_slt, q_sls, q_lenl, q_lent, q_inti, q_absi, q_lisl, q_list, q_tupl, q_tupt, q_all, q_maxl, q_max, q_min, q_itl, q_itt, q_seql, q_seqt, q_rng1, q_rng2, q_enu1, q_enu2, q_end1, q_end2, q_own, q_val, q_st1, q_stt, q_stpr, q_sta0, q_sta1, q_re1, q_re0, q_appA, q_appioA, q_lent0, q_lent1, q_lent2, q_appkA, ↓bind_o, obind_some, List.getElem?_cons_zero, List.getElem?_cons_succ, List.set_cons_zero, List.set_cons_succ, lockS, slotL, Fz.atS, putL, runD, en0, vals, setS, opStop, wipeE, wipeS, restE, restS, plainS, szB_of, posB_of, b62_of, mulB_of, divB_of, powB_of, repB_one, timB_one, flat_one, I_rep, atI_0, atI_1, atI_2, atI_3, atI_4, ixN_of, cut_from, cut_to, eqv_int, eqv_none, shp_int, shp_bool, shp_none, zip_I]
    · refine ⟨F, b', fun m => ?_, i1, by omega⟩
      generalize bagD b = B at *
      generalize bagD b' = B' at *
      generalize I (F * G).f = M at *
      generalize I F.f = X at *
      generalize I G.f = Y at *
      subst q
      unfold ds2
      simp (config := {implicitDefEqProofs := false}) (disch := omega) [c, c2, decide_eq_false q2, q_int, q_bl, q_non, q_nm, q_bin, q_neg, q_negI, q_not, q_bop, q_ife, q_cmp, q_ix, q_ixn, q_sl, q_sln, q_blt, q_lenn, q_isi, q_lst, q_tup, q_lc, q_popA, q_ins, q_push, q_pop, q_evc, q_to0, q_to1, q_o0, q_o1, q_intD, q_a0, q_a1, q_tnt, q_tbop, q_tcmp, q_chn, q_tchn, q_tcmpo, q_tval, q_tnm, q_iseq, q_irng, q_ienu, q_izip, q_irrg, q_revL, q_iez, q_irev, q_sset, q_stgt, q_saug, q_intV, q_valI, q_spro, q_spar, q_sput2, q_sput, q_sret, q_sretn, q_sife, q_swhl, q_sfor, q_sex, q_spass, q_sbrk, q_scnt, q_ss0, q_ss1, q_gonx, q_gort, q_gobk, q_goct, q_add, q_addl, q_addt, q_sub, q_mul, q_mull, q_mult, q_div, q_mod, q_pow, q_eq, q_ne, q_lt, q_le, q_gt, q_ge, q_is1, q_is2, q_is3, q_is4, q_is5, q_tr0, q_trb, q_tri, q_trl, q_trt, q_ixl, q_ixt, q_sll, q_slt, q_sls, q_lenl, q_lent, q_inti, q_absi, q_lisl, q_list, q_tupl, q_tupt, q_all, q_maxl, q_max, q_min, q_itl, q_itt, q_seql, q_seqt, q_rng1, q_rng2, q_enu1, q_enu2, q_end1, q_end2, q_own, q_val, q_st1, q_stt, q_stpr, q_sta0, q_sta1, q_re1, q_re0, q_appA, q_appioA, q_lent0, q_lent1, q_lent2, q_appkA, ↓bind_o, obind_some, List.getElem?_cons_zero, List.getElem?_cons_succ, List.set_cons_zero, List.set_cons_succ, lockS, slotL, Fz.atS, putL, runD, en0, vals, setS, opStop, wipeE, wipeS, restE, restS, plainS, szB_of, posB_of, b62_of, mulB_of, divB_of, powB_of, repB_one, timB_one, flat_one, I_rep, atI_0, atI_1, atI_2, atI_3, atI_4, ixN_of, cut_from, cut_to, eqv_int, eqv_none, shp_int, shp_bool, shp_none, zip_I]
  · refine ⟨F, b', fun m => ?_, i1, by omega⟩
    generalize bagD b = B at *
    generalize bagD b' = B' at *
    generalize I (F * G).f = M at *
    generalize I F.f = X at *
    generalize I G.f = Y at *
    unfold ds2
    simp (config := {implicitDefEqProofs := false}) (disch := omega) [c, c2, q, q_int, q_bl, q_non, q_nm, q_bin, q_neg, q_negI, q_not, q_bop, q_ife, q_cmp, q_ix, q_ixn, q_sl, q_sln, q_blt, q_lenn, q_isi, q_lst, q_tup, q_lc, q_popA, q_ins, q_push, q_pop, q_evc, q_to0, q_to1, q_o0, q_o1, q_intD, q_a0, q_a1, q_tnt, q_tbop, q_tcmp, q_chn, q_tchn, q_tcmpo, q_tval, q_tnm, q_iseq, q_irng, q_ienu, q_izip, q_irrg, q_revL, q_iez, q_irev, q_sset, q_stgt, q_saug, q_intV, q_valI, q_spro, q_spar, q_sput2, q_sput, q_sret, q_sretn, q_sife, q_swhl, q_sfor, q_sex, q_spass, q_sbrk, q_scnt, q_ss0, q_ss1, q_gonx, q_gort, q_gobk, q_goct, q_add, q_addl, q_addt, q_sub, q_mul, q_mull, q_mult, q_div, q_mod, q_pow, q_eq, q_ne, q_lt, q_le, q_gt, q_ge, q_is1, q_is2, q_is3, q_is4, q_is5, q_tr0, q_trb, q_tri, q_trl, q_trt, q_ixl, q_ixt, q_sll, q_slt, q_sls, q_lenl, q_lent, q_inti, q_absi, q_lisl, q_list, q_tupl, q_tupt, q_all, q_maxl, q_max, q_min, q_itl, q_itt, q_seql, q_seqt, q_rng1, q_rng2, q_enu1, q_enu2, q_end1, q_end2, q_own, q_val, q_st1, q_stt, q_stpr, q_sta0, q_sta1, q_re1, q_re0, q_appA, q_appioA, q_lent0, q_lent1, q_lent2, q_appkA, ↓bind_o, obind_some, List.getElem?_cons_zero, List.getElem?_cons_succ, List.set_cons_zero, List.set_cons_succ, lockS, slotL, Fz.atS, putL, runD, en0, vals, setS, opStop, wipeE, wipeS, restE, restS, plainS, szB_of, posB_of, b62_of, mulB_of, divB_of, powB_of, repB_one, timB_one, flat_one, I_rep, atI_0, atI_1, atI_2, atI_3, atI_4, ixN_of, cut_from, cut_to, eqv_int, eqv_none, shp_int, shp_bool, shp_none, zip_I]
end K03
set_option Elab.async false
set_option linter.all false
set_option maxRecDepth 100000
set_option maxHeartbeats 4000000
namespace K03
open PySem PySem.Spec PyProof.Rows L2 Fz W1 K05
variable {fs : List (Str × Fn)} {N : List Str} {P : Prm}
theorem dso_run (T : Td fs) (hN : N.length = 6) {b : Bag} {n : Int} (h : Inv b n) (hn : n ≤ 990000000) : ∃ b' : Bag, runD ⟨N, fs, WW⟩ 80 true B_dso [.list (bagD b), .int P.1] = some (false, .bool true, bagD b') ∧ Inv b' (n + 300) := by
  obtain ⟨p0, p1⟩ := P97 P
  obtain ⟨x, b1, c1, i1, x0, x1⟩ := lofE T h (by omega)
  obtain ⟨F, b2, c2, i2, lF⟩ := lform (P := P) T i1 (by omega) x0 x1
  obtain ⟨F1, b3, c3, i3, lF1⟩ := lform (P := P) T i2 (deg := 3) (by omega) (by decide) (by decide)
  obtain ⟨F2, b4, c4, i4, lF2⟩ := lform (P := P) T i3 (deg := 3) (by omega) (by decide) (by decide)
  obtain ⟨F3, b5, c5, i5, lF3⟩ := lform (P := P) T i4 (deg := 12) (by omega) (by decide) (by decide)
  obtain ⟨u, b6, c6, i6, u0, u1⟩ := ldraw T i5 (top := (P.1 : Int) - 1) (by omega) (by omega) (by omega)
  have hcs : (cs P (1 + u)).f = [1 + u] := cs_f (by omega) (by omega)
  obtain ⟨G, b7, c7, i7, mG⟩ := lofF (l := [F1, F2, F3, 0, cs P (1 + u), F]) T i6 (by omega) (by simp) (by simp)
  have lG : G.len ≤ 41 := by
    have l0 : (0 : Po P).len = 0 := Po.len0
    have l1 : (cs P (1 + u)).len = 1 := by unfold Po.len; rw [hcs]; rfl
    simp only [List.mem_cons, List.not_mem_nil, or_false] at mG
    rcases mG with rfl | rfl | rfl | rfl | rfl | rfl <;> omega
  have eFt : Ft [F1, F2, F3, (0 : Po P), cs P (1 + u), F] = [.tuple (I F1.f), .tuple (I F2.f), .tuple (I F3.f), .tuple [], .tuple [.int (1 + u)], .tuple (I F.f)] := by
    unfold Ft
    simp only [List.map_cons, List.map_nil, Rw_cons, Rw_nil]
    rw [hcs, zero_f]
    rfl
  rw [eFt] at c7
  obtain ⟨F', b8, r2, i8, lF'⟩ := s2 (N := N) T F G lF lG (y4 := .no) (y5 := .no) i7 (by omega)
  obtain ⟨x2, b9, c9, i9, _, _⟩ := ldraw T i8 (top := 2) (by omega) (by decide) (by decide)
  have c28 : ∀ bb, cAt fs 28 [.int P.1, .tuple (I F'.f), .tuple (I G.f), .bool bb] = some (false, ptD F' G) := fun bb => call_parted T.a28 F' G bb (by omega) (by omega)
  have r4 := fun m => s4 (N := N) T F' G (by omega) (by omega) (y5 := .no) (B := bagD b9) m
  have r5 := fun m => s5 (N := N) T F' G (by omega) (by omega) (s4 := .val (ptD F' G)) (y5 := .no) (B := bagD b9) m
  have d1 := call_divides T.a8 G F' (by omega) (by omega)
  have d2 := (T.k8 (.tuple (I F'.f)) (.tuple (I G.f)) (.int P.1)).trans d1
  have sb : ∀ bb : Bool, cAt fs 15 [.bool bb, .bool bb] = some (false, .bool true) := fun bb => call_same3 T.a15 (by rfl)
  have l1 : (1 : Po P).len = 1 := by unfold Po.len; rw [one_f]; rfl
  have l0 : (0 : Po P).len = 0 := Po.len0
  have q1 := call_divides T.a8 (0 : Po P) 0 (by omega) (by omega)
  have q2 := call_divides T.a8 (0 : Po P) 1 (by omega) (by omega)
  have q3 := call_divides T.a8 (1 : Po P) 0 (by omega) (by omega)
  have hcm : (cs P ((P.1 : Int) - 1)).f = [(P.1 : Int) - 1] := cs_f (by omega) (by omega)
  have q4 := call_divides T.a8 (cs P ((P.1 : Int) - 1)) F' (by omega) (by unfold Po.len; rw [hcm]; show 1 ≤ 1000; decide)
  rw [(dvB_iff (0 : Po P) 0).mpr (.refl _), zero_f] at q1
  have e2 : dvB (0 : Po P) 1 = false := by
    cases z : dvB (0 : Po P) 1 with
    | false => rfl
    | true => exact absurd ((dvB_iff _ _).mp z).of0 Po.one_ne
  rw [e2, zero_f, one_f] at q2
  rw [(dvB_iff (1 : Po P) 0).mpr (.zero _), zero_f, one_f] at q3
  rw [(dvB_iff (cs P ((P.1 : Int) - 1)) F').mpr (unit_dv _), hcm] at q4
  change cAt fs 8 [_, .tuple [], .tuple []] = _ at q1
  change cAt fs 8 [_, .tuple [], .tuple [.int 1]] = _ at q2
  change cAt fs 8 [_, .tuple [.int 1], .tuple []] = _ at q3
  change cAt fs 8 [_, .tuple [.int ((P.1 : Int) - 1)], _] = _ at q4
  have c15 := call_same3 T.a15 (n := 3) (d := .list [.bool true, .bool false, .bool true, .bool true]) (by decide +kernel)
  refine ⟨b9, ?_, i9.up (by omega)⟩
  generalize bagD b = B at *
  generalize bagD b1 = B1 at *
  generalize bagD b2 = B2 at *
  generalize bagD b3 = B3 at *
  generalize bagD b4 = B4 at *
  generalize bagD b5 = B5 at *
  generalize bagD b6 = B6 at *
  generalize bagD b7 = B7 at *
  generalize bagD b8 = B8 at *
  generalize bagD b9 = B9 at *
  generalize ptD F' G = PT at *
  generalize dvB G F' = DV at *
  generalize I F.f = X at *
  generalize I F'.f = X' at *
  generalize I F1.f = X1 at *
  generalize I F2.f = X2 at *
  generalize I F3.f = X3 at *
  generalize I G.f = Y at *
  unfold DE at *
  unfold B_dso
  generalize ds2 = D2 at *
  generalize ds4 = D4 at *
  generalize ds5 = D5 at *
  simp (config := {implicitDefEqProofs := false}) (disch := omega) [hN, c1, c2, c3, c4, c5, c6, c7, r2, c9, c28, r4, r5, d1, d2, sb, q1, q2, q3, q4, c15, q_int, q_bl, q_non, q_nm, q_bin, q_neg, q_negI, q_not, q_bop, q_ife, q_cmp, q_ix, q_ixn, q_sl, q_sln, q_blt, q_lenn, q_isi, q_lst, q_tup, q_lc, q_popA, q_ins, q_push, q_pop, q_evc, q_to0, q_to1, q_o0, q_o1, q_intD, q_a0, q_a1, q_tnt, q_tbop, q_tcmp, q_chn, q_tchn, q_tcmpo, q_tval, q_tnm, q_iseq, q_irng, q_ienu, q_izip, q_irrg, q_revL, q_iez, q_irev, q_sset, q_stgt, q_saug, q_intV, q_valI, q_spro, q_spar, q_sput2, q_sput, q_sret, q_sretn, q_sife, q_swhl, q_sfor, q_sex, q_spass, q_sbrk, q_scnt, q_ss0, q_ss1, q_gonx, q_gort, q_gobk, q_goct, q_add, q_addl, q_addt, q_sub, q_mul, q_mull, q_mult, q_div, q_mod, q_pow, q_eq, q_ne, q_lt, q_le, q_gt, q_ge, q_is1, q_is2, q_is3, q_is4, q_is5, q_tr0, q_trb, q_tri, q_trl, q_trt, q_ixl, q_ixt, q_sll, q_slt, q_sls, q_lenl, q_lent, q_inti, q_absi, q_lisl, q_list, q_tupl, q_tupt, q_all, q_maxl, q_max, q_min, q_itl, q_itt, q_seql, q_seqt, q_rng1, q_rng2, q_enu1, q_enu2, q_end1, q_end2, q_own, q_val, q_st1, q_stt, q_stpr, q_sta0, q_sta1, q_re1, q_re0, q_appA, q_appioA, q_lent0, q_lent1, q_lent2, q_appkA, ↓bind_o, obind_some, List.getElem?_cons_zero, List.getElem?_cons_succ, List.set_cons_zero, List.set_cons_succ, lockS, slotL, Fz.atS, putL, runD, en0, vals, setS, opStop, wipeE, wipeS, restE, restS, plainS, szB_of, posB_of, b62_of, mulB_of, divB_of, powB_of, repB_one, timB_one, flat_one, I_rep, atI_0, atI_1, atI_2, atI_3, atI_4, ixN_of, cut_from, cut_to, eqv_int, eqv_none, shp_int, shp_bool, shp_none, zip_I]
end K03
set_option Elab.async false
set_option linter.all false
set_option maxRecDepth 100000
set_option maxHeartbeats 1000000
/-! if e or not f(g(k=tuple(xs), k'=e'), e'') or e''': with xs staying own; a turn of such statements. -/
namespace Fz
open PySem PySem.Spec PyProof.Rows L2
section
variable {T : Tb} {k n m : Nat} {sc : Scope} {X : Cx} {β : Option Addr}
/-- tuple(x), x staying own -/
theorem den_tupO {y : Str} {p py pc : Pos} {i : Nat} {a : En} {l : List D} (hN : X.N[i]? = some y) (hv : Vis X.env.scope y) (hdb : (y == ("__debug__" : Str)) = false) (hcd : (y == ("__classdict__" : Str)) = false) (hg : Gl X "tuple") (hm : X.mg "tuple" = none) (hl : slotL a i = some l) :
    Den X β (.Call (.Name "tuple" p) [.Name y py] [] pc) a false (.tuple l) a := by
  intro G H ρ σ Q r q
  obtain ⟨z, vs, p1, p2, p3, p4⟩ := r.ownAt hl
  refine ⟨_, pe_callTy call_tuple_of hg hm (by decide +kernel) (pa_cons pe_w pa_nil (star_ok rfl)) (by decide) (by decide) (star_ok rfl) (stars_ok rfl), ?_⟩
  exact peek hN hv hdb hcd p1 ⟨_, _, rfl, .inl ⟨.inl (.inl p2), r.newT p3 q⟩⟩
def ckOr3 (T : Tb) (n : Nat) (sc : Scope) (st : Stmt) (f g : Str) (i : Nat) (rt rt3 : RT) (rp rd : RE) (ks : List Str) : Bool := match st with
  | .If (.BoolOp .Or [e1, .UnaryOp .Not (.Call (.Name f1 _) [.Call (.Name g1 _) [] [⟨k1, .Call (.Name tu _) [.Name x _] [] _, _⟩, ⟨k2, ep, _⟩] _, ed] [] _) _, e3] _) _ [] _ =>
    (f1 == f) && ((g1 == g) && (isGl sc f && (isGl sc g && (fnBlt sc tu "tuple" && ((slotN T sc x == some i) && ((kwNames [⟨k1, .Constant .none 0 ⟨0, 0, 0, 0⟩, ⟨0, 0, 0, 0⟩⟩, ⟨k2, .Constant .none 0 ⟨0, 0, 0, 0⟩, ⟨0, 0, 0, 0⟩⟩] == some ks) &&
      (ckT T n sc e1 rt && (ckT T n sc e3 rt3 && (ckE T n sc ep rp && (ckE T n sc ed rd && !isStar ed))))))))))
  | _ => false
theorem or3_ok {st : Stmt} {f g : Str} {i : Nat} {rt rt3 : RT} {rp rd : RE} {ks : List Str} {a b c d e : En} {op od : Bool} {dp dd d9 : D} {l l1 l2 : List D} {Ff Fg : Fn} {kw : Kw} (co : Cos T k sc X) (F1 : FnAt X k f Ff) (F2 : FnAt X k g Fg) (h : ckOr3 T n sc st f g i rt rt3 rp rd ks = true)
    (vt : evT T m rt a = some (false, b)) (hb : slotL b i = some l) (vp : evE T m rp b = some (op, dp, c)) (hkw : kw ∈ Fg.kws) (hks : kw.ks = ks) (hk0 : kw.n = 0) (hk2 : kw.ks.length = 2) (io1 : Ff.io = false) (io2 : Fg.io = false) (hl1 : Ff.ps.length = 2) (hl2 : (arr kw.perm ([] : List D) [.tuple l, dp]).length = Fg.ps.length)
    (h2 : Fg.den (arr kw.perm [] [.tuple l, dp]) = some (false, d9, l2)) (vd : evE T m rd c = some (od, dd, d)) (h1 : Ff.den [d9, dd] = some (false, .bool true, l1)) (v3 : evT T m rt3 d = some (false, e)) : DenS X β st a (.nx e) := by
  unfold ckOr3 at h
  split at h
  · rename_i e1 f1 pf g1 pg k1 tu ptu x px pc1 pk1 k2 ep pk2 pg2 ed pf2 pn e3 pb bd pi
    simp only [Bool.and_eq_true, Bool.not_eq_true', beq_iff_eq] at h
    obtain ⟨rfl, rfl, gf, gg, b1, s1, hkn, c1, c3, cp, cd, sd⟩ := h
    obtain ⟨y1, y2, y3, y4⟩ := co.ok.slot s1
    obtain ⟨t1, t2, rfl⟩ := fnb co.ok b1
    have E := snd_all T k n
    have dT := den_tupO (β := β) (p := ptu) (py := px) (pc := pc1) (idxOf_get y1) y2 y3 y4 t1 t2 hb
    have hkn2 : kwNames [(⟨k1, .Call (.Name "tuple" ptu) [.Name x px] [] pc1, pk1⟩ : Keyword), ⟨k2, ep, pk2⟩] = some kw.ks := by
      rw [hks, ← hkn]
      cases k1 <;> cases k2 <;> rfl
    have dG : Den X β (.Call (.Name g1 pg) [] [⟨k1, .Call (.Name "tuple" ptu) [.Name x px] [] pc1, pk1⟩, ⟨k2, ep, pk2⟩] pg2) b false d9 c :=
      den_callK (ds := []) (b := b) F2 co.ok.room (co.ok.gl gg) rfl io2 hkw hkn2 hk0.symm dena_nil rfl (denk_cons dT (denk_cons (E.E co.ok cp vp) denk_nil)) hk2.symm h2 hl2 fun _ => ⟨rfl, rfl⟩
    have dF := den_call (pos := pf2) (p := pf) F1 co.ok.room (co.ok.gl gf) (by rw [List.all_cons, List.all_cons, sd]; rfl) io1 (dena_cons rfl dG (dena_cons sd (E.E co.ok cd vd) dena_nil)) h1 (by rw [hl1]; rfl)
    exact dens_if (k := false) (denw_on (k := false) (E.Tt co.ok c1 vt) rfl (denw_on (k := false) (dent_not (k := true) (dent_val rfl dF rfl)) rfl (dent_bool1 (E.Tt co.ok c3 v3)))).t denss_nil
  · cases h
end
/-! ### the turn -/
structure TurnR where
  A1 : List RS
  pu : RE
  pt : RE
  tt : RT
  a0 : RE
  a1 : RE
  t7 : RT
  t73 : RT
  p7 : RE
  d7 : RE
  r8 : RS
  A3 : List RS
def ckTurn (T : Tb) (n : Nat) (sc : Scope) (body : List Stmt) (R : TurnR) : Bool := match body with
  | s0 :: s1 :: s2 :: s3 :: s4 :: s5 :: s6 :: s7 :: s8 :: s9 :: rest =>
    ckSs T n sc [s0, s1] R.A1 && (ckUnp T n sc s2 "_law_some" 1 4 5 R.pu && (ckCpy T sc s3 4 6 && (ckSetT T n sc s4 "divisor_with" 4 7 R.pt && (ckTst T n sc s5 "_law_made_so" 7 R.tt R.a0 R.a1 && (ckTld T sc s6 7 8 9 && (ckOr3 T n sc s7 "_law_same" "divisor_of" 4 R.t7 R.t73 R.p7 R.d7 ["forms", "prime"] &&
      (ckS T n sc s8 R.r8 && (ckTap T sc s9 7 1 && ckSs T n sc rest R.A3))))))))
  | _ => false
end Fz
set_option Elab.async false
set_option linter.all false
set_option maxRecDepth 100000
set_option maxHeartbeats 4000000
namespace K03
open PySem PySem.Spec PyProof.Rows L2 Fz W1 K05
variable {fs : List (Str × Fn)} {N : List Str} {P : Prm}
def L_A1 : List RS := [.set 3 (.appio 18 1 []), .ife (.nt (.val (.appio 29 1 [(.nm 3)]))) [.ret (.bl false)] []]
def L_8 : RS := .ife (.bop .And (.cmp .Gt (.lenn 8) (.int 0)) (.cmp .NotEq (.ix (.app 23 [(.nm 3), (.nm 8), (.nm 5)]) (.int 1)) (.tup []))) [.ret (.bl false)] []
def L_7 : RT := .nt (.val (.app 15 [(.lent1 9 (.nm 3) 4 []), (.nm 8)]))
def L_A3 : List RS := [.ex (.ins 4 (.int 0) (.tup [(.int 1)])), .ife (.nt (.val (.app 15 [(.appk 11 0 [] [(.nm 6), (.nm 3)]), (.tup [(.nm 8), (.blt .list [(.nm 9)])])]))) [.ret (.bl false)] [], .ife (.nt (.val (.app 31 [(.nm 3), (.nm 6), (.app 11 [(.nm 3), (.blt .tuple [(.nm 6)])])]))) [.ret (.bl false)] [], .ife (.nt (.val (.app 15 [(.lent1 9 (.nm 3) 4 []), (.tup [(.int 1)])]))) [.ret (.bl false)] [],
  .set 10 (.appio 14 1 [(.lst [(.appio 25 1 [(.nm 3), (.int 4)]), (.app 21 [(.nm 3), (.nm 5), (.appio 25 1 [(.nm 3), (.int 3)])]), (.tup [])])]), .ife (.nt (.val (.app 15 [(.app 9 [(.nm 3), (.lst [(.nm 8), (.nm 10)])]), (.app 9 [(.nm 3), (.bin .Add (.nm 6) (.lst [(.nm 10)]))])]))) [.ret (.bl false)] [], .set 11 (.appio 13 1 [(.bin .Add (.lenn 6) (.int 1))]),
  .ife (.nt (.val (.app 15 [(.app 9 [(.nm 3), (.lst [(.app 9 [(.nm 3), (.sln 6 none (some (.nm 11)))]), (.app 9 [(.nm 3), (.sln 6 (some (.nm 11)) none)])])]), (.nm 8)]))) [.ret (.bl false)] []]
structure Tl (fs : List (Str × Fn)) : Prop where
  d : Td fs
  a9 : At fs 9 false 2 d_dvo
  k9 : ∀ a b, kAt fs 9 0 0 [] [a, b] = cAt fs 9 [b, a]
  a11 : At fs 11 false 2 d_with
  k11 : ∀ a b, kAt fs 11 0 0 [] [a, b] = cAt fs 11 [b, a]
  a18 : At fs 18 true 1 d_prime
  a31 : At fs 31 false 3 d_made
theorem sd_Ft (n : Nat) {l : List (Po P)} (hl : ∀ f ∈ l, f.len ≤ 100000) : (Ft l).all (sd3 (n + 1)) = true := by
  rw [Ft_map, List.all_map, List.all_eq_true]
  intro F hF
  exact sd3_tI n (hl F hF)
theorem cutD_from {l : List D} {i : Int} (h : 0 ≤ i) : Fz.cutD l (some i) none = l.drop i.toNat := by
  obtain ⟨n, rfl⟩ := Int.eq_ofNat_of_zero_le h
  unfold Fz.cutD
  rw [HT.sIx_nat, HT.sIx_none, Int.toNat_natCast]
  rw [List.take_of_length_le (by rw [List.length_drop]; omega)]
  by_cases h : n ≤ l.length
  · rw [Nat.min_eq_left h]
  · rw [Nat.min_eq_right (by omega), List.drop_length, List.drop_eq_nil_of_le (by omega)]
theorem cutD_to {l : List D} {i : Int} (h : 0 ≤ i) : Fz.cutD l none (some i) = l.take i.toNat := by
  obtain ⟨n, rfl⟩ := Int.eq_ofNat_of_zero_le h
  unfold Fz.cutD
  rw [HT.sIx_nat, HT.sIx_none, List.drop_zero, Nat.sub_zero, Int.toNat_natCast]
  by_cases h : n ≤ l.length
  · rw [Nat.min_eq_left h]
  · rw [Nat.min_eq_right (by omega), List.take_length, List.take_of_length_le (by omega)]
theorem cutF_to (l : List (Po P)) {i : Int} (h : 0 ≤ i) : Fz.cutD (Ft l) none (some i) = Ft (l.take i.toNat) := by
  rw [cutD_to h, Ft_map, Ft_map, List.map_take]
theorem cutF_from (l : List (Po P)) {i : Int} (h : 0 ≤ i) : Fz.cutD (Ft l) (some i) none = Ft (l.drop i.toNat) := by
  rw [cutD_from h, Ft_map, Ft_map, List.map_drop]
theorem a3_run (T : Tl fs) (hN : N.length = 12) {b : Bag} {n : Int} (h : Inv b n) (hn : n ≤ 990000000) {C : Po P} (lC : C.len ≤ 5) {l : List (Po P)} (hl : ∀ f ∈ l, f.len ≤ 60) (hln : l.length ≤ 8) {sc s2 s7 y10 y11 : Sl} :
    ∃ (b' : Bag) (z10 z11 : Sl), evSs ⟨N, fs, WW⟩ 60 L_A3 ⟨[sc, .own (bagD b), s2, .val (.int P.1), .own (Ft l), .val (.tuple (I C.f)), .val (.list (Ft l)), s7, .val (.tuple (I (Gd l).f)), .val (.tuple (Ft (Ms l))), y10, y11], []⟩ = some (.nx ⟨[sc, .own (bagD b'), s2, .val (.int P.1), .own (Ft (1 :: l)), .val (.tuple (I C.f)), .val (.list (Ft l)), s7, .val (.tuple (I (Gd l).f)), .val (.tuple (Ft (Ms l))), z10, z11], []⟩) ∧ Inv b' (n + 100) := by
  obtain ⟨p0, p1⟩ := P97 P
  have e1 : Ft (1 :: l) = .tuple [.int 1] :: Ft l := by unfold Ft; rw [List.map_cons, one_f]; rfl
  have hl1 : ∀ f ∈ (1 :: l : List (Po P)), f.len ≤ 60 := fun f hf => by
    rcases List.mem_cons.mp hf with rfl | hf
    · unfold Po.len; rw [one_f]; decide
    · exact hl f hf
  have lG : (Gd l).len ≤ 60 := Gd_len hl
  have cw := call_with T.a11 (P := P) false hl (by omega)
  have cwt := call_with T.a11 (P := P) true hl (by omega)
  have cwk := (T.k11 (.list (Ft l)) (.int P.1)).trans cw
  have cm := call_made T.a31 (P := P) hl (by omega)
  have sw := call_same3 T.d.a15 (n := 3) (d := wD l) (by
    have h1 := sd3_tI 1 (f := (Gd l).f) (by have : (Gd l).f.length ≤ 60 := lG; omega)
    have h2 := sd_Ft 0 (l := Ms l) fun f hf => by have := Ms_len hl f hf; have : l.length * 61 ≤ 8 * 61 := Nat.mul_le_mul_right _ hln; omega
    have h3 : (Ft (Ms l)).length ≤ 100000 := by rw [Ft_len, Ms_num]; omega
    have h4 : sd3 2 (.list (Ft (Ms l))) = true := by
      show (decide ((Ft (Ms l)).length ≤ 100000) && (Ft (Ms l)).all (sd3 1)) = true
      rw [decide_eq_true h3, h2]
      rfl
    show (decide (2 ≤ 100000) && (sd3 2 (.tuple (I (Gd l).f)) && (sd3 2 (.list (Ft (Ms l))) && true))) = true
    rw [h1, h4]
    rfl)
  have c9 := call_dvo T.a9 (P := P) false hl1 (by rw [List.length_cons]; omega)
  rw [Gd_one _ (by simp), one_f] at c9
  have s1 := call_same3 T.d.a15 (n := 3) (d := .tuple [.int 1]) (by decide +kernel)
  obtain ⟨F1, b1, d1, i1, lF1⟩ := lform (P := P) T.d h (deg := 4) (by omega) (by decide) (by decide)
  obtain ⟨F2, b2, d2, i2, lF2⟩ := lform (P := P) T.d i1 (deg := 3) (by omega) (by decide) (by decide)
  have d3 := call_mulP T.d.a21 C F2 (by omega) (by omega)
  have l3 := Po.len_mul_le C F2
  obtain ⟨F, b3, d4, i3, mF⟩ := lofF (l := [F1, C * F2, 0]) T.d i2 (by omega) (by simp) (by simp)
  have lF : F.len ≤ 60 := by
    have l0 : (0 : Po P).len = 0 := Po.len0
    simp only [List.mem_cons, List.not_mem_nil, or_false] at mF
    rcases mF with rfl | rfl | rfl <;> omega
  have e4 : Ft [F1, C * F2, (0 : Po P)] = [.tuple (I F1.f), .tuple (I (C * F2).f), .tuple []] := by
    unfold Ft
    simp only [List.map_cons, List.map_nil, Rw_cons, Rw_nil]
    rw [zero_f]
    rfl
  rw [e4] at d4
  have g1 := call_dvo T.a9 (P := P) false (l := [Gd l, F]) (fun f hf => by
    simp only [List.mem_cons, List.not_mem_nil, or_false] at hf
    rcases hf with rfl | rfl <;> assumption) (by simp)
  have g2 := call_dvo T.a9 (P := P) false (l := l ++ [F]) (fun f hf => by
    rcases List.mem_append.mp hf with hf | hf
    · exact hl f hf
    · rw [List.mem_singleton.mp hf]; exact lF) (by simp; omega)
  rw [Gd_two] at g1
  have s2' := call_same3 T.d.a15 (n := 3) (d := .tuple (I (Gd (l ++ [F])).f)) (sd3_tI 2 (by
    have : (Gd (l ++ [F])).len ≤ 60 := Gd_len fun f hf => by
      rcases List.mem_append.mp hf with hf | hf
      · exact hl f hf
      · rw [List.mem_singleton.mp hf]; exact lF
    have h : (Gd (l ++ [F])).f.length ≤ 60 := this
    omega))
  obtain ⟨kk, b4, d5, i4, k0, k1⟩ := ldraw T.d i3 (top := (l.length : Int) + 1) (by omega) (by omega) (by omega)
  have g3 := call_dvo T.a9 (P := P) false (l := l.take kk.toNat) (fun f hf => hl f (List.mem_of_mem_take hf)) (by simp; omega)
  have g4 := call_dvo T.a9 (P := P) false (l := l.drop kk.toNat) (fun f hf => hl f (List.mem_of_mem_drop hf)) (by simp; omega)
  have g5 := call_dvo T.a9 (P := P) false (l := [Gd (l.take kk.toNat), Gd (l.drop kk.toNat)]) (fun f hf => by
    simp only [List.mem_cons, List.not_mem_nil, or_false] at hf
    rcases hf with rfl | rfl
    · exact Gd_len fun f hf => hl f (List.mem_of_mem_take hf)
    · exact Gd_len fun f hf => hl f (List.mem_of_mem_drop hf)) (by simp)
  rw [Gd_cut] at g5
  have s3 := call_same3 T.d.a15 (n := 3) (d := .tuple (I (Gd l).f)) (sd3_tI 2 (by have h : (Gd l).f.length ≤ 60 := lG; omega))
  have ll : ((Ft l).length : Int) = (l.length : Int) := by rw [Ft_len]
  have lz : (Ft l).length < 1000000 := by rw [Ft_len]; omega
  have z1 := szB_of (n := (Ft l).length + 1) (by rw [Ft_len]; omega)
  have ct := cutF_to l k0
  have cf := cutF_from l k0
  refine ⟨b4, .val (.tuple (I F.f)), .val (.int kk), ?_, i4.up (by omega)⟩
  have g2' : cAt fs 9 [.int P.1, .list (Ft l ++ [.tuple (I F.f)])] = some (false, .tuple (I (Gd (l ++ [F])).f)) := by
    rw [show Ft l ++ [PyData.tuple (I F.f)] = Ft (l ++ [F]) from by rw [Ft_app]; rfl]
    exact g2
  change cAt fs 9 [_, .list [.tuple (I (Gd l).f), .tuple (I F.f)]] = _ at g1
  change cAt fs 9 [_, .list [.tuple (I (Gd (l.take kk.toNat)).f), .tuple (I (Gd (l.drop kk.toNat)).f)]] = _ at g5
  change cAt fs 9 [_, .list (Ft _)] = _ at g3
  change cAt fs 9 [_, .list (Ft _)] = _ at g4
  change cAt fs 9 [_, .list (Ft (1 :: l))] = some (false, .tuple [.int 1]) at c9
  change cAt fs 11 [_, .list (Ft l)] = _ at cw
  change cAt fs 11 [_, .tuple (Ft l)] = _ at cwt
  rw [e1] at c9 ⊢
  unfold wD at *
  generalize bagD b = B at *
  generalize bagD b1 = B1 at *
  generalize bagD b2 = B2 at *
  generalize bagD b3 = B3 at *
  generalize bagD b4 = B4 at *
  generalize Ft (l.take kk.toNat) = LT at *
  generalize Ft (l.drop kk.toNat) = LD at *
  generalize I (Gd (l.take kk.toNat)).f = GT at *
  generalize I (Gd (l.drop kk.toNat)).f = GDD at *
  generalize I (Gd (l ++ [F])).f = G2 at *
  generalize I (Gd l).f = G at *
  generalize Ft (Ms l) = MM at *
  generalize Ft l = L at *
  generalize I (C * F2).f = CF at *
  generalize I C.f = CC at *
  generalize I F.f = FF at *
  generalize I F1.f = FF1 at *
  generalize I F2.f = FF2 at *
  have nl : noL 3 (.tuple [.int 1]) = true := by decide
  unfold L_A3
  simp (config := {implicitDefEqProofs := false}) (disch := omega) [hN, lz, cwk, cw, cwt, cm, sw, c9, s1, d1, d2, d3, d4, g1, g2', s2', d5, ll, z1, ct, cf, g3, g4, g5, s3, nl, lentR, q_int, q_bl, q_non, q_nm, q_bin, q_neg, q_negI, q_not, q_bop, q_ife, q_cmp, q_ix, q_ixn, q_sl, q_sln, q_blt, q_lenn, q_isi, q_lst, q_tup, q_lc, q_popA, q_ins, q_push, q_pop, q_evc, q_to0, q_to1, q_o0, q_o1, q_intD, q_a0, q_a1, q_tnt, q_tbop, q_tcmp, q_chn, q_tchn, q_tcmpo, q_tval, q_tnm, q_iseq, q_irng, q_ienu, q_izip, q_irrg, q_revL, q_iez, q_irev, q_sset, q_stgt, q_saug, q_intV, q_valI, q_spro, q_spar, q_sput2, q_sput, q_sret, q_sretn, q_sife, q_swhl, q_sfor, q_sex, q_spass, q_sbrk, q_scnt, q_ss0, q_ss1, q_gonx, q_gort, q_gobk, q_goct, q_add, q_addl, q_addt, q_sub, q_mul, q_mull, q_mult, q_div, q_mod, q_pow, q_eq, q_ne, q_lt, q_le, q_gt, q_ge, q_is1, q_is2, q_is3, q_is4, q_is5, q_tr0, q_trb, q_tri, q_trl, q_trt, q_ixl, q_ixt, q_sll, q_slt, q_sls, q_lenl, q_lent, q_inti, q_absi, q_lisl, q_list, q_tupl, q_tupt, q_all, q_maxl, q_max, q_min, q_itl, q_itt, q_seql, q_seqt, q_rng1, q_rng2, q_enu1, q_enu2, q_end1, q_end2, q_own, q_val, q_st1, q_stt, q_stpr, q_sta0, q_sta1, q_re1, q_re0, q_appA, q_appioA, q_lent0, q_lent1, q_lent2, q_appkA, ↓bind_o, obind_some, List.getElem?_cons_zero, List.getElem?_cons_succ, List.set_cons_zero, List.set_cons_succ, lockS, slotL, Fz.atS, putL, runD, en0, vals, setS, opStop, wipeE, wipeS, restE, restS, plainS, szB_of, posB_of, b62_of, mulB_of, divB_of, powB_of, repB_one, timB_one, flat_one, I_rep, atI_0, atI_1, atI_2, atI_3, atI_4, ixN_of, cut_from, cut_to, eqv_int, eqv_none, shp_int, shp_bool, shp_none, zip_I]
end K03
set_option Elab.async false
set_option linter.all false
set_option maxRecDepth 100000
set_option maxHeartbeats 4000000
namespace K03
open PySem PySem.Spec PyProof.Rows L2 Fz W1 K05
variable {fs : List (Str × Fn)} {N : List Str}
def L_R : TurnR := ⟨L_A1, .nm 3, .nm 3, .cmpo .NotEq 4 (.nm 6), .nm 3, .nm 6, L_7, .cmpo .NotEq 4 (.nm 6), .nm 3, .nm 8, L_8, L_A3⟩
theorem noL_Ft {P : Prm} (l : List (Po P)) : (Ft l).all (noL 3) = true := by
  rw [Ft_map, List.all_map, List.all_eq_true]
  intro F _
  show (I F.f).all (noL 2) = true
  unfold I
  rw [List.all_map, List.all_eq_true]
  intro x _
  rfl
theorem noL_I (f : List Int) : noL 3 (.tuple (I f)) = true := by
  show (I f).all (noL 2) = true
  unfold I
  rw [List.all_map, List.all_eq_true]
  intro x _
  rfl
theorem eqv_Ft {P : Prm} (l : List (Po P)) : PyData.eqv (.list (Ft l)) (.list (Ft l)) = true := by
  show PyData.eqvAll (Ft l) (Ft l) = true
  unfold Ft
  rw [eqvAll_Rw]
  exact decide_eq_true rfl
theorem shp_Ft {P : Prm} (l : List (Po P)) : shp (.list (Ft l)) = true := by
  refine shp_pl (n := 2) ?_ (by decide)
  exact pl_Rw 0 _
/-- what the law's defs by hand are said to do -/
structure Hd (X : Cx) (k : Nat) (fs : List (Str × Fn)) (gS gW g9 g15 g31 : Fn) (dS dW : DnT) : Prop where
  FS : FnT X.prog X.w X.K X.mg X.base k "_law_some" gS dS
  ioS : gS.io = true
  lS : 2 = gS.ps.length
  FW : FnT X.prog X.w X.K X.mg X.base k "divisor_with" gW dW
  ioW : gW.io = false
  lW : 2 = gW.ps.length
  f9 : fs[9]? = some (("divisor_of" : Str), g9)
  io9 : g9.io = false
  l9 : 2 = g9.ps.length
  d9 : g9.den = d_dvo
  kw9 : (⟨0, ["forms", "prime"], [1, 0]⟩ : Kw) ∈ g9.kws
  f15 : fs[15]? = some (("_law_same" : Str), g15)
  io15 : g15.io = false
  l15 : g15.ps.length = 2
  d15 : g15.den = d_same3 3
  f31 : fs[31]? = some (("_law_made_so" : Str), g31)
  io31 : g31.io = false
  l31 : 3 = g31.ps.length
  d31 : g31.den = d_made
  sS : ∀ (P : Prm) (b : Bag) (n : Int), Inv b n → n ≤ 990000000 → ∃ (C : Po P) (l : List (Po P)) (b' : Bag), dS [.list (bagD b), .int P.1] = some ([], Ft l, [.tuple (I C.f)], bagD b') ∧ Inv b' (n + 400) ∧ l.length ≤ 8 ∧ Ok C l ∧ C ≠ 0 ∧ C.len ≤ 5
  sW : ∀ (P : Prm) (l : List (Po P)), (∀ f ∈ l, f.len ≤ 60) → l.length ≤ 10 → ∃ bs, dW [.int P.1, .list (Ft l)] = some ([.tuple (I (Gd l).f)], Ft (Ms l), [], bs)
  s29 : ∀ (P : Prm) (b : Bag) (n : Int), Inv b n → n ≤ 990000000 → ∃ b', bAt fs 29 (bagD b) [.int P.1] = some (false, .bool true, bagD b') ∧ Inv b' (n + 300)
theorem turn {k n : Nat} {sc : Scope} {X : Cx} {β : Option Addr} {body : List Stmt} {gS gW g9 g15 g31 : Fn} {dS dW : DnT} (co : Cos ⟨N, fs, WW⟩ k sc X) (T : Tl fs) (H : Hd X k fs gS gW g9 g15 g31 dS dW) (hN : N.length = 12) (hck : ckTurn ⟨N, fs, WW⟩ n sc body L_R = true)
    {b : Bag} {n0 : Int} (hi : Inv b n0) (hn : n0 ≤ 980000000) (s0 s2 a3 a4 a5 a6 a7 a8 a9 a10 a11 : Sl) :
    ∃ (b' : Bag) (y3 y4 y5 y6 y7 y8 y9 y10 y11 : Sl), DenSs X β body ⟨[s0, .own (bagD b), s2, a3, a4, a5, a6, a7, a8, a9, a10, a11], []⟩ (.nx ⟨[s0, .own (bagD b'), s2, y3, y4, y5, y6, y7, y8, y9, y10, y11], []⟩) ∧ Inv b' (n0 + 2000) := by
  have c0 := call_prime T.a18 (b := b) (hi.up (by omega))
  obtain ⟨i1, p, hp, ep⟩ := prime_inv hi
  rw [ep] at c0
  obtain ⟨P, hP⟩ : ∃ P : Prm, P.1 = p := ⟨⟨p, hp⟩, rfl⟩
  subst hP
  generalize (primeB b).2 = b1 at *
  obtain ⟨b2, c29, i2⟩ := H.s29 P b1 _ i1 (by omega)
  obtain ⟨C, l, b3, hS, i3, hln, ho, hC, lC⟩ := H.sS P b2 _ i2 (by omega)
  have hl : ∀ f ∈ l, f.len ≤ 60 := fun f hf => (ho f hf).1
  obtain ⟨bsW, hW⟩ := H.sW P l hl (by omega)
  have lG : (Gd l).len ≤ 60 := Gd_len hl
  obtain ⟨b4, z10, z11, v9, i4⟩ := a3_run (N := N) (P := P) T hN i3 (by omega) lC hl hln (sc := s0) (s2 := s2) (s7 := .tpo [.tuple (I (Gd l).f)] (Ft (Ms l) ++ [.tuple [.int 1]]) []) (y10 := a10) (y11 := a11)
  have e1 := eqv_Ft l
  have e2 := shp_Ft l
  have F9 := co.ok.fns 9 _ H.f9
  have F15 := co.ok.fns 15 _ H.f15
  have F31 := co.ok.fns 31 _ H.f31
  have w9 : d_dvo [.int P.1, .tuple (Ft l)] = some (false, .tuple (I (Gd l).f), []) := wordOf_at LF.inj (x := ⟨P, l, true⟩) ⟨hl, by show l.length ≤ 10; omega⟩
  have c9 := call_dvo T.a9 (P := P) false hl (by omega)
  change cAt fs 9 [_, .list (Ft l)] = _ at c9
  have w15 : d_same3 3 [.tuple (I (Gd l).f), .tuple (I (Gd l).f)] = some (false, .bool true, []) := by
    unfold d_same3
    dsimp only
    rw [if_pos ⟨rfl, sd3_tI 2 (by have h : (Gd l).f.length ≤ 60 := lG; omega)⟩]
  have c15 := call_same3 T.d.a15 (n := 3) (d := .tuple (I (Gd l).f)) (sd3_tI 2 (by have h : (Gd l).f.length ≤ 60 := lG; omega))
  have w31 : d_made [.int P.1, .list (Ft l), .tuple [.tuple (I (Gd l).f), .list (Ft (Ms l))]] = some (false, .bool true, []) := wordOf_at' (enc := fun x : LF => [.int x.P.1, .list (Ft x.l), wD x.l]) (ok := LF.ok) (res := fun _ => (false, .bool true, [])) (x := ⟨P, l, false⟩) (fun _ _ _ => rfl) ⟨hl, by show l.length ≤ 10; omega⟩
  have nG := noL_I (Gd l).f
  have zM : (Ft (Ms l)).length < 1000000 := by rw [Ft_len, Ms_num]; omega
  -- the statement before the append
  have v8 : evS ⟨N, fs, WW⟩ 60 L_8 ⟨[s0, .own (bagD b3), s2, .val (.int P.1), .own (Ft l), .val (.tuple (I C.f)), .val (.list (Ft l)), .tpo [.tuple (I (Gd l).f)] (Ft (Ms l)) [], .val (.tuple (I (Gd l).f)), .val (.tuple (Ft (Ms l))), a10, a11], []⟩ = some (.nx ⟨[s0, .own (bagD b3), s2, .val (.int P.1), .own (Ft l), .val (.tuple (I C.f)), .val (.list (Ft l)), .tpo [.tuple (I (Gd l).f)] (Ft (Ms l)) [], .val (.tuple (I (Gd l).f)), .val (.tuple (Ft (Ms l))), a10, a11], []⟩) := by
    by_cases h0 : (Gd l).f = []
    · rw [h0]
      show evS _ _ _ ⟨[_, _, _, _, _, _, _, _, .val (.tuple []), _, _, _], _⟩ = some (SR.nx ⟨[_, _, _, _, _, _, _, _, .val (.tuple []), _, _, _], _⟩)
      generalize I C.f = CC at *
      generalize bagD b3 = B at *
      generalize Ft (Ms l) = MM at *
      generalize Ft l = L at *
      unfold L_8
      simp (config := {implicitDefEqProofs := false}) (disch := omega) [hN, q_int, q_bl, q_non, q_nm, q_bin, q_neg, q_negI, q_not, q_bop, q_ife, q_cmp, q_ix, q_ixn, q_sl, q_sln, q_blt, q_lenn, q_isi, q_lst, q_tup, q_lc, q_popA, q_ins, q_push, q_pop, q_evc, q_to0, q_to1, q_o0, q_o1, q_intD, q_a0, q_a1, q_tnt, q_tbop, q_tcmp, q_chn, q_tchn, q_tcmpo, q_tval, q_tnm, q_iseq, q_irng, q_ienu, q_izip, q_irrg, q_revL, q_iez, q_irev, q_sset, q_stgt, q_saug, q_intV, q_valI, q_spro, q_spar, q_sput2, q_sput, q_sret, q_sretn, q_sife, q_swhl, q_sfor, q_sex, q_spass, q_sbrk, q_scnt, q_ss0, q_ss1, q_gonx, q_gort, q_gobk, q_goct, q_add, q_addl, q_addt, q_sub, q_mul, q_mull, q_mult, q_div, q_mod, q_pow, q_eq, q_ne, q_lt, q_le, q_gt, q_ge, q_is1, q_is2, q_is3, q_is4, q_is5, q_tr0, q_trb, q_tri, q_trl, q_trt, q_ixl, q_ixt, q_sll, q_slt, q_sls, q_lenl, q_lent, q_inti, q_absi, q_lisl, q_list, q_tupl, q_tupt, q_all, q_maxl, q_max, q_min, q_itl, q_itt, q_seql, q_seqt, q_rng1, q_rng2, q_enu1, q_enu2, q_end1, q_end2, q_own, q_val, q_st1, q_stt, q_stpr, q_sta0, q_sta1, q_re1, q_re0, q_appA, q_appioA, q_lent0, q_lent1, q_lent2, q_appkA, ↓bind_o, obind_some, List.getElem?_cons_zero, List.getElem?_cons_succ, List.set_cons_zero, List.set_cons_succ, lockS, slotL, Fz.atS, putL, runD, en0, vals, setS, opStop, wipeE, wipeS, restE, restS, plainS, szB_of, posB_of, b62_of, mulB_of, divB_of, powB_of, repB_one, timB_one, flat_one, I_rep, atI_0, atI_1, atI_2, atI_3, atI_4, ixN_of, cut_from, cut_to, eqv_int, eqv_none, shp_int, shp_bool, shp_none, zip_I]
    · have c23 := call_dvQ T.d.a23 (Gd l) C hC (by omega) (by omega)
      rw [(rem_dv hC).mpr (Gd_gr fun f hf => (ho f hf).2), zero_f] at c23
      change cAt fs 23 _ = some (false, .tuple [_, .tuple []]) at c23
      have hGe : I (Gd l).f ≠ [] := fun e => h0 (I_inj (g := []) e)
      have ee : PyData.eqv (.tuple []) (.tuple []) = true := by decide
      generalize I ((Gd l).quo C).f = QQ at *
      generalize I C.f = CC at *
      generalize bagD b3 = B at *
      generalize I (Gd l).f = G at *
      generalize Ft (Ms l) = MM at *
      generalize Ft l = L at *
      unfold L_8
      simp (config := {implicitDefEqProofs := false}) (disch := omega) [hN, c23, ee, shp_nil, hGe, q_int, q_bl, q_non, q_nm, q_bin, q_neg, q_negI, q_not, q_bop, q_ife, q_cmp, q_ix, q_ixn, q_sl, q_sln, q_blt, q_lenn, q_isi, q_lst, q_tup, q_lc, q_popA, q_ins, q_push, q_pop, q_evc, q_to0, q_to1, q_o0, q_o1, q_intD, q_a0, q_a1, q_tnt, q_tbop, q_tcmp, q_chn, q_tchn, q_tcmpo, q_tval, q_tnm, q_iseq, q_irng, q_ienu, q_izip, q_irrg, q_revL, q_iez, q_irev, q_sset, q_stgt, q_saug, q_intV, q_valI, q_spro, q_spar, q_sput2, q_sput, q_sret, q_sretn, q_sife, q_swhl, q_sfor, q_sex, q_spass, q_sbrk, q_scnt, q_ss0, q_ss1, q_gonx, q_gort, q_gobk, q_goct, q_add, q_addl, q_addt, q_sub, q_mul, q_mull, q_mult, q_div, q_mod, q_pow, q_eq, q_ne, q_lt, q_le, q_gt, q_ge, q_is1, q_is2, q_is3, q_is4, q_is5, q_tr0, q_trb, q_tri, q_trl, q_trt, q_ixl, q_ixt, q_sll, q_slt, q_sls, q_lenl, q_lent, q_inti, q_absi, q_lisl, q_list, q_tupl, q_tupt, q_all, q_maxl, q_max, q_min, q_itl, q_itt, q_seql, q_seqt, q_rng1, q_rng2, q_enu1, q_enu2, q_end1, q_end2, q_own, q_val, q_st1, q_stt, q_stpr, q_sta0, q_sta1, q_re1, q_re0, q_appA, q_appioA, q_lent0, q_lent1, q_lent2, q_appkA, ↓bind_o, obind_some, List.getElem?_cons_zero, List.getElem?_cons_succ, List.set_cons_zero, List.set_cons_succ, lockS, slotL, Fz.atS, putL, runD, en0, vals, setS, opStop, wipeE, wipeS, restE, restS, plainS, szB_of, posB_of, b62_of, mulB_of, divB_of, powB_of, repB_one, timB_one, flat_one, I_rep, atI_0, atI_1, atI_2, atI_3, atI_4, ixN_of, cut_from, cut_to, eqv_int, eqv_none, shp_int, shp_bool, shp_none, zip_I]
  unfold ckTurn at hck
  split at hck
  · simp only [Bool.and_eq_true] at hck
    obtain ⟨k0, k2, k3, k4, k5, k6, k7, k8, k9, k10⟩ := hck
    rename_i q0 q1 q2 q3 q4 q5 q6 q7 q8 q9 rest
    have x0 : evSs ⟨N, fs, WW⟩ 60 L_A1 ⟨[s0, .own (bagD b), s2, a3, a4, a5, a6, a7, a8, a9, a10, a11], []⟩ = some (.nx ⟨[s0, .own (bagD b2), s2, .val (.int P.1), a4, a5, a6, a7, a8, a9, a10, a11], []⟩) := by
      generalize bagD b = B at *
      generalize bagD b1 = B1 at *
      generalize bagD b2 = B2 at *
      unfold L_A1
      simp (config := {implicitDefEqProofs := false}) (disch := omega) [hN, c0, c29, q_int, q_bl, q_non, q_nm, q_bin, q_neg, q_negI, q_not, q_bop, q_ife, q_cmp, q_ix, q_ixn, q_sl, q_sln, q_blt, q_lenn, q_isi, q_lst, q_tup, q_lc, q_popA, q_ins, q_push, q_pop, q_evc, q_to0, q_to1, q_o0, q_o1, q_intD, q_a0, q_a1, q_tnt, q_tbop, q_tcmp, q_chn, q_tchn, q_tcmpo, q_tval, q_tnm, q_iseq, q_irng, q_ienu, q_izip, q_irrg, q_revL, q_iez, q_irev, q_sset, q_stgt, q_saug, q_intV, q_valI, q_spro, q_spar, q_sput2, q_sput, q_sret, q_sretn, q_sife, q_swhl, q_sfor, q_sex, q_spass, q_sbrk, q_scnt, q_ss0, q_ss1, q_gonx, q_gort, q_gobk, q_goct, q_add, q_addl, q_addt, q_sub, q_mul, q_mull, q_mult, q_div, q_mod, q_pow, q_eq, q_ne, q_lt, q_le, q_gt, q_ge, q_is1, q_is2, q_is3, q_is4, q_is5, q_tr0, q_trb, q_tri, q_trl, q_trt, q_ixl, q_ixt, q_sll, q_slt, q_sls, q_lenl, q_lent, q_inti, q_absi, q_lisl, q_list, q_tupl, q_tupt, q_all, q_maxl, q_max, q_min, q_itl, q_itt, q_seql, q_seqt, q_rng1, q_rng2, q_enu1, q_enu2, q_end1, q_end2, q_own, q_val, q_st1, q_stt, q_stpr, q_sta0, q_sta1, q_re1, q_re0, q_appA, q_appioA, q_lent0, q_lent1, q_lent2, q_appkA, ↓bind_o, obind_some, List.getElem?_cons_zero, List.getElem?_cons_succ, List.set_cons_zero, List.set_cons_succ, lockS, slotL, Fz.atS, putL, runD, en0, vals, setS, opStop, wipeE, wipeS, restE, restS, plainS, szB_of, posB_of, b62_of, mulB_of, divB_of, powB_of, repB_one, timB_one, flat_one, I_rep, atI_0, atI_1, atI_2, atI_3, atI_4, ixN_of, cut_from, cut_to, eqv_int, eqv_none, shp_int, shp_bool, shp_none, zip_I]
    have x2 : DenS X β q2 ⟨[s0, .own (bagD b2), s2, .val (.int P.1), a4, a5, a6, a7, a8, a9, a10, a11], []⟩ (.nx ⟨[s0, .own (bagD b3), s2, .val (.int P.1), .own (Ft l), .val (.tuple (I C.f)), a6, a7, a8, a9, a10, a11], []⟩) := unp_ok (m := 60) (o := false) (d := .int P.1) (bs := bagD b2) (d2 := .tuple (I C.f)) (l := Ft l) (bs' := bagD b3) (b := ⟨[s0, .own (bagD b2), s2, .val (.int P.1), a4, a5, a6, a7, a8, a9, a10, a11], []⟩) co H.FS k2 H.ioS H.lS rfl rfl rfl hS (by show 4 < 12; decide) (by show 5 < 12; decide)
    have x3 : DenS X β q3 ⟨[s0, .own (bagD b3), s2, .val (.int P.1), .own (Ft l), .val (.tuple (I C.f)), a6, a7, a8, a9, a10, a11], []⟩ (.nx ⟨[s0, .own (bagD b3), s2, .val (.int P.1), .own (Ft l), .val (.tuple (I C.f)), .own (Ft l), a7, a8, a9, a10, a11], []⟩) := cpy_ok (l := Ft l) co k3 rfl (by show 6 < 12; decide)
    have x4 : DenS X β q4 ⟨[s0, .own (bagD b3), s2, .val (.int P.1), .own (Ft l), .val (.tuple (I C.f)), .own (Ft l), a7, a8, a9, a10, a11], []⟩ (.nx ⟨[s0, .own (bagD b3), s2, .val (.int P.1), .own (Ft l), .val (.tuple (I C.f)), .own (Ft l), .tpo [.tuple (I (Gd l).f)] (Ft (Ms l)) [], a8, a9, a10, a11], []⟩) := setT_ok (m := 60) (o := false) (d := .int P.1) (bs := Ft l) (b := ⟨[s0, .own (bagD b3), s2, .val (.int P.1), .own (Ft l), .val (.tuple (I C.f)), .own (Ft l), a7, a8, a9, a10, a11], []⟩) co H.FW k4 H.ioW H.lW rfl rfl hW (by rw [List.all_cons, nG]; rfl) (noL_Ft _) rfl (by show 7 < 12; decide)
    have t5 : evT ⟨N, fs, WW⟩ 60 (.cmpo .NotEq 4 (.nm 6)) ⟨[s0, .own (bagD b3), s2, .val (.int P.1), .own (Ft l), .val (.tuple (I C.f)), .own (Ft l), .tpo [.tuple (I (Gd l).f)] (Ft (Ms l)) [], a8, a9, a10, a11], []⟩ = some (false, ⟨[s0, .own (bagD b3), s2, .val (.int P.1), .own (Ft l), .val (.tuple (I C.f)), .val (.list (Ft l)), .tpo [.tuple (I (Gd l).f)] (Ft (Ms l)) [], a8, a9, a10, a11], []⟩) := by
      generalize bagD b3 = B at *
      generalize I C.f = CC at *
      generalize I (Gd l).f = G at *
      generalize Ft (Ms l) = MM at *
      generalize Ft l = L at *
      simp (config := {implicitDefEqProofs := false}) (disch := omega) [e1, e2, q_int, q_bl, q_non, q_nm, q_bin, q_neg, q_negI, q_not, q_bop, q_ife, q_cmp, q_ix, q_ixn, q_sl, q_sln, q_blt, q_lenn, q_isi, q_lst, q_tup, q_lc, q_popA, q_ins, q_push, q_pop, q_evc, q_to0, q_to1, q_o0, q_o1, q_intD, q_a0, q_a1, q_tnt, q_tbop, q_tcmp, q_chn, q_tchn, q_tcmpo, q_tval, q_tnm, q_iseq, q_irng, q_ienu, q_izip, q_irrg, q_revL, q_iez, q_irev, q_sset, q_stgt, q_saug, q_intV, q_valI, q_spro, q_spar, q_sput2, q_sput, q_sret, q_sretn, q_sife, q_swhl, q_sfor, q_sex, q_spass, q_sbrk, q_scnt, q_ss0, q_ss1, q_gonx, q_gort, q_gobk, q_goct, q_add, q_addl, q_addt, q_sub, q_mul, q_mull, q_mult, q_div, q_mod, q_pow, q_eq, q_ne, q_lt, q_le, q_gt, q_ge, q_is1, q_is2, q_is3, q_is4, q_is5, q_tr0, q_trb, q_tri, q_trl, q_trt, q_ixl, q_ixt, q_sll, q_slt, q_sls, q_lenl, q_lent, q_inti, q_absi, q_lisl, q_list, q_tupl, q_tupt, q_all, q_maxl, q_max, q_min, q_itl, q_itt, q_seql, q_seqt, q_rng1, q_rng2, q_enu1, q_enu2, q_end1, q_end2, q_own, q_val, q_st1, q_stt, q_stpr, q_sta0, q_sta1, q_re1, q_re0, q_appA, q_appioA, q_lent0, q_lent1, q_lent2, q_appkA, ↓bind_o, obind_some, List.getElem?_cons_zero, List.getElem?_cons_succ, List.set_cons_zero, List.set_cons_succ, lockS, slotL, Fz.atS, putL, runD, en0, vals, setS, opStop, wipeE, wipeS, restE, restS, plainS, szB_of, posB_of, b62_of, mulB_of, divB_of, powB_of, repB_one, timB_one, flat_one, I_rep, atI_0, atI_1, atI_2, atI_3, atI_4, ixN_of, cut_from, cut_to, eqv_int, eqv_none, shp_int, shp_bool, shp_none, zip_I]
    have t7 : evT ⟨N, fs, WW⟩ 60 (.cmpo .NotEq 4 (.nm 6)) ⟨[s0, .own (bagD b3), s2, .val (.int P.1), .own (Ft l), .val (.tuple (I C.f)), .val (.list (Ft l)), .tpo [.tuple (I (Gd l).f)] (Ft (Ms l)) [], .val (.tuple (I (Gd l).f)), .val (.tuple (Ft (Ms l))), a10, a11], []⟩ = some (false, ⟨[s0, .own (bagD b3), s2, .val (.int P.1), .own (Ft l), .val (.tuple (I C.f)), .val (.list (Ft l)), .tpo [.tuple (I (Gd l).f)] (Ft (Ms l)) [], .val (.tuple (I (Gd l).f)), .val (.tuple (Ft (Ms l))), a10, a11], []⟩) := by
      generalize bagD b3 = B at *
      generalize I C.f = CC at *
      generalize I (Gd l).f = G at *
      generalize Ft (Ms l) = MM at *
      generalize Ft l = L at *
      simp (config := {implicitDefEqProofs := false}) (disch := omega) [e1, e2, q_int, q_bl, q_non, q_nm, q_bin, q_neg, q_negI, q_not, q_bop, q_ife, q_cmp, q_ix, q_ixn, q_sl, q_sln, q_blt, q_lenn, q_isi, q_lst, q_tup, q_lc, q_popA, q_ins, q_push, q_pop, q_evc, q_to0, q_to1, q_o0, q_o1, q_intD, q_a0, q_a1, q_tnt, q_tbop, q_tcmp, q_chn, q_tchn, q_tcmpo, q_tval, q_tnm, q_iseq, q_irng, q_ienu, q_izip, q_irrg, q_revL, q_iez, q_irev, q_sset, q_stgt, q_saug, q_intV, q_valI, q_spro, q_spar, q_sput2, q_sput, q_sret, q_sretn, q_sife, q_swhl, q_sfor, q_sex, q_spass, q_sbrk, q_scnt, q_ss0, q_ss1, q_gonx, q_gort, q_gobk, q_goct, q_add, q_addl, q_addt, q_sub, q_mul, q_mull, q_mult, q_div, q_mod, q_pow, q_eq, q_ne, q_lt, q_le, q_gt, q_ge, q_is1, q_is2, q_is3, q_is4, q_is5, q_tr0, q_trb, q_tri, q_trl, q_trt, q_ixl, q_ixt, q_sll, q_slt, q_sls, q_lenl, q_lent, q_inti, q_absi, q_lisl, q_list, q_tupl, q_tupt, q_all, q_maxl, q_max, q_min, q_itl, q_itt, q_seql, q_seqt, q_rng1, q_rng2, q_enu1, q_enu2, q_end1, q_end2, q_own, q_val, q_st1, q_stt, q_stpr, q_sta0, q_sta1, q_re1, q_re0, q_appA, q_appioA, q_lent0, q_lent1, q_lent2, q_appkA, ↓bind_o, obind_some, List.getElem?_cons_zero, List.getElem?_cons_succ, List.set_cons_zero, List.set_cons_succ, lockS, slotL, Fz.atS, putL, runD, en0, vals, setS, opStop, wipeE, wipeS, restE, restS, plainS, szB_of, posB_of, b62_of, mulB_of, divB_of, powB_of, repB_one, timB_one, flat_one, I_rep, atI_0, atI_1, atI_2, atI_3, atI_4, ixN_of, cut_from, cut_to, eqv_int, eqv_none, shp_int, shp_bool, shp_none, zip_I]
    have t6 : evT ⟨N, fs, WW⟩ 60 L_7 ⟨[s0, .own (bagD b3), s2, .val (.int P.1), .own (Ft l), .val (.tuple (I C.f)), .val (.list (Ft l)), .tpo [.tuple (I (Gd l).f)] (Ft (Ms l)) [], .val (.tuple (I (Gd l).f)), .val (.tuple (Ft (Ms l))), a10, a11], []⟩ = some (false, ⟨[s0, .own (bagD b3), s2, .val (.int P.1), .own (Ft l), .val (.tuple (I C.f)), .val (.list (Ft l)), .tpo [.tuple (I (Gd l).f)] (Ft (Ms l)) [], .val (.tuple (I (Gd l).f)), .val (.tuple (Ft (Ms l))), a10, a11], []⟩) := by
      generalize bagD b3 = B at *
      generalize I C.f = CC at *
      generalize I (Gd l).f = G at *
      generalize Ft (Ms l) = MM at *
      generalize Ft l = L at *
      unfold L_7
      simp (config := {implicitDefEqProofs := false}) (disch := omega) [c9, c15, nG, lentR, q_int, q_bl, q_non, q_nm, q_bin, q_neg, q_negI, q_not, q_bop, q_ife, q_cmp, q_ix, q_ixn, q_sl, q_sln, q_blt, q_lenn, q_isi, q_lst, q_tup, q_lc, q_popA, q_ins, q_push, q_pop, q_evc, q_to0, q_to1, q_o0, q_o1, q_intD, q_a0, q_a1, q_tnt, q_tbop, q_tcmp, q_chn, q_tchn, q_tcmpo, q_tval, q_tnm, q_iseq, q_irng, q_ienu, q_izip, q_irrg, q_revL, q_iez, q_irev, q_sset, q_stgt, q_saug, q_intV, q_valI, q_spro, q_spar, q_sput2, q_sput, q_sret, q_sretn, q_sife, q_swhl, q_sfor, q_sex, q_spass, q_sbrk, q_scnt, q_ss0, q_ss1, q_gonx, q_gort, q_gobk, q_goct, q_add, q_addl, q_addt, q_sub, q_mul, q_mull, q_mult, q_div, q_mod, q_pow, q_eq, q_ne, q_lt, q_le, q_gt, q_ge, q_is1, q_is2, q_is3, q_is4, q_is5, q_tr0, q_trb, q_tri, q_trl, q_trt, q_ixl, q_ixt, q_sll, q_slt, q_sls, q_lenl, q_lent, q_inti, q_absi, q_lisl, q_list, q_tupl, q_tupt, q_all, q_maxl, q_max, q_min, q_itl, q_itt, q_seql, q_seqt, q_rng1, q_rng2, q_enu1, q_enu2, q_end1, q_end2, q_own, q_val, q_st1, q_stt, q_stpr, q_sta0, q_sta1, q_re1, q_re0, q_appA, q_appioA, q_lent0, q_lent1, q_lent2, q_appkA, ↓bind_o, obind_some, List.getElem?_cons_zero, List.getElem?_cons_succ, List.set_cons_zero, List.set_cons_succ, lockS, slotL, Fz.atS, putL, runD, en0, vals, setS, opStop, wipeE, wipeS, restE, restS, plainS, szB_of, posB_of, b62_of, mulB_of, divB_of, powB_of, repB_one, timB_one, flat_one, I_rep, atI_0, atI_1, atI_2, atI_3, atI_4, ixN_of, cut_from, cut_to, eqv_int, eqv_none, shp_int, shp_bool, shp_none, zip_I]
    have x5 : DenS X β q5 ⟨[s0, .own (bagD b3), s2, .val (.int P.1), .own (Ft l), .val (.tuple (I C.f)), .own (Ft l), .tpo [.tuple (I (Gd l).f)] (Ft (Ms l)) [], a8, a9, a10, a11], []⟩ (.nx ⟨[s0, .own (bagD b3), s2, .val (.int P.1), .own (Ft l), .val (.tuple (I C.f)), .val (.list (Ft l)), .tpo [.tuple (I (Gd l).f)] (Ft (Ms l)) [], a8, a9, a10, a11], []⟩) := tst_ok (m := 60) (o0 := false) (o1 := false) (d0 := .int P.1) (d1 := .list (Ft l)) (d2 := .tuple (I (Gd l).f)) (l := Ft (Ms l)) (l' := []) (b := ⟨[s0, .own (bagD b3), s2, .val (.int P.1), .own (Ft l), .val (.tuple (I C.f)), .val (.list (Ft l)), .tpo [.tuple (I (Gd l).f)] (Ft (Ms l)) [], a8, a9, a10, a11], []⟩) (c := ⟨[s0, .own (bagD b3), s2, .val (.int P.1), .own (Ft l), .val (.tuple (I C.f)), .val (.list (Ft l)), .tpo [.tuple (I (Gd l).f)] (Ft (Ms l)) [], a8, a9, a10, a11], []⟩) co F31 k5 H.io31 H.l31 t5 rfl rfl rfl (by rw [H.d31]; exact w31)
    have x6 : DenS X β q6 ⟨[s0, .own (bagD b3), s2, .val (.int P.1), .own (Ft l), .val (.tuple (I C.f)), .val (.list (Ft l)), .tpo [.tuple (I (Gd l).f)] (Ft (Ms l)) [], a8, a9, a10, a11], []⟩ (.nx ⟨[s0, .own (bagD b3), s2, .val (.int P.1), .own (Ft l), .val (.tuple (I C.f)), .val (.list (Ft l)), .tpo [.tuple (I (Gd l).f)] (Ft (Ms l)) [], .val (.tuple (I (Gd l).f)), .val (.tuple (Ft (Ms l))), a10, a11], []⟩) := tld_ok (d := .tuple (I (Gd l).f)) (l := Ft (Ms l)) co k6 rfl rfl
    have x7 : DenS X β q7 ⟨[s0, .own (bagD b3), s2, .val (.int P.1), .own (Ft l), .val (.tuple (I C.f)), .val (.list (Ft l)), .tpo [.tuple (I (Gd l).f)] (Ft (Ms l)) [], .val (.tuple (I (Gd l).f)), .val (.tuple (Ft (Ms l))), a10, a11], []⟩ (.nx ⟨[s0, .own (bagD b3), s2, .val (.int P.1), .own (Ft l), .val (.tuple (I C.f)), .val (.list (Ft l)), .tpo [.tuple (I (Gd l).f)] (Ft (Ms l)) [], .val (.tuple (I (Gd l).f)), .val (.tuple (Ft (Ms l))), a10, a11], []⟩) := or3_ok (m := 60) (op := false) (od := false) (dp := .int P.1) (dd := .tuple (I (Gd l).f)) (d9 := .tuple (I (Gd l).f)) (l := Ft l) (l1 := []) (l2 := []) (b := ⟨[s0, .own (bagD b3), s2, .val (.int P.1), .own (Ft l), .val (.tuple (I C.f)), .val (.list (Ft l)), .tpo [.tuple (I (Gd l).f)] (Ft (Ms l)) [], .val (.tuple (I (Gd l).f)), .val (.tuple (Ft (Ms l))), a10, a11], []⟩) (c := ⟨[s0, .own (bagD b3), s2, .val (.int P.1), .own (Ft l), .val (.tuple (I C.f)), .val (.list (Ft l)), .tpo [.tuple (I (Gd l).f)] (Ft (Ms l)) [], .val (.tuple (I (Gd l).f)), .val (.tuple (Ft (Ms l))), a10, a11], []⟩) (d := ⟨[s0, .own (bagD b3), s2, .val (.int P.1), .own (Ft l), .val (.tuple (I C.f)), .val (.list (Ft l)), .tpo [.tuple (I (Gd l).f)] (Ft (Ms l)) [], .val (.tuple (I (Gd l).f)), .val (.tuple (Ft (Ms l))), a10, a11], []⟩) co F15 F9 k7 t6 rfl rfl H.kw9 rfl rfl rfl H.io15 H.io9 H.l15 H.l9 (by rw [H.d9]; exact w9) rfl (by rw [H.d15]; exact w15) t7
    have x8 : DenS X β q8 ⟨[s0, .own (bagD b3), s2, .val (.int P.1), .own (Ft l), .val (.tuple (I C.f)), .val (.list (Ft l)), .tpo [.tuple (I (Gd l).f)] (Ft (Ms l)) [], .val (.tuple (I (Gd l).f)), .val (.tuple (Ft (Ms l))), a10, a11], []⟩ (.nx ⟨[s0, .own (bagD b3), s2, .val (.int P.1), .own (Ft l), .val (.tuple (I C.f)), .val (.list (Ft l)), .tpo [.tuple (I (Gd l).f)] (Ft (Ms l)) [], .val (.tuple (I (Gd l).f)), .val (.tuple (Ft (Ms l))), a10, a11], []⟩) := (sndS_all ⟨N, fs, WW⟩ k n).S co k8 v8
    have x9 : DenS X β q9 ⟨[s0, .own (bagD b3), s2, .val (.int P.1), .own (Ft l), .val (.tuple (I C.f)), .val (.list (Ft l)), .tpo [.tuple (I (Gd l).f)] (Ft (Ms l)) [], .val (.tuple (I (Gd l).f)), .val (.tuple (Ft (Ms l))), a10, a11], []⟩ (.nx ⟨[s0, .own (bagD b3), s2, .val (.int P.1), .own (Ft l), .val (.tuple (I C.f)), .val (.list (Ft l)), .tpo [.tuple (I (Gd l).f)] (Ft (Ms l) ++ [.tuple [.int 1]]) [], .val (.tuple (I (Gd l).f)), .val (.tuple (Ft (Ms l))), a10, a11], []⟩) := tap_ok (d := .tuple (I (Gd l).f)) (l := Ft (Ms l)) co k9 rfl zM
    exact ⟨b4, _, _, _, _, _, _, _, _, _, denss_app co n 60 [q0, q1] L_A1 (B := q2 :: q3 :: q4 :: q5 :: q6 :: q7 :: q8 :: q9 :: rest) k0 x0 (denss_cons x2 (denss_cons x3 (denss_cons x4 (denss_cons x5 (denss_cons x6 (denss_cons x7 (denss_cons x8 (denss_cons x9 ((sndS_all ⟨N, fs, WW⟩ k n).Ss co k10 v9))))))))), i4.up (by omega)⟩
  · cases hck
end K03
set_option Elab.async false
set_option linter.all false
set_option maxRecDepth 100000
set_option maxHeartbeats 4000000
namespace K03
open PySem PySem.Spec PyProof.Rows L2 Fz W1 K05
variable {fs : List (Str × Fn)} {N : List Str}
def ckLaw (T : Tb) (n : Nat) (sc : Scope) (body : List Stmt) : Bool := match body with
  | [s0, .For tg it fb [] _, s2] => ckS T n sc s0 (.set 1 (.app 12 [(.nm 0)])) && (ckTg T sc tg (.one 2) && (!isSet it && (ckI T n sc tg it (.rng [(.int 3)]) && (ckTurn T n sc fb L_R && ckS T n sc s2 (.ret (.bl true))))))
  | _ => false
def d_law : List D → Option (Bool × D × List D)
  | [.dict [(.none, .list l)]] => (allI l).map fun _ => (false, .bool true, [])
  | _ => none
theorem law_den' (cs : List Int) : d_law [.dict [(.none, .list (I cs))]] = some (false, .bool true, []) := by
  show (allI (I cs)).map _ = _
  rw [allI_I]
  rfl
theorem hand_law {k n : Nat} {sc : Scope} {X : Cx} {β : Option Addr} {body : List Stmt} {gS gW g9 g15 g31 : Fn} {dS dW : DnT} (co : Cos ⟨N, fs, WW⟩ k sc X) (T : Tl fs) (a12 : At fs 12 false 1 d_bag) (H : Hd X k fs gS gW g9 g15 g31 dS dW) (hN : N.length = 12) (hck : ckLaw ⟨N, fs, WW⟩ n sc body = true)
    {ds : List D} {z : Bool × D × List D} (h : d_law ds = some z) : ∃ r, DenSs X β body (en0 N.length false ds) r ∧ endD r = some z := by
  unfold d_law at h
  split at h
  · rename_i l
    rw [Option.map_eq_some_iff] at h
    obtain ⟨cs, h1, rfl⟩ := h
    rw [allI_eq h1]
    have c12 := call_bag a12 cs
    have i0 := bag0_inv cs
    unfold ckLaw at hck
    split at hck
    · rename_i s0 tg it fb pos s2
      simp only [Bool.and_eq_true, Bool.not_eq_true'] at hck
      obtain ⟨k0, k1, k2, k3, k4, k5⟩ := hck
      obtain ⟨b1, y3, y4, y5, y6, y7, y8, y9, y10, y11, t1, i1⟩ := turn (β := β) co T H hN k4 i0 (by decide) (.val (.dict [(.none, .list (I cs))])) (.val (.int 0)) .no .no .no .no .no .no .no .no .no
      obtain ⟨b2, z3, z4, z5, z6, z7, z8, z9, z10, z11, t2, i2⟩ := turn (β := β) co T H hN k4 i1 (by decide) (.val (.dict [(.none, .list (I cs))])) (.val (.int 1)) y3 y4 y5 y6 y7 y8 y9 y10 y11
      obtain ⟨b3, w3, w4, w5, w6, w7, w8, w9, w10, w11, t3, i3⟩ := turn (β := β) co T H hN k4 i2 (by decide) (.val (.dict [(.none, .list (I cs))])) (.val (.int 2)) z3 z4 z5 z6 z7 z8 z9 z10 z11
      obtain ⟨tl, q1, q2⟩ := co.tg k1
      have S := sndS_all ⟨N, fs, WW⟩ k n
      have E := snd_all ⟨N, fs, WW⟩ k n
      have e0 : en0 N.length false [.dict [(.none, .list (I cs))]] = ⟨[.val (.dict [(.none, .list (I cs))]), .no, .no, .no, .no, .no, .no, .no, .no, .no, .no, .no], []⟩ := by rw [hN]; rfl
      rw [e0]
      have v0 : evS ⟨N, fs, WW⟩ 60 (.set 1 (.app 12 [(.nm 0)])) ⟨[.val (.dict [(.none, .list (I cs))]), .no, .no, .no, .no, .no, .no, .no, .no, .no, .no, .no], []⟩ = some (.nx ⟨[.val (.dict [(.none, .list (I cs))]), .own (bagD (bag0 cs)), .no, .no, .no, .no, .no, .no, .no, .no, .no, .no], []⟩) := by
        generalize bagD (bag0 cs) = B at *
        generalize PyData.dict [(.none, .list (I cs))] = SC at *
        simp (config := {implicitDefEqProofs := false}) (disch := omega) [hN, c12, q_int, q_bl, q_non, q_nm, q_bin, q_neg, q_negI, q_not, q_bop, q_ife, q_cmp, q_ix, q_ixn, q_sl, q_sln, q_blt, q_lenn, q_isi, q_lst, q_tup, q_lc, q_popA, q_ins, q_push, q_pop, q_evc, q_to0, q_to1, q_o0, q_o1, q_intD, q_a0, q_a1, q_tnt, q_tbop, q_tcmp, q_chn, q_tchn, q_tcmpo, q_tval, q_tnm, q_iseq, q_irng, q_ienu, q_izip, q_irrg, q_revL, q_iez, q_irev, q_sset, q_stgt, q_saug, q_intV, q_valI, q_spro, q_spar, q_sput2, q_sput, q_sret, q_sretn, q_sife, q_swhl, q_sfor, q_sex, q_spass, q_sbrk, q_scnt, q_ss0, q_ss1, q_gonx, q_gort, q_gobk, q_goct, q_add, q_addl, q_addt, q_sub, q_mul, q_mull, q_mult, q_div, q_mod, q_pow, q_eq, q_ne, q_lt, q_le, q_gt, q_ge, q_is1, q_is2, q_is3, q_is4, q_is5, q_tr0, q_trb, q_tri, q_trl, q_trt, q_ixl, q_ixt, q_sll, q_slt, q_sls, q_lenl, q_lent, q_inti, q_absi, q_lisl, q_list, q_tupl, q_tupt, q_all, q_maxl, q_max, q_min, q_itl, q_itt, q_seql, q_seqt, q_rng1, q_rng2, q_enu1, q_enu2, q_end1, q_end2, q_own, q_val, q_st1, q_stt, q_stpr, q_sta0, q_sta1, q_re1, q_re0, q_appA, q_appioA, q_lent0, q_lent1, q_lent2, q_appkA, ↓bind_o, obind_some, List.getElem?_cons_zero, List.getElem?_cons_succ, List.set_cons_zero, List.set_cons_succ, lockS, slotL, Fz.atS, putL, runD, en0, vals, setS, opStop, wipeE, wipeS, restE, restS, plainS, szB_of, posB_of, b62_of, mulB_of, divB_of, powB_of, repB_one, timB_one, flat_one, I_rep, atI_0, atI_1, atI_2, atI_3, atI_4, ixN_of, cut_from, cut_to, eqv_int, eqv_none, shp_int, shp_bool, shp_none, zip_I]
      have v1 : evI ⟨N, fs, WW⟩ 60 (.rng [(.int 3)]) ⟨[.val (.dict [(.none, .list (I cs))]), .own (bagD (bag0 cs)), .no, .no, .no, .no, .no, .no, .no, .no, .no, .no], []⟩ = some ([.int 0, .int 1, .int 2], ⟨[.val (.dict [(.none, .list (I cs))]), .own (bagD (bag0 cs)), .no, .no, .no, .no, .no, .no, .no, .no, .no, .no], []⟩) := by
        rfl
      have v2 : evS ⟨N, fs, WW⟩ 60 (.ret (.bl true)) ⟨[.val (.dict [(.none, .list (I cs))]), .own (bagD b3), .val (.int 2), w3, w4, w5, w6, w7, w8, w9, w10, w11], []⟩ = some (.rt false (.bool true) ⟨[.val (.dict [(.none, .list (I cs))]), .own (bagD b3), .val (.int 2), w3, w4, w5, w6, w7, w8, w9, w10, w11], []⟩) := rfl
      exact ⟨_, denss_cons (S.S co k0 v0) (denss_cons (dens_for3 co.po (by rw [co.ok.N]; exact co.ok.nd) co.ok.calm q1 q2 k2 (E.I co.ok k3 v1) rfl t1 rfl t2 rfl t3) (denss_stop (fun _ q => by cases q) (S.S co k5 v2))), rfl⟩
    · cases hck
  · cases h
end K03
set_option Elab.async false
set_option linter.all false
set_option maxRecDepth 100000
set_option maxHeartbeats 4000000
namespace K03
open PySem PySem.Spec PyProof.Rows L2 Fz W1 K05
variable {fs : List (Str × Fn)} {N : List Str} {j0 j3 j4 j5 j10 : Nat}
open Classical in
noncomputable def d_withT : DnT := fun ds => if h : ∃ x : LF, LF.ok x ∧ ds = LF.enc x then some ([.tuple (I (Gd h.choose.l).f)], Ft (Ms h.choose.l), [], []) else none
theorem withT_at (P : Prm) {l : List (Po P)} (hl : ∀ f ∈ l, f.len ≤ 60) (hn : l.length ≤ 10) : ∃ bs, d_withT [.int P.1, .list (Ft l)] = some ([.tuple (I (Gd l).f)], Ft (Ms l), [], bs) := by
  have h : ∃ x : LF, LF.ok x ∧ ([.int P.1, .list (Ft l)] : List D) = LF.enc x := ⟨⟨P, l, false⟩, ⟨hl, hn⟩, rfl⟩
  refine ⟨[], ?_⟩
  unfold d_withT
  rw [dif_pos h]
  have e : (⟨P, l, false⟩ : LF) = h.choose := LF.inj _ _ h.choose_spec.2
  rw [← e]
theorem hand_with {k n : Nat} {sc : Scope} {X : Cx} {β : Option Addr} {body : List Stmt} (co : Cos ⟨N, fs, WW⟩ k sc X) (hN : N.length = 9) (h0 : At fs j0 false 2 d_inverse) (h3 : At fs j3 false 3 d_multiply) (h4 : At fs j4 false 3 d_scaled) (h5 : At fs j5 false 2 d_monic_of) (h10 : At fs j10 false 3 d_two)
    (hck : ckRN ⟨N, fs, WW⟩ n sc body (dw_rows j0 j3 j10) (dw_e1 j5) (dw_e2 j4) = true) {ds ds1 l ds2 bs : List D} (h : d_withT ds = some (ds1, l, ds2, bs)) : DenSsT X β body (en0 N.length false ds) ds1 l ds2 bs := by
  unfold d_withT at h
  split at h
  · rename_i hx
    cases h
    have sp := hx.choose_spec
    generalize hx.choose = x at *
    obtain ⟨⟨hl, hn⟩, e⟩ := sp
    rw [e]
    obtain ⟨P, l, t⟩ := x
    dsimp only at hl hn ⊢
    obtain ⟨y4, y5, y6, v⟩ := dw_run (N := N) (P := P) hN h0 h3 h10 hl hn t
    have e0 : en0 N.length false (LF.enc ⟨P, l, t⟩) = ⟨[.val (.int P.1), .val (sqr t (Ft l)), .no, .no, .no, .no, .no, .no, .no], []⟩ := by rw [hN]; rfl
    rw [e0]
    exact retN_ok (m := 60) co hck v (dw_ends ⟨N, fs, WW⟩ h4 h5 hl hn 40).1 (dw_ends ⟨N, fs, WW⟩ h4 h5 hl hn 40).2
  · cases h
end K03
set_option Elab.async false
set_option linter.all false
set_option maxRecDepth 100000
set_option maxHeartbeats 8000000
namespace K03
open PySem PySem.Spec PyProof.Rows L2 Fz W1 K05
def topS (i : Nat) : Stmt := PySem.Challenge.pw_freetops_k03_whole_division_and_divisors.main.body.getD i (.Pass ⟨0, 0, 0, 0⟩)
abbrev s_inverse : Stmt := topS 3
def N_inverse : List Str := ["prime", "residue", "high", "low", "before", "now", "quotient"]
def g_inverse (den : List D → Option (Bool × D × List D)) : Fn := ⟨["prime", "residue"], false, [], den⟩
abbrev s_form_of : Stmt := topS 5
def N_form_of : List Str := ["prime", "numbers", "residues", "number"]
def g_form_of (den : List D → Option (Bool × D × List D)) : Fn := ⟨["prime", "numbers"], false, [], den⟩
abbrev s_subtract : Stmt := topS 6
def N_subtract : List Str := ["prime", "one", "other", "shared", "a", "b", "many"]
def g_subtract (den : List D → Option (Bool × D × List D)) : Fn := ⟨["prime", "one", "other"], false, [], den⟩
abbrev s_multiply : Stmt := topS 7
def N_multiply : List Str := ["prime", "one", "other", "sums", "shift", "factor", "at", "number"]
def g_multiply (den : List D → Option (Bool × D × List D)) : Fn := ⟨["prime", "one", "other"], false, [], den⟩
abbrev s_scaled : Stmt := topS 8
def N_scaled : List Str := ["prime", "form", "number", "residue"]
def g_scaled (den : List D → Option (Bool × D × List D)) : Fn := ⟨["prime", "form", "number"], false, [], den⟩
abbrev s_monic_of : Stmt := topS 9
def N_monic_of : List Str := ["prime", "form"]
def g_monic_of (den : List D → Option (Bool × D × List D)) : Fn := ⟨["prime", "form"], false, [], den⟩
abbrev s_divided : Stmt := topS 11
def N_divided : List Str := ["prime", "form", "by", "degree", "lower", "unit", "rest", "quotient", "shift", "factor", "at", "number"]
def g_divided (den : List D → Option (Bool × D × List D)) : Fn := ⟨["prime", "form", "by"], false, [⟨0, ["by", "form", "prime"], [2, 1, 0]⟩], den⟩
abbrev s_remainder_of : Stmt := topS 12
def N_remainder_of : List Str := ["prime", "form", "by", "_", "remainder"]
def g_remainder_of (den : List D → Option (Bool × D × List D)) : Fn := ⟨["prime", "form", "by"], false, [], den⟩
abbrev s_divides : Stmt := topS 13
def N_divides : List Str := ["prime", "by", "form"]
def g_divides (den : List D → Option (Bool × D × List D)) : Fn := ⟨["prime", "by", "form"], false, [⟨0, ["form", "by", "prime"], [2, 1, 0]⟩], den⟩
abbrev s_divisor_of : Stmt := topS 14
def N_divisor_of : List Str := ["prime", "forms", "divisor", "form"]
def g_divisor_of (den : List D → Option (Bool × D × List D)) : Fn := ⟨["prime", "forms"], false, [⟨0, ["forms", "prime"], [1, 0]⟩], den⟩
abbrev s_divisor_of_two : Stmt := topS 16
def N_divisor_of_two : List Str := ["prime", "one", "other", "high", "low", "quotient", "_", "lower", "a", "b"]
def g_divisor_of_two (den : List D → Option (Bool × D × List D)) : Fn := ⟨["prime", "one", "other"], false, [], den⟩
abbrev s_divisor_with : Stmt := topS 15
def N_divisor_with : List Str := ["prime", "forms", "divisor", "multipliers", "form", "before", "now", "multiplier", "unit"]
def g_divisor_with (den : List D → Option (Bool × D × List D)) : Fn := ⟨["prime", "forms"], false, [⟨0, ["forms", "prime"], [1, 0]⟩], den⟩
abbrev s_q_bag : Stmt := topS 18
def N_q_bag : List Str := ["_law_script", "_law_mixed", "_law_cell"]
def g_q_bag (den : List D → Option (Bool × D × List D)) : Fn := ⟨["_law_script"], false, [], den⟩
abbrev s_q_draw : Stmt := topS 19
def N_q_draw : List Str := ["_law_bag_here", "_law_top", "_law_cell", "_law_digit", "_law_seed"]
def g_q_draw (den : List D → Option (Bool × D × List D)) : Fn := ⟨["_law_bag_here", "_law_top"], true, [], den⟩
abbrev s_q_of : Stmt := topS 20
def N_q_of : List Str := ["_law_bag_here", "_law_some_here"]
def g_q_of (den : List D → Option (Bool × D × List D)) : Fn := ⟨["_law_bag_here", "_law_some_here"], true, [], den⟩
abbrev s_q_same : Stmt := topS 21
def N_q_same : List Str := ["_law_found", "_law_due", "_law_a", "_law_b"]
def g_q_same (den : List D → Option (Bool × D × List D)) : Fn := ⟨["_law_found", "_law_due"], false, [], den⟩
abbrev s_q_is_num : Stmt := topS 22
def N_q_is_num : List Str := ["_law_v"]
def g_q_is_num (den : List D → Option (Bool × D × List D)) : Fn := ⟨["_law_v"], false, [], den⟩
abbrev s_q_primes : Stmt := topS 23
def N_q_primes : List Str := ["_law_a", "_law_b"]
def g_q_primes (den : List D → Option (Bool × D × List D)) : Fn := ⟨[], false, [], den⟩
abbrev s_q_prime : Stmt := topS 24
def N_q_prime : List Str := ["_law_bag_here"]
def g_q_prime (den : List D → Option (Bool × D × List D)) : Fn := ⟨["_law_bag_here"], true, [], den⟩
abbrev s_q_trim : Stmt := topS 25
def N_q_trim : List Str := ["_law_coefs", "_law_many"]
def g_q_trim (den : List D → Option (Bool × D × List D)) : Fn := ⟨["_law_coefs"], false, [], den⟩
abbrev s_q_plus : Stmt := topS 26
def N_q_plus : List Str := ["_law_p", "_law_f", "_law_g", "_law_many", "_law_k"]
def g_q_plus (den : List D → Option (Bool × D × List D)) : Fn := ⟨["_law_p", "_law_f", "_law_g"], false, [], den⟩
abbrev s_q_mul : Stmt := topS 27
def N_q_mul : List Str := ["_law_p", "_law_f", "_law_g", "_law_sums", "_law_i", "_law_j", "_law_a"]
def g_q_mul (den : List D → Option (Bool × D × List D)) : Fn := ⟨["_law_p", "_law_f", "_law_g"], false, [], den⟩
abbrev s_q_inv : Stmt := topS 28
def N_q_inv : List Str := ["_law_p", "_law_a", "_law_b"]
def g_q_inv (den : List D → Option (Bool × D × List D)) : Fn := ⟨["_law_p", "_law_a"], false, [], den⟩
abbrev s_q_divide : Stmt := topS 29
def N_q_divide : List Str := ["_law_p", "_law_f", "_law_g", "_law_left", "_law_found", "_law_turned", "_law_k", "_law_a", "_law_j"]
def g_q_divide (den : List D → Option (Bool × D × List D)) : Fn := ⟨["_law_p", "_law_f", "_law_g"], false, [], den⟩
abbrev s_q_is_form : Stmt := topS 30
def N_q_is_form : List Str := ["_law_p", "_law_v", "_law_a"]
def g_q_is_form (den : List D → Option (Bool × D × List D)) : Fn := ⟨["_law_p", "_law_v"], false, [], den⟩
abbrev s_q_form : Stmt := topS 31
def N_q_form : List Str := ["_law_bag_here", "_law_p", "_law_deg", "_law_k"]
def g_q_form (den : List D → Option (Bool × D × List D)) : Fn := ⟨["_law_bag_here", "_law_p", "_law_deg"], true, [], den⟩
abbrev s_q_full_form : Stmt := topS 32
def N_q_full_form : List Str := ["_law_bag_here", "_law_p", "_law_deg", "_law_k"]
def g_q_full_form (den : List D → Option (Bool × D × List D)) : Fn := ⟨["_law_bag_here", "_law_p", "_law_deg"], true, [], den⟩
abbrev s_q_dot : Stmt := topS 33
def N_q_dot : List Str := ["_law_p", "_law_v", "_law_w", "_law_found", "_law_f", "_law_g"]
def g_q_dot (den : List D → Option (Bool × D × List D)) : Fn := ⟨["_law_p", "_law_v", "_law_w"], false, [], den⟩
abbrev s_q_parted : Stmt := topS 34
def N_q_parted : List Str := ["_law_p", "_law_f", "_law_g", "_law_named", "e"]
def g_q_parted (den : List D → Option (Bool × D × List D)) : Fn := ⟨["_law_p", "_law_f", "_law_g", "_law_named"], false, [], den⟩
abbrev s_q_division_so : Stmt := topS 35
def N_q_division_so : List Str := ["_law_bag_here", "_law_p", "_law_f", "_law_g", "_law_told", "_law_due"]
def g_q_division_so (den : List D → Option (Bool × D × List D)) : Fn := ⟨["_law_bag_here", "_law_p"], true, [], den⟩
abbrev s_q_some : Stmt := topS 36
def N_q_some : List Str := ["_law_bag_here", "_law_p", "_law_c", "_law_deg", "_law_found", "_law_k"]
def g_q_some (den : List D → Option (Bool × D × List D)) : Fn := ⟨["_law_bag_here", "_law_p"], true, [], den⟩
abbrev s_q_made_so : Stmt := topS 37
def N_q_made_so : List Str := ["_law_p", "_law_fs", "_law_told", "_law_d", "_law_made", "_law_f"]
def g_q_made_so (den : List D → Option (Bool × D × List D)) : Fn := ⟨["_law_p", "_law_fs", "_law_told"], false, [], den⟩
abbrev s_law : Stmt := topS 38
def N_law : List Str := ["_law_script", "_law_bag_here", "_law_turn", "_law_p", "_law_fs", "_law_c", "_law_held", "_law_told", "_law_d", "_law_made", "_law_f", "_law_k"]
def g_law (den : List D → Option (Bool × D × List D)) : Fn := ⟨["_law_script"], false, [], den⟩
theorem law_den (cs : List Int) (_ : cs.length ≤ 63) : ∃ l, (g_law d_law).den [.dict [(.none, .list (I cs))]] = some (false, .bool true, l) := ⟨[], law_den' cs⟩
noncomputable def fs29 : List (Str × Fn) := (("inverse" : Str), g_inverse d_inverse) :: (("form_of" : Str), g_form_of d_form_of) :: (("subtract" : Str), g_subtract d_subtract) :: (("multiply" : Str), g_multiply d_multiply) :: (("scaled" : Str), g_scaled d_scaled) :: (("monic_of" : Str), g_monic_of d_monic_of) :: (("divided" : Str), g_divided d_divided) :: (("remainder_of" : Str), g_remainder_of d_rem) :: (("divides" : Str), g_divides d_divides) :: (("divisor_of" : Str), g_divisor_of d_dvo) :: (("_divisor_of_two" : Str), g_divisor_of_two d_two) :: (("divisor_with" : Str), g_divisor_with d_with) :: (("_law_bag" : Str), g_q_bag d_bag) :: (("_law_draw" : Str), g_q_draw d_draw) :: (("_law_of" : Str), g_q_of d_of) :: (("_law_same" : Str), g_q_same (d_same3 3)) :: (("_law_is_num" : Str), g_q_is_num d_is_num) :: (("_law_primes" : Str), g_q_primes d_primes) :: (("_law_prime" : Str), g_q_prime d_prime) :: (("_law_trim" : Str), g_q_trim d_trim) :: (("_law_plus" : Str), g_q_plus d_add) :: (("_law_mul" : Str), g_q_mul d_multiply) :: (("_law_inv" : Str), g_q_inv d_q_inv) :: (("_law_divide" : Str), g_q_divide d_ldiv) :: (("_law_is_form" : Str), g_q_is_form d_is_form) :: (("_law_form" : Str), g_q_form W1.d_form) :: (("_law_full_form" : Str), g_q_full_form d_full) :: (("_law_dot" : Str), g_q_dot d_dot) :: (("_law_parted" : Str), g_q_parted d_parted) :: []
noncomputable def d_dso : List D → Option (Bool × D × List D) := fun ds => runD ⟨N_q_division_so, fs29, WW⟩ 80 true B_dso ds
noncomputable def fsA : List (Str × Fn) := (("inverse" : Str), g_inverse d_inverse) :: (("form_of" : Str), g_form_of d_form_of) :: (("subtract" : Str), g_subtract d_subtract) :: (("multiply" : Str), g_multiply d_multiply) :: (("scaled" : Str), g_scaled d_scaled) :: (("monic_of" : Str), g_monic_of d_monic_of) :: (("divided" : Str), g_divided d_divided) :: (("remainder_of" : Str), g_remainder_of d_rem) :: (("divides" : Str), g_divides d_divides) :: (("divisor_of" : Str), g_divisor_of d_dvo) :: (("_divisor_of_two" : Str), g_divisor_of_two d_two) :: (("divisor_with" : Str), g_divisor_with d_with) :: (("_law_bag" : Str), g_q_bag d_bag) :: (("_law_draw" : Str), g_q_draw d_draw) :: (("_law_of" : Str), g_q_of d_of) :: (("_law_same" : Str), g_q_same (d_same3 3)) :: (("_law_is_num" : Str), g_q_is_num d_is_num) :: (("_law_primes" : Str), g_q_primes d_primes) :: (("_law_prime" : Str), g_q_prime d_prime) :: (("_law_trim" : Str), g_q_trim d_trim) :: (("_law_plus" : Str), g_q_plus d_add) :: (("_law_mul" : Str), g_q_mul d_multiply) :: (("_law_inv" : Str), g_q_inv d_q_inv) :: (("_law_divide" : Str), g_q_divide d_ldiv) :: (("_law_is_form" : Str), g_q_is_form d_is_form) :: (("_law_form" : Str), g_q_form W1.d_form) :: (("_law_full_form" : Str), g_q_full_form d_full) :: (("_law_dot" : Str), g_q_dot d_dot) :: (("_law_parted" : Str), g_q_parted d_parted) :: (("_law_division_so" : Str), g_q_division_so d_dso) :: (("_law_some" : Str), g_q_some (fun _ => none)) :: (("_law_made_so" : Str), g_q_made_so d_made) :: (("law" : Str), g_law d_law) :: []
theorem ck_inverse : ckSs ⟨N_inverse, fsA.take 0, 1048576⟩ 60 (defScope s_inverse) (defBody s_inverse) B_inverse = true := by decide +kernel
theorem sc_inverse : FnScope N_inverse ["prime", "residue"] (defScope s_inverse) := ⟨rfl, rfl, rfl, by decide +kernel, rfl, by decide +kernel, by decide +kernel⟩
theorem bd_inverse (den : List D → Option (Bool × D × List D)) : Bnd "inverse" s_inverse (g_inverse den) := ⟨fun _ _ _ _ _ _ us hl => match us, hl with | [_, _], _ => rfl, fun kw h => by cases h⟩
theorem ck_form_of : ckSs ⟨N_form_of, fsA.take 1, 1048576⟩ 60 (defScope s_form_of) (defBody s_form_of) B_form_of = true := by decide +kernel
theorem sc_form_of : FnScope N_form_of ["prime", "numbers"] (defScope s_form_of) := ⟨rfl, rfl, rfl, by decide +kernel, rfl, by decide +kernel, by decide +kernel⟩
theorem bd_form_of (den : List D → Option (Bool × D × List D)) : Bnd "form_of" s_form_of (g_form_of den) := ⟨fun _ _ _ _ _ _ us hl => match us, hl with | [_, _], _ => rfl, fun kw h => by cases h⟩
theorem ck_subtract : ckSs ⟨N_subtract, fsA.take 2, 1048576⟩ 60 (defScope s_subtract) (defBody s_subtract) (B_subtract 1) = true := by decide +kernel
theorem sc_subtract : FnScope N_subtract ["prime", "one", "other"] (defScope s_subtract) := ⟨rfl, rfl, rfl, by decide +kernel, rfl, by decide +kernel, by decide +kernel⟩
theorem bd_subtract (den : List D → Option (Bool × D × List D)) : Bnd "subtract" s_subtract (g_subtract den) := ⟨fun _ _ _ _ _ _ us hl => match us, hl with | [_, _, _], _ => rfl, fun kw h => by cases h⟩
theorem ck_multiply : ckSs ⟨N_multiply, fsA.take 3, 1048576⟩ 60 (defScope s_multiply) (defBody s_multiply) (B_multiply 1) = true := by decide +kernel
theorem sc_multiply : FnScope N_multiply ["prime", "one", "other"] (defScope s_multiply) := ⟨rfl, rfl, rfl, by decide +kernel, rfl, by decide +kernel, by decide +kernel⟩
theorem bd_multiply (den : List D → Option (Bool × D × List D)) : Bnd "multiply" s_multiply (g_multiply den) := ⟨fun _ _ _ _ _ _ us hl => match us, hl with | [_, _, _], _ => rfl, fun kw h => by cases h⟩
theorem ck_scaled : ckSs ⟨N_scaled, fsA.take 4, 1048576⟩ 60 (defScope s_scaled) (defBody s_scaled) (B_scaled 1) = true := by decide +kernel
theorem sc_scaled : FnScope N_scaled ["prime", "form", "number"] (defScope s_scaled) := ⟨rfl, rfl, rfl, by decide +kernel, rfl, by decide +kernel, by decide +kernel⟩
theorem bd_scaled (den : List D → Option (Bool × D × List D)) : Bnd "scaled" s_scaled (g_scaled den) := ⟨fun _ _ _ _ _ _ us hl => match us, hl with | [_, _, _], _ => rfl, fun kw h => by cases h⟩
theorem ck_monic_of : ckSs ⟨N_monic_of, fsA.take 5, 1048576⟩ 60 (defScope s_monic_of) (defBody s_monic_of) (B_monic_of 0 4) = true := by decide +kernel
theorem sc_monic_of : FnScope N_monic_of ["prime", "form"] (defScope s_monic_of) := ⟨rfl, rfl, rfl, by decide +kernel, rfl, by decide +kernel, by decide +kernel⟩
theorem bd_monic_of (den : List D → Option (Bool × D × List D)) : Bnd "monic_of" s_monic_of (g_monic_of den) := ⟨fun _ _ _ _ _ _ us hl => match us, hl with | [_, _], _ => rfl, fun kw h => by cases h⟩
theorem ck_divided : ckSs ⟨N_divided, fsA.take 6, 1048576⟩ 60 (defScope s_divided) (defBody s_divided) (B_divided 0 1) = true := by decide +kernel
theorem sc_divided : FnScope N_divided ["prime", "form", "by"] (defScope s_divided) := ⟨rfl, rfl, rfl, by decide +kernel, rfl, by decide +kernel, by decide +kernel⟩
theorem bd_divided (den : List D → Option (Bool × D × List D)) : Bnd "divided" s_divided (g_divided den) := ⟨fun _ _ _ _ _ _ us hl => match us, hl with | [_, _, _], _ => rfl, by
  intro kw h
  simp only [g_divided, List.mem_cons, List.not_mem_nil, or_false] at h
  rcases h with rfl
  · exact fun _ _ _ _ _ _ us ws h1 h2 => match us, ws, h1, h2 with | [], [_, _, _], _, _ => rfl⟩
theorem ck_remainder_of : ckSs ⟨N_remainder_of, fsA.take 7, 1048576⟩ 60 (defScope s_remainder_of) (defBody s_remainder_of) (B_rem 6) = true := by decide +kernel
theorem sc_remainder_of : FnScope N_remainder_of ["prime", "form", "by"] (defScope s_remainder_of) := ⟨rfl, rfl, rfl, by decide +kernel, rfl, by decide +kernel, by decide +kernel⟩
theorem bd_remainder_of (den : List D → Option (Bool × D × List D)) : Bnd "remainder_of" s_remainder_of (g_remainder_of den) := ⟨fun _ _ _ _ _ _ us hl => match us, hl with | [_, _, _], _ => rfl, fun kw h => by cases h⟩
theorem ck_divides : ckSs ⟨N_divides, fsA.take 8, 1048576⟩ 60 (defScope s_divides) (defBody s_divides) (B_divides 7) = true := by decide +kernel
theorem sc_divides : FnScope N_divides ["prime", "by", "form"] (defScope s_divides) := ⟨rfl, rfl, rfl, by decide +kernel, rfl, by decide +kernel, by decide +kernel⟩
theorem bd_divides (den : List D → Option (Bool × D × List D)) : Bnd "divides" s_divides (g_divides den) := ⟨fun _ _ _ _ _ _ us hl => match us, hl with | [_, _, _], _ => rfl, by
  intro kw h
  simp only [g_divides, List.mem_cons, List.not_mem_nil, or_false] at h
  rcases h with rfl
  · exact fun _ _ _ _ _ _ us ws h1 h2 => match us, ws, h1, h2 with | [], [_, _, _], _, _ => rfl⟩
theorem ck_divisor_of : ckSs ⟨N_divisor_of, fsA.take 9, 1048576⟩ 60 (defScope s_divisor_of) (defBody s_divisor_of) (B_dvo 5 7) = true := by decide +kernel
theorem sc_divisor_of : FnScope N_divisor_of ["prime", "forms"] (defScope s_divisor_of) := ⟨rfl, rfl, rfl, by decide +kernel, rfl, by decide +kernel, by decide +kernel⟩
theorem bd_divisor_of (den : List D → Option (Bool × D × List D)) : Bnd "divisor_of" s_divisor_of (g_divisor_of den) := ⟨fun _ _ _ _ _ _ us hl => match us, hl with | [_, _], _ => rfl, by
  intro kw h
  simp only [g_divisor_of, List.mem_cons, List.not_mem_nil, or_false] at h
  rcases h with rfl
  · exact fun _ _ _ _ _ _ us ws h1 h2 => match us, ws, h1, h2 with | [], [_, _], _, _ => rfl⟩
theorem ck_divisor_of_two : ckSs ⟨N_divisor_of_two, fsA.take 10, 1048576⟩ 60 (defScope s_divisor_of_two) (defBody s_divisor_of_two) (B_two 2 3 6) = true := by decide +kernel
theorem sc_divisor_of_two : FnScope N_divisor_of_two ["prime", "one", "other"] (defScope s_divisor_of_two) := ⟨rfl, rfl, rfl, by decide +kernel, rfl, by decide +kernel, by decide +kernel⟩
theorem bd_divisor_of_two (den : List D → Option (Bool × D × List D)) : Bnd "_divisor_of_two" s_divisor_of_two (g_divisor_of_two den) := ⟨fun _ _ _ _ _ _ us hl => match us, hl with | [_, _, _], _ => rfl, fun kw h => by cases h⟩
theorem ck_divisor_with : ckSs ⟨N_divisor_with, fsA.take 11, 1048576⟩ 60 (defScope s_divisor_with) (defBody s_divisor_with) (B_with 0 3 4 5 10) = true := by decide +kernel
theorem sc_divisor_with : FnScope N_divisor_with ["prime", "forms"] (defScope s_divisor_with) := ⟨rfl, rfl, rfl, by decide +kernel, rfl, by decide +kernel, by decide +kernel⟩
theorem bd_divisor_with (den : List D → Option (Bool × D × List D)) : Bnd "divisor_with" s_divisor_with (g_divisor_with den) := ⟨fun _ _ _ _ _ _ us hl => match us, hl with | [_, _], _ => rfl, by
  intro kw h
  simp only [g_divisor_with, List.mem_cons, List.not_mem_nil, or_false] at h
  rcases h with rfl
  · exact fun _ _ _ _ _ _ us ws h1 h2 => match us, ws, h1, h2 with | [], [_, _], _, _ => rfl⟩
theorem ck_q_bag : ckSs ⟨N_q_bag, fsA.take 12, 1048576⟩ 60 (defScope s_q_bag) (defBody s_q_bag) B_q_bag = true := by decide +kernel
theorem sc_q_bag : FnScope N_q_bag ["_law_script"] (defScope s_q_bag) := ⟨rfl, rfl, rfl, by decide +kernel, rfl, by decide +kernel, by decide +kernel⟩
theorem bd_q_bag (den : List D → Option (Bool × D × List D)) : Bnd "_law_bag" s_q_bag (g_q_bag den) := ⟨fun _ _ _ _ _ _ us hl => match us, hl with | [_], _ => rfl, fun kw h => by cases h⟩
theorem ck_q_draw : ckSs ⟨N_q_draw, fsA.take 13, 1048576⟩ 60 (defScope s_q_draw) (defBody s_q_draw) B_q_draw = true := by decide +kernel
theorem sc_q_draw : FnScope N_q_draw ["_law_bag_here", "_law_top"] (defScope s_q_draw) := ⟨rfl, rfl, rfl, by decide +kernel, rfl, by decide +kernel, by decide +kernel⟩
theorem bd_q_draw (den : List D → Option (Bool × D × List D)) : Bnd "_law_draw" s_q_draw (g_q_draw den) := ⟨fun _ _ _ _ _ _ us hl => match us, hl with | [_, _], _ => rfl, fun kw h => by cases h⟩
theorem ck_q_of : ckSs ⟨N_q_of, fsA.take 14, 1048576⟩ 60 (defScope s_q_of) (defBody s_q_of) (B_q_of 13) = true := by decide +kernel
theorem sc_q_of : FnScope N_q_of ["_law_bag_here", "_law_some_here"] (defScope s_q_of) := ⟨rfl, rfl, rfl, by decide +kernel, rfl, by decide +kernel, by decide +kernel⟩
theorem bd_q_of (den : List D → Option (Bool × D × List D)) : Bnd "_law_of" s_q_of (g_q_of den) := ⟨fun _ _ _ _ _ _ us hl => match us, hl with | [_, _], _ => rfl, fun kw h => by cases h⟩
theorem ck_q_same_0 : ckSs ⟨N_q_same, (fsA.take 15) ++ [(("_law_same" : Str), g_q_same (fun _ => none))], 1048576⟩ 60 (defScope s_q_same) (defBody s_q_same) (B_q_same 15) = true := by decide +kernel
theorem ck_q_same_1 : ckSs ⟨N_q_same, (fsA.take 15) ++ [(("_law_same" : Str), g_q_same (d_same3 0))], 1048576⟩ 60 (defScope s_q_same) (defBody s_q_same) (B_q_same 15) = true := by decide +kernel
theorem ck_q_same_2 : ckSs ⟨N_q_same, (fsA.take 15) ++ [(("_law_same" : Str), g_q_same (d_same3 1))], 1048576⟩ 60 (defScope s_q_same) (defBody s_q_same) (B_q_same 15) = true := by decide +kernel
theorem ck_q_same_3 : ckSs ⟨N_q_same, (fsA.take 15) ++ [(("_law_same" : Str), g_q_same (d_same3 2))], 1048576⟩ 60 (defScope s_q_same) (defBody s_q_same) (B_q_same 15) = true := by decide +kernel
theorem sc_q_same : FnScope N_q_same ["_law_found", "_law_due"] (defScope s_q_same) := ⟨rfl, rfl, rfl, by decide +kernel, rfl, by decide +kernel, by decide +kernel⟩
theorem bd_q_same (den : List D → Option (Bool × D × List D)) : Bnd "_law_same" s_q_same (g_q_same den) := ⟨fun _ _ _ _ _ _ us hl => match us, hl with | [_, _], _ => rfl, fun kw h => by cases h⟩
theorem ck_q_is_num : ckSs ⟨N_q_is_num, fsA.take 16, 1048576⟩ 60 (defScope s_q_is_num) (defBody s_q_is_num) B_q_is_num = true := by decide +kernel
theorem sc_q_is_num : FnScope N_q_is_num ["_law_v"] (defScope s_q_is_num) := ⟨rfl, rfl, rfl, by decide +kernel, rfl, by decide +kernel, by decide +kernel⟩
theorem bd_q_is_num (den : List D → Option (Bool × D × List D)) : Bnd "_law_is_num" s_q_is_num (g_q_is_num den) := ⟨fun _ _ _ _ _ _ us hl => match us, hl with | [_], _ => rfl, fun kw h => by cases h⟩
theorem ck_q_primes : ckSs ⟨N_q_primes, fsA.take 17, 1048576⟩ 60 (defScope s_q_primes) (defBody s_q_primes) B_q_primes = true := by decide +kernel
theorem sc_q_primes : FnScope N_q_primes [] (defScope s_q_primes) := ⟨rfl, rfl, rfl, by decide +kernel, rfl, by decide +kernel, by decide +kernel⟩
theorem bd_q_primes (den : List D → Option (Bool × D × List D)) : Bnd "_law_primes" s_q_primes (g_q_primes den) := ⟨fun _ _ _ _ _ _ us hl => match us, hl with | [], _ => rfl, fun kw h => by cases h⟩
theorem ck_q_prime : ckSs ⟨N_q_prime, fsA.take 18, 1048576⟩ 60 (defScope s_q_prime) (defBody s_q_prime) (B_q_prime 13 14 17) = true := by decide +kernel
theorem sc_q_prime : FnScope N_q_prime ["_law_bag_here"] (defScope s_q_prime) := ⟨rfl, rfl, rfl, by decide +kernel, rfl, by decide +kernel, by decide +kernel⟩
theorem bd_q_prime (den : List D → Option (Bool × D × List D)) : Bnd "_law_prime" s_q_prime (g_q_prime den) := ⟨fun _ _ _ _ _ _ us hl => match us, hl with | [_], _ => rfl, fun kw h => by cases h⟩
theorem ck_q_trim : ckSs ⟨N_q_trim, fsA.take 19, 1048576⟩ 60 (defScope s_q_trim) (defBody s_q_trim) B_q_trim = true := by decide +kernel
theorem sc_q_trim : FnScope N_q_trim ["_law_coefs"] (defScope s_q_trim) := ⟨rfl, rfl, rfl, by decide +kernel, rfl, by decide +kernel, by decide +kernel⟩
theorem bd_q_trim (den : List D → Option (Bool × D × List D)) : Bnd "_law_trim" s_q_trim (g_q_trim den) := ⟨fun _ _ _ _ _ _ us hl => match us, hl with | [_], _ => rfl, fun kw h => by cases h⟩
theorem ck_q_plus : ckSs ⟨N_q_plus, fsA.take 20, 1048576⟩ 60 (defScope s_q_plus) (defBody s_q_plus) (B_q_plus 19) = true := by decide +kernel
theorem sc_q_plus : FnScope N_q_plus ["_law_p", "_law_f", "_law_g"] (defScope s_q_plus) := ⟨rfl, rfl, rfl, by decide +kernel, rfl, by decide +kernel, by decide +kernel⟩
theorem bd_q_plus (den : List D → Option (Bool × D × List D)) : Bnd "_law_plus" s_q_plus (g_q_plus den) := ⟨fun _ _ _ _ _ _ us hl => match us, hl with | [_, _, _], _ => rfl, fun kw h => by cases h⟩
theorem ck_q_mul : ckSs ⟨N_q_mul, fsA.take 21, 1048576⟩ 60 (defScope s_q_mul) (defBody s_q_mul) (B_q_mul 19) = true := by decide +kernel
theorem sc_q_mul : FnScope N_q_mul ["_law_p", "_law_f", "_law_g"] (defScope s_q_mul) := ⟨rfl, rfl, rfl, by decide +kernel, rfl, by decide +kernel, by decide +kernel⟩
theorem bd_q_mul (den : List D → Option (Bool × D × List D)) : Bnd "_law_mul" s_q_mul (g_q_mul den) := ⟨fun _ _ _ _ _ _ us hl => match us, hl with | [_, _, _], _ => rfl, fun kw h => by cases h⟩
theorem ck_q_inv : ckSs ⟨N_q_inv, fsA.take 22, 1048576⟩ 60 (defScope s_q_inv) (defBody s_q_inv) B_q_inv = true := by decide +kernel
theorem sc_q_inv : FnScope N_q_inv ["_law_p", "_law_a"] (defScope s_q_inv) := ⟨rfl, rfl, rfl, by decide +kernel, rfl, by decide +kernel, by decide +kernel⟩
theorem bd_q_inv (den : List D → Option (Bool × D × List D)) : Bnd "_law_inv" s_q_inv (g_q_inv den) := ⟨fun _ _ _ _ _ _ us hl => match us, hl with | [_, _], _ => rfl, fun kw h => by cases h⟩
theorem ck_q_divide : ckHead ⟨N_q_divide, fsA.take 23, WW⟩ 60 (defScope s_q_divide) (defBody s_q_divide) 3 4 5 ld_e1 ld_e2 (ld_e3 22) (ld_rest 19) = true := by decide +kernel
theorem sc_q_divide : FnScope N_q_divide ["_law_p", "_law_f", "_law_g"] (defScope s_q_divide) := ⟨rfl, rfl, rfl, by decide +kernel, rfl, by decide +kernel, by decide +kernel⟩
theorem bd_q_divide (den : List D → Option (Bool × D × List D)) : Bnd "_law_divide" s_q_divide (g_q_divide den) := ⟨fun _ _ _ _ _ _ us hl => match us, hl with | [_, _, _], _ => rfl, fun kw h => by cases h⟩
theorem ck_q_is_form : ckSs ⟨N_q_is_form, fsA.take 24, 1048576⟩ 60 (defScope s_q_is_form) (defBody s_q_is_form) (B_q_is_form 16) = true := by decide +kernel
theorem sc_q_is_form : FnScope N_q_is_form ["_law_p", "_law_v"] (defScope s_q_is_form) := ⟨rfl, rfl, rfl, by decide +kernel, rfl, by decide +kernel, by decide +kernel⟩
theorem bd_q_is_form (den : List D → Option (Bool × D × List D)) : Bnd "_law_is_form" s_q_is_form (g_q_is_form den) := ⟨fun _ _ _ _ _ _ us hl => match us, hl with | [_, _], _ => rfl, fun kw h => by cases h⟩
theorem ck_q_form : ckSs ⟨N_q_form, fsA.take 25, 1048576⟩ 60 (defScope s_q_form) (defBody s_q_form) (B_q_form 13 19) = true := by decide +kernel
theorem sc_q_form : FnScope N_q_form ["_law_bag_here", "_law_p", "_law_deg"] (defScope s_q_form) := ⟨rfl, rfl, rfl, by decide +kernel, rfl, by decide +kernel, by decide +kernel⟩
theorem bd_q_form (den : List D → Option (Bool × D × List D)) : Bnd "_law_form" s_q_form (g_q_form den) := ⟨fun _ _ _ _ _ _ us hl => match us, hl with | [_, _, _], _ => rfl, fun kw h => by cases h⟩
theorem ck_q_full_form : ckSs ⟨N_q_full_form, fsA.take 26, 1048576⟩ 60 (defScope s_q_full_form) (defBody s_q_full_form) (B_q_full 13) = true := by decide +kernel
theorem sc_q_full_form : FnScope N_q_full_form ["_law_bag_here", "_law_p", "_law_deg"] (defScope s_q_full_form) := ⟨rfl, rfl, rfl, by decide +kernel, rfl, by decide +kernel, by decide +kernel⟩
theorem bd_q_full_form (den : List D → Option (Bool × D × List D)) : Bnd "_law_full_form" s_q_full_form (g_q_full_form den) := ⟨fun _ _ _ _ _ _ us hl => match us, hl with | [_, _, _], _ => rfl, fun kw h => by cases h⟩
theorem ck_q_dot : ckSs ⟨N_q_dot, fsA.take 27, 1048576⟩ 60 (defScope s_q_dot) (defBody s_q_dot) (B_dot 20 21) = true := by decide +kernel
theorem sc_q_dot : FnScope N_q_dot ["_law_p", "_law_v", "_law_w"] (defScope s_q_dot) := ⟨rfl, rfl, rfl, by decide +kernel, rfl, by decide +kernel, by decide +kernel⟩
theorem bd_q_dot (den : List D → Option (Bool × D × List D)) : Bnd "_law_dot" s_q_dot (g_q_dot den) := ⟨fun _ _ _ _ _ _ us hl => match us, hl with | [_, _, _], _ => rfl, fun kw h => by cases h⟩
theorem ck_q_parted : ckTryA ⟨N_q_parted, fsA.take 28, WW⟩ 60 (defScope s_q_parted) (defBody s_q_parted) "divided" "ZeroForm" "e" 4 (.nm 3) [(.nm 2), (.nm 1), (.nm 0)] [(.nm 0), (.nm 1), (.nm 2)] (pt_rs 6) ["by", "form", "prime"] "zero" "code" = true := by decide +kernel
theorem sc_q_parted : FnScope N_q_parted ["_law_p", "_law_f", "_law_g", "_law_named"] (defScope s_q_parted) := ⟨rfl, rfl, rfl, by decide +kernel, rfl, by decide +kernel, by decide +kernel⟩
theorem bd_q_parted (den : List D → Option (Bool × D × List D)) : Bnd "_law_parted" s_q_parted (g_q_parted den) := ⟨fun _ _ _ _ _ _ us hl => match us, hl with | [_, _, _, _], _ => rfl, fun kw h => by cases h⟩
theorem ck_q_division_so : ckSs ⟨N_q_division_so, fsA.take 29, 1048576⟩ 60 (defScope s_q_division_so) (defBody s_q_division_so) B_dso = true := by decide +kernel
theorem sc_q_division_so : FnScope N_q_division_so ["_law_bag_here", "_law_p"] (defScope s_q_division_so) := ⟨rfl, rfl, rfl, by decide +kernel, rfl, by decide +kernel, by decide +kernel⟩
theorem bd_q_division_so (den : List D → Option (Bool × D × List D)) : Bnd "_law_division_so" s_q_division_so (g_q_division_so den) := ⟨fun _ _ _ _ _ _ us hl => match us, hl with | [_, _], _ => rfl, fun kw h => by cases h⟩
theorem ck_q_some : ckSome ⟨N_q_some, fsA.take 30, WW⟩ 60 (defScope s_q_some) (defBody s_q_some) (so_rows 13 14 21 25 26) "_law_of" 0 4 (in_r1 13) in_r0 (.one 5) (.rng [(.appio 13 0 [(.int 3)])]) (.nm 2) = true := by decide +kernel
theorem sc_q_some : FnScope N_q_some ["_law_bag_here", "_law_p"] (defScope s_q_some) := ⟨rfl, rfl, rfl, by decide +kernel, rfl, by decide +kernel, by decide +kernel⟩
theorem bd_q_some (den : List D → Option (Bool × D × List D)) : Bnd "_law_some" s_q_some (g_q_some den) := ⟨fun _ _ _ _ _ _ us hl => match us, hl with | [_, _], _ => rfl, fun kw h => by cases h⟩
theorem ck_q_made_so : ckSs ⟨N_q_made_so, fsA.take 31, 1048576⟩ 60 (defScope s_q_made_so) (defBody s_q_made_so) (B_made 23 24 27) = true := by decide +kernel
theorem sc_q_made_so : FnScope N_q_made_so ["_law_p", "_law_fs", "_law_told"] (defScope s_q_made_so) := ⟨rfl, rfl, rfl, by decide +kernel, rfl, by decide +kernel, by decide +kernel⟩
theorem bd_q_made_so (den : List D → Option (Bool × D × List D)) : Bnd "_law_made_so" s_q_made_so (g_q_made_so den) := ⟨fun _ _ _ _ _ _ us hl => match us, hl with | [_, _, _], _ => rfl, fun kw h => by cases h⟩
theorem ck_law : ckLaw ⟨N_law, fsA.take 32, WW⟩ 60 (defScope s_law) (defBody s_law) = true := by decide +kernel
theorem sc_law : FnScope N_law ["_law_script"] (defScope s_law) := ⟨rfl, rfl, rfl, by decide +kernel, rfl, by decide +kernel, by decide +kernel⟩
theorem bd_law (den : List D → Option (Bool × D × List D)) : Bnd "law" s_law (g_law den) := ⟨fun _ _ _ _ _ _ us hl => match us, hl with | [_], _ => rfl, fun kw h => by cases h⟩
theorem cx_divided : ckRaise ⟨N_divided, fsA.take 6, WW⟩ 60 (defScope s_divided) (defBody s_divided) "ZeroForm" (.nt (.nm 2)) = true := by decide +kernel
theorem cx_with : ckRN ⟨N_divisor_with, fsA.take 11, WW⟩ 60 (defScope s_divisor_with) (defBody s_divisor_with) (dw_rows 0 3 10) (dw_e1 5) (dw_e2 4) = true := by decide +kernel
theorem td29 : Td fs29 := { a8 := At.of rfl rfl, a13 := At.of rfl rfl, a14 := At.of rfl rfl, a15 := At.of rfl rfl, a20 := At.of rfl rfl, a21 := At.of rfl rfl, a23 := At.of rfl rfl, a24 := At.of rfl rfl, a25 := At.of rfl rfl, a28 := At.of rfl rfl, k8 := fun _ _ _ => kAt_of rfl rfl rfl rfl rfl }
theorem tdA : Td (fsA.take 32) := { a8 := At.of rfl rfl, a13 := At.of rfl rfl, a14 := At.of rfl rfl, a15 := At.of rfl rfl, a20 := At.of rfl rfl, a21 := At.of rfl rfl, a23 := At.of rfl rfl, a24 := At.of rfl rfl, a25 := At.of rfl rfl, a28 := At.of rfl rfl, k8 := fun _ _ _ => kAt_of rfl rfl rfl rfl rfl }
theorem tlA : Tl (fsA.take 32) := { d := tdA, a9 := At.of rfl rfl, a11 := At.of rfl rfl, a18 := At.of rfl rfl, a31 := At.of rfl rfl, k9 := fun _ _ => kAt_of rfl rfl rfl rfl rfl, k11 := fun _ _ => kAt_of rfl rfl rfl rfl rfl }
noncomputable def dS : DnT := soT ⟨N_q_some, fsA.take 30, WW⟩ 13 14 21 25 26
theorem s29A (P : Prm) (b : Bag) (n : Int) (h : W1.Inv b n) (hn : n ≤ 990000000) : ∃ b', bAt (fsA.take 32) 29 (bagD b) [.int P.1] = some (false, .bool true, bagD b') ∧ W1.Inv b' (n + 300) := by
  obtain ⟨b', e, i⟩ := dso_run (N := N_q_division_so) td29 rfl h hn
  exact ⟨b', (At.of rfl rfl : At (fsA.take 32) 29 true 2 d_dso).b rfl e, i⟩
theorem sSA (P : Prm) (b : Bag) (n : Int) (h : W1.Inv b n) (hn : n ≤ 990000000) : ∃ (C : Po P) (l : List (Po P)) (b' : Bag), dS [.list (bagD b), .int P.1] = some ([], Ft l, [.tuple (I C.f)], bagD b') ∧ W1.Inv b' (n + 400) ∧ l.length ≤ 8 ∧ Ok C l ∧ C ≠ 0 ∧ C.len ≤ 5 := so_spec (fs := fsA.take 30) (N := N_q_some) rfl (At.of rfl rfl) (At.of rfl rfl) (At.of rfl rfl) (At.of rfl rfl) (At.of rfl rfl) h (by omega)

end K03
set_option Elab.async false
set_option linter.all false
set_option maxRecDepth 100000
set_option maxHeartbeats 8000000
namespace K03
open PySem PySem.Spec PyProof.Rows L2 Fz W1 K05
def pOf : Arguments → Pos
  | ⟨_, [⟨_, _, p⟩], _, _, _, _, _⟩ => p
  | _ => ⟨0, 0, 0, 0⟩
def qOf : List Stmt → Nat → Pos
  | [.Expr (.Call (.Attribute (.Call (.Name _ q0) [] [] q1) _ q2) [.Constant _ _ q3] [] q4) q5, .Assign [.Attribute (.Name _ q6) _ q7] (.Constant _ _ q8) q9] => fun i => [q0, q1, q2, q3, q4, q5, q6, q7, q8, q9].getD i ⟨0, 0, 0, 0⟩
  | _ => fun _ => ⟨0, 0, 0, 0⟩
def kd : Er.KD := ⟨"ZeroForm", "code", "ZeroForm", "a form is the zero form where it must not be", "ZeroForm.__init__", PySem.Challenge.pw_freetops_k03_whole_division_and_divisors.main.file, Er.initOf (topS 1), "ArithmeticError", "ArithmeticError.__new__", "ArithmeticError.__init__", [.type "ArithmeticError", .type "Exception", .type "BaseException", .type "object"]⟩
theorem kd_a : defArgs kd.st = Er.zA (pOf (defArgs kd.st)) := by rfl
theorem kd_b : defBody kd.st = Er.zB kd.m kd.f kd.c (qOf (defBody kd.st)) := by rfl
theorem kd_s : defScope kd.st = Er.zS := by rfl
theorem kd_l : ((qOf (defBody kd.st) 2).endLine == (qOf (defBody kd.st) 4).line) = true := by decide +kernel
def dd_inverse : He.DefD := ⟨("inverse", none), "inverse", "inverse", defArgs s_inverse, defBody s_inverse, defScope s_inverse, [], []⟩
def dd_form_of : He.DefD := ⟨("form_of", none), "form_of", "form_of", defArgs s_form_of, defBody s_form_of, defScope s_form_of, [], []⟩
def dd_subtract : He.DefD := ⟨("subtract", none), "subtract", "subtract", defArgs s_subtract, defBody s_subtract, defScope s_subtract, [], []⟩
def dd_multiply : He.DefD := ⟨("multiply", none), "multiply", "multiply", defArgs s_multiply, defBody s_multiply, defScope s_multiply, [], []⟩
def dd_scaled : He.DefD := ⟨("scaled", none), "scaled", "scaled", defArgs s_scaled, defBody s_scaled, defScope s_scaled, [], []⟩
def dd_monic_of : He.DefD := ⟨("monic_of", none), "monic_of", "monic_of", defArgs s_monic_of, defBody s_monic_of, defScope s_monic_of, [], []⟩
def dd_divided : He.DefD := ⟨("divided", none), "divided", "divided", defArgs s_divided, defBody s_divided, defScope s_divided, [], []⟩
def dd_remainder_of : He.DefD := ⟨("remainder_of", none), "remainder_of", "remainder_of", defArgs s_remainder_of, defBody s_remainder_of, defScope s_remainder_of, [], []⟩
def dd_divides : He.DefD := ⟨("divides", none), "divides", "divides", defArgs s_divides, defBody s_divides, defScope s_divides, [], []⟩
def dd_divisor_of : He.DefD := ⟨("divisor_of", none), "divisor_of", "divisor_of", defArgs s_divisor_of, defBody s_divisor_of, defScope s_divisor_of, [], []⟩
def dd_divisor_of_two : He.DefD := ⟨("_divisor_of_two", none), "_divisor_of_two", "_divisor_of_two", defArgs s_divisor_of_two, defBody s_divisor_of_two, defScope s_divisor_of_two, [], []⟩
def dd_divisor_with : He.DefD := ⟨("divisor_with", none), "divisor_with", "divisor_with", defArgs s_divisor_with, defBody s_divisor_with, defScope s_divisor_with, [], []⟩
def dd_q_bag : He.DefD := ⟨("_law_bag", none), "_law_bag", "_law_bag", defArgs s_q_bag, defBody s_q_bag, defScope s_q_bag, [], []⟩
def dd_q_draw : He.DefD := ⟨("_law_draw", none), "_law_draw", "_law_draw", defArgs s_q_draw, defBody s_q_draw, defScope s_q_draw, [], []⟩
def dd_q_of : He.DefD := ⟨("_law_of", none), "_law_of", "_law_of", defArgs s_q_of, defBody s_q_of, defScope s_q_of, [], []⟩
def dd_q_same : He.DefD := ⟨("_law_same", none), "_law_same", "_law_same", defArgs s_q_same, defBody s_q_same, defScope s_q_same, [], []⟩
def dd_q_is_num : He.DefD := ⟨("_law_is_num", none), "_law_is_num", "_law_is_num", defArgs s_q_is_num, defBody s_q_is_num, defScope s_q_is_num, [], []⟩
def dd_q_primes : He.DefD := ⟨("_law_primes", none), "_law_primes", "_law_primes", defArgs s_q_primes, defBody s_q_primes, defScope s_q_primes, [], []⟩
def dd_q_prime : He.DefD := ⟨("_law_prime", none), "_law_prime", "_law_prime", defArgs s_q_prime, defBody s_q_prime, defScope s_q_prime, [], []⟩
def dd_q_trim : He.DefD := ⟨("_law_trim", none), "_law_trim", "_law_trim", defArgs s_q_trim, defBody s_q_trim, defScope s_q_trim, [], []⟩
def dd_q_plus : He.DefD := ⟨("_law_plus", none), "_law_plus", "_law_plus", defArgs s_q_plus, defBody s_q_plus, defScope s_q_plus, [], []⟩
def dd_q_mul : He.DefD := ⟨("_law_mul", none), "_law_mul", "_law_mul", defArgs s_q_mul, defBody s_q_mul, defScope s_q_mul, [], []⟩
def dd_q_inv : He.DefD := ⟨("_law_inv", none), "_law_inv", "_law_inv", defArgs s_q_inv, defBody s_q_inv, defScope s_q_inv, [], []⟩
def dd_q_divide : He.DefD := ⟨("_law_divide", none), "_law_divide", "_law_divide", defArgs s_q_divide, defBody s_q_divide, defScope s_q_divide, [], []⟩
def dd_q_is_form : He.DefD := ⟨("_law_is_form", none), "_law_is_form", "_law_is_form", defArgs s_q_is_form, defBody s_q_is_form, defScope s_q_is_form, [], []⟩
def dd_q_form : He.DefD := ⟨("_law_form", none), "_law_form", "_law_form", defArgs s_q_form, defBody s_q_form, defScope s_q_form, [], []⟩
def dd_q_full_form : He.DefD := ⟨("_law_full_form", none), "_law_full_form", "_law_full_form", defArgs s_q_full_form, defBody s_q_full_form, defScope s_q_full_form, [], []⟩
def dd_q_dot : He.DefD := ⟨("_law_dot", none), "_law_dot", "_law_dot", defArgs s_q_dot, defBody s_q_dot, defScope s_q_dot, [], []⟩
def dd_q_parted : He.DefD := ⟨("_law_parted", none), "_law_parted", "_law_parted", defArgs s_q_parted, defBody s_q_parted, defScope s_q_parted, [], []⟩
def dd_q_division_so : He.DefD := ⟨("_law_division_so", none), "_law_division_so", "_law_division_so", defArgs s_q_division_so, defBody s_q_division_so, defScope s_q_division_so, [], []⟩
def dd_q_some : He.DefD := ⟨("_law_some", none), "_law_some", "_law_some", defArgs s_q_some, defBody s_q_some, defScope s_q_some, [], []⟩
def dd_q_made_so : He.DefD := ⟨("_law_made_so", none), "_law_made_so", "_law_made_so", defArgs s_q_made_so, defBody s_q_made_so, defScope s_q_made_so, [], []⟩
def dd_law : He.DefD := ⟨("law", none), "law", "law", defArgs s_law, defBody s_law, defScope s_law, [], []⟩
def fnL : List He.DefD := dd_inverse :: dd_form_of :: dd_subtract :: dd_multiply :: dd_scaled :: dd_monic_of :: dd_divided :: dd_remainder_of :: dd_divides :: dd_divisor_of :: dd_divisor_of_two :: dd_divisor_with :: dd_q_bag :: dd_q_draw :: dd_q_of :: dd_q_same :: dd_q_is_num :: dd_q_primes :: dd_q_prime :: dd_q_trim :: dd_q_plus :: dd_q_mul :: dd_q_inv :: dd_q_divide :: dd_q_is_form :: dd_q_form :: dd_q_full_form :: dd_q_dot :: dd_q_parted :: dd_q_division_so :: dd_q_some :: dd_q_made_so :: dd_law :: []
def faL : List He.Fa := (.glo "inverse" : He.Fa) :: (.glo "form_of" : He.Fa) :: (.glo "subtract" : He.Fa) :: (.glo "multiply" : He.Fa) :: (.glo "scaled" : He.Fa) :: (.glo "monic_of" : He.Fa) :: (.glo "divided" : He.Fa) :: (.glo "remainder_of" : He.Fa) :: (.glo "divides" : He.Fa) :: (.glo "divisor_of" : He.Fa) :: (.glo "_divisor_of_two" : He.Fa) :: (.glo "divisor_with" : He.Fa) :: (.glo "_law_bag" : He.Fa) :: (.glo "_law_draw" : He.Fa) :: (.glo "_law_of" : He.Fa) :: (.glo "_law_same" : He.Fa) :: (.glo "_law_is_num" : He.Fa) :: (.glo "_law_primes" : He.Fa) :: (.glo "_law_prime" : He.Fa) :: (.glo "_law_trim" : He.Fa) :: (.glo "_law_plus" : He.Fa) :: (.glo "_law_mul" : He.Fa) :: (.glo "_law_inv" : He.Fa) :: (.glo "_law_divide" : He.Fa) :: (.glo "_law_is_form" : He.Fa) :: (.glo "_law_form" : He.Fa) :: (.glo "_law_full_form" : He.Fa) :: (.glo "_law_dot" : He.Fa) :: (.glo "_law_parted" : He.Fa) :: (.glo "_law_division_so" : He.Fa) :: (.glo "_law_some" : He.Fa) :: (.glo "_law_made_so" : He.Fa) :: (.glo "law" : He.Fa) :: (.free "len" : He.Fa) :: (.free "int" : He.Fa) :: (.free "abs" : He.Fa) :: (.free "list" : He.Fa) :: (.free "tuple" : He.Fa) :: (.free "all" : He.Fa) :: (.free "any" : He.Fa) :: (.free "max" : He.Fa) :: (.free "min" : He.Fa) :: (.free "sum" : He.Fa) :: (.free "isinstance" : He.Fa) :: (.free "range" : He.Fa) :: (.free "enumerate" : He.Fa) :: (.free "zip" : He.Fa) :: (.free "reversed" : He.Fa) :: (.free "bool" : He.Fa) :: (.free "str" : He.Fa) :: (.glo "ZeroForm" : He.Fa) :: (.free "super" : He.Fa) :: []
abbrev RR : PySem.W.OpenRow := PySem.W.OpenLaw.row PySem.Challenge.rw_freetops_k03_whole_division_and_divisors
abbrev hk : PySem.W.Hook := Er.hookZ 4 faL fnL kd
def ob (s : PySem.W.SharedT) : Er.AlZ := Er.obsZG 4 faL fnL kd (HandSHeadRun.getT s)
theorem ob_eq (s : PySem.W.SharedT) : ob s = hk.obs s.abs := Er.obsZG_eq (HandSHeadRun.getT_eq s)
def loose : List Str := ("ZeroForm" : Str) :: ("inverse" : Str) :: ("form_of" : Str) :: ("subtract" : Str) :: ("multiply" : Str) :: ("scaled" : Str) :: ("monic_of" : Str) :: ("divided" : Str) :: ("remainder_of" : Str) :: ("divides" : Str) :: ("divisor_of" : Str) :: ("_divisor_of_two" : Str) :: ("divisor_with" : Str) :: ("_law_bag" : Str) :: ("_law_draw" : Str) :: ("_law_of" : Str) :: ("_law_same" : Str) :: ("_law_is_num" : Str) :: ("_law_primes" : Str) :: ("_law_prime" : Str) :: ("_law_trim" : Str) :: ("_law_plus" : Str) :: ("_law_mul" : Str) :: ("_law_inv" : Str) :: ("_law_divide" : Str) :: ("_law_is_form" : Str) :: ("_law_form" : Str) :: ("_law_full_form" : Str) :: ("_law_dot" : Str) :: ("_law_parted" : Str) :: ("_law_division_so" : Str) :: ("_law_some" : Str) :: ("_law_made_so" : Str) :: []
theorem run (w : World) : HandSHeadRun.RunEq RR (PySem.W.view RR.prog [38]) hk ob 4000 loose w := by
  intro os
  kernel_rfl
end K03
set_option Elab.async false
set_option linter.all false
set_option maxRecDepth 100000
set_option maxHeartbeats 8000000
namespace K03
open PySem PySem.Spec PyProof.Rows L2 Fz W1 K05
theorem facts {P : Program} {w : World} {K : PySem.W.Frag} {h : Heap} {mg : Str → Option Value} {f : Addr} (X : K.In h) (G : h.Ns mainGlobals mg) (hfa : mg ("law" : Str) = some (.ref f)) (c : Er.SaysZ faL fnL kd K) (hfile : ((P.main.file : Str) == kd.file) = true) (htop : (P.main.scope.names.lookup ("super" : Str)).isSome = false) :
    ∃ fd : FuncData, (∀ (s : Shared) (v : Value), BindsTo s fd ⟨[v], []⟩ [("_law_script", v)]) ∧ ∀ base : Heap, K.In base → base.Ns mainGlobals mg → FnOk P w K mg base CX0 37 f fd ["_law_script"] (spD K (g_law d_law)) := by
  have hb : ∀ y, bltNames.contains y = true → mg y = none := by
    intro y hy
    simp only [bltNames, List.contains_cons, List.contains_nil, Bool.or_false, Bool.or_eq_true, beq_iff_eq] at hy
    rcases hy with rfl | rfl | rfl | rfl | rfl | rfl | rfl | rfl | rfl | rfl | rfl | rfl | rfl | rfl | rfl | rfl | rfl
    · exact He.free_ok X G (c.d.fact 33 (f := .free "len") rfl)
    · exact He.free_ok X G (c.d.fact 34 (f := .free "int") rfl)
    · exact He.free_ok X G (c.d.fact 35 (f := .free "abs") rfl)
    · exact He.free_ok X G (c.d.fact 36 (f := .free "list") rfl)
    · exact He.free_ok X G (c.d.fact 37 (f := .free "tuple") rfl)
    · exact He.free_ok X G (c.d.fact 38 (f := .free "all") rfl)
    · exact He.free_ok X G (c.d.fact 39 (f := .free "any") rfl)
    · exact He.free_ok X G (c.d.fact 40 (f := .free "max") rfl)
    · exact He.free_ok X G (c.d.fact 41 (f := .free "min") rfl)
    · exact He.free_ok X G (c.d.fact 42 (f := .free "sum") rfl)
    · exact He.free_ok X G (c.d.fact 43 (f := .free "isinstance") rfl)
    · exact He.free_ok X G (c.d.fact 44 (f := .free "range") rfl)
    · exact He.free_ok X G (c.d.fact 45 (f := .free "enumerate") rfl)
    · exact He.free_ok X G (c.d.fact 46 (f := .free "zip") rfl)
    · exact He.free_ok X G (c.d.fact 47 (f := .free "reversed") rfl)
    · exact He.free_ok X G (c.d.fact 48 (f := .free "bool") rfl)
    · exact He.free_ok X G (c.d.fact 49 (f := .free "str") rfl)
  obtain ⟨kd1, kd2, kd3⟩ := Er.okZ_ok c.k
  have ZK : Er.Kls P K mg "ZeroForm" "code" "ZeroForm" (He.ga K "ZeroForm") := Er.kd_ok (d := kd) X G (c.d.fact 50 (f := .glo "ZeroForm") rfl) (c.d.fact 51 (f := .free "super") rfl) c.e kd1 PySem.F.excBase_ArithmeticError PySem.W.kxs_ArithmeticError PySem.F.store_ArithmeticError kd_a kd_b kd_s kd_l hfile htop
  obtain ⟨fd0, F0⟩ := c.d.def_ 0 (d := dd_inverse) rfl
  have m0 := He.glo_ok X G (c.d.fact 0 (f := .glo "inverse") rfl)
  obtain ⟨fd1, F1⟩ := c.d.def_ 1 (d := dd_form_of) rfl
  have m1 := He.glo_ok X G (c.d.fact 1 (f := .glo "form_of") rfl)
  obtain ⟨fd2, F2⟩ := c.d.def_ 2 (d := dd_subtract) rfl
  have m2 := He.glo_ok X G (c.d.fact 2 (f := .glo "subtract") rfl)
  obtain ⟨fd3, F3⟩ := c.d.def_ 3 (d := dd_multiply) rfl
  have m3 := He.glo_ok X G (c.d.fact 3 (f := .glo "multiply") rfl)
  obtain ⟨fd4, F4⟩ := c.d.def_ 4 (d := dd_scaled) rfl
  have m4 := He.glo_ok X G (c.d.fact 4 (f := .glo "scaled") rfl)
  obtain ⟨fd5, F5⟩ := c.d.def_ 5 (d := dd_monic_of) rfl
  have m5 := He.glo_ok X G (c.d.fact 5 (f := .glo "monic_of") rfl)
  obtain ⟨fd6, F6⟩ := c.d.def_ 6 (d := dd_divided) rfl
  have m6 := He.glo_ok X G (c.d.fact 6 (f := .glo "divided") rfl)
  obtain ⟨fd7, F7⟩ := c.d.def_ 7 (d := dd_remainder_of) rfl
  have m7 := He.glo_ok X G (c.d.fact 7 (f := .glo "remainder_of") rfl)
  obtain ⟨fd8, F8⟩ := c.d.def_ 8 (d := dd_divides) rfl
  have m8 := He.glo_ok X G (c.d.fact 8 (f := .glo "divides") rfl)
  obtain ⟨fd9, F9⟩ := c.d.def_ 9 (d := dd_divisor_of) rfl
  have m9 := He.glo_ok X G (c.d.fact 9 (f := .glo "divisor_of") rfl)
  obtain ⟨fd10, F10⟩ := c.d.def_ 10 (d := dd_divisor_of_two) rfl
  have m10 := He.glo_ok X G (c.d.fact 10 (f := .glo "_divisor_of_two") rfl)
  obtain ⟨fd11, F11⟩ := c.d.def_ 11 (d := dd_divisor_with) rfl
  have m11 := He.glo_ok X G (c.d.fact 11 (f := .glo "divisor_with") rfl)
  obtain ⟨fd12, F12⟩ := c.d.def_ 12 (d := dd_q_bag) rfl
  have m12 := He.glo_ok X G (c.d.fact 12 (f := .glo "_law_bag") rfl)
  obtain ⟨fd13, F13⟩ := c.d.def_ 13 (d := dd_q_draw) rfl
  have m13 := He.glo_ok X G (c.d.fact 13 (f := .glo "_law_draw") rfl)
  obtain ⟨fd14, F14⟩ := c.d.def_ 14 (d := dd_q_of) rfl
  have m14 := He.glo_ok X G (c.d.fact 14 (f := .glo "_law_of") rfl)
  obtain ⟨fd15, F15⟩ := c.d.def_ 15 (d := dd_q_same) rfl
  have m15 := He.glo_ok X G (c.d.fact 15 (f := .glo "_law_same") rfl)
  obtain ⟨fd16, F16⟩ := c.d.def_ 16 (d := dd_q_is_num) rfl
  have m16 := He.glo_ok X G (c.d.fact 16 (f := .glo "_law_is_num") rfl)
  obtain ⟨fd17, F17⟩ := c.d.def_ 17 (d := dd_q_primes) rfl
  have m17 := He.glo_ok X G (c.d.fact 17 (f := .glo "_law_primes") rfl)
  obtain ⟨fd18, F18⟩ := c.d.def_ 18 (d := dd_q_prime) rfl
  have m18 := He.glo_ok X G (c.d.fact 18 (f := .glo "_law_prime") rfl)
  obtain ⟨fd19, F19⟩ := c.d.def_ 19 (d := dd_q_trim) rfl
  have m19 := He.glo_ok X G (c.d.fact 19 (f := .glo "_law_trim") rfl)
  obtain ⟨fd20, F20⟩ := c.d.def_ 20 (d := dd_q_plus) rfl
  have m20 := He.glo_ok X G (c.d.fact 20 (f := .glo "_law_plus") rfl)
  obtain ⟨fd21, F21⟩ := c.d.def_ 21 (d := dd_q_mul) rfl
  have m21 := He.glo_ok X G (c.d.fact 21 (f := .glo "_law_mul") rfl)
  obtain ⟨fd22, F22⟩ := c.d.def_ 22 (d := dd_q_inv) rfl
  have m22 := He.glo_ok X G (c.d.fact 22 (f := .glo "_law_inv") rfl)
  obtain ⟨fd23, F23⟩ := c.d.def_ 23 (d := dd_q_divide) rfl
  have m23 := He.glo_ok X G (c.d.fact 23 (f := .glo "_law_divide") rfl)
  obtain ⟨fd24, F24⟩ := c.d.def_ 24 (d := dd_q_is_form) rfl
  have m24 := He.glo_ok X G (c.d.fact 24 (f := .glo "_law_is_form") rfl)
  obtain ⟨fd25, F25⟩ := c.d.def_ 25 (d := dd_q_form) rfl
  have m25 := He.glo_ok X G (c.d.fact 25 (f := .glo "_law_form") rfl)
  obtain ⟨fd26, F26⟩ := c.d.def_ 26 (d := dd_q_full_form) rfl
  have m26 := He.glo_ok X G (c.d.fact 26 (f := .glo "_law_full_form") rfl)
  obtain ⟨fd27, F27⟩ := c.d.def_ 27 (d := dd_q_dot) rfl
  have m27 := He.glo_ok X G (c.d.fact 27 (f := .glo "_law_dot") rfl)
  obtain ⟨fd28, F28⟩ := c.d.def_ 28 (d := dd_q_parted) rfl
  have m28 := He.glo_ok X G (c.d.fact 28 (f := .glo "_law_parted") rfl)
  obtain ⟨fd29, F29⟩ := c.d.def_ 29 (d := dd_q_division_so) rfl
  have m29 := He.glo_ok X G (c.d.fact 29 (f := .glo "_law_division_so") rfl)
  obtain ⟨fd30, F30⟩ := c.d.def_ 30 (d := dd_q_some) rfl
  have m30 := He.glo_ok X G (c.d.fact 30 (f := .glo "_law_some") rfl)
  obtain ⟨fd31, F31⟩ := c.d.def_ 31 (d := dd_q_made_so) rfl
  have m31 := He.glo_ok X G (c.d.fact 31 (f := .glo "_law_made_so") rfl)
  obtain ⟨fd32, F32⟩ := c.d.def_ 32 (d := dd_law) rfl
  have m32 := He.glo_ok X G (c.d.fact 32 (f := .glo "law") rfl)
  have e := hfa.symm.trans m32
  cases e
  refine ⟨fd32, fun s v => FunD.bindsA (ps := ["_law_script"]) F32 (bd_law d_law).b s [v] rfl, fun base _ _ => ?_⟩
  have G0 : Good P w K mg base 0 (fsA.take 0) := Good.nil
  have E0 : Env1 P w K mg base 1 "inverse" (g_inverse d_inverse) := def_env (st := s_inverse) m0 F0 sc_inverse (bd_inverse _) hb G0 ck_inverse (fun ds z h => ⟨60, run_inverse rfl h⟩) rfl
  have G1 : Good P w K mg base 1 (fsA.take 1) := Good.push G0 E0
  have E1 : Env1 P w K mg base 2 "form_of" (g_form_of d_form_of) := def_env (st := s_form_of) m1 F1 sc_form_of (bd_form_of _) hb G1 ck_form_of (fun ds z h => ⟨60, run_form_of rfl h⟩) rfl
  have G2 : Good P w K mg base 2 (fsA.take 2) := Good.push G1 E1
  have E2 : Env1 P w K mg base 3 "subtract" (g_subtract d_subtract) := def_env (st := s_subtract) m2 F2 sc_subtract (bd_subtract _) hb G2 ck_subtract (fun ds z h => ⟨60, run_subtract rfl (At.of rfl rfl) h⟩) rfl
  have G3 : Good P w K mg base 3 (fsA.take 3) := Good.push G2 E2
  have E3 : Env1 P w K mg base 4 "multiply" (g_multiply d_multiply) := def_env (st := s_multiply) m3 F3 sc_multiply (bd_multiply _) hb G3 ck_multiply (fun ds z h => ⟨60, run_multiply rfl (At.of rfl rfl) h⟩) rfl
  have G4 : Good P w K mg base 4 (fsA.take 4) := Good.push G3 E3
  have E4 : Env1 P w K mg base 5 "scaled" (g_scaled d_scaled) := def_env (st := s_scaled) m4 F4 sc_scaled (bd_scaled _) hb G4 ck_scaled (fun ds z h => ⟨60, run_scaled rfl (At.of rfl rfl) h⟩) rfl
  have G5 : Good P w K mg base 5 (fsA.take 5) := Good.push G4 E4
  have E5 : Env1 P w K mg base 6 "monic_of" (g_monic_of d_monic_of) := def_env (st := s_monic_of) m5 F5 sc_monic_of (bd_monic_of _) hb G5 ck_monic_of (fun ds z h => ⟨60, run_monic rfl (At.of rfl rfl) (At.of rfl rfl) h⟩) rfl
  have G6 : Good P w K mg base 6 (fsA.take 6) := Good.push G5 E5
  have E6 : Env1 P w K mg base 7 "divided" (g_divided d_divided) := def_env (st := s_divided) m6 F6 sc_divided (bd_divided _) hb G6 ck_divided (fun ds z h => ⟨60, run_divided rfl (At.of rfl rfl) (At.of rfl rfl) h⟩) rfl
  have G7 : Good P w K mg base 7 (fsA.take 7) := Good.push G6 E6
  have Z6 : FnX P w K mg base 7 "divided" (g_divided d_divided) (He.ga K "ZeroForm") "code" "ZeroForm" okZR := defx_env (st := s_divided) m6 F6 sc_divided (bd_divided _) hb G6 (fun X cX e1 e2 e3 e4 e5 e6 ds hds => by
    obtain ⟨a, b, rfl⟩ := hds
    exact ⟨_, raise_ok (m := 60) cX (by rw [e1, e3, e4]; exact ZK) (by decide) rfl cx_divided rfl⟩) rfl
  have E7 : Env1 P w K mg base 8 "remainder_of" (g_remainder_of d_rem) := def_env (st := s_remainder_of) m7 F7 sc_remainder_of (bd_remainder_of _) hb G7 ck_remainder_of (fun ds z h => ⟨60, run_rem rfl (At.of rfl rfl) h⟩) rfl
  have G8 : Good P w K mg base 8 (fsA.take 8) := Good.push G7 E7
  have E8 : Env1 P w K mg base 9 "divides" (g_divides d_divides) := def_env (st := s_divides) m8 F8 sc_divides (bd_divides _) hb G8 ck_divides (fun ds z h => ⟨60, run_divides rfl (At.of rfl rfl) h⟩) rfl
  have G9 : Good P w K mg base 9 (fsA.take 9) := Good.push G8 E8
  have E9 : Env1 P w K mg base 10 "divisor_of" (g_divisor_of d_dvo) := def_env (st := s_divisor_of) m9 F9 sc_divisor_of (bd_divisor_of _) hb G9 ck_divisor_of (fun ds z h => ⟨60, run_dvo rfl (At.of rfl rfl) (At.of rfl rfl) h⟩) rfl
  have G10 : Good P w K mg base 10 (fsA.take 10) := Good.push G9 E9
  have E10 : Env1 P w K mg base 11 "_divisor_of_two" (g_divisor_of_two d_two) := def_env (st := s_divisor_of_two) m10 F10 sc_divisor_of_two (bd_divisor_of_two _) hb G10 ck_divisor_of_two (fun ds z h => ⟨60, run_two rfl (At.of rfl rfl) (At.of rfl rfl) (At.of rfl rfl) h⟩) rfl
  have G11 : Good P w K mg base 11 (fsA.take 11) := Good.push G10 E10
  have E11 : Env1 P w K mg base 12 "divisor_with" (g_divisor_with d_with) := def_env (st := s_divisor_with) m11 F11 sc_divisor_with (bd_divisor_with _) hb G11 ck_divisor_with (fun ds z h => ⟨60, run_with rfl (At.of rfl rfl) (At.of rfl rfl) (At.of rfl rfl) (At.of rfl rfl) (At.of rfl rfl) h⟩) rfl
  have G12 : Good P w K mg base 12 (fsA.take 12) := Good.push G11 E11
  have ZW : FnT P w K mg base 12 "divisor_with" (g_divisor_with d_with) d_withT := defT_env (st := s_divisor_with) m11 F11 sc_divisor_with (bd_divisor_with _) hb G11 (fun X β co e1 e2 e3 e4 e5 ds ds1 l ds2 bs h => hand_with co rfl (At.of rfl rfl) (At.of rfl rfl) (At.of rfl rfl) (At.of rfl rfl) (At.of rfl rfl) cx_with h) rfl
  have E12 : Env1 P w K mg base 13 "_law_bag" (g_q_bag d_bag) := def_env (st := s_q_bag) m12 F12 sc_q_bag (bd_q_bag _) hb G12 ck_q_bag (fun ds z h => ⟨60, run_bag rfl h⟩) rfl
  have G13 : Good P w K mg base 13 (fsA.take 13) := Good.push G12 E12
  have E13 : Env1 P w K mg base 14 "_law_draw" (g_q_draw d_draw) := def_env (st := s_q_draw) m13 F13 sc_q_draw (bd_q_draw _) hb G13 ck_q_draw (fun ds z h => ⟨60, run_draw rfl h⟩) rfl
  have G14 : Good P w K mg base 14 (fsA.take 14) := Good.push G13 E13
  have E14 : Env1 P w K mg base 15 "_law_of" (g_q_of d_of) := def_env (st := s_q_of) m14 F14 sc_q_of (bd_q_of _) hb G14 ck_q_of (fun ds z h => ⟨60, run_of' rfl (At.of rfl rfl) h⟩) rfl
  have G15 : Good P w K mg base 15 (fsA.take 15) := Good.push G14 E14
  have V15 : Env1 P w K mg base 16 "_law_same" (g_q_same fun _ => none) := void_env (st := s_q_same) m15 F15 sc_q_same (bd_q_same _) (fun _ => rfl) rfl
  have H15_0 := Good.push G15 V15
  have E15_0 : Env1 P w K mg base 17 "_law_same" (g_q_same (d_same3 0)) := def_env (st := s_q_same) m15 F15 sc_q_same (bd_q_same _) hb H15_0 ck_q_same_0 (fun ds z h => ⟨60, run_same3 rfl (fun q => absurd rfl q) h⟩) rfl
  have H15_1 := Good.push (Good.upn 1 G15) E15_0
  have E15_1 : Env1 P w K mg base 18 "_law_same" (g_q_same (d_same3 1)) := def_env (st := s_q_same) m15 F15 sc_q_same (bd_q_same _) hb H15_1 ck_q_same_1 (fun ds z h => ⟨60, run_same3 rfl (fun _ => (At.of rfl rfl)) h⟩) rfl
  have H15_2 := Good.push (Good.upn 2 G15) E15_1
  have E15_2 : Env1 P w K mg base 19 "_law_same" (g_q_same (d_same3 2)) := def_env (st := s_q_same) m15 F15 sc_q_same (bd_q_same _) hb H15_2 ck_q_same_2 (fun ds z h => ⟨60, run_same3 rfl (fun _ => (At.of rfl rfl)) h⟩) rfl
  have H15_3 := Good.push (Good.upn 3 G15) E15_2
  have E15_3 : Env1 P w K mg base 20 "_law_same" (g_q_same (d_same3 3)) := def_env (st := s_q_same) m15 F15 sc_q_same (bd_q_same _) hb H15_3 ck_q_same_3 (fun ds z h => ⟨60, run_same3 rfl (fun _ => (At.of rfl rfl)) h⟩) rfl
  have G16 : Good P w K mg base 20 (fsA.take 16) := Good.push (Good.upn 4 G15) E15_3
  have E16 : Env1 P w K mg base 21 "_law_is_num" (g_q_is_num d_is_num) := def_env (st := s_q_is_num) m16 F16 sc_q_is_num (bd_q_is_num _) hb G16 ck_q_is_num (fun ds z h => ⟨60, run_is_num rfl h⟩) rfl
  have G17 : Good P w K mg base 21 (fsA.take 17) := Good.push G16 E16
  have E17 : Env1 P w K mg base 22 "_law_primes" (g_q_primes d_primes) := def_env (st := s_q_primes) m17 F17 sc_q_primes (bd_q_primes _) hb G17 ck_q_primes (fun ds z h => ⟨60, run_primes rfl h⟩) rfl
  have G18 : Good P w K mg base 22 (fsA.take 18) := Good.push G17 E17
  have E18 : Env1 P w K mg base 23 "_law_prime" (g_q_prime d_prime) := def_env (st := s_q_prime) m18 F18 sc_q_prime (bd_q_prime _) hb G18 ck_q_prime (fun ds z h => ⟨60, run_prime rfl (At.of rfl rfl) (At.of rfl rfl) (At.of rfl rfl) h⟩) rfl
  have G19 : Good P w K mg base 23 (fsA.take 19) := Good.push G18 E18
  have E19 : Env1 P w K mg base 24 "_law_trim" (g_q_trim d_trim) := def_env (st := s_q_trim) m19 F19 sc_q_trim (bd_q_trim _) hb G19 ck_q_trim (fun ds z h => ⟨60, run_trim rfl h⟩) rfl
  have G20 : Good P w K mg base 24 (fsA.take 20) := Good.push G19 E19
  have E20 : Env1 P w K mg base 25 "_law_plus" (g_q_plus d_add) := def_env (st := s_q_plus) m20 F20 sc_q_plus (bd_q_plus _) hb G20 ck_q_plus (fun ds z h => ⟨60, run_plus rfl (At.of rfl rfl) h⟩) rfl
  have G21 : Good P w K mg base 25 (fsA.take 21) := Good.push G20 E20
  have E21 : Env1 P w K mg base 26 "_law_mul" (g_q_mul d_multiply) := def_env (st := s_q_mul) m21 F21 sc_q_mul (bd_q_mul _) hb G21 ck_q_mul (fun ds z h => ⟨60, run_mul rfl (At.of rfl rfl) h⟩) rfl
  have G22 : Good P w K mg base 26 (fsA.take 22) := Good.push G21 E21
  have E22 : Env1 P w K mg base 27 "_law_inv" (g_q_inv d_q_inv) := def_env (st := s_q_inv) m22 F22 sc_q_inv (bd_q_inv _) hb G22 ck_q_inv (fun ds z h => ⟨60, run_q_inv rfl h⟩) rfl
  have G23 : Good P w K mg base 27 (fsA.take 23) := Good.push G22 E22
  have E23 : Env1 P w K mg base 28 "_law_divide" (g_q_divide d_ldiv) := hand_env (st := s_q_divide) m23 F23 sc_q_divide (bd_q_divide _) hb G23 (fun X β co e1 e2 e3 e4 e5 hs hf ds z h => hand_ldiv co rfl (At.of rfl rfl) (At.of rfl rfl) ck_q_divide h) rfl
  have G24 : Good P w K mg base 28 (fsA.take 24) := Good.push G23 E23
  have E24 : Env1 P w K mg base 29 "_law_is_form" (g_q_is_form d_is_form) := def_env (st := s_q_is_form) m24 F24 sc_q_is_form (bd_q_is_form _) hb G24 ck_q_is_form (fun ds z h => ⟨60, run_is_form rfl (At.of rfl rfl) h⟩) rfl
  have G25 : Good P w K mg base 29 (fsA.take 25) := Good.push G24 E24
  have E25 : Env1 P w K mg base 30 "_law_form" (g_q_form W1.d_form) := def_env (st := s_q_form) m25 F25 sc_q_form (bd_q_form _) hb G25 ck_q_form (fun ds z h => ⟨60, run_form rfl (At.of rfl rfl) (At.of rfl rfl) h⟩) rfl
  have G26 : Good P w K mg base 30 (fsA.take 26) := Good.push G25 E25
  have E26 : Env1 P w K mg base 31 "_law_full_form" (g_q_full_form d_full) := def_env (st := s_q_full_form) m26 F26 sc_q_full_form (bd_q_full_form _) hb G26 ck_q_full_form (fun ds z h => ⟨60, run_full rfl (At.of rfl rfl) h⟩) rfl
  have G27 : Good P w K mg base 31 (fsA.take 27) := Good.push G26 E26
  have E27 : Env1 P w K mg base 32 "_law_dot" (g_q_dot d_dot) := def_env (st := s_q_dot) m27 F27 sc_q_dot (bd_q_dot _) hb G27 ck_q_dot (fun ds z h => ⟨60, run_dot rfl (At.of rfl rfl) (At.of rfl rfl) h⟩) rfl
  have G28 : Good P w K mg base 32 (fsA.take 28) := Good.push G27 E27
  have E28 : Env1 P w K mg base 33 "_law_parted" (g_q_parted d_parted) := hand_env (st := s_q_parted) m28 F28 sc_q_parted (bd_q_parted _) hb G28 (fun X β co e1 e2 e3 e4 e5 hs hf ds z h => hand_parted (C := He.ga K "ZeroForm") (fn := g_divided d_divided) co hs hf (by rw [e4]; exact ZK.gC) (by rw [e3]; exact ZK.te) (by rw [e3]; exact kd2) (by rw [e3]; exact kd3) (by rw [e1, e2, e3, e4, e5]; exact Z6.up 25) rfl List.mem_cons_self rfl (At.of rfl rfl) (fun _ _ _ => kAt_of rfl rfl rfl rfl rfl) ck_q_parted h) rfl
  have G29 : Good P w K mg base 33 (fsA.take 29) := Good.push G28 E28
  have E29 : Env1 P w K mg base 34 "_law_division_so" (g_q_division_so d_dso) := def_env (st := s_q_division_so) m29 F29 sc_q_division_so (bd_q_division_so _) hb G29 ck_q_division_so (fun ds z h => ⟨80, h⟩) rfl
  have G30 : Good P w K mg base 34 (fsA.take 30) := Good.push G29 E29
  have E30 : Env1 P w K mg base 35 "_law_some" (g_q_some fun _ => none) := void_env (st := s_q_some) m30 F30 sc_q_some (bd_q_some _) (fun _ => rfl) rfl
  have ZS : FnT P w K mg base 35 "_law_some" (g_q_some fun _ => none) dS := defT_env (st := s_q_some) m30 F30 sc_q_some (bd_q_some _) hb G30 (fun X β co e1 e2 e3 e4 e5 ds ds1 l ds2 bs h => hand_some co rfl (co.ok.fns 14 _ rfl) rfl rfl rfl ck_q_some h) rfl
  have G31 : Good P w K mg base 35 (fsA.take 31) := Good.push G30 E30
  have E31 : Env1 P w K mg base 36 "_law_made_so" (g_q_made_so d_made) := def_env (st := s_q_made_so) m31 F31 sc_q_made_so (bd_q_made_so _) hb G31 ck_q_made_so (fun ds z h => ⟨60, run_made rfl (At.of rfl rfl) (At.of rfl rfl) (At.of rfl rfl) h⟩) rfl
  have G32 : Good P w K mg base 36 (fsA.take 32) := Good.push G31 E31
  exact hand_fn (st := s_law) (fn := g_law d_law) F32 sc_law hb G32 (fun X β co e1 e2 e3 e4 e5 hs hf ds z h => hand_law (gS := g_q_some fun _ => none) (gW := g_divisor_with d_with) (g9 := g_divisor_of d_dvo) (g15 := g_q_same (d_same3 3)) (g31 := g_q_made_so d_made) (dS := dS) (dW := d_withT) co tlA (At.of rfl rfl) { FS := (by rw [e1, e2, e3, e4, e5]; exact ZS.up 1), ioS := rfl, lS := rfl, FW := (by rw [e1, e2, e3, e4, e5]; exact ZW.up 24), ioW := rfl, lW := rfl, f9 := rfl, io9 := rfl, l9 := rfl, d9 := rfl, kw9 := List.mem_cons_self, f15 := rfl, io15 := rfl, l15 := rfl, d15 := rfl, f31 := rfl, io31 := rfl, l31 := rfl, d31 := rfl, sS := sSA, sW := fun P l h1 h2 => withT_at P h1 h2, s29 := s29A } rfl ck_law h)
end K03
set_option Elab.async false
set_option linter.all false
set_option maxRecDepth 100000
set_option maxHeartbeats 8000000
open PySem PySem.W PySem.Calls PyProof.Rows
set_option maxHeartbeats 0 in
theorem PySem.Challenge.cw_freetops_k03_whole_division_and_divisors_holds : PySem.Challenge.rw_freetops_k03_whole_division_and_divisors.Holds := by
  w_on; o_law
  refine HandSHeadRun.head_any (r := OpenLaw.row PySem.Challenge.rw_freetops_k03_whole_division_and_divisors) (q := view (OpenLaw.row PySem.Challenge.rw_freetops_k03_whole_division_and_divisors).prog [38]) (H := K03.hk) (ob := K03.ob) (M := 4000) (loose := K03.loose) (d := HandSHeadRun.topDef (OpenLaw.row PySem.Challenge.rw_freetops_k03_whole_division_and_divisors).prog 38) (kwd := []) K03.ob_eq
    (by kernel_rfl) (fun s => by kernel_rfl) K03.run (by kernel_rfl) (by kernel_rfl) (by kernel_rfl) (by rfl) (by first | assumption | decide +kernel) (by decide +kernel) ⟨rfl, rfl, rfl, rfl, rfl, by decide +kernel⟩ ?hw ?hc
  case hw => w_witness2
  case hc =>
    refine L2.walk_ofE (l := PySem.Challenge.rw_freetops_k03_whole_division_and_divisors) (n := 63) (k := 37) (x := "_law_script") (CX := L2.CX0) rfl (by decide) (by kernel_rfl) ⟨rfl, by decide, by decide⟩ ?F (fun _ _ _ _ z => z)
    intro w mg fa h Y G hmg0
    obtain ⟨K, KX, c⟩ := Y
    have hmg : mg ("law" : PySem.Str) = some (.ref fa) := by
      have e : (HandSHeadRun.topDef (OpenLaw.row PySem.Challenge.rw_freetops_k03_whole_division_and_divisors).prog 38).name = ("law" : PySem.Str) := by kernel_rfl
      rw [← e]
      exact hmg0
    obtain ⟨fd, hb, hF⟩ := K03.facts (P := (PySem.Challenge.rw_freetops_k03_whole_division_and_divisors).prog) (w := w) KX G hmg c (by kernel_rfl) (by kernel_rfl)
    exact ⟨K, fd, Fz.spD K (K03.g_law K03.d_law), KX, hb, fun H a ns hl hO hS => Fz.law_in rfl rfl K03.law_den H a ns hl hO hS, hF⟩
