import PyProof.Rows.All
import Wide.All
import OpenK.AllK
import Wide.FinOn
import HandS.ForMost
import HandS.Flow
import HandS.Wide
import HandS.TupAny
import HandS.TupMul
import HandS.Zip
import HandS.Rev
import HandS.IsInst
import HandS.Evl
import KE.GoesEnum
import PyProof.FactsAll.tuple_2
import HandS.Deep
import KE.GoesMore
import HandS.RevRange
import KE.GoesZip
import HandS.Defaults
import HandS.Style
import KE.KStateDown
import HandS.Ends
import HandS.More
import HandS.Words
import HandS.WordsExc
import HandS.Head0
import HandS.Head1
import HandS.Head2
import HandS.HeadEnd
import HandS.HeadHook1
import HandS.HeadHook2
import PySem.Challenge.RW_freetops_k07_rows_measured
set_option Elab.async false
set_option linter.all false
set_option maxRecDepth 100000
set_option maxHeartbeats 2000000
/-! Fz: what a def's text computes on plain data, once and for all. Part A: the wishes, the data, the state. -/
namespace Fz
open PySem PySem.Spec PyProof.Rows L2

/-! ### the best reading of each piece of syntax -/
section
variable (X : Cx)
def wE (e : Expr) : TE := fun σ H Q => ∃ t, PE X e t ∧ t σ H Q
def wT (e : Expr) : TT := fun σ H Q => ∃ t, PT X e t ∧ t σ H Q
def wW (e : Expr) : TT := fun σ H Q => ∃ t, PW X e t ∧ t σ H Q
def wA (es : List Expr) : TA := fun σ H Q => ∃ t, PA X es t ∧ t σ H Q
def wK (ks : List Keyword) : TA := fun σ H Q => ∃ t, PK X ks t ∧ t σ H Q
def wO (e : Option Expr) : TO := fun σ H Q => ∃ t, PO X e t ∧ t σ H Q
def wS (st : Stmt) : TS := fun D σ H => ∃ t, PS X st t ∧ t D σ H
def wSs (st : List Stmt) : TS := fun D σ H => ∃ t, PSs X st t ∧ t D σ H
def wI (tg it : Expr) : TI := fun σ H Q => ∃ t, PI X tg it t ∧ t σ H Q
def wG (tg : Expr) : TG := fun v σ H Q => ∃ t, PG X tg t ∧ t v σ H Q
variable {X}
theorem pe_w {e : Expr} : PE X e (wE X e) := ⟨fun pins s σ H Q I ⟨_, p, q⟩ => p.run pins s σ H Q I q⟩
theorem pt_w {e : Expr} : PT X e (wT X e) := ⟨fun pins s σ H Q I ⟨_, p, q⟩ => p.run pins s σ H Q I q⟩
theorem pw_w {e : Expr} : PW X e (wW X e) := ⟨fun wh pins s σ H Q I ⟨_, p, q⟩ => p.run wh pins s σ H Q I q⟩
theorem pa_w {es : List Expr} : PA X es (wA X es) := ⟨fun pos pins s σ H Q I ⟨_, p, q⟩ => p.run pos pins s σ H Q I q⟩
theorem pk_w {es : List Keyword} : PK X es (wK X es) := ⟨fun pos pins s σ H Q I ⟨_, p, q⟩ => p.run pos pins s σ H Q I q⟩
theorem po_w {e : Option Expr} : PO X e (wO X e) := ⟨fun pins s σ H Q I ⟨_, p, q⟩ => p.run pins s σ H Q I q⟩
theorem ps_w {st : Stmt} : PS X st (wS X st) := ⟨fun pins s σ H D I ⟨_, p, q⟩ => p.run pins s σ H D I q⟩
theorem pss_w {st : List Stmt} : PSs X st (wSs X st) := ⟨fun pins s σ H D I ⟨_, p, q⟩ => p.run pins s σ H D I q⟩
theorem pi_w {tg it : Expr} : PI X tg it (wI X tg it) := ⟨fun pins s σ H Q I ⟨_, p, q⟩ => p.run pins s σ H Q I q⟩
theorem pg_w {tg : Expr} : PG X tg (wG X tg) := ⟨fun pins s σ H v u Q I r ⟨_, p, q⟩ => p.run pins s σ H v u Q I r q⟩
end

/-! ### plain data on the abstract heap -/
abbrev D := PyData
abbrev Ex (G H : Hp) : Prop := Evl.Ex G H
theorem rd_ex {G H : Hp} {a : Addr} {u : HO} (e : Ex G H) (h : Rd G a u) : Rd H a u := Evl.ex_rd e h
mutual
inductive Rp (K : PySem.W.Frag) (G : Hp) : V → D → Prop
  | non : Rp K G .non .none
  | bl (b : Bool) : Rp K G (.bl b) (.bool b)
  | int (i : Int) : Rp K G (.int i) (.int i)
  | str (x : Str) : Rp K G (.str x) (.str x)
  | lst {a : Addr} {xs : List V} {ds : List D} : Rd G a (.lst xs) → Rps K G xs ds → Rp K G (.ref a) (.list ds)
  | tup {a : Addr} {xs : List V} {ds : List D} : SqT K G a xs → Rps K G xs ds → Rp K G (.ref a) (.tuple ds)
  /-- a list that is only cut: the script -/
  | scr {a : Addr} {xs : List V} {ds : List D} : SqL K G a xs → Rps K G xs ds → Rp K G (.ref a) (.dict [(.none, .list ds)])
inductive Rps (K : PySem.W.Frag) (G : Hp) : List V → List D → Prop
  | nil : Rps K G [] []
  | cons {v : V} {vs : List V} {d : D} {ds : List D} : Rp K G v d → Rps K G vs ds → Rps K G (v :: vs) (d :: ds)
end
section
variable {K : PySem.W.Frag} {G H : Hp}
mutual
theorem Rp.mono (e : Ex G H) : ∀ {v : V} {d : D}, Rp K G v d → Rp K H v d
  | _, _, .non => .non
  | _, _, .bl b => .bl b
  | _, _, .int i => .int i
  | _, _, .str x => .str x
  | _, _, .lst h r => .lst (rd_ex e h) (Rps.mono e r)
  | _, _, .tup h r => .tup (Evl.ex_t e h) (Rps.mono e r)
  | _, _, .scr h r => .scr (Evl.ex_l e h) (Rps.mono e r)
theorem Rps.mono (e : Ex G H) : ∀ {vs : List V} {ds : List D}, Rps K G vs ds → Rps K H vs ds
  | _, _, .nil => .nil
  | _, _, .cons h r => .cons (Rp.mono e h) (Rps.mono e r)
end
mutual
theorem Rp.dp (e : Ex G H) : ∀ {v : V} {d : D}, d.canLay0 = true → Rp K G v d → Dp K H v d
  | _, _, _, .non => .non
  | _, _, _, .bl b => .bl b
  | _, _, _, .int i => .int i
  | _, _, _, .str x => .str x
  | _, _, c, .lst h r => .lst (.inl (rd_ex e h)) (Rps.dp e (by simpa [PyData.canLay0] using c) r)
  | _, _, c, .tup h r => .tup (Evl.ex_t e h) (Rps.dp e (by simpa [PyData.canLay0] using c) r)
  | _, _, c, .scr h r => by simp [PyData.canLay0] at c
theorem Rps.dp (e : Ex G H) : ∀ {vs : List V} {ds : List D}, PyData.canLayAll0 ds = true → Rps K G vs ds → DpAll K H vs ds
  | _, _, _, .nil => .nil
  | _, _, c, .cons h r => by
    rw [PyData.canLayAll0, Bool.and_eq_true] at c
    exact .cons (Rp.dp e c.1 h) (Rps.dp e c.2 r)
end
theorem Rps.length : ∀ {vs : List V} {ds : List D}, Rps K G vs ds → vs.length = ds.length
  | _, _, .nil => rfl
  | _, _, .cons _ r => by rw [List.length_cons, List.length_cons, r.length]
theorem Rps.get : ∀ {vs : List V} {ds : List D} {i : Nat} {d : D}, Rps K G vs ds → ds[i]? = some d → ∃ v, vs[i]? = some v ∧ Rp K G v d
  | _, _, _, _, .nil, h => by simp at h
  | _, _, 0, _, .cons h _, e => by simp at e; subst e; exact ⟨_, rfl, h⟩
  | _, _, i + 1, _, .cons _ r, e => by simp at e; obtain ⟨v, h1, h2⟩ := r.get e; exact ⟨v, by simpa using h1, h2⟩
theorem Rps.of : ∀ {vs : List V} {ds : List D} {i : Nat} {v : V}, Rps K G vs ds → vs[i]? = some v → ∃ d, ds[i]? = some d ∧ Rp K G v d
  | _, _, _, _, .nil, h => by simp at h
  | _, _, 0, _, .cons h _, e => by simp at e; subst e; exact ⟨_, rfl, h⟩
  | _, _, i + 1, _, .cons _ r, e => by simp at e; obtain ⟨d, h1, h2⟩ := r.of e; exact ⟨d, by simpa using h1, h2⟩
theorem Rps.append : ∀ {vs us : List V} {ds es : List D}, Rps K G vs ds → Rps K G us es → Rps K G (vs ++ us) (ds ++ es)
  | _, _, _, _, .nil, s => s
  | _, _, _, _, .cons h r, s => .cons h (r.append s)
theorem Rps.set : ∀ {vs : List V} {ds : List D} {v : V} {d : D} (i : Nat), Rps K G vs ds → Rp K G v d → Rps K G (vs.set i v) (ds.set i d)
  | _, _, _, _, _, .nil, _ => .nil
  | _, _, _, _, 0, .cons _ r, q => .cons q r
  | _, _, _, _, i + 1, .cons h r, q => .cons h (r.set i q)
theorem Rps.take : ∀ {vs : List V} {ds : List D} (n : Nat), Rps K G vs ds → Rps K G (vs.take n) (ds.take n)
  | _, _, 0, _ => by rw [List.take_zero, List.take_zero]; exact .nil
  | _, _, _ + 1, .nil => .nil
  | _, _, n + 1, .cons h r => .cons h (r.take n)
theorem Rps.drop : ∀ {vs : List V} {ds : List D} (n : Nat), Rps K G vs ds → Rps K G (vs.drop n) (ds.drop n)
  | _, _, 0, r => r
  | _, _, _ + 1, .nil => .nil
  | _, _, n + 1, .cons _ r => r.drop n
theorem Rps.dropLast : ∀ {vs : List V} {ds : List D}, Rps K G vs ds → Rps K G vs.dropLast ds.dropLast
  | _, _, .nil => .nil
  | _, _, .cons _ .nil => .nil
  | _, _, .cons h (.cons h2 r) => .cons h (Rps.dropLast (.cons h2 r))
theorem Rps.reverse {vs : List V} {ds : List D} (h : Rps K G vs ds) : Rps K G vs.reverse ds.reverse := by
  match vs, ds, h with
  | _, _, .nil => exact .nil
  | v :: vs, d :: ds, .cons h r =>
    rw [List.reverse_cons, List.reverse_cons]
    exact (Rps.reverse r).append (.cons h .nil)
theorem Rps.rep {vs : List V} {ds : List D} (h : Rps K G vs ds) : ∀ k : Nat, Rps K G (List.replicate k vs).flatten (List.replicate k ds).flatten
  | 0 => .nil
  | k + 1 => by
    rw [List.replicate_succ, List.replicate_succ, List.flatten_cons, List.flatten_cons]
    exact h.append (h.rep k)
end

/-! ### the state: slots that hold data, slots that own a list, the bag -/
inductive Sl where
  | no
  | val (d : D)
  | own (l : List D)
  | bag
structure En where
  sl : List Sl
  bg : List D
def SlR (K : PySem.W.Frag) (G H : Hp) (ρ : Addr → Option Nat) (β : Option Addr) (i : Nat) (o : Option (Option V)) : Sl → Prop
  | .no => True
  | .val d => ∃ v, o = some (some v) ∧ Rp K G v d
  | .own l => ∃ a vs, o = some (some (.ref a)) ∧ ρ a = some (i + 1) ∧ H a = some (.lst vs) ∧ Rps K G vs l
  | .bag => ∃ a, β = some a ∧ o = some (some (.ref a))
structure R (K : PySem.W.Frag) (β : Option Addr) (G H : Hp) (ρ : Addr → Option Nat) (σ : L2.St) (e : En) : Prop where
  len : σ.length = e.sl.length
  ex : Ex G H
  ow : ∀ a, ρ a ≠ none → G a = none ∧ H a ≠ none
  sl : ∀ i s, e.sl[i]? = some s → SlR K G H ρ β i σ[i]? s
  bg : ∀ a, β = some a → ρ a = some 0 ∧ ∃ vs, H a = some (.lst vs) ∧ Rps K G vs e.bg
structure Fr (G H : Hp) (ρ : Addr → Option Nat) (G' H' : Hp) (ρ' : Addr → Option Nat) : Prop where
  ex : Ex G G'
  keep : ∀ a o, H a = some o → ρ a = none → H' a = some o ∧ ρ' a = none ∧ (G a = none → G' a = none)
  dom : ∀ a, H' a = none → H a = none
section
variable {K : PySem.W.Frag} {β : Option Addr} {G H G' H' G2 H2 : Hp} {ρ ρ' ρ2 : Addr → Option Nat} {σ : L2.St} {e : En}
theorem Fr.refl : Fr G H ρ G H ρ := ⟨Evl.Ex.refl G, fun a o h r => ⟨h, r, id⟩, fun _ h => h⟩
theorem Fr.trans (a : Fr G H ρ G' H' ρ') (b : Fr G' H' ρ' G2 H2 ρ2) : Fr G H ρ G2 H2 ρ2 :=
  ⟨a.ex.trans b.ex, fun p o h r => by
    obtain ⟨h1, r1, g1⟩ := a.keep p o h r
    obtain ⟨h2, r2, g2⟩ := b.keep p o h1 r1
    exact ⟨h2, r2, fun z => g2 (g1 z)⟩, fun p h => a.dom p (b.dom p h)⟩
/-- a value: plain data, or a list that nobody holds yet -/
def VR (K : PySem.W.Frag) (H0 G H : Hp) (ρ : Addr → Option Nat) (d : D) (v : V) : Bool → Prop
  | false => Rp K G v d
  | true => ∃ a l vs, v = .ref a ∧ d = .list l ∧ H0 a = none ∧ G a = none ∧ ρ a = none ∧ H a = some (.lst vs) ∧ Rps K G vs l
theorem SlR.mono {i : Nat} {o : Option (Option V)} {s : Sl} (x : Ex G G') (hh : ∀ a, ρ a ≠ none → H' a = H a) (h : SlR K G H ρ β i o s) : SlR K G' H' ρ β i o s := by
  cases s with
  | no => exact h
  | bag => exact h
  | val d => obtain ⟨v, h1, h2⟩ := h; exact ⟨v, h1, h2.mono x⟩
  | own l =>
    obtain ⟨a, vs, h1, h2, h3, h4⟩ := h
    exact ⟨a, vs, h1, h2, (hh a (by rw [h2]; simp)).trans h3, h4.mono x⟩
/-- a new object that nobody owns -/
theorem R.grow {p : Addr} {o : HO} (r : R K β G H ρ σ e) (hp : H p = none) : R K β G (upd H p o) ρ σ e := by
  have ne : ∀ a, ρ a ≠ none → a ≠ p := fun a h z => (r.ow a h).2 (by rw [z]; exact hp)
  refine ⟨r.len, fun a u h => ?_, fun a h => ⟨(r.ow a h).1, ?_⟩, fun i s h => (r.sl i s h).mono (Evl.Ex.refl G) fun a h => upd_ne (ne a h), fun a h => ?_⟩
  · have := r.ex a u h
    rw [upd_ne (ne_of_none this hp)]
    exact this
  · rw [upd_ne (ne a h)]
    exact (r.ow a h).2
  · obtain ⟨h1, vs, h2, h3⟩ := r.bg a h
    exact ⟨h1, vs, by rw [upd_ne (ne a (by rw [h1]; simp))]; exact h2, h3⟩
theorem Fr.grow {p : Addr} {o : HO} (hp : H p = none) : Fr G H ρ G (upd H p o) ρ :=
  ⟨Evl.Ex.refl G, fun a u h r => ⟨by rw [upd_ne (ne_of_none h hp)]; exact h, r, id⟩, fun a h => by
    by_cases z : a = p
    · rw [z]; exact hp
    · rw [upd_ne z] at h; exact h⟩
theorem R.free {p : Addr} (r : R K β G H ρ σ e) (hp : H p = none) : ρ p = none ∧ G p = none := by
  constructor
  · by_cases h : ρ p = none
    · exact h
    · exact absurd hp (r.ow p h).2
  · cases h : G p with
    | none => rfl
    | some o => rw [r.ex p o h] at hp; cases hp
/-- what stands in H and is nobody's may be locked -/
theorem R.lock {p : Addr} {o : HO} (r : R K β G H ρ σ e) (hp : H p = some o) (hg : G p = none) (hr : ρ p = none) : R K β (upd G p o) H ρ σ e := by
  have x : Ex G (upd G p o) := Evl.Ex.new hg
  refine ⟨r.len, fun a u h => ?_, fun a h => ⟨?_, (r.ow a h).2⟩, fun i s h => (r.sl i s h).mono x fun _ _ => rfl, fun a h => ?_⟩
  · by_cases z : a = p
    · subst z
      rw [upd_same] at h
      rw [hp, h]
    · rw [upd_ne z] at h
      exact r.ex a u h
  · rw [upd_ne (fun z => h (by rw [z]; exact hr))]
    exact (r.ow a h).1
  · obtain ⟨h1, vs, h2, h3⟩ := r.bg a h
    exact ⟨h1, vs, h2, h3.mono x⟩
theorem Fr.lock {p : Addr} {o : HO} (f : Fr G H ρ G' H' ρ') (hp : H p = none) (hg : G' p = none) : Fr G H ρ (upd G' p o) H' ρ' :=
  ⟨f.ex.trans (Evl.Ex.new hg), fun a u h r => by
    obtain ⟨h1, h2, h3⟩ := f.keep a u h r
    exact ⟨h1, h2, fun z => by rw [upd_ne (ne_of_none h hp)]; exact h3 z⟩, f.dom⟩
end
end Fz
set_option Elab.async false
set_option linter.all false
set_option maxRecDepth 100000
set_option maxHeartbeats 2000000
/-! Fz, part B: what expressions evaluate to. -/
namespace Fz
open PySem PySem.Spec PyProof.Rows L2

def isStar : Expr → Bool
  | .Starred .. => true
  | _ => false
def isSet : Expr → Bool
  | .Set .. => true
  | _ => false
def isSlice : Expr → Bool
  | .Slice .. => true
  | _ => false
theorem star_ok {e : Expr} {es : List Expr} {env : Env} (h : isStar e = false) : starEach (e :: es) env = (false, eval e env) :: starEach es env := by
  cases e <;> first | rfl | cases h
theorem stars_ok {pos : Pos} {env : Env} : ∀ {es : List Expr}, es.all (fun e => !isStar e) = true → (backTo pos (starEach es env)).any (·.1) = false
  | [], _ => rfl
  | e :: es, h => by
    rw [List.all_cons, Bool.and_eq_true] at h
    have h1 : isStar e = false := by simpa using h.1
    rw [star_ok h1]
    have ih := stars_ok (pos := pos) (env := env) h.2
    unfold backTo at ih ⊢
    rw [List.map_cons, List.any_cons, ih]
    rfl
theorem mark_ok {op : CmpOp} {b : Expr} (h : isSet b = false) : behindInMarks op b = false := by
  cases b <;> first | rfl | cases h
theorem ix_ok {b : Expr} (h : isSlice b = false) : PlainIx b := by
  intro o i
  cases b <;> first | rfl | cases h

abbrev Own := Addr → Option Nat
section
variable {X : Cx} {β : Option Addr}
def Den (X : Cx) (β : Option Addr) (e : Expr) (a : En) (o : Bool) (d : D) (b : En) : Prop :=
  ∀ (G H : Hp) (ρ : Own) (σ : L2.St) (Q : VK), R X.K β G H ρ σ a →
    (∀ v G' H' ρ', Fr G H ρ G' H' ρ' → R X.K β G' H' ρ' σ b → VR X.K H G' H' ρ' d v o → Q v H') → wE X e σ H Q
def DenA (X : Cx) (β : Option Addr) (es : List Expr) (a : En) (ds : List D) (b : En) : Prop :=
  ∀ (G H : Hp) (ρ : Own) (σ : L2.St) (Q : List V → Hp → Prop), R X.K β G H ρ σ a →
    (∀ vs G' H' ρ', Fr G H ρ G' H' ρ' → R X.K β G' H' ρ' σ b → Rps X.K G' vs ds → Q vs H') → wA X es σ H Q
def DenT (X : Cx) (β : Option Addr) (e : Expr) (a : En) (k : Bool) (b : En) : Prop :=
  ∀ (G H : Hp) (ρ : Own) (σ : L2.St) (Q : Bool → Hp → Prop), R X.K β G H ρ σ a →
    (∀ G' H' ρ', Fr G H ρ G' H' ρ' → R X.K β G' H' ρ' σ b → Q k H') → wT X e σ H Q
/-- a new list that is held is locked -/
theorem Den.fz {e : Expr} {a b : En} {o : Bool} {d : D} (h : Den X β e a o d b) : Den X β e a false d b := by
  cases o with
  | false => exact h
  | true =>
    intro G H ρ σ Q r q
    refine h G H ρ σ Q r fun v G' H' ρ' f r' x => ?_
    obtain ⟨p, l, vs, rfl, rfl, h0, hg, hr, hh, hv⟩ := x
    exact q _ (upd G' p (.lst vs)) H' ρ' (f.lock h0 hg) (r'.lock hh hg hr) (.lst (.inl upd_same) (hv.mono (Evl.Ex.new hg)))

/-! the ends of what makes a value -/
section
variable {K : PySem.W.Frag} {G H : Hp} {ρ : Own} {σ : L2.St} {e : En} {Q : VK}
/-- the continuation at a state -/
def Kn (K : PySem.W.Frag) (β : Option Addr) (G H : Hp) (ρ : Own) (σ : L2.St) (b : En) (o : Bool) (d : D) (Q : VK) : Prop :=
  ∀ v G' H' ρ', Fr G H ρ G' H' ρ' → R K β G' H' ρ' σ b → VR K H G' H' ρ' d v o → Q v H'
theorem Kn.at {o : Bool} {d : D} {b : En} {G1 H1 : Hp} {ρ1 : Own} (q : Kn K β G H ρ σ b o d Q) (f : Fr G H ρ G1 H1 ρ1) : Kn K β G1 H1 ρ1 σ b o d Q := fun v G' H' ρ' f' r' x => by
  refine q v G' H' ρ' (f.trans f') r' ?_
  cases o with
  | false => exact x
  | true =>
    obtain ⟨p, l, vs, h1, h2, h3, h4⟩ := x
    exact ⟨p, l, vs, h1, h2, f.dom p h3, h4⟩
theorem R.newL {vs : List V} {l : List D} (r : R K β G H ρ σ e) (hv : Rps K G vs l) (q : Kn K β G H ρ σ e true (.list l) Q) : ∀ p, H p = none → Q (.ref p) (upd H p (.lst vs)) := fun p hp =>
  q _ G _ ρ (.grow hp) (r.grow hp) ⟨p, l, vs, rfl, rfl, hp, (r.free hp).2, (r.free hp).1, upd_same, hv⟩
theorem R.newT {vs : List V} {l : List D} (r : R K β G H ρ σ e) (hv : Rps K G vs l) (q : Kn K β G H ρ σ e false (.tuple l) Q) : ∀ p, H p = none → Q (.ref p) (upd H p (.tup vs)) := fun p hp => by
  have hg := (r.free hp).2
  refine q _ (upd G p (.tup vs)) _ ρ ((Fr.grow hp).lock hp hg) ((r.grow hp).lock upd_same hg (r.free hp).1) ?_
  exact .tup (.inl (.inl upd_same)) (hv.mono (Evl.Ex.new hg))
theorem R.flat {d : D} {v : V} (r : R K β G H ρ σ e) (q : Kn K β G H ρ σ e false d Q) (h : Rp K G v d) : Q v H := q v G H ρ .refl r h
end

/-! ### names and constants -/
theorem den_int {i : Int} {j : Nat} {pos : Pos} {a : En} : Den X β (.Constant (.int i) j pos) a false (.int i) a := fun G H ρ σ Q r q => ⟨_, pe_int, r.flat q (.int i)⟩
theorem den_bl {b : Bool} {j : Nat} {pos : Pos} {a : En} : Den X β (.Constant (.bool b) j pos) a false (.bool b) a := fun G H ρ σ Q r q => ⟨_, pe_bl, r.flat q (.bl b)⟩
theorem den_non {j : Nat} {pos : Pos} {a : En} : Den X β (.Constant .none j pos) a false .none a := fun G H ρ σ Q r q => ⟨_, pe_non, r.flat q .non⟩
theorem den_str {x : Str} {j : Nat} {pos : Pos} {a : En} : Den X β (.Constant (.str x) j pos) a false (.str x) a := fun G H ρ σ Q r q => ⟨_, pe_str, r.flat q (.str x)⟩
/-- a name as a value: its list is locked -/
def lockS (a : En) (i : Nat) : Option (D × En) :=
  match a.sl[i]? with
  | some (.val d) => some (d, a)
  | some (.own l) => some (.list l, { a with sl := a.sl.set i (.val (.list l)) })
  | _ => none
theorem den_name {x : Str} {pos : Pos} {i : Nat} {a b : En} {d : D} (hN : X.N[i]? = some x) (hv : Vis X.env.scope x) (hd : (x == ("__debug__" : Str)) = false) (hcd : (x == ("__classdict__" : Str)) = false) (h : lockS a i = some (d, b)) : Den X β (.Name x pos) a false d b := by
  intro G H ρ σ Q r q
  unfold lockS at h
  cases e : a.sl[i]? with
  | none => rw [e] at h; cases h
  | some s =>
    rw [e] at h
    have w := r.sl i s e
    cases s with
    | no => cases h
    | bag => cases h
    | val d0 =>
      cases h
      obtain ⟨v, h1, h2⟩ := w
      exact ⟨_, pe_var hN hv hd hcd, v, h1, r.flat q h2⟩
    | own l =>
      cases h
      obtain ⟨p, vs, h1, h2, h3, h4⟩ := w
      refine ⟨_, pe_var hN hv hd hcd, .ref p, h1, ?_⟩
      have hg : G p = none := (r.ow p (by rw [h2]; simp)).1
      have x : Ex G (upd G p (.lst vs)) := Evl.Ex.new hg
      refine q (.ref p) (upd G p (.lst vs)) H (fun z => if z = p then none else ρ z) ⟨x, fun z o hz hr => ?_, fun _ k => k⟩ ?_ (.lst (.inl upd_same) (h4.mono x))
      · have ne : z ≠ p := fun k => by rw [k, h2] at hr; cases hr
        exact ⟨hz, by simp [ne, hr], fun g => by rw [upd_ne ne]; exact g⟩
      · refine ⟨by rw [r.len]; simp, fun z u hz => ?_, fun z hz => ?_, fun j s hj => ?_, fun z hz => ?_⟩
        · by_cases k : z = p
          · subst k; rw [upd_same] at hz; rw [← hz]; exact h3
          · rw [upd_ne k] at hz; exact r.ex z u hz
        · have ne : z ≠ p := fun k => hz (by simp [k])
          simp only [ne, if_false] at hz
          exact ⟨by rw [upd_ne ne]; exact (r.ow z hz).1, (r.ow z hz).2⟩
        · by_cases k : j = i
          · subst k
            have hl : j < a.sl.length := (List.getElem?_eq_some_iff.mp e).1
            simp only [List.getElem?_set, if_true, hl] at hj
            cases hj
            exact ⟨_, h1, .lst (.inl upd_same) (h4.mono x)⟩
          · simp only [List.getElem?_set, if_neg (Ne.symm k)] at hj
            have w := r.sl j s hj
            cases s with
            | no => trivial
            | bag => exact w
            | val d0 => obtain ⟨v, w1, w2⟩ := w; exact ⟨v, w1, w2.mono x⟩
            | own l' =>
              obtain ⟨p', vs', w1, w2, w3, w4⟩ := w
              have ne : p' ≠ p := fun z => by rw [z, h2] at w2; simp at w2; exact k w2.symm
              exact ⟨p', vs', w1, by simp [ne, w2], w3, w4.mono x⟩
        · obtain ⟨b1, ws, b2, b3⟩ := r.bg z hz
          have ne : z ≠ p := fun k => by rw [k, h2] at b1; simp at b1
          exact ⟨by simp [ne, b1], ws, b2, b3.mono x⟩

/-! ### arguments, displays -/
theorem dena_nil {a : En} : DenA X β [] a [] a := fun G H ρ σ Q r q => ⟨_, pa_nil, q [] G H ρ .refl r .nil⟩
theorem dena_cons {e : Expr} {es : List Expr} {a b c : En} {o : Bool} {d : D} {ds : List D} (hs : isStar e = false) (h1 : Den X β e a o d b) (h2 : DenA X β es b ds c) : DenA X β (e :: es) a (d :: ds) c := by
  intro G H ρ σ Q r q
  refine ⟨_, pa_cons pe_w pa_w (star_ok hs), h1.fz G H ρ σ _ r fun v G1 H1 ρ1 f1 r1 x1 => h2 G1 H1 ρ1 σ _ r1 fun vs G2 H2 ρ2 f2 r2 x2 => ?_⟩
  exact q (v :: vs) G2 H2 ρ2 (f1.trans f2) r2 (.cons (Rp.mono f2.ex x1) x2)
theorem len_ok {n : Nat} (h : n ≤ 1000000) : n ≤ sizeLine := Nat.le_trans h (by decide)
theorem den_list {es : List Expr} {pos : Pos} {a b : En} {ds : List D} (h : DenA X β es a ds b) (hl : ds.length ≤ 1000000) : Den X β (.List es pos) a true (.list ds) b := by
  intro G H ρ σ Q r q
  refine ⟨_, pe_lst pa_w, h G H ρ σ _ r fun vs G1 H1 ρ1 f1 r1 x1 => ⟨by rw [x1.length]; exact len_ok hl, r1.newL x1 (Kn.at q f1)⟩⟩
theorem den_tuple {es : List Expr} {k : Nat} {pos : Pos} {a b : En} {ds : List D} (h : DenA X β es a ds b) (hl : ds.length ≤ 1000000) : Den X β (.Tuple es k pos) a false (.tuple ds) b := by
  intro G H ρ σ Q r q
  refine ⟨_, pe_tup pa_w, h G H ρ σ _ r fun vs G1 H1 ρ1 f1 r1 x1 => ⟨by rw [x1.length]; exact len_ok hl, r1.newT x1 (Kn.at q f1)⟩⟩

/-! ### operators by values -/
/-- the left value: plain data, or a list just made -/
def VL (K : PySem.W.Frag) (G H : Hp) (x : V) (d : D) : Bool → Prop
  | false => Rp K G x d
  | true => ∃ a l vs, x = .ref a ∧ d = .list l ∧ H a = some (.lst vs) ∧ Rps K G vs l
theorem VR.keep {H0 G H G' H' : Hp} {ρ ρ' : Own} {d : D} {v : V} {o : Bool} (x : VR X.K H0 G H ρ d v o) (f : Fr G H ρ G' H' ρ') : VL X.K G' H' v d o := by
  cases o with
  | false => exact Rp.mono f.ex x
  | true =>
    obtain ⟨a, l, vs, h1, h2, h3, h4, h5, h6, h7⟩ := x
    exact ⟨a, l, vs, h1, h2, (f.keep a _ h6 h5).1, h7.mono f.ex⟩
def V2 (X : Cx) (β : Option Addr) (b : En) (r : R2) (o1 : Bool) (d1 d2 : D) (o : Bool) (d : D) : Prop :=
  ∀ (G H : Hp) (ρ : Own) (σ : L2.St) (x y : V) (Q : VK), R X.K β G H ρ σ b → VL X.K G H x d1 o1 → Rp X.K G y d2 → Kn X.K β G H ρ σ b o d Q → r x y H Q
theorem den_bin {op : Operator} {r : R2} {l e : Expr} {pos : Pos} {a b c : En} {o1 o2 o : Bool} {d1 d2 d : D} (ho : OpR X (binaryOp op) r) (h1 : Den X β l a o1 d1 b) (h2 : Den X β e b o2 d2 c) (hv : V2 X β c r o1 d1 d2 o d) : Den X β (.BinOp l op e pos) a o d c := by
  intro G H ρ σ Q r0 q
  refine ⟨_, pe_op ho pe_w pe_w, h1 G H ρ σ _ r0 fun x G1 H1 ρ1 f1 r1 x1 => h2.fz G1 H1 ρ1 σ _ r1 fun y G2 H2 ρ2 f2 r2 x2 => ?_⟩
  exact hv G2 H2 ρ2 σ x y Q r2 (x1.keep f2) x2 (Kn.at q (f1.trans f2))
theorem den_cmp {op : CmpOp} {r : R2} {l e : Expr} {pos : Pos} {a b c : En} {o1 o2 o : Bool} {d1 d2 d : D} (hm : isSet e = false) (ho : OpR X (compareOp op) r) (h1 : Den X β l a o1 d1 b) (h2 : Den X β e b o2 d2 c) (hv : V2 X β c r o1 d1 d2 o d) :
    Den X β (.Compare l [op] [e] pos) a o d c := by
  intro G H ρ σ Q r0 q
  refine ⟨_, pe_cmpR ho pe_w pe_w (mark_ok hm), h1 G H ρ σ _ r0 fun x G1 H1 ρ1 f1 r1 x1 => h2.fz G1 H1 ρ1 σ _ r1 fun y G2 H2 ρ2 f2 r2 x2 => ?_⟩
  exact hv G2 H2 ρ2 σ x y Q r2 (x1.keep f2) x2 (Kn.at q (f1.trans f2))
def V1 (X : Cx) (β : Option Addr) (b : En) (r : V → Hp → VK → Prop) (d1 : D) (o : Bool) (d : D) : Prop :=
  ∀ (G H : Hp) (ρ : Own) (σ : L2.St) (x : V) (Q : VK), R X.K β G H ρ σ b → Rp X.K G x d1 → Kn X.K β G H ρ σ b o d Q → r x H Q
theorem den_un {op : UnaryOp} {r : V → Hp → VK → Prop} {e : Expr} {pos : Pos} {a b : En} {o1 o : Bool} {d1 d : D} (ho : UnR X (unaryOp op) r) (h1 : Den X β e a o1 d1 b) (hv : V1 X β b r d1 o d) : Den X β (.UnaryOp op e pos) a o d b := by
  intro G H ρ σ Q r0 q
  refine ⟨_, pe_un ho pe_w, h1.fz G H ρ σ _ r0 fun x G1 H1 ρ1 f1 r1 x1 => ?_⟩
  exact hv G1 H1 ρ1 σ x Q r1 x1 (Kn.at q f1)
def VA (X : Cx) (β : Option Addr) (b : En) (r : List V → Hp → VK → Prop) (ds : List D) (o : Bool) (d : D) : Prop :=
  ∀ (G H : Hp) (ρ : Own) (σ : L2.St) (xs : List V) (Q : VK), R X.K β G H ρ σ b → Rps X.K G xs ds → Kn X.K β G H ρ σ b o d Q → r xs H Q
theorem den_callB {id : String} {r : List V → Hp → VK → Prop} {x : Str} {p pos : Pos} {e : Expr} {es : List Expr} {a b : En} {ds : List D} {o : Bool} {d : D} (hs : (e :: es).all (fun e => !isStar e) = true) (hc : CallR X (.builtin id) r) (hg : Gl X x) (hm : X.mg x = none)
    (hv : bootBuiltins x = some (.builtin id)) (hn : x ≠ "__name__") (hdb : (x == ("__debug__" : Str)) = false) (ha : DenA X β (e :: es) a ds b) (h : VA X β b r ds o d) : Den X β (.Call (.Name x p) (e :: es) [] pos) a o d b := by
  intro G H ρ σ Q r0 q
  rw [List.all_cons, Bool.and_eq_true] at hs
  refine ⟨_, pe_callB hc hg hm hv pa_w hn hdb (star_ok (by simpa using hs.1)) (stars_ok hs.2), ha G H ρ σ _ r0 fun vs G1 H1 ρ1 f1 r1 x1 => ?_⟩
  exact h G1 H1 ρ1 σ vs Q r1 x1 (Kn.at q f1)
theorem den_callTy {id : String} {r : List V → Hp → VK → Prop} {x : Str} {p pos : Pos} {e : Expr} {es : List Expr} {a b : En} {ds : List D} {o : Bool} {d : D} (hs : (e :: es).all (fun e => !isStar e) = true) (hc : CallR X (.type id) r) (hg : Gl X x) (hm : X.mg x = none)
    (hv : bootBuiltins x = some (.type id)) (hn : x ≠ "__name__") (hdb : (x == ("__debug__" : Str)) = false) (ha : DenA X β (e :: es) a ds b) (h : VA X β b r ds o d) : Den X β (.Call (.Name x p) (e :: es) [] pos) a o d b := by
  intro G H ρ σ Q r0 q
  rw [List.all_cons, Bool.and_eq_true] at hs
  refine ⟨_, pe_callTy hc hg hm hv pa_w hn hdb (star_ok (by simpa using hs.1)) (stars_ok hs.2), ha G H ρ σ _ r0 fun vs G1 H1 ρ1 f1 r1 x1 => ?_⟩
  exact h G1 H1 ρ1 σ vs Q r1 x1 (Kn.at q f1)
end
end Fz
set_option Elab.async false
set_option linter.all false
set_option maxRecDepth 100000
set_option maxHeartbeats 4000000
/-! Fz, part C: operators and built-ins, by values. -/
namespace Fz
open PySem PySem.Spec PyProof.Rows L2

/-! ### a tuple times an int at or below 1 -/
theorem tup_times_few (l : Addr) (its : Array Value) (n : Nat) (dd : Option Addr) (sl : Array (Option Value)) (x : Int) (u : Tok)
    (c0 : (decide (x < -(2 ^ 63)) || decide (x ≥ 2 ^ 63)) = false) (c1 : (its.isEmpty || x == 1) = false) (c2 : (decide (x ≤ 0) || its.isEmpty) = true) :
    Meets (Builtin.«tuple.__mul__» ⟨[.ref l, .int x u], []⟩) (fun _ RR s => s.heap.get? l = some { cls := .type "tuple", dict := dd, data := .seq its n, slots := sl } ∧
      RR (.ok (.ret (Value.ref s.heap.objs.size))) { s with heap := s.heap.push { cls := Value.type "tuple", data := Data.seq #[] }, toks := s.toks }) :=
  .of_wp fun prog w A RR s h => by
    obtain ⟨hp, g, d, tk, os⟩ := s
    obtain ⟨hl, h⟩ := h
    have f1 := AutoSeq1.idx_int
    wp_walk using wpAny_loadPart' hl
    repeat (first
      | (refine wpAny_ite_false (decide_eq_false (by rw [c0]; exact Bool.false_ne_true)) ?_; wp_walk using wpAny_loadPart' hl)
      | (refine wpAny_ite_false (decide_eq_false (by rw [c1]; exact Bool.false_ne_true)) ?_; wp_walk using wpAny_loadPart' hl)
      | (refine wpAny_ite_true (decide_eq_true c2) ?_; wp_walk using wpAny_loadPart' hl)
      | (refine wpAny_ite_false (decide_eq_false (by decide)) ?_; wp_walk using wpAny_loadPart' hl))
    exact ⟨_, rfl, h⟩
theorem tup_times_same (l : Addr) (its : Array Value) (n : Nat) (dd : Option Addr) (sl : Array (Option Value)) (x : Int) (u : Tok)
    (c0 : (decide (x < -(2 ^ 63)) || decide (x ≥ 2 ^ 63)) = false) (c1 : (its.isEmpty || x == 1) = true) :
    Meets (Builtin.«tuple.__mul__» ⟨[.ref l, .int x u], []⟩) (fun _ RR s => s.heap.get? l = some { cls := .type "tuple", dict := dd, data := .seq its n, slots := sl } ∧
      RR (.ok (.ret (Value.ref l))) s) :=
  .of_wp fun prog w A RR s h => by
    obtain ⟨hp, g, d, tk, os⟩ := s
    obtain ⟨hl, h⟩ := h
    have f1 := AutoSeq1.idx_int
    wp_walk using wpAny_loadPart' hl
    repeat (first
      | (refine wpAny_ite_false (decide_eq_false (by rw [c0]; exact Bool.false_ne_true)) ?_; wp_walk using wpAny_loadPart' hl)
      | (refine wpAny_ite_true (decide_eq_true c1) ?_; wp_walk using wpAny_loadPart' hl))
    exact ⟨_, rfl, h⟩

section
variable {X : Cx}
/-- t * k, any t, any k of a thousand at most -/
def rTimes (K : PySem.W.Frag) : R2 := fun x y H Q => ∃ l k xs, x = .ref l ∧ y = .int k ∧ SqT K H l xs ∧ -(2 ^ 62) < k ∧ k ≤ 1000 ∧ xs.length ≤ 1000 ∧
  ((xs = [] ∨ k = 1) → Q (.ref l) H) ∧ (¬ (xs = [] ∨ k = 1) → ∀ p, H p = none → Q (.ref p) (upd H p (.tup (List.replicate k.toNat xs).flatten)))
theorem op_times : OpR X (binaryOp .Mult) (rTimes X.K) := by
  intro pins s σ H x y v u Q I rx ry h
  obtain ⟨l, k, xs, rfl, rfl, hT, k1, k2, hz, q1, q2⟩ := h
  by_cases big : xs ≠ [] ∧ 2 ≤ k
  · refine op_repT pins s σ H _ _ v u Q I rx ry ⟨l, k, xs, rfl, rfl, hT, big.1, big.2, k2, hz, q2 ?_⟩
    rintro (e | e)
    · exact big.1 e
    · rw [e] at big; exact absurd big.2 (by decide)
  · cases rx
    obtain ⟨t, rfl⟩ := ry
    obtain ⟨its, r, ⟨⟨cls, dd, data, sl⟩, ho, hc, n, hd⟩, hs⟩ := I.tuple hT
    simp only at hc hd
    subst hc hd
    have hle : its.length = xs.length := r.length.symm
    have he : its.toArray.isEmpty = xs.isEmpty := by
      have z := isEmpty_of r
      cases h1 : its.toArray.isEmpty <;> cases h2 : xs.isEmpty <;> simp_all
    have c0 : (decide (k < -(2 ^ 63)) || decide (k ≥ 2 ^ 63)) = false := by
      rw [decide_eq_false (by omega), decide_eq_false (by omega)] <;> rfl
    by_cases same : xs = [] ∨ k = 1
    · have c1 : (its.toArray.isEmpty || k == 1) = true := by
        rw [he]
        rcases same with e | e
        · rw [e]; rfl
        · rw [e]; simp
      refine wpAny_binaryOp_repeat_ref (T := "tuple") (U := "int") (by decide) ⟨_, ho, rfl⟩ (fun s' => typeIs_int s' k t) noFill_tuple_mul F.fills_int_mul F.slot_int_rmul repeat_tuple F.slot_int_index.lookup
        (call_meets F.slot_int_rmul (typeIs_int s k t) F.entry_int_rmul (F.args_int_rmul_2 _ _) (int_rmul_tuple k t l its.toArray n dd sl)
          ⟨ho, rfl, ⟨_, ho, rfl⟩, call_meets F.slot_tuple_mul ⟨_, ho, rfl⟩ F.entry_tuple_mul (F.args_tuple_mul_2 _ _) (tup_times_same l its.toArray n dd sl k t c0 c1) ⟨ho, ?_⟩⟩)
      exact ⟨.ref l, H, I, rfl, q1 same⟩
    · have hne : xs ≠ [] := fun e => same (.inl e)
      have k0 : k ≤ 0 := by
        have a : ¬ 2 ≤ k := fun z => big ⟨hne, z⟩
        have b : k ≠ 1 := fun z => same (.inr z)
        omega
      have hi : its.toArray.isEmpty = false := by
        rw [he]
        cases xs with
        | nil => exact absurd rfl hne
        | cons a b => rfl
      have c1 : (its.toArray.isEmpty || k == 1) = false := by
        rw [hi, Bool.false_or]
        exact beq_eq_false_iff_ne.mpr (by omega)
      have c2 : (decide (k ≤ 0) || its.toArray.isEmpty) = true := by
        rw [decide_eq_true k0]; rfl
      refine wpAny_binaryOp_repeat_ref (T := "tuple") (U := "int") (by decide) ⟨_, ho, rfl⟩ (fun s' => typeIs_int s' k t) noFill_tuple_mul F.fills_int_mul F.slot_int_rmul repeat_tuple F.slot_int_index.lookup
        (call_meets F.slot_int_rmul (typeIs_int s k t) F.entry_int_rmul (F.args_int_rmul_2 _ _) (int_rmul_tuple k t l its.toArray n dd sl)
          ⟨ho, rfl, ⟨_, ho, rfl⟩, call_meets F.slot_tuple_mul ⟨_, ho, rfl⟩ F.entry_tuple_mul (F.args_tuple_mul_2 _ _) (tup_times_few l its.toArray n dd sl k t c0 c1 c2) ⟨ho, ?_⟩⟩)
      have e0 : (List.replicate k.toNat xs).flatten = [] := by
        have : k.toNat = 0 := by omega
        rw [this]; rfl
      have q3 := q2 same s.heap.objs.size (I.hok.fresh (Nat.le_refl _))
      rw [e0] at q3
      exact ⟨.ref s.heap.objs.size, _, I.laid (t' := s.toks) (o := .tup []) (fun b ob q => Heap.get?_push_of_some _ q) (Nat.le_refl _) ⟨Nat.zero_le _, [], .nil, IsTup.new _ _⟩, rfl, q3⟩

/-- two lists that are read, tracked or locked, end to end -/
theorem rd_list {pins : List (Addr × Obj)} {σ : L2.St} {H : Hp} {s : Shared} {l : Addr} {xs : List V} (I : Inv X pins σ H s) (h : Rd H l (.lst xs)) :
    xs.length ≤ sizeLine ∧ ∃ (its : List Value) (n : Nat), Vals xs its ∧ s.heap.get? l = some { cls := .type "list", data := .seq its.toArray n } := by
  rcases h with h | ⟨o, h⟩
  · obtain ⟨z, its, n, r, e⟩ := I.hok l _ h
    exact ⟨z, its, n, r, e⟩
  · obtain ⟨_, z, its, n, r, e⟩ := I.hok l _ h
    exact ⟨z, its, n, r, e⟩
def rJoin : R2 := fun x y H Q => ∃ l b xs zs, x = .ref l ∧ y = .ref b ∧ Rd H l (.lst xs) ∧ Rd H b (.lst zs) ∧ xs.length + zs.length ≤ sizeLine ∧ ∀ p, H p = none → Q (.ref p) (upd H p (.lst (xs ++ zs)))
theorem op_join : OpR X (binaryOp .Add) rJoin := by
  intro pins s σ H x y v u Q I rx ry h
  obtain ⟨l, b, xs, zs, rfl, rfl, h1, h2, hz, q⟩ := h
  cases rx
  cases ry
  obtain ⟨z1, i1, n1, r1, e1⟩ := rd_list I h1
  obtain ⟨z2, i2, n2, r2, e2⟩ := rd_list I h2
  refine PySem.P.add_list e1 e2 ?_ (by rw [List.size_toArray, List.size_toArray, ← r1.length, ← r2.length]; exact hz)
  rw [show i1.toArray ++ i2.toArray = (i1 ++ i2).toArray by simp]
  exact ⟨.ref _, _, I.lnew (t' := s.toks) (r1.append r2) (by rw [List.length_append]; exact hz), rfl, q _ I.fresh⟩
end

/-! ### operators as a function of data -/
def mulB (i j : Int) : Bool := decide (i.natAbs.log2 + j.natAbs.log2 < 1000000)
def divB (j : Int) : Bool := decide (0 < j) && decide (j.natAbs.log2 < 9000)
def szB (n : Nat) : Bool := decide (n ≤ 1000000)
def posB (j : Int) : Bool := decide (0 < j)
def powB (i j : Int) : Bool := decide (0 ≤ j ∧ j ≤ 1000000 ∧ i.natAbs < 2 ^ 64)
def repB (n : Nat) (k : Int) : Bool := decide (-(2 ^ 62) < k ∧ k < 2 ^ 62 ∧ n * k.toNat ≤ 1000000)
def timB (n : Nat) (k : Int) : Bool := decide (-(2 ^ 62) < k ∧ k ≤ 1000 ∧ n ≤ 1000)
theorem szB_le {n : Nat} (h : szB n = true) : n ≤ 1000000 := of_decide_eq_true h
theorem len_okB {n : Nat} (h : szB n = true) : n ≤ sizeLine := len_ok (szB_le h)
def binD : Operator → Bool → D → D → Option (Bool × D)
  | .Add, _, .int i, .int j => some (false, .int (i + j))
  | .Add, _, .list a, .list b => if szB (a.length + b.length) then some (true, .list (a ++ b)) else none
  | .Add, _, .tuple a, .tuple b => if szB (a.length + b.length) then some (false, .tuple (a ++ b)) else none
  | .Add, _, .str a, .str b => if szB (a.length + b.length) then some (false, .str (a ++ b)) else none
  | .Sub, _, .int i, .int j => some (false, .int (i - j))
  | .Mult, _, .int i, .int j => if mulB i j then some (false, .int (i * j)) else none
  | .Mult, true, .list a, .int k => if repB a.length k then some (true, .list (List.replicate k.toNat a).flatten) else none
  | .Mult, _, .tuple a, .int k => if timB a.length k then some (false, .tuple (List.replicate k.toNat a).flatten) else none
  | .FloorDiv, _, .int i, .int j => if divB j then some (false, .int (i / j)) else none
  | .Mod, _, .int i, .int j => if posB j then some (false, .int (i % j)) else none
  | .Pow, _, .int i, .int j => if powB i j then some (false, .int (i ^ j.toNat)) else none
  | _, _, _, _ => none
section
variable {X : Cx} {β : Option Addr}
theorem rd_of {K : PySem.W.Frag} {G H : Hp} {x : V} {l : List D} {o : Bool} (e : Ex G H) (h : VL K G H x (.list l) o) : ∃ a vs, x = .ref a ∧ Rd H a (.lst vs) ∧ Rps K G vs l := by
  cases o with
  | false =>
    cases (show Rp K G x (.list l) from h) with
    | lst h1 h2 => exact ⟨_, _, rfl, rd_ex e h1, h2⟩
  | true =>
    obtain ⟨a, l', vs, h1, h2, h3, h4⟩ := h
    cases h2
    exact ⟨a, vs, h1, .inl h3, h4⟩
theorem rp_of {K : PySem.W.Frag} {G H : Hp} {x : V} {d : D} {o : Bool} (hd : ∀ l, d ≠ .list l) (h : VL K G H x d o) : Rp K G x d := by
  cases o with
  | false => exact h
  | true => obtain ⟨a, l', vs, h1, h2, h3, h4⟩ := h; exact absurd h2 (hd l')
theorem v2_int {C : Int → Int → Prop} {g : Int → Int → V} {d : D} {i j : Int} {o : Bool} {b : En} (hc : C i j) (hg : ∀ K G, Rp K G (g i j) d) : V2 X β b (rI C g) o (.int i) (.int j) false d := fun G H ρ σ x y Q r vx vy q => by
  cases rp_of (by intro l z; cases z) vx
  cases vy
  exact ⟨i, j, rfl, rfl, hc, r.flat q (hg _ _)⟩
theorem v2_int0 {g : Int → Int → V} {d : D} {i j : Int} {o : Bool} {b : En} (hg : ∀ K G, Rp K G (g i j) d) : V2 X β b (rI0 g) o (.int i) (.int j) false d := fun G H ρ σ x y Q r vx vy q => by
  cases rp_of (by intro l z; cases z) vx
  cases vy
  exact ⟨i, j, rfl, rfl, r.flat q (hg _ _)⟩
theorem bin_ok {op : Operator} {o1 o : Bool} {d1 d2 d : D} {b : En} (h : binD op o1 d1 d2 = some (o, d)) : ∃ r, OpR X (binaryOp op) r ∧ V2 X β b r o1 d1 d2 o d := by
  unfold binD at h
  split at h
  · cases h; exact ⟨_, op_add, v2_int0 fun _ _ => .int _⟩
  · split at h
    · rename_i hl
      cases h
      refine ⟨_, op_join, fun G H ρ σ x y Q r vx vy q => ?_⟩
      obtain ⟨p, vs, rfl, h1, h2⟩ := rd_of r.ex vx
      cases vy with
      | lst h3 h4 => exact ⟨_, _, _, _, rfl, rfl, h1, rd_ex r.ex h3, by rw [h2.length, h4.length]; exact len_okB hl, r.newL (h2.append h4) q⟩
    · cases h
  · split at h
    · rename_i hl
      cases h
      refine ⟨_, op_catA, fun G H ρ σ x y Q r vx vy q => ?_⟩
      cases rp_of (by intro l z; cases z) vx with
      | tup h1 h2 =>
        cases vy with
        | tup h3 h4 =>
          refine ⟨_, _, _, _, rfl, rfl, Evl.ex_t r.ex h1, Evl.ex_t r.ex h3, by rw [h2.length, h4.length]; exact len_okB hl, fun e => ?_, fun _ e => ?_, fun _ _ => r.newT (h2.append h4) q⟩
          · subst e
            cases h2
            exact r.flat q (.tup h3 h4)
          · subst e
            cases h4
            exact r.flat q (by rw [List.append_nil]; exact .tup h1 h2)
    · cases h
  · split at h
    · rename_i hl
      cases h
      refine ⟨_, op_add_str, fun G H ρ σ x y Q r vx vy q => ?_⟩
      cases rp_of (by intro l z; cases z) vx
      cases vy
      exact ⟨_, _, rfl, rfl, len_okB hl, r.flat q (.str _)⟩
    · cases h
  · cases h; exact ⟨_, op_sub, v2_int0 fun _ _ => .int _⟩
  · split at h
    · rename_i hc
      cases h
      unfold mulB at hc
      rw [decide_eq_true_eq] at hc
      exact ⟨_, op_mulW, v2_int (show CMulW _ _ from hc) fun _ _ => .int _⟩
    · cases h
  · split at h
    · rename_i hc
      cases h
      have hc := of_decide_eq_true hc
      refine ⟨_, op_rep, fun G H ρ σ x y Q r vx vy q => ?_⟩
      obtain ⟨p, l', vs, rfl, e, h3, h4⟩ := vx
      cases e
      cases vy
      exact ⟨_, _, _, rfl, rfl, h3, by omega, by omega, by rw [h4.length]; exact len_ok hc.2.2, r.newL (h4.rep _) q⟩
    · cases h
  · split at h
    · rename_i hc
      cases h
      have hc := of_decide_eq_true hc
      refine ⟨_, op_times, fun G H ρ σ x y Q r vx vy q => ?_⟩
      cases rp_of (by intro l z; cases z) vx with
      | tup h1 h2 =>
        cases vy
        refine ⟨_, _, _, rfl, rfl, Evl.ex_t r.ex h1, hc.1, hc.2.1, by rw [h2.length]; exact hc.2.2, fun e => ?_, fun _ => r.newT (h2.rep _) q⟩
        rcases e with e | e
        · subst e
          cases h2
          refine r.flat q ?_
          rw [show ∀ n : Nat, (List.replicate n ([] : List D)).flatten = [] from fun n => by simp]
          exact .tup h1 .nil
        · subst e
          refine r.flat q ?_
          rw [show (List.replicate (1 : Int).toNat _).flatten = _ from by rw [show (1 : Int).toNat = 1 from rfl, List.replicate_one, List.flatten_singleton]]
          exact .tup h1 h2
    · cases h
  · split at h
    · rename_i hc
      cases h
      unfold divB at hc
      rw [Bool.and_eq_true, decide_eq_true_eq, decide_eq_true_eq] at hc
      exact ⟨_, op_fdivW, v2_int (show CDivW _ _ from hc) fun _ _ => .int _⟩
    · cases h
  · split at h
    · rename_i hc
      cases h
      exact ⟨_, op_mod, v2_int (of_decide_eq_true hc) fun _ _ => .int _⟩
    · cases h
  · split at h
    · rename_i hc
      cases h
      have hc := of_decide_eq_true hc
      exact ⟨_, op_pow, v2_int (C := CPow) hc fun _ _ => .int _⟩
    · cases h
  · cases h
end
end Fz
set_option Elab.async false
set_option linter.all false
set_option maxRecDepth 100000
set_option maxHeartbeats 4000000
/-! Fz, part D: comparisons, truth, subscripts, slices, built-in functions. -/
namespace Fz
open PySem PySem.Spec PyProof.Rows L2

/-! ### comparisons -/
def shp (d : D) : Bool := SeqAt.shaped d
def cmpD : CmpOp → D → D → Option Bool
  | .Eq, d, e => if shp d && shp e then some (PyData.eqv d e) else none
  | .NotEq, d, e => if shp d && shp e then some (!PyData.eqv d e) else none
  | .Lt, .int i, .int j => some (decide (i < j))
  | .LtE, .int i, .int j => some (decide (i ≤ j))
  | .Gt, .int i, .int j => some (decide (j < i))
  | .GtE, .int i, .int j => some (decide (j ≤ i))
  | .Is, .none, .none => some true
  | .Is, .tuple _, .none => some false
  | .Is, .list _, .none => some false
  | .Is, .int _, .none => some false
  | .Is, .bool _, .none => some false
  | .Is, .str _, .none => some false
  | .IsNot, .none, .none => some false
  | .IsNot, .tuple _, .none => some true
  | .IsNot, .list _, .none => some true
  | .IsNot, .int _, .none => some true
  | .IsNot, .bool _, .none => some true
  | .IsNot, .str _, .none => some true
  | .In, d, .list l => if shp d && shp (.list l) then some (l.any fun z => PyData.eqv z d) else none
  | .NotIn, d, .list l => if shp d && shp (.list l) then some (!l.any fun z => PyData.eqv z d) else none
  | _, _, _ => none
section
variable {X : Cx} {β : Option Addr}
theorem vl_dp {G H : Hp} {x : V} {d : D} {o : Bool} (e : Ex G H) (c : shp d = true) (h : VL X.K G H x d o) : Dp X.K H x d := by
  have c' := SeqAt.canLay_of_shaped c
  cases o with
  | false => exact Rp.dp e c' h
  | true =>
    obtain ⟨a, l, vs, rfl, rfl, h3, h4⟩ := h
    exact .lst (.inl (.inl h3)) (Rps.dp e (by simpa [PyData.canLay0] using c') h4)
theorem vl_non {K : PySem.W.Frag} {G H : Hp} {x : V} {d : D} {o : Bool} (h : VL K G H x d o) (hd : d ≠ .none) : decide (x = .non) = false := by
  cases o with
  | false => cases (show Rp K G x d from h) <;> first | rfl | exact absurd rfl hd
  | true => obtain ⟨a, l, vs, rfl, _⟩ := h; rfl
theorem cmp_ok {k : Nat} {op : CmpOp} {o1 : Bool} {d1 d2 : D} {c : Bool} {b : En} (hr : Room k X.A) (h : cmpD op d1 d2 = some c) : ∃ r, OpR X (compareOp op) r ∧ V2 X β b r o1 d1 d2 false (.bool c) := by
  have hu : X.A.units + 65 < cLine := by have := hr.un; omega
  unfold cmpD at h
  split at h
  · split at h
    · rename_i hc
      cases h
      rw [Bool.and_eq_true] at hc
      exact ⟨_, op_eqD (by omega), fun G H ρ σ x y Q r vx vy q => ⟨_, _, vl_dp r.ex hc.1 vx, Rp.dp r.ex (SeqAt.canLay_of_shaped hc.2) vy, hc.1, hc.2, r.flat q (.bl _)⟩⟩
    · cases h
  · split at h
    · rename_i hc
      cases h
      rw [Bool.and_eq_true] at hc
      exact ⟨_, op_neD (by omega), fun G H ρ σ x y Q r vx vy q => ⟨_, _, vl_dp r.ex hc.1 vx, Rp.dp r.ex (SeqAt.canLay_of_shaped hc.2) vy, hc.1, hc.2, r.flat q (.bl _)⟩⟩
    · cases h
  · cases h; exact ⟨_, op_lt, v2_int0 fun _ _ => .bl _⟩
  · cases h; exact ⟨_, op_le, v2_int0 fun _ _ => .bl _⟩
  · cases h; exact ⟨_, op_gt, v2_int0 fun _ _ => .bl _⟩
  · cases h; exact ⟨_, op_ge, v2_int0 fun _ _ => .bl _⟩
  · cases h
    refine ⟨_, op_isN, fun G H ρ σ x y Q r vx vy q => ?_⟩
    cases vy
    cases rp_of (by intro l z; cases z) vx
    exact ⟨rfl, r.flat q (.bl _)⟩
  · cases h
    refine ⟨_, op_isN, fun G H ρ σ x y Q r vx vy q => ?_⟩
    cases vy
    refine ⟨rfl, ?_⟩
    rw [vl_non vx (fun z => nomatch z)]
    exact r.flat q (.bl _)
  · cases h
    refine ⟨_, op_isN, fun G H ρ σ x y Q r vx vy q => ?_⟩
    cases vy
    refine ⟨rfl, ?_⟩
    rw [vl_non vx (fun z => nomatch z)]
    exact r.flat q (.bl _)
  · cases h
    refine ⟨_, op_isN, fun G H ρ σ x y Q r vx vy q => ?_⟩
    cases vy
    refine ⟨rfl, ?_⟩
    rw [vl_non vx (fun z => nomatch z)]
    exact r.flat q (.bl _)
  · cases h
    refine ⟨_, op_isN, fun G H ρ σ x y Q r vx vy q => ?_⟩
    cases vy
    refine ⟨rfl, ?_⟩
    rw [vl_non vx (fun z => nomatch z)]
    exact r.flat q (.bl _)
  · cases h
    refine ⟨_, op_isN, fun G H ρ σ x y Q r vx vy q => ?_⟩
    cases vy
    refine ⟨rfl, ?_⟩
    rw [vl_non vx (fun z => nomatch z)]
    exact r.flat q (.bl _)
  · cases h
    refine ⟨_, op_notN, fun G H ρ σ x y Q r vx vy q => ?_⟩
    cases vy
    cases rp_of (by intro l z; cases z) vx
    exact ⟨rfl, r.flat q (.bl _)⟩
  · cases h
    refine ⟨_, op_notN, fun G H ρ σ x y Q r vx vy q => ?_⟩
    cases vy
    refine ⟨rfl, ?_⟩
    rw [vl_non vx (fun z => nomatch z)]
    exact r.flat q (.bl _)
  · cases h
    refine ⟨_, op_notN, fun G H ρ σ x y Q r vx vy q => ?_⟩
    cases vy
    refine ⟨rfl, ?_⟩
    rw [vl_non vx (fun z => nomatch z)]
    exact r.flat q (.bl _)
  · cases h
    refine ⟨_, op_notN, fun G H ρ σ x y Q r vx vy q => ?_⟩
    cases vy
    refine ⟨rfl, ?_⟩
    rw [vl_non vx (fun z => nomatch z)]
    exact r.flat q (.bl _)
  · cases h
    refine ⟨_, op_notN, fun G H ρ σ x y Q r vx vy q => ?_⟩
    cases vy
    refine ⟨rfl, ?_⟩
    rw [vl_non vx (fun z => nomatch z)]
    exact r.flat q (.bl _)
  · cases h
    refine ⟨_, op_notN, fun G H ρ σ x y Q r vx vy q => ?_⟩
    cases vy
    refine ⟨rfl, ?_⟩
    rw [vl_non vx (fun z => nomatch z)]
    exact r.flat q (.bl _)
  · split at h
    · rename_i hc
      cases h
      rw [Bool.and_eq_true] at hc
      exact ⟨_, op_inD (by omega), fun G H ρ σ x y Q r vx vy q => ⟨_, _, vl_dp r.ex hc.1 vx, Rp.dp r.ex (SeqAt.canLay_of_shaped hc.2) vy, hc.1, hc.2, r.flat q (.bl _)⟩⟩
    · cases h
  · split at h
    · rename_i hc
      cases h
      rw [Bool.and_eq_true] at hc
      exact ⟨_, op_notInD (by omega), fun G H ρ σ x y Q r vx vy q => ⟨_, _, vl_dp r.ex hc.1 vx, Rp.dp r.ex (SeqAt.canLay_of_shaped hc.2) vy, hc.1, hc.2, r.flat q (.bl _)⟩⟩
    · cases h
  · cases h
end

/-! ### truth -/
def truD : D → Option Bool
  | .none => some false
  | .bool b => some b
  | .int i => some (i != 0)
  | .str x => if szB x.length then some ((x.length : Int) != 0) else none
  | .list l => some (!l.isEmpty)
  | .tuple l => some (!l.isEmpty)
  | .dict _ => none
theorem rps_empty {K : PySem.W.Frag} {G : Hp} {vs : List V} {l : List D} (h : Rps K G vs l) : vs.isEmpty = l.isEmpty := by cases h <;> rfl
theorem tru_of {K : PySem.W.Frag} {G H : Hp} {x : V} {d : D} {k : Bool} {o : Bool} (e : Ex G H) (hx : VL K G H x d o) (h : truD d = some k) : TruV K x H k := by
  cases o with
  | true =>
    obtain ⟨a, l, vs, rfl, rfl, h3, h4⟩ := hx
    cases h
    exact .inl ⟨vs, .inl (.inl h3), by rw [rps_empty h4]⟩
  | false =>
    cases (show Rp K G x d from hx) with
    | non => cases h; rfl
    | bl b => cases h; rfl
    | int i => cases h; rfl
    | str y =>
      have h : (if szB y.length then some ((y.length : Int) != 0) else none) = some k := h
      split at h
      · rename_i hl; cases h; exact ⟨len_okB hl, rfl⟩
      · cases h
    | lst h1 h2 => cases h; exact .inl ⟨_, .inl (rd_ex e h1), by rw [rps_empty h2]⟩
    | tup h1 h2 => cases h; exact .inr (.inl ⟨_, Evl.ex_t e h1, by rw [rps_empty h2]⟩)
    | scr h1 h2 => cases h

/-! ### subscripts, slices -/
def ixD : D → D → Option D
  | .list l, .int i => atI l i
  | .tuple l, .int i => atI l i
  | _, _ => none
theorem atI_rps {K : PySem.W.Frag} {G : Hp} {vs : List V} {l : List D} {i : Int} {d : D} (h : Rps K G vs l) (e : atI l i = some d) : ∃ v, atI vs i = some v ∧ Rp K G v d := by
  unfold atI at e ⊢
  rw [h.length]
  cases z : ixN l.length i with
  | none => rw [z] at e; cases e
  | some j => rw [z] at e; exact h.get e
def cutD (l : List D) (lo hi : Option Int) : List D := (l.drop (HT.sIx l.length 0 lo)).take (HT.sIx l.length l.length hi - HT.sIx l.length 0 lo)
theorem cut_rps {K : PySem.W.Frag} {G : Hp} {vs : List V} {l : List D} (lo hi : Option Int) (h : Rps K G vs l) : Rps K G (cutV vs lo hi) (cutD l lo hi) := by
  unfold cutV cutD
  rw [h.length]
  exact (h.drop _).take _
end Fz
set_option Elab.async false
set_option linter.all false
set_option maxRecDepth 100000
set_option maxHeartbeats 4000000
/-! Fz, part E: names that own lists, subscripts, slices, built-in functions, methods. -/
namespace Fz
open PySem PySem.Spec PyProof.Rows L2

def slotL (e : En) (i : Nat) : Option (List D) :=
  match e.sl[i]? with
  | some (.own l) => some l
  | some .bag => some e.bg
  | _ => none
def putL (e : En) (i : Nat) (l : List D) : En :=
  match e.sl[i]? with
  | some (.own _) => { e with sl := e.sl.set i (.own l) }
  | some .bag => { e with bg := l }
  | _ => e
section
variable {X : Cx} {β : Option Addr} {K : PySem.W.Frag} {G H : Hp} {ρ : Own} {σ : L2.St} {e : En}
theorem R.ownAt {i : Nat} {l : List D} (r : R K β G H ρ σ e) (h : slotL e i = some l) : ∃ p vs, σ[i]? = some (some (.ref p)) ∧ H p = some (.lst vs) ∧ Rps K G vs l ∧ ρ p ≠ none := by
  unfold slotL at h
  cases z : e.sl[i]? with
  | none => rw [z] at h; cases h
  | some s =>
    rw [z] at h
    have w := r.sl i s z
    cases s with
    | no => cases h
    | val d => cases h
    | own l' =>
      cases h
      obtain ⟨p, vs, h1, h2, h3, h4⟩ := w
      exact ⟨p, vs, h1, h3, h4, by rw [h2]; simp⟩
    | bag =>
      cases h
      obtain ⟨p, h1, h2⟩ := w
      obtain ⟨b1, vs, b2, b3⟩ := r.bg p h1
      exact ⟨p, vs, h2, b2, b3, by rw [b1]; simp⟩
theorem R.put {i : Nat} {l l' : List D} {p : Addr} {vs' : List V} (r : R K β G H ρ σ e) (h : slotL e i = some l) (hp : σ[i]? = some (some (.ref p))) (hv : Rps K G vs' l') :
    R K β G (upd H p (.lst vs')) ρ σ (putL e i l') ∧ Fr G H ρ G (upd H p (.lst vs')) ρ := by
  obtain ⟨p', vs, h1, h2, h3, h4⟩ := r.ownAt h
  rw [hp] at h1
  cases h1
  have hg : G p = none := (r.ow p h4).1
  constructor
  · have ex : Ex G (upd H p (.lst vs')) := r.ex.mut hg
    have ow : ∀ a, ρ a ≠ none → G a = none ∧ upd H p (.lst vs') a ≠ none := fun a ha => ⟨(r.ow a ha).1, by
      by_cases z : a = p
      · rw [z, upd_same]; simp
      · rw [upd_ne z]; exact (r.ow a ha).2⟩
    unfold slotL at h
    unfold putL
    cases z : e.sl[i]? with
    | none => rw [z] at h; cases h
    | some s =>
      rw [z] at h
      have w := r.sl i s z
      have hlt : i < e.sl.length := (List.getElem?_eq_some_iff.mp z).1
      cases s with
      | no => cases h
      | val d => cases h
      | own l0 =>
        obtain ⟨q, ws, w1, w2, w3, w4⟩ := w
        rw [hp] at w1
        cases w1
        refine ⟨by rw [r.len]; simp, ex, ow, fun j s hj => ?_, fun a ha => ?_⟩
        · by_cases k : j = i
          · subst k
            simp only [List.getElem?_set, if_true, hlt] at hj
            cases hj
            exact ⟨p, vs', hp, w2, upd_same, hv⟩
          · simp only [List.getElem?_set, if_neg (Ne.symm k)] at hj
            have w := r.sl j s hj
            cases s with
            | no => trivial
            | bag => exact w
            | val d0 => exact w
            | own l' =>
              obtain ⟨p', vs', w1, w2', w3, w4⟩ := w
              have ne : p' ≠ p := fun z => by rw [z, w2] at w2'; simp at w2'; exact k w2'.symm
              exact ⟨p', vs', w1, w2', by rw [upd_ne ne]; exact w3, w4⟩
        · obtain ⟨b1, ws', b2, b3⟩ := r.bg a ha
          have ne : a ≠ p := fun k => by rw [k, w2] at b1; simp at b1
          exact ⟨b1, ws', by rw [upd_ne ne]; exact b2, b3⟩
      | bag =>
        obtain ⟨q, w1, w2⟩ := w
        rw [hp] at w2
        cases w2
        obtain ⟨b1, ws', b2, b3⟩ := r.bg p w1
        refine ⟨r.len, ex, ow, fun j s hj => ?_, fun a ha => ?_⟩
        · have w := r.sl j s hj
          cases s with
          | no => trivial
          | bag => exact w
          | val d0 => exact w
          | own l' =>
            obtain ⟨p', vs', w1, w2', w3, w4⟩ := w
            have ne : p' ≠ p := fun z => by rw [z, b1] at w2'; simp at w2'
            exact ⟨p', vs', w1, w2', by rw [upd_ne ne]; exact w3, w4⟩
        · rw [w1] at ha
          cases ha
          exact ⟨b1, vs', upd_same, hv⟩
  · refine ⟨Evl.Ex.refl G, fun a o ha hr => ⟨?_, hr, id⟩, fun a ha => ?_⟩
    · rw [upd_ne (fun z => h4 (by rw [← z]; exact hr))]
      exact ha
    · by_cases z : a = p
      · rw [z, upd_same] at ha; cases ha
      · rw [upd_ne z] at ha; exact ha

/-- the address that a name holds -/
theorem peek {x : Str} {pos : Pos} {i : Nat} {v : V} {Q : VK} (hN : X.N[i]? = some x) (hv : Vis X.env.scope x) (hd : (x == ("__debug__" : Str)) = false) (hcd : (x == ("__classdict__" : Str)) = false) (hp : σ[i]? = some (some v)) (q : Q v H) : wE X (.Name x pos) σ H Q :=
  ⟨_, pe_var hN hv hd hcd, v, hp, q⟩

/-! ### a[i] -/
theorem rIx_ok {G H : Hp} {σ : L2.St} {b : En} {x y : V} {d1 d2 d : D} {o : Bool} {Q : VK} (r : R X.K β G H ρ σ b) (hx : VL X.K G H x d1 o) (hy : Rp X.K G y d2) (h : ixD d1 d2 = some d) (q : Kn X.K β G H ρ σ b false d Q) : rIx X.K x y H Q := by
  unfold ixD at h
  split at h
  · cases hy
    obtain ⟨p, vs, rfl, h1, h2⟩ := rd_of r.ex hx
    obtain ⟨v, e1, e2⟩ := atI_rps h2 h
    exact .inl ⟨p, vs, _, v, rfl, rfl, .inl h1, e1, r.flat q e2⟩
  · cases hy
    cases rp_of (by intro l z; cases z) hx with
    | tup h1 h2 =>
      obtain ⟨v, e1, e2⟩ := atI_rps h2 h
      exact .inr (.inl ⟨_, _, _, v, rfl, rfl, Evl.ex_t r.ex h1, e1, r.flat q e2⟩)
  · cases h
theorem den_ix {e1 e2 : Expr} {pos : Pos} {a b c : En} {o1 o2 : Bool} {d1 d2 d : D} (hs : isSlice e2 = false) (h1 : Den X β e1 a o1 d1 b) (h2 : Den X β e2 b o2 d2 c) (h : ixD d1 d2 = some d) : Den X β (.Subscript e1 e2 pos) a false d c := by
  intro G H ρ σ Q r0 q
  refine ⟨_, pe_ix ix_seq pe_w pe_w (ix_ok hs), h1 G H ρ σ _ r0 fun x G1 H1 ρ1 f1 r1 x1 => h2.fz G1 H1 ρ1 σ _ r1 fun y G2 H2 ρ2 f2 r2 x2 => ?_⟩
  exact rIx_ok r2 (x1.keep f2) x2 h (Kn.at q (f1.trans f2))
theorem den_ixN {x : Str} {e2 : Expr} {pos ps : Pos} {a b : En} {o2 : Bool} {d2 d : D} {i : Nat} {l l' : List D} (hN : X.N[i]? = some x) (hv : Vis X.env.scope x) (hd : (x == ("__debug__" : Str)) = false) (hcd : (x == ("__classdict__" : Str)) = false)
    (hs : isSlice e2 = false) (hl : slotL a i = some l) (h2 : Den X β e2 a o2 d2 b) (hl' : slotL b i = some l') (h : ixD (.list l') d2 = some d) : Den X β (.Subscript (.Name x ps) e2 pos) a false d b := by
  intro G H ρ σ Q r0 q
  obtain ⟨p, vs, p1, p2, p3, p4⟩ := r0.ownAt hl
  refine ⟨_, pe_ix ix_seq pe_w pe_w (ix_ok hs), peek hN hv hd hcd p1 (h2.fz G H ρ σ _ r0 fun y G2 H2 ρ2 f2 r2 x2 => ?_)⟩
  obtain ⟨p', vs', p1', p2', p3', p4'⟩ := r2.ownAt hl'
  rw [p1] at p1'
  cases p1'
  exact rIx_ok (o := true) r2 ⟨p, l', vs', rfl, rfl, p2', p3'⟩ x2 h (Kn.at q f2)

/-! ### a[lo:hi] -/
def DenO (X : Cx) (β : Option Addr) (e : Option Expr) (a : En) (i : Option Int) (b : En) : Prop :=
  ∀ (G H : Hp) (ρ : Own) (σ : L2.St) (Q : Option Int → Hp → Prop), R X.K β G H ρ σ a →
    (∀ G' H' ρ', Fr G H ρ G' H' ρ' → R X.K β G' H' ρ' σ b → Q i H') → wO X e σ H Q
theorem deno_none {a : En} : DenO X β none a none a := fun G H ρ σ Q r q => ⟨_, po_none, q G H ρ .refl r⟩
theorem deno_some {e : Expr} {a b : En} {o : Bool} {i : Int} (h : Den X β e a o (.int i) b) : DenO X β (some e) a (some i) b := fun G H ρ σ Q r q =>
  ⟨_, po_some pe_w, h.fz G H ρ σ _ r fun v G1 H1 ρ1 f1 r1 x1 => by cases (show Rp X.K G1 v (.int i) from x1); exact ⟨i, rfl, q G1 H1 ρ1 f1 r1⟩⟩
def slD : D → Option Int → Option Int → Option (Bool × D)
  | .list l, lo, hi => some (true, .list (cutD l lo hi))
  | .tuple l, lo, hi => some (false, .tuple (cutD l lo hi))
  | .dict [(.none, .list l)], lo, hi => some (true, .list (cutD l lo hi))
  | _, _, _ => none
def rCut (K : PySem.W.Frag) : V → Option Int → Option Int → Hp → VK → Prop := fun x lo hi H Q => rSlL K x lo hi H Q ∨ rSlA K x lo hi H Q
theorem sl_cut : L2.SlR X (rCut X.K) := sl_list.or sl_tupA
theorem cut_whole {l : List D} {lo hi : Option Int} (h1 : HT.sIx l.length 0 lo = 0) (h2 : HT.sIx l.length l.length hi = l.length) : cutD l lo hi = l := by
  unfold cutD
  rw [h1, h2, List.drop_zero, Nat.sub_zero, List.take_length]
theorem rCut_ok {G H : Hp} {σ : L2.St} {b : En} {x : V} {d1 d : D} {o1 o : Bool} {lo hi : Option Int} {Q : VK} (r : R X.K β G H ρ σ b) (hx : VL X.K G H x d1 o1) (h : slD d1 lo hi = some (o, d)) (q : Kn X.K β G H ρ σ b o d Q) : rCut X.K x lo hi H Q := by
  unfold slD at h
  split at h
  · cases h
    obtain ⟨p, vs, rfl, h1, h2⟩ := rd_of r.ex hx
    exact .inl ⟨p, vs, rfl, .inl h1, r.newL (cut_rps lo hi h2) q⟩
  · cases h
    cases rp_of (by intro l z; cases z) hx with
    | tup h1 h2 =>
      refine .inr ⟨_, _, rfl, Evl.ex_t r.ex h1, fun w => ?_, fun _ => r.newT (cut_rps lo hi h2) q⟩
      refine r.flat q ?_
      rw [h2.length] at w
      rw [cut_whole w.1 w.2]
      exact .tup h1 h2
  · cases h
    cases rp_of (by intro l z; cases z) hx with
    | scr h1 h2 => exact .inl ⟨_, _, rfl, Evl.ex_l r.ex h1, r.newL (cut_rps lo hi h2) q⟩
  · cases h
theorem den_sl {e1 : Expr} {lo hi : Option Expr} {pos p2 : Pos} {a b c c' : En} {o1 o : Bool} {d1 d : D} {i j : Option Int} (h1 : Den X β e1 a o1 d1 b) (h2 : DenO X β lo b i c) (h3 : DenO X β hi c j c') (h : slD d1 i j = some (o, d)) :
    Den X β (.Subscript e1 (.Slice lo hi none p2) pos) a o d c' := by
  intro G H ρ σ Q r0 q
  refine ⟨_, pe_slice sl_cut pe_w po_w po_w, h1 G H ρ σ _ r0 fun x G1 H1 ρ1 f1 r1 x1 => h2 G1 H1 ρ1 σ _ r1 fun G2 H2 ρ2 f2 r2 => h3 G2 H2 ρ2 σ _ r2 fun G3 H3 ρ3 f3 r3 => ?_⟩
  exact rCut_ok r3 (x1.keep (f2.trans f3)) h (Kn.at q ((f1.trans f2).trans f3))
theorem den_slN {x : Str} {lo hi : Option Expr} {pos p2 ps : Pos} {a b c : En} {o : Bool} {d : D} {i j : Option Int} {n : Nat} {l l' : List D} (hN : X.N[n]? = some x) (hv : Vis X.env.scope x) (hd : (x == ("__debug__" : Str)) = false) (hcd : (x == ("__classdict__" : Str)) = false)
    (hl : slotL a n = some l) (h2 : DenO X β lo a i b) (h3 : DenO X β hi b j c) (hl' : slotL c n = some l') (h : slD (.list l') i j = some (o, d)) : Den X β (.Subscript (.Name x ps) (.Slice lo hi none p2) pos) a o d c := by
  intro G H ρ σ Q r0 q
  obtain ⟨p, vs, p1, p2, p3, p4⟩ := r0.ownAt hl
  refine ⟨_, pe_slice sl_cut pe_w po_w po_w, peek hN hv hd hcd p1 (h2 G H ρ σ _ r0 fun G2 H2 ρ2 f2 r2 => h3 G2 H2 ρ2 σ _ r2 fun G3 H3 ρ3 f3 r3 => ?_)⟩
  obtain ⟨p', vs', p1', p2', p3', p4'⟩ := r3.ownAt hl'
  rw [p1] at p1'
  cases p1'
  exact rCut_ok (o1 := true) r3 ⟨p, l', vs', rfl, rfl, p2', p3'⟩ h (Kn.at q (f2.trans f3))

/-! ### built-in functions -/
inductive Bi where
  | len | int | abs | list | tuple | all | any | max | min | sum
  deriving DecidableEq
def allB : List D → Option (List Bool)
  | [] => some []
  | .bool b :: r => (allB r).map (b :: ·)
  | _ :: _ => none
def allI : List D → Option (List Int)
  | [] => some []
  | .int b :: r => (allI r).map (b :: ·)
  | _ :: _ => none
theorem allB_vs {vs : List V} {ds : List D} (h : Rps K G vs ds) : ∀ {bs : List Bool}, allB ds = some bs → vs = bs.map V.bl := by
  match vs, ds, h with
  | _, _, .nil => intro bs e; cases e; rfl
  | v :: vs, d :: ds, .cons h r =>
    intro bs e
    cases d with
    | bool b =>
      unfold allB at e
      cases z : allB ds with
      | none => rw [z] at e; cases e
      | some t =>
        rw [z] at e
        cases e
        cases h
        rw [allB_vs r z]
        rfl
    | _ => cases e
theorem allI_vs {vs : List V} {ds : List D} (h : Rps K G vs ds) : ∀ {bs : List Int}, allI ds = some bs → vs = bs.map V.int := by
  match vs, ds, h with
  | _, _, .nil => intro bs e; cases e; rfl
  | v :: vs, d :: ds, .cons h r =>
    intro bs e
    cases d with
    | int b =>
      unfold allI at e
      cases z : allI ds with
      | none => rw [z] at e; cases e
      | some t =>
        rw [z] at e
        cases e
        cases h
        rw [allI_vs r z]
        rfl
    | _ => cases e
def bltD : Bi → List D → Option (Bool × D)
  | .len, [.list l] => some (false, .int l.length)
  | .len, [.tuple l] => some (false, .int l.length)
  | .len, [.str x] => if szB x.length then some (false, .int x.length) else none
  | .int, [.int i] => some (false, .int i)
  | .int, [.bool b] => some (false, .int (if b then 1 else 0))
  | .abs, [.int i] => some (false, .int (if i < 0 then -i else i))
  | .list, [.list l] => some (true, .list l)
  | .list, [.tuple l] => some (true, .list l)
  | .tuple, [.list l] => some (false, .tuple l)
  | .tuple, [.tuple l] => some (false, .tuple l)
  | .all, [.list l] => (allB l).map fun bs => (false, .bool (bs.all id))
  | .any, [.list l] => (allB l).map fun bs => (false, .bool (bs.any id))
  | .max, [.int i, .int j] => some (false, .int (if j > i then j else i))
  | .min, [.int i, .int j] => some (false, .int (if j < i then j else i))
  | .max, [.list l] => (allI l).bind fun ns => ns.max?.map fun m => (false, .int m)
  | .sum, [.list l] => (allI l).map fun ns => (false, .int ns.sum)
  | _, _ => none
def biTab : List (Str × Bi) := [("len", .len), ("int", .int), ("abs", .abs), ("list", .list), ("tuple", .tuple), ("all", .all), ("any", .any), ("max", .max), ("min", .min), ("sum", .sum)]
def biOf (x : Str) : Option Bi := biTab.lookup x
theorem rps1 {vs : List V} {d : D} (h : Rps K G vs [d]) : ∃ v, vs = [v] ∧ Rp K G v d := by
  cases h with
  | cons h1 h2 => cases h2; exact ⟨_, rfl, h1⟩
theorem rps2 {vs : List V} {d d' : D} (h : Rps K G vs [d, d']) : ∃ v v', vs = [v, v'] ∧ Rp K G v d ∧ Rp K G v' d' := by
  cases h with
  | cons h1 h2 => obtain ⟨v, rfl, h3⟩ := rps1 h2; exact ⟨_, _, rfl, h1, h3⟩
end
end Fz
set_option Elab.async false
set_option linter.all false
set_option maxRecDepth 100000
set_option maxHeartbeats 4000000
/-! Fz, part F: calls of built-ins, isinstance, methods, tests. -/
namespace Fz
open PySem PySem.Spec PyProof.Rows L2
section
variable {X : Cx} {β : Option Addr}
def bootP (x : Str) : Bi → Prop
  | .len => bootBuiltins x = some (.builtin "len")
  | .int => bootBuiltins x = some (.type "int")
  | .abs => bootBuiltins x = some (.builtin "abs")
  | .list => bootBuiltins x = some (.type "list")
  | .tuple => bootBuiltins x = some (.type "tuple")
  | .all => bootBuiltins x = some (.builtin "all")
  | .any => bootBuiltins x = some (.builtin "any")
  | .max => bootBuiltins x = some (.builtin "max")
  | .min => bootBuiltins x = some (.builtin "min")
  | .sum => bootBuiltins x = some (.builtin "sum")
theorem boot_fun {x : Str} {k : Bi} (h : biOf x = some k) : x ≠ "__name__" ∧ (x == ("__debug__" : Str)) = false ∧ bootP x k := by
  have key : ∀ p ∈ biTab, p.1 ≠ ("__name__" : Str) ∧ (p.1 == ("__debug__" : Str)) = false ∧ bootP p.1 p.2 := by
    intro p hp
    simp only [biTab, List.mem_cons, List.not_mem_nil, or_false] at hp
    rcases hp with rfl | rfl | rfl | rfl | rfl | rfl | rfl | rfl | rfl | rfl <;> exact ⟨by decide, by decide, by unfold bootP; decide +kernel⟩
  exact key _ (PySem.mem_of_lookup h)
theorem den_blt {x : Str} {p pos : Pos} {e : Expr} {es : List Expr} {a b : En} {ds : List D} {o : Bool} {d : D} {k : Bi} (hs : (e :: es).all (fun e => !isStar e) = true) (hc : X.calm = true) (hg : Gl X x) (hm : X.mg x = none) (hk : biOf x = some k)
    (ha : DenA X β (e :: es) a ds b) (h : bltD k ds = some (o, d)) : Den X β (.Call (.Name x p) (e :: es) [] pos) a o d b := by
  obtain ⟨hn, hdb, hv⟩ := boot_fun hk
  unfold bltD at h
  split at h
  · cases h
    refine den_callB hs call_len_seq hg hm hv hn hdb ha fun G H ρ σ xs Q r hx q => ?_
    obtain ⟨v, rfl, h1⟩ := rps1 hx
    cases h1 with
    | lst h1 h2 => exact ⟨_, _, rfl, .inl (.inl (rd_ex r.ex h1)), by rw [h2.length]; exact r.flat q (.int _)⟩
  · cases h
    refine den_callB hs call_len_seq hg hm hv hn hdb ha fun G H ρ σ xs Q r hx q => ?_
    obtain ⟨v, rfl, h1⟩ := rps1 hx
    cases h1 with
    | tup h1 h2 => exact ⟨_, _, rfl, .inr (Evl.ex_t r.ex h1), by rw [h2.length]; exact r.flat q (.int _)⟩
  · split at h
    · rename_i hl
      cases h
      refine den_callB hs call_len_str hg hm hv hn hdb ha fun G H ρ σ xs Q r hx q => ?_
      obtain ⟨v, rfl, h1⟩ := rps1 hx
      cases h1
      exact ⟨_, rfl, len_okB hl, r.flat q (.int _)⟩
    · cases h
  · cases h
    refine den_callTy hs call_int1 hg hm hv hn hdb ha fun G H ρ σ xs Q r hx q => ?_
    obtain ⟨v, rfl, h1⟩ := rps1 hx
    cases h1
    exact .inl ⟨_, rfl, r.flat q (.int _)⟩
  · cases h
    refine den_callTy hs call_int1 hg hm hv hn hdb ha fun G H ρ σ xs Q r hx q => ?_
    obtain ⟨v, rfl, h1⟩ := rps1 hx
    cases h1
    exact .inr ⟨_, rfl, r.flat q (.int _)⟩
  · cases h
    refine den_callB hs call_abs hg hm hv hn hdb ha fun G H ρ σ xs Q r hx q => ?_
    obtain ⟨v, rfl, h1⟩ := rps1 hx
    cases h1
    exact ⟨_, rfl, r.flat q (.int _)⟩
  · cases h
    refine den_callTy hs call_list_of hg hm hv hn hdb ha fun G H ρ σ xs Q r hx q => ?_
    obtain ⟨v, rfl, h1⟩ := rps1 hx
    cases h1 with
    | lst h1 h2 => exact ⟨_, _, rfl, .inl (.inl (rd_ex r.ex h1)), r.newL h2 q⟩
  · cases h
    refine den_callTy hs call_list_of hg hm hv hn hdb ha fun G H ρ σ xs Q r hx q => ?_
    obtain ⟨v, rfl, h1⟩ := rps1 hx
    cases h1 with
    | tup h1 h2 => exact ⟨_, _, rfl, .inr (Evl.ex_t r.ex h1), r.newL h2 q⟩
  · cases h
    refine den_callTy hs call_tuple_of hg hm hv hn hdb ha fun G H ρ σ xs Q r hx q => ?_
    obtain ⟨v, rfl, h1⟩ := rps1 hx
    cases h1 with
    | lst h1 h2 => exact ⟨_, _, rfl, .inl ⟨.inl (rd_ex r.ex h1), r.newT h2 q⟩⟩
  · cases h
    refine den_callTy hs call_tuple_of hg hm hv hn hdb ha fun G H ρ σ xs Q r hx q => ?_
    obtain ⟨v, rfl, h1⟩ := rps1 hx
    cases h1 with
    | tup h1 h2 => exact ⟨_, _, rfl, .inr ⟨Evl.ex_t r.ex h1, r.flat q (.tup h1 h2)⟩⟩
  · rename_i l
    cases z : allB l with
    | none => rw [z] at h; cases h
    | some bs =>
      rw [z] at h
      cases h
      refine den_callB hs (cr_all hc) hg hm hv hn hdb ha fun G H ρ σ xs Q r hx q => ?_
      obtain ⟨v, rfl, h1⟩ := rps1 hx
      cases h1 with
      | lst h1 h2 =>
        rw [allB_vs h2 z] at h1
        exact ⟨_, bs, rfl, .inl (rd_ex r.ex h1), r.flat q (.bl _)⟩
  · rename_i l
    cases z : allB l with
    | none => rw [z] at h; cases h
    | some bs =>
      rw [z] at h
      cases h
      refine den_callB hs (cr_any hc) hg hm hv hn hdb ha fun G H ρ σ xs Q r hx q => ?_
      obtain ⟨v, rfl, h1⟩ := rps1 hx
      cases h1 with
      | lst h1 h2 =>
        rw [allB_vs h2 z] at h1
        exact ⟨_, bs, rfl, .inl (rd_ex r.ex h1), r.flat q (.bl _)⟩
  · cases h
    refine den_callB hs (call_max2 hc) hg hm hv hn hdb ha fun G H ρ σ xs Q r hx q => ?_
    obtain ⟨v, w, rfl, h1, h2⟩ := rps2 hx
    cases h1
    cases h2
    exact ⟨_, _, rfl, r.flat q (.int _)⟩
  · cases h
    refine den_callB hs (call_min2 hc) hg hm hv hn hdb ha fun G H ρ σ xs Q r hx q => ?_
    obtain ⟨v, w, rfl, h1, h2⟩ := rps2 hx
    cases h1
    cases h2
    exact ⟨_, _, rfl, r.flat q (.int _)⟩
  · rename_i l
    cases z : allI l with
    | none => rw [z] at h; cases h
    | some bs =>
      rw [z] at h
      have h : (bs.max?).map (fun m => (false, PyData.int m)) = some (o, d) := h
      rw [Option.map_eq_some_iff] at h
      obtain ⟨m, hm2, h⟩ := h
      cases h
      obtain ⟨m1, m2⟩ := List.max?_eq_some_iff.mp hm2
      refine den_callB hs (cr_max hc) hg hm hv hn hdb ha fun G H ρ σ xs Q r hx q => ?_
      obtain ⟨v, rfl, h1⟩ := rps1 hx
      cases h1 with
      | lst h1 h2 =>
        rw [allI_vs h2 z] at h1
        refine ⟨_, bs, rfl, .inl (rd_ex r.ex h1), List.length_pos_of_mem m1, fun m' k1 k2 => ?_⟩
        have e : m' = m := Int.le_antisymm (m2 _ k1) (k2 _ m1)
        subst e
        exact r.flat q (.int _)
  · rename_i l
    cases z : allI l with
    | none => rw [z] at h; cases h
    | some bs =>
      rw [z] at h
      cases h
      refine den_callB hs (cr_sum hc) hg hm hv hn hdb ha fun G H ρ σ xs Q r hx q => ?_
      obtain ⟨v, rfl, h1⟩ := rps1 hx
      cases h1 with
      | lst h1 h2 =>
        rw [allI_vs h2 z] at h1
        exact ⟨_, bs, rfl, .inl (rd_ex r.ex h1), r.flat q (.int _)⟩
  · cases h
/-- len of a name that owns a list -/
theorem den_lenN {x y : Str} {p pos py : Pos} {a : En} {i : Nat} {l : List D} (hg : Gl X x) (hm : X.mg x = none) (hk : biOf x = some .len) (hN : X.N[i]? = some y) (hv : Vis X.env.scope y) (hd : (y == ("__debug__" : Str)) = false) (hcd : (y == ("__classdict__" : Str)) = false)
    (hl : slotL a i = some l) : Den X β (.Call (.Name x p) [.Name y py] [] pos) a false (.int l.length) a := by
  obtain ⟨hn, hdb, hb⟩ := boot_fun hk
  intro G H ρ σ Q r0 q
  obtain ⟨p', vs, p1, p2, p3, p4⟩ := r0.ownAt hl
  refine ⟨_, pe_callB call_len_seq hg hm hb (pa_cons pe_w pa_nil) hn hdb, peek hN hv hd hcd p1 ?_⟩
  exact ⟨p', vs, rfl, .inl (.inl (.inl p2)), by rw [p3.length]; exact r0.flat q (.int _)⟩

/-! ### isinstance -/
def tyD : D → String
  | .none => "NoneType"
  | .bool _ => "bool"
  | .int _ => "int"
  | .str _ => "str"
  | .list _ => "list"
  | .tuple _ => "tuple"
  | .dict _ => "dict"
def noTag : D → Bool
  | .dict _ => false
  | _ => true
theorem tyx_of {K : PySem.W.Frag} {G H : Hp} {v : V} {d : D} (e : Ex G H) (hd : noTag d = true) (h : Rp K G v d) : TyX K H v (.type (tyD d)) := by
  cases h with
  | non => exact .base .non
  | bl b => exact .base (.bl b)
  | int i => exact .base (.int i)
  | str x => exact .base (.str x)
  | lst h1 h2 =>
    rcases rd_ex e h1 with z | ⟨o, z⟩
    · exact .base (.lst z)
    · exact .base (.frz z)
  | tup h1 h2 =>
    rcases Evl.ex_t e h1 with (z | ⟨o, z⟩) | ⟨o, its, n, z, c, _⟩
    · exact .base (.tup z)
    · exact .fTuple z
    · exact .kTuple z c
  | scr h1 h2 => cases hd
def isTy (a t : String) : Bool := a == t || (a == "bool" && t == "int")
def tyTab : List (Str × String) := [("int", "int"), ("bool", "bool"), ("str", "str"), ("list", "list"), ("tuple", "tuple")]
def tyOf (x : Str) : Option String := tyTab.lookup x
theorem ty_boot {x : Str} {t : String} (h : tyOf x = some t) : x ≠ "__name__" ∧ (x == ("__debug__" : Str)) = false ∧ bootBuiltins x = some (.type t) ∧ t ∈ ["int", "bool", "str", "list", "tuple"] := by
  have key : ∀ p ∈ tyTab, p.1 ≠ ("__name__" : Str) ∧ (p.1 == ("__debug__" : Str)) = false ∧ bootBuiltins p.1 = some (.type p.2) ∧ p.2 ∈ ["int", "bool", "str", "list", "tuple"] := by
    intro p hp
    simp only [tyTab, List.mem_cons, List.not_mem_nil, or_false] at hp
    rcases hp with rfl | rfl | rfl | rfl | rfl <;> exact ⟨by decide, by decide, by decide +kernel, by decide⟩
  exact key _ (PySem.mem_of_lookup h)
theorem kit_all {K : PySem.W.Frag} {d : D} {t : String} (h : t ∈ ["int", "bool", "str", "list", "tuple"]) : PySem.W.kitOne K (.type (tyD d)) (.type t) = some (isTy (tyD d) t) := by
  have key : ∀ a ∈ ["NoneType", "bool", "int", "str", "list", "tuple", "dict"], ∀ t ∈ ["int", "bool", "str", "list", "tuple"], kitB a t = some (isTy a t) := by decide +kernel
  exact kit_ty (key _ (by cases d <;> simp [tyD]) t h)
def isiD (d : D) (ts : List String) : Bool := ts.any fun t => isTy (tyD d) t
theorem kit_any {K : PySem.W.Frag} {d : D} : ∀ {ts : List String}, (∀ t ∈ ts, t ∈ ["int", "bool", "str", "list", "tuple"]) → PySem.W.kitAny K (.type (tyD d)) (ts.map Value.type) = some (isiD d ts)
  | [], _ => rfl
  | t :: ts, h => by
    refine kitAny_cons (kit_all (h t List.mem_cons_self)) (fun e => ?_) (fun e => ?_)
    · rw [kit_any (ts := ts) fun z hz => h z (List.mem_cons_of_mem _ hz)]
      unfold isiD
      rw [List.any_cons, e, Bool.false_or]
    · unfold isiD
      rw [List.any_cons, e, Bool.true_or]
/-- the classes that a name, or a tuple of names, stands for -/
def tyNames : List Expr → Option (List (Str × String))
  | [] => some []
  | .Name t _ :: r => match tyOf t, tyNames r with
    | some s, some l => some ((t, s) :: l)
    | _, _ => none
  | _ :: _ => none
theorem boot_isinstance : bootBuiltins "isinstance" = some (.builtin "isinstance") := by decide +kernel
theorem wA_types {σ : L2.St} : ∀ {es : List Expr} {l : List (Str × String)} {H : Hp} {Q : List V → Hp → Prop}, tyNames es = some l → (∀ p ∈ l, Gl X p.1 ∧ X.mg p.1 = none) → Q (l.map fun p => V.ty p.2) H → wA X es σ H Q
  | [], l, H, Q, h, _, q => by
    cases h
    exact ⟨_, pa_nil, q⟩
  | .Name t p :: r, l, H, Q, h, hg, q => by
    unfold tyNames at h
    cases z : tyOf t with
    | none => rw [z] at h; cases h
    | some s =>
      rw [z] at h
      cases z2 : tyNames r with
      | none => rw [z2] at h; cases h
      | some l' =>
        rw [z2] at h
        cases h
        obtain ⟨h1, h2, h3, h4⟩ := ty_boot z
        obtain ⟨g1, g2⟩ := hg (t, s) List.mem_cons_self
        refine ⟨_, pa_cons (pe_bltn (v := .ty s) g1 g2 h3 rfl h1 h2) pa_w, ?_⟩
        exact wA_types z2 (fun p hp => hg p (List.mem_cons_of_mem _ hp)) q
theorem vals_ty {ts : List String} : Paired ClsV (ts.map V.ty) (ts.map Value.type) := by
  induction ts with
  | nil => exact .nil
  | cons t ts ih => exact .cons (.ty t) ih
theorem den_isi1 {p pos pt : Pos} {e : Expr} {t : Str} {s : String} {a b : En} {o : Bool} {d : D} (hs : isStar e = false) (hg : Gl X "isinstance") (hm : X.mg "isinstance" = none) (h : tyOf t = some s) (h1 : Gl X t) (h2 : X.mg t = none) (hd : noTag d = true) (he : Den X β e a o d b) :
    Den X β (.Call (.Name "isinstance" p) [e, .Name t pt] [] pos) a false (.bool (isiD d [s])) b := by
  intro G H ρ σ Q r0 q
  obtain ⟨k1, k2, k3, k4⟩ := ty_boot h
  refine ⟨_, pe_callB call_isi hg hm boot_isinstance (pa_cons pe_w (pa_cons (pe_bltn (v := .ty s) h1 h2 k3 rfl k1 k2) pa_nil) (star_ok hs)) (by decide) (by decide) (star_ok hs), he.fz G H ρ σ _ r0 fun v G1 H1 ρ1 f1 r1 x1 => ?_⟩
  refine ⟨v, .ty s, .type (tyD d), .type s, isiD d [s], rfl, .ty s, tyx_of r1.ex hd x1, ?_, r1.flat (Kn.at q f1) (.bl _)⟩
  rw [kit_all k4]
  simp [isiD]
theorem den_isi {p pos pt : Pos} {k : Nat} {e : Expr} {es : List Expr} {l : List (Str × String)} {a b : En} {o : Bool} {d : D} (hs : isStar e = false) (hg : Gl X "isinstance") (hm : X.mg "isinstance" = none) (h : tyNames es = some l) (hl : l.length ≤ 100) (hall : ∀ p ∈ l, Gl X p.1 ∧ X.mg p.1 = none)
    (hty : ∀ p ∈ l, tyOf p.1 = some p.2) (hd : noTag d = true) (he : Den X β e a o d b) :
    Den X β (.Call (.Name "isinstance" p) [e, .Tuple es k pt] [] pos) a false (.bool (isiD d (l.map (·.2)))) b := by
  intro G H ρ σ Q r0 q
  refine ⟨_, pe_callB call_isiT hg hm boot_isinstance (pa_cons pe_w (pa_cons (pe_tup pa_w) pa_nil) (star_ok hs)) (by decide) (by decide) (star_ok hs), he.fz G H ρ σ _ r0 fun v G1 H1 ρ1 f1 r1 x1 => ?_⟩
  refine wA_types h hall ⟨len_ok (by rw [List.length_map]; omega), fun tp hp => ?_⟩
  have e2 : l.map (fun p => V.ty p.2) = (l.map (·.2)).map V.ty := by rw [List.map_map]; rfl
  refine ⟨v, tp, _, .type (tyD d), (l.map (·.2)).map Value.type, isiD d (l.map (·.2)), rfl, upd_same, by rw [e2]; exact vals_ty, tyx_of (r1.ex.trans (Evl.Ex.new hp)) hd x1, kit_any fun t ht => ?_, ?_⟩
  · obtain ⟨p, h1, rfl⟩ := List.mem_map.mp ht
    exact (ty_boot (hty p h1)).2.2.2
  · exact (r1.grow hp).flat (Kn.at q (f1.trans (.grow hp))) (.bl _)

/-! ### methods of a list that a name owns -/
theorem base_ok {x m : Str} {p : Pos} : attributeBase (.Name x p) m X.env (eval (.Name x p) X.env) = eval (.Name x p) X.env := rfl
section
variable {x m : Str} {px pa cp : Pos} {a b : En} {i : Nat} {l : List D}
theorem den_append {e : Expr} {o : Bool} {d : D} (hN : X.N[i]? = some x) (hv : Vis X.env.scope x) (hd : (x == ("__debug__" : Str)) = false) (hcd : (x == ("__classdict__" : Str)) = false) (hs : isStar e = false) (hln : (pa.endLine == cp.line) = true)
    (h0 : (slotL a i).isSome = true) (he : Den X β e a o d b) (hl : slotL b i = some l) (hz : l.length < 1000000) :
    Den X β (.Call (.Attribute (.Name x px) "append" pa) [e] [] cp) a false .none (putL b i (l ++ [d])) := by
  intro G H ρ σ Q r0 q
  obtain ⟨l0, h0⟩ := Option.isSome_iff_exists.mp h0
  obtain ⟨p, vs, p1, p2, p3, p4⟩ := r0.ownAt h0
  have st : starEach [e] X.env = (false, eval e X.env) :: starEach [] X.env := star_ok hs
  refine ⟨_, pe_bm PySem.F.plainAttrs_list PySem.F.slot_list_append PySem.F.type_list_append mt_append pe_w (pa_cons pe_w pa_nil st) base_ok (by rw [st]; rfl) hln st, peek hN hv hd hcd p1 ⟨.inl ⟨rfl, _, .inl (.inl p2)⟩, ?_⟩⟩
  refine he.fz G H ρ σ _ r0 fun v G1 H1 ρ1 f1 r1 x1 => ?_
  obtain ⟨p', vs', q1, q2, q3, q4⟩ := r1.ownAt hl
  rw [p1] at q1
  cases q1
  obtain ⟨r2, f2⟩ := r1.put hl p1 (q3.append (.cons (show Rp X.K G1 v d from x1) .nil))
  exact ⟨p, vs', v, rfl, rfl, q2, Nat.lt_of_lt_of_le (by rw [q3.length]; exact hz) (by decide), r2.flat (Kn.at q (f1.trans f2)) .non⟩
theorem den_pop {d : D} (hN : X.N[i]? = some x) (hv : Vis X.env.scope x) (hd : (x == ("__debug__" : Str)) = false) (hcd : (x == ("__classdict__" : Str)) = false) (hln : (pa.endLine == cp.line) = true)
    (hl : slotL a i = some l) (hz : l[l.length - 1]? = some d) : Den X β (.Call (.Attribute (.Name x px) "pop" pa) [] [] cp) a false d (putL a i l.dropLast) := by
  intro G H ρ σ Q r0 q
  obtain ⟨p, vs, p1, p2, p3, p4⟩ := r0.ownAt hl
  obtain ⟨v, v1, v2⟩ := p3.get hz
  refine ⟨_, pe_bm0 PySem.F.plainAttrs_list PySem.F.slot_list_pop PySem.F.type_list_pop mt_pop pe_w base_ok hln, peek hN hv hd hcd p1 ⟨.inl ⟨rfl, _, .inl (.inl p2)⟩, ?_⟩⟩
  obtain ⟨r2, f2⟩ := r0.put hl p1 p3.dropLast
  exact ⟨p, vs, v, rfl, rfl, p2, by rw [p3.length]; exact v1, r2.flat (Kn.at q f2) v2⟩
end

/-! ### tests -/
theorem dent_not {e : Expr} {pos : Pos} {a b : En} {k : Bool} (h : DenT X β e a k b) : DenT X β (.UnaryOp .Not e pos) a (!k) b := fun G H ρ σ Q r q => ⟨_, pt_not pt_w, h G H ρ σ _ r q⟩
def plainT : Expr → Bool
  | .UnaryOp .. | .BoolOp .. | .IfExp .. | .Compare .. => false
  | _ => true
theorem plainT_ok {e : Expr} (h : plainT e = true) (whole : Sem Value) : isTrue e X.env whole = (do let v ← whole; standAt e.pos; holding [v] (truthy v)) := by
  cases e <;> first | rfl | cases h
theorem dent_val {e : Expr} {a b : En} {o : Bool} {d : D} {k : Bool} (hp : plainT e = true) (h : Den X β e a o d b) (hk : truD d = some k) : DenT X β e a k b := fun G H ρ σ Q r q =>
  ⟨_, pt_truth pe_w (plainT_ok hp), h G H ρ σ _ r fun v G1 H1 ρ1 f1 r1 x1 => ⟨k, tru_of r1.ex (x1.keep .refl) hk, q G1 H1 ρ1 f1 r1⟩⟩
theorem dent_own {x : Str} {px : Pos} {a : En} {i : Nat} {l : List D} (hN : X.N[i]? = some x) (hv : Vis X.env.scope x) (hd : (x == ("__debug__" : Str)) = false) (hcd : (x == ("__classdict__" : Str)) = false) (hl : slotL a i = some l) : DenT X β (.Name x px) a (!l.isEmpty) a := by
  intro G H ρ σ Q r q
  obtain ⟨p, vs, p1, p2, p3, p4⟩ := r.ownAt hl
  exact ⟨_, pt_truth pe_w (plainT_ok rfl), peek hN hv hd hcd p1 ⟨_, .inl ⟨vs, .inl (.inl p2), by rw [rps_empty p3]⟩, q G H ρ .refl r⟩⟩
theorem dent_cmp {op : CmpOp} {r : R2} {l e : Expr} {pos : Pos} {a b c : En} {o1 o2 : Bool} {d1 d2 : D} {k : Bool} (hm : isSet e = false) (ho : OpR X (compareOp op) r) (h1 : Den X β l a o1 d1 b) (h2 : Den X β e b o2 d2 c) (hv : V2 X β c r o1 d1 d2 false (.bool k)) :
    DenT X β (.Compare l [op] [e] pos) a k c := by
  intro G H ρ σ Q r0 q
  refine ⟨_, pt_cmpR ho pe_w pe_w (mark_ok hm), h1 G H ρ σ _ r0 fun x G1 H1 ρ1 f1 r1 x1 => h2.fz G1 H1 ρ1 σ _ r1 fun y G2 H2 ρ2 f2 r2 x2 => ?_⟩
  refine hv G2 H2 ρ2 σ x y _ r2 (x1.keep f2) x2 fun v G' H' ρ' f' r' x' => ?_
  cases (show Rp X.K G' v (.bool k) from x')
  exact ⟨k, rfl, q G' H' ρ' ((f1.trans f2).trans f') r'⟩
theorem op_any {f : Value → Value → Sem Value} : OpR X f (fun _ _ _ _ => False) := fun _ _ _ _ _ _ _ _ _ _ _ _ h => h.elim
theorem den_chain {op op' : CmpOp} {r r' : R2} {l e e' : Expr} {pos : Pos} {a b c d0 : En} {o1 o2 o3 : Bool} {d1 d2 d3 : D} {k k2 : Bool} (hm : isSet e' = false) (ho : OpR X (compareOp op) r) (ho' : OpR X (compareOp op') r') (h1 : Den X β l a o1 d1 b) (h2 : Den X β e b o2 d2 c) (hv : V2 X β c r o1 d1 d2 false (.bool k))
    (h3 : k = true → Den X β e' c o3 d3 d0 ∧ V2 X β d0 r' false d2 d3 false (.bool k2)) : Den X β (.Compare l [op, op'] [e, e'] pos) a false (.bool (if k then k2 else false)) (if k then d0 else c) := by
  intro G H ρ σ Q r0 q
  refine ⟨_, pe_chain ho ho' pe_w pe_w pe_w (mark_ok hm), h1 G H ρ σ _ r0 fun x G1 H1 ρ1 f1 r1 x1 => h2.fz G1 H1 ρ1 σ _ r1 fun y G2 H2 ρ2 f2 r2 x2 => ?_⟩
  refine hv G2 H2 ρ2 σ x y _ r2 (x1.keep f2) x2 fun v G3 H3 ρ3 f3 r3 x3 => ?_
  cases (show Rp X.K G3 v (.bool k) from x3)
  refine ⟨k, rfl, ?_⟩
  cases k with
  | false =>
    rw [if_neg (by simp)]
    exact q (.bl false) G3 H3 ρ3 ((f1.trans f2).trans f3) r3 (.bl false)
  | true =>
    rw [if_pos rfl]
    obtain ⟨h4, hv2⟩ := h3 rfl
    exact h4.fz G3 H3 ρ3 σ _ r3 fun z G4 H4 ρ4 f4 r4 x4 => hv2 G4 H4 ρ4 σ y z Q r4 (Rp.mono (f3.trans f4).ex x2) x4 (Kn.at q (((f1.trans f2).trans f3).trans f4))
theorem dent_chain {op op' : CmpOp} {r r' : R2} {l e e' : Expr} {pos : Pos} {a b c d0 : En} {o1 o2 o3 : Bool} {d1 d2 d3 : D} {k k2 : Bool} (hm : isSet e' = false) (ho : OpR X (compareOp op) r) (ho' : OpR X (compareOp op') r') (h1 : Den X β l a o1 d1 b) (h2 : Den X β e b o2 d2 c) (hv : V2 X β c r o1 d1 d2 false (.bool k))
    (h3 : k = true → Den X β e' c o3 d3 d0 ∧ V2 X β d0 r' false d2 d3 false (.bool k2)) : DenT X β (.Compare l [op, op'] [e, e'] pos) a (if k then k2 else false) (if k then d0 else c) := by
  intro G H ρ σ Q r0 q
  refine ⟨_, pt_chain ho ho' pe_w pe_w pe_w (mark_ok hm), h1 G H ρ σ _ r0 fun x G1 H1 ρ1 f1 r1 x1 => h2.fz G1 H1 ρ1 σ _ r1 fun y G2 H2 ρ2 f2 r2 x2 => ?_⟩
  refine hv G2 H2 ρ2 σ x y _ r2 (x1.keep f2) x2 fun v G3 H3 ρ3 f3 r3 x3 => ?_
  cases (show Rp X.K G3 v (.bool k) from x3)
  refine ⟨k, rfl, ?_⟩
  cases k with
  | false =>
    rw [if_neg (by simp)]
    exact ⟨false, rfl, q G3 H3 ρ3 ((f1.trans f2).trans f3) r3⟩
  | true =>
    rw [if_pos rfl]
    obtain ⟨h4, hv2⟩ := h3 rfl
    refine h4.fz G3 H3 ρ3 σ _ r3 fun z G4 H4 ρ4 f4 r4 x4 => hv2 G4 H4 ρ4 σ y z _ r4 (Rp.mono (f3.trans f4).ex x2) x4 fun w G5 H5 ρ5 f5 r5 x5 => ?_
    cases (show Rp X.K G5 w (.bool k2) from x5)
    exact ⟨k2, rfl, q G5 H5 ρ5 ((((f1.trans f2).trans f3).trans f4).trans f5) r5⟩
/-- and, or, as tests: from the first operand on -/
theorem dent_bool1 {op : BoolOp} {e : Expr} {pos : Pos} {a b : En} {k : Bool} (h : DenT X β e a k b) : ∀ G H ρ σ Q, R X.K β G H ρ σ a → (∀ G' H' ρ', Fr G H ρ G' H' ρ' → R X.K β G' H' ρ' σ b → Q k H') → wW X (.BoolOp op [e] pos) σ H Q := fun G H ρ σ Q r q => by
  cases op with
  | And => exact ⟨_, pw_and1 pt_w, h G H ρ σ _ r q⟩
  | Or => exact ⟨_, pw_or1 pt_w, h G H ρ σ _ r q⟩
def DenW (X : Cx) (β : Option Addr) (e : Expr) (a : En) (k : Bool) (b : En) : Prop :=
  ∀ (G H : Hp) (ρ : Own) (σ : L2.St) (Q : Bool → Hp → Prop), R X.K β G H ρ σ a →
    (∀ G' H' ρ', Fr G H ρ G' H' ρ' → R X.K β G' H' ρ' σ b → Q k H') → wW X e σ H Q
theorem DenW.t {e : Expr} {a b : En} {k : Bool} (h : DenW X β e a k b) : DenT X β e a k b := fun G H ρ σ Q r q => ⟨_, PW.pt pw_w, h G H ρ σ _ r q⟩
/-- the first operand decides -/
theorem denw_short {op : BoolOp} {e e2 : Expr} {es : List Expr} {pos : Pos} {a b : En} {k : Bool} (h : DenT X β e a k b) (hk : k = match op with | .And => false | .Or => true) : DenW X β (.BoolOp op (e :: e2 :: es) pos) a k b := fun G H ρ σ Q r q => by
  cases op with
  | And =>
    have hk : k = false := hk
    subst hk
    exact ⟨_, pw_and pt_w pw_w, h G H ρ σ _ r fun G1 H1 ρ1 f1 r1 => by show Q false H1; exact q G1 H1 ρ1 f1 r1⟩
  | Or =>
    have hk : k = true := hk
    subst hk
    exact ⟨_, pw_or pt_w pw_w, h G H ρ σ _ r fun G1 H1 ρ1 f1 r1 => by show Q true H1; exact q G1 H1 ρ1 f1 r1⟩
theorem denw_on {op : BoolOp} {e e2 : Expr} {es : List Expr} {pos : Pos} {a b c : En} {k k2 : Bool} (h : DenT X β e a k b) (hk : k = match op with | .And => true | .Or => false) (h2 : DenW X β (.BoolOp op (e2 :: es) pos) b k2 c) : DenW X β (.BoolOp op (e :: e2 :: es) pos) a k2 c := fun G H ρ σ Q r q => by
  cases op with
  | And =>
    have hk : k = true := hk
    subst hk
    exact ⟨_, pw_and pt_w pw_w, h G H ρ σ _ r fun G1 H1 ρ1 f1 r1 => by
      show wW X _ σ H1 Q
      exact h2 G1 H1 ρ1 σ Q r1 fun G2 H2 ρ2 f2 r2 => q G2 H2 ρ2 (f1.trans f2) r2⟩
  | Or =>
    have hk : k = false := hk
    subst hk
    exact ⟨_, pw_or pt_w pw_w, h G H ρ σ _ r fun G1 H1 ρ1 f1 r1 => by
      show wW X _ σ H1 Q
      exact h2 G1 H1 ρ1 σ Q r1 fun G2 H2 ρ2 f2 r2 => q G2 H2 ρ2 (f1.trans f2) r2⟩
/-! .. as values that are bools -/
theorem den_bool1 {op : BoolOp} {e : Expr} {pos : Pos} {a b : En} {o : Bool} {d : D} (h : Den X β e a o d b) : Den X β (.BoolOp op [e] pos) a o d b := fun G H ρ σ Q r q => ⟨_, pe_one pe_w, h G H ρ σ _ r q⟩
theorem den_short {op : BoolOp} {e e2 : Expr} {es : List Expr} {pos : Pos} {a b : En} {o : Bool} {d : D} {k : Bool} (h : Den X β e a o d b) (ht : truD d = some k) (hk : k = match op with | .And => false | .Or => true) : Den X β (.BoolOp op (e :: e2 :: es) pos) a o d b := fun G H ρ σ Q r q => by
  cases op with
  | And =>
    have hk : k = false := hk
    subst hk
    exact ⟨_, pe_andT pe_w pe_w, h G H ρ σ _ r fun v G1 H1 ρ1 f1 r1 x1 => ⟨false, tru_of r1.ex (x1.keep .refl) ht, by show Q v H1; exact q v G1 H1 ρ1 f1 r1 x1⟩⟩
  | Or =>
    have hk : k = true := hk
    subst hk
    exact ⟨_, pe_orT pe_w pe_w, h G H ρ σ _ r fun v G1 H1 ρ1 f1 r1 x1 => ⟨true, tru_of r1.ex (x1.keep .refl) ht, by show Q v H1; exact q v G1 H1 ρ1 f1 r1 x1⟩⟩
theorem den_on {op : BoolOp} {e e2 : Expr} {es : List Expr} {pos : Pos} {a b c : En} {o o2 : Bool} {d d2 : D} {k : Bool} (h : Den X β e a o d b) (ht : truD d = some k) (hk : k = match op with | .And => true | .Or => false) (h2 : Den X β (.BoolOp op (e2 :: es) pos) b o2 d2 c) :
    Den X β (.BoolOp op (e :: e2 :: es) pos) a o2 d2 c := fun G H ρ σ Q r q => by
  cases op with
  | And =>
    have hk : k = true := hk
    subst hk
    refine ⟨_, pe_andT pe_w pe_w, h G H ρ σ _ r fun v G1 H1 ρ1 f1 r1 x1 => ⟨true, tru_of r1.ex (x1.keep .refl) ht, ?_⟩⟩
    show wE X _ σ H1 Q
    exact h2 G1 H1 ρ1 σ Q r1 (Kn.at q f1)
  | Or =>
    have hk : k = false := hk
    subst hk
    refine ⟨_, pe_orT pe_w pe_w, h G H ρ σ _ r fun v G1 H1 ρ1 f1 r1 x1 => ⟨false, tru_of r1.ex (x1.keep .refl) ht, ?_⟩⟩
    show wE X _ σ H1 Q
    exact h2 G1 H1 ρ1 σ Q r1 (Kn.at q f1)
theorem den_not {e : Expr} {pos : Pos} {a b : En} {o : Bool} {d : D} {k : Bool} (h : Den X β e a o d b) (ht : truD d = some k) : Den X β (.UnaryOp .Not e pos) a false (.bool (!k)) b := fun G H ρ σ Q r q =>
  ⟨_, pe_notT pe_w, h G H ρ σ _ r fun v G1 H1 ρ1 f1 r1 x1 => ⟨k, tru_of r1.ex (x1.keep .refl) ht, r1.flat (Kn.at q f1) (.bl _)⟩⟩
theorem den_neg {e : Expr} {pos : Pos} {a b : En} {o : Bool} {i : Int} (h : Den X β e a o (.int i) b) : Den X β (.UnaryOp .USub e pos) a false (.int (-i)) b :=
  den_un un_neg h fun G H ρ σ x Q r hx q => by
    cases hx
    exact ⟨i, rfl, r.flat q (.int _)⟩
theorem den_if {t e1 e2 : Expr} {pos : Pos} {a b c : En} {k : Bool} {o : Bool} {d : D} (h : DenT X β t a k b) (h1 : Den X β (if k then e1 else e2) b o d c) : Den X β (.IfExp t e1 e2 pos) a o d c := fun G H ρ σ Q r q => by
  refine ⟨_, pe_ifExp pt_w pe_w pe_w, h G H ρ σ _ r fun G1 H1 ρ1 f1 r1 => ?_⟩
  cases k with
  | true => exact h1 G1 H1 ρ1 σ Q r1 (Kn.at q f1)
  | false => exact h1 G1 H1 ρ1 σ Q r1 (Kn.at q f1)
end
end Fz
set_option Elab.async false
set_option linter.all false
set_option maxRecDepth 100000
set_option maxHeartbeats 4000000
/-! Fz, part G: what is walked: enumerate and zip over lists and tuples, from any count. -/
namespace Fz
open PySem PySem.Spec PyProof.Rows L2

/-! ### a list (true) or a tuple (false) that is read -/
def SqX (K : PySem.W.Frag) (H : Hp) (a : Addr) (xs : List V) : Bool → Prop
  | true => SqL K H a xs
  | false => SqT K H a xs
def isX (h : Heap) (a : Addr) (its : Array Value) : Bool → Prop
  | true => h.IsList a its
  | false => h.IsTuple a its
def itX (h : Heap) (it a : Addr) (i : Nat) : Bool → Prop
  | true => h.IsListIter it a i
  | false => h.IsTupleIter it a i
def obX (a : Addr) : Bool → Obj
  | true => { cls := .type "list_iterator", data := .fields #[.ref a, .int 0 0] }
  | false => { cls := .type "tuple_iterator", data := .fields #[.ref a, .int 0 0] }
section
variable {X : Cx} {pins : List (Addr × Obj)} {σ : L2.St} {H : Hp} {s : Shared} {a : Addr} {xs ys : List V}
theorem seqX (k : Bool) (I : Inv X pins σ H s) (h : SqX X.K H a xs k) : ∃ its : List Value, Vals xs its ∧ isX s.heap a its.toArray k ∧ xs.length ≤ sizeLine := by
  cases k with
  | true => obtain ⟨its, r, p, z⟩ := I.list h; exact ⟨its, r, p.isList, z⟩
  | false => exact I.tuple h
theorem injX (k : Bool) (I : Inv X pins σ H s) (h : SqX X.K H a xs k) (h' : SqX X.K H a ys k) : xs = ys := by
  cases k with
  | true => exact I.list_inj h h'
  | false => exact I.tuple_inj h h'
theorem isX_lt (k : Bool) {h : Heap} {its : Array Value} (p : isX h a its k) : a < h.objs.size := by
  cases k with
  | true => obtain ⟨o, ho, _⟩ := p; exact Heap.lt_size ho
  | false => obtain ⟨o, ho, _⟩ := p; exact Heap.lt_size ho
theorem drawsX {P : Program} {w : World} {A : Around} (k : Bool) (hh : A.handled = none) (it t : Addr) (hne : t ≠ it) (its : Array Value) : Draws P w A it [it, t] its.size (fun i v => its[i]? = some v) (fun i h => itX h it t i k ∧ isX h t its k) := by
  cases k with
  | true => exact Draws.list hh it t hne its
  | false => exact Draws.tuple hh it t hne its
theorem beginsX (k : Bool) (t : Addr) (its : Array Value) : Begins (.ref t) (obX t k) fun h => isX h t its k := by
  cases k with
  | true => exact begins_list t its
  | false => exact begins_tuple t its
theorem itX_new (k : Bool) {h : Heap} {it t : Addr} (e : h.get? it = some (obX t k)) : itX h it t 0 k := by
  cases k with
  | true => exact ⟨_, e, rfl, rfl⟩
  | false => exact ⟨_, e, rfl, rfl⟩
theorem itX_obj (k : Bool) {h : Heap} {it t : Addr} {i : Nat} (e : itX h it t i k) : ∃ o, h.get? it = some o ∧ ∀ v, o.data ≠ .cell v := by
  cases k with
  | true => obtain ⟨o, e, c, d⟩ := e; exact ⟨o, e, fun v z => by rw [d] at z; cases z⟩
  | false => obtain ⟨o, e, c, d⟩ := e; exact ⟨o, e, fun v z => by rw [d] at z; cases z⟩
theorem itX_at (k : Bool) {h h' : Heap} {it t : Addr} {i : Nat} (e : itX h it t i k) (q : ∀ o, h.get? it = some o → h'.get? it = some o) : itX h' it t i k := by
  cases k with
  | true => exact Heap.IsListIter.at e q
  | false => exact Heap.IsTupleIter.at e q
end

/-! ### enumerate(x, c) -/
def IteX (K : PySem.W.Frag) (k : Bool) (a : Addr) (c : Int) (n : Nat) : It :=
  ⟨fun i H => i < n ∧ ∃ xs : List V, SqX K H a xs k ∧ xs.length = n,
   fun i H v H' => ∃ T x, v = .ref T ∧ H T = none ∧ H' = upd H T (.tup [.int (c + (i : Nat)), x]) ∧ ∀ xs, SqX K H a xs k → xs[i]? = some x,
   fun i H => n ≤ i ∧ ∃ xs : List V, SqX K H a xs k ∧ xs.length = n⟩
theorem turn_enumX {P : Program} {w : World} {K : PySem.W.Frag} {elts : List Expr} {kk : Nat} {tpos : Pos} (k : Bool) (a e it : Addr) (c : Int) (n : Nat) (hei : e ≠ it) (hea : e ≠ a) (hai : a ≠ it) :
    Turn P w K (.Tuple elts kk tpos) (IteX K k a c n) [e, it] e (fun i h => i ≤ n ∧ (∃ old, IsEnum h e it (c + (i : Nat)) old) ∧ itX h it a i k) where
  mem := by simp
  obj := fun i h st b hb => by
    obtain ⟨_, ⟨old, he⟩, hit⟩ := st
    rcases List.mem_cons.mp hb with rfl | hb
    · exact ⟨_, he, fun v q => nomatch q⟩
    · rw [List.mem_singleton.mp hb]; exact itX_obj k hit
  keep := fun i h h' st q => let ⟨hn, ⟨old, he⟩, hit⟩ := st; ⟨hn, ⟨old, q e (by simp) _ he⟩, itX_at k hit fun o z => q it (by simp) o z⟩
  item := by
    intro X hP hw hK hc i pins s σ H E I hf st hg
    subst hP hw hK
    obtain ⟨_, ⟨old, he⟩, hit⟩ := st
    obtain ⟨hlt, xs, hq, hl⟩ := hg
    obtain ⟨its, rv, p, _⟩ := seqX k I hq
    have hl' := rv.length
    have W := WalksT.enumFrom (A := X.A) c (drawsX (P := X.prog) (w := X.w) (A := X.A.in1) k (I.ok.hd hc) it a hai its.toArray) e hei (by simp [hei, hea]) (by simp)
    refine W.item i s _ E (by rw [List.size_toArray]; omega) ⟨⟨old, he⟩, hit, p⟩ fun T vals h' tk hP hT hTup hMid hk => ?_
    refine ⟨_, rfl, W.go elts kk tpos i T _ _ E hMid fun h'' hSt hk2 => ?_⟩
    obtain ⟨t, u, hu, rfl⟩ := hP
    have hxs : i < xs.length := by omega
    obtain ⟨u', hu', ru⟩ := rv.get (List.getElem?_eq_getElem hxs)
    have hu0 : its[i]? = some u := by simpa using hu
    rw [hu'] at hu0
    cases hu0
    have hTup2 : h''.IsTuple T #[.int (c + (i : Int)) t, u] := by
      obtain ⟨o, h1, h2, h3⟩ := hTup
      exact ⟨o, hk2 T o (W.apart i T h' hMid) h1, h2, h3⟩
    have keep : ∀ b o, b ∉ [e, it] → s.heap.get? b = some o → h''.get? b = some o := fun b o hb z => hk2 b o hb (hk b o hb z)
    have I1 : Inv X pins σ (upd H T (.tup [.int (c + (i : Nat)), xs[i]])) { s with heap := h'', toks := tk } :=
      I.turnedNew keep hf hT ⟨by show 2 ≤ sizeLine; decide, [.int (c + (i : Int)) t, u], .cons ⟨_, rfl⟩ (.cons ru .nil), hTup2⟩
    refine ⟨.ref T, _, I1, rfl, ⟨T, xs[i], rfl, I.hok.fresh hT, rfl, fun ys hy => by rw [injX k I hy hq]; exact List.getElem?_eq_getElem hxs⟩, ⟨hlt, hSt.1, hSt.2.1⟩, fun b hb => ?_⟩
    have hbn := (hf b hb).1
    rw [upd_ne fun z => ?_]
    · exact hbn
    · exact W.apart i T h' hMid (z ▸ hb)
  done := by
    intro X hP hw hK hc i pins s σ H E I hf st hg
    subst hP hw hK
    obtain ⟨hle, ⟨old, he⟩, hit⟩ := st
    obtain ⟨hge, xs, hq, hl⟩ := hg
    have e1 : i = n := by omega
    subst e1
    obtain ⟨its, rv, p, _⟩ := seqX k I hq
    have hl' := rv.length
    have W := WalksT.enumFrom (A := X.A) c (drawsX (P := X.prog) (w := X.w) (A := X.A.in1) k (I.ok.hd hc) it a hai its.toArray) e hei (by simp [hei, hea]) (by simp)
    have e2 : its.toArray.size = i := by rw [List.size_toArray]; omega
    refine W.done s _ E (by rw [e2]; exact ⟨⟨old, he⟩, hit, p⟩) fun h' tk hk => ⟨rfl, I.turnedL hk hf⟩
  self := fun A i s Q E st h => let ⟨_, ⟨_, he⟩, _⟩ := st; wpAny_pyIter_enum he h
def iEnumX (K : PySem.W.Frag) (k : Bool) (ta : TA) : TI := fun σ H RR => ta σ H fun vs H1 => ∃ a c xs, vs = [.ref a, .int c] ∧ SqX K H1 a xs k ∧ -(2 ^ 63) ≤ c ∧ c < 2 ^ 63 ∧ RR (IteX K k a c xs.length) H1
theorem pi_enumX {X : Cx} {e e2 : Expr} {ta : TA} {p pos tpos : Pos} {elts : List Expr} {kk : Nat} (k : Bool) (hg : Gl X "enumerate") (hm : X.mg "enumerate" = none) (ha : PA X [e, e2] ta) (hs : starEach [e, e2] X.env = (false, eval e X.env) :: starEach [e2] X.env)
    (hpl : (backTo pos (starEach [e2] X.env)).any (·.1) = false) : PI X (.Tuple elts kk tpos) (.Call (.Name "enumerate" p) [e, e2] [] pos) (iEnumX X.K k ta) := by
  refine ⟨fun pins s σ H RR I h => ?_⟩
  refine Call_ (ld_blt I hg hm boot_enumerate (PyProof.Rows.callWith_type1 (thn (ha.run pos pins s σ H _ I h) fun us s1 ⟨vs, H1, I1, r1, q1⟩ => ?_) hs hpl))
  obtain ⟨a, c, xs, rfl, hq, c1, c2, q⟩ := q1
  obtain ⟨u1, u2, rfl, ru1, ru2⟩ := Vals.two r1
  cases ru1
  obtain ⟨t, rfl⟩ := ru2
  obtain ⟨its, rv, p', hz⟩ := seqX k I1 hq
  have la := isX_lt k p'
  refine enum_begins (beginsX k a its.toArray) p' c1 c2 fun h' he hob hsz hk => wpAny_pyIter_enum he ?_
  have I2 : Inv X pins σ H1 { s1 with heap := h' } := I1.kept (t' := s1.toks) hk
  refine ⟨s1.heap.objs.size + 1, [s1.heap.objs.size + 1, s1.heap.objs.size], _, _, H1, rfl, I2,
    turn_enumX k a (s1.heap.objs.size + 1) s1.heap.objs.size c xs.length (Nat.succ_ne_self _) (Nat.ne_of_gt (Nat.lt_succ_of_lt la)) (Nat.ne_of_lt la), ⟨Nat.zero_le _, ⟨.none, by rw [show c + ((0 : Nat) : Int) = c by omega]; exact he⟩, itX_new k hob⟩, fun b hb => ?_, q⟩
  have hle : s1.heap.objs.size ≤ b := by
    rcases List.mem_cons.mp hb with rfl | hb
    · exact Nat.le_succ _
    · rw [List.mem_singleton.mp hb]; exact Nat.le_refl _
  exact I1.fpOk hle (I1.hok.fresh hle)
/-! ### zip(x, y) -/
def ItzX (K : PySem.W.Frag) (k1 k2 : Bool) (a b : Addr) (n m : Nat) : It :=
  ⟨fun i H => i < min n m ∧ ∃ xs ys : List V, SqX K H a xs k1 ∧ SqX K H b ys k2 ∧ xs.length = n ∧ ys.length = m,
   fun i H v H' => ∃ T x y, v = .ref T ∧ H T = none ∧ H' = upd H T (.tup [x, y]) ∧ (∀ xs, SqX K H a xs k1 → xs[i]? = some x) ∧ ∀ ys, SqX K H b ys k2 → ys[i]? = some y,
   fun i H => min n m ≤ i ∧ ∃ xs ys : List V, SqX K H a xs k1 ∧ SqX K H b ys k2 ∧ xs.length = n ∧ ys.length = m⟩
structure Apart (z TI TO i1 i2 a b : Addr) : Prop where
  S : ZipSep2 z TI TO i1 i2 [i1, a] [i2, b]
  a1 : a ≠ i1
  b2 : b ≠ i2
theorem turn_zipX {P : Program} {w : World} {K : PySem.W.Frag} {elts : List Expr} {kk : Nat} {tpos : Pos} (k1 k2 : Bool) {z TI TO i1 i2 a b : Addr} (n m : Nat) (D : Apart z TI TO i1 i2 a b) :
    Turn P w K (.Tuple elts kk tpos) (ItzX K k1 k2 a b n m) [z, TI, TO, i1, i2] z (fun i h => i ≤ min n m ∧ IsZip h z TI TO .none ∧ IsTupOf2 h TI (.ref i1) (.ref i2) ∧ (∃ x y, IsTupOf2 h TO x y) ∧ itX h i1 a i k1 ∧ itX h i2 b i k2) where
  mem := by simp
  obj := fun i h st c hc => by
    obtain ⟨_, hz, hTI, ⟨x, y, hTO⟩, h1, h2⟩ := st
    simp only [List.mem_cons, List.not_mem_nil, or_false] at hc
    rcases hc with rfl | rfl | rfl | rfl | rfl
    · exact ⟨_, hz, fun v q => nomatch q⟩
    · exact ⟨_, hTI, fun v q => nomatch q⟩
    · exact ⟨_, hTO, fun v q => nomatch q⟩
    · exact itX_obj k1 h1
    · exact itX_obj k2 h2
  keep := fun i h h' st q => by
    obtain ⟨hn, hz, hTI, ⟨x, y, hTO⟩, h1, h2⟩ := st
    exact ⟨hn, q z (by simp) _ hz, q TI (by simp) _ hTI, ⟨x, y, q TO (by simp) _ hTO⟩, itX_at k1 h1 fun o e => q i1 (by simp) o e, itX_at k2 h2 fun o e => q i2 (by simp) o e⟩
  item := by
    intro X hP hw hK hc i pins s σ H E I hf st hg
    subst hP hw hK
    obtain ⟨_, hz, hTI, hTO, h1, h2⟩ := st
    obtain ⟨hlt, xs, ys, hqx, hqy, lx, ly⟩ := hg
    obtain ⟨its1, rv1, p1, _⟩ := seqX k1 I hqx
    obtain ⟨its2, rv2, p2, _⟩ := seqX k2 I hqy
    have l1 := rv1.length
    have l2 := rv2.length
    have W := WalksT.zipD2 (A := X.A) D.S (drawsX (P := X.prog) (w := X.w) (A := X.A.in1) k1 (I.ok.hd hc) i1 a D.a1 its1.toArray) (drawsX (P := X.prog) (w := X.w) (A := X.A.in1) k2 (I.ok.hd hc) i2 b D.b2 its2.toArray)
    refine W.item i s _ E (by rw [List.size_toArray, List.size_toArray]; omega) ⟨hz, hTI, hTO, ⟨h1, p1⟩, ⟨h2, p2⟩⟩ fun T vals h' tk hP hT hTup hMid hk => ?_
    refine ⟨_, rfl, W.go elts kk tpos i T _ _ E hMid fun h'' hSt hk2 => ?_⟩
    obtain ⟨u1, u2, hu1, hu2, rfl⟩ := hP
    have hx : i < xs.length := by omega
    have hy : i < ys.length := by omega
    obtain ⟨w1, e1, r1⟩ := rv1.get (List.getElem?_eq_getElem hx)
    obtain ⟨w2, e2, r2⟩ := rv2.get (List.getElem?_eq_getElem hy)
    have f1 : its1[i]? = some u1 := by simpa using hu1
    have f2 : its2[i]? = some u2 := by simpa using hu2
    rw [e1] at f1
    rw [e2] at f2
    obtain rfl : w1 = u1 := Option.some.inj f1
    obtain rfl : w2 = u2 := Option.some.inj f2
    have hTup2 : h''.IsTuple T #[w1, w2] := by
      obtain ⟨o, g1, g2, g3⟩ := hTup
      exact ⟨o, hk2 T o (W.apart i T h' hMid) g1, g2, g3⟩
    have sub : ∀ c, c ∉ [z, TI, TO, i1, i2] → c ∉ [z, TO, i1, i2] := fun c hn hm => hn (by
      simp only [List.mem_cons, List.not_mem_nil, or_false] at hm ⊢
      rcases hm with q | q | q | q <;> simp [q])
    have keep : ∀ c o, c ∉ [z, TI, TO, i1, i2] → s.heap.get? c = some o → h''.get? c = some o := fun c o hb q => hk2 c o (sub c hb) (hk c o (sub c hb) q)
    have I1 : Inv X pins σ (upd H T (.tup [xs[i], ys[i]])) { s with heap := h'', toks := tk } :=
      I.turnedNew keep hf hT ⟨by show 2 ≤ sizeLine; decide, [w1, w2], .cons r1 (.cons r2 .nil), hTup2⟩
    refine ⟨.ref T, _, I1, rfl, ⟨T, xs[i], ys[i], rfl, I.hok.fresh hT, rfl, fun l hy => by rw [injX k1 I hy hqx]; exact List.getElem?_eq_getElem hx, fun l hl => by rw [injX k2 I hl hqy]; exact List.getElem?_eq_getElem hy⟩,
      ⟨hlt, hSt.1, hSt.2.1, hSt.2.2.1, hSt.2.2.2.1.1, hSt.2.2.2.2.1⟩, fun c hcm => ?_⟩
    have hlT : c < s.heap.objs.size := by
      simp only [List.mem_cons, List.not_mem_nil, or_false] at hcm
      rcases hcm with q | q | q | q | q
      · rw [q]; exact Heap.lt_size hz
      · rw [q]; exact Heap.lt_size hTI
      · rw [q]; obtain ⟨x, y, hTO⟩ := hTO; exact Heap.lt_size hTO
      · rw [q]; obtain ⟨o, h, _⟩ := itX_obj k1 h1; exact Heap.lt_size h
      · rw [q]; obtain ⟨o, h, _⟩ := itX_obj k2 h2; exact Heap.lt_size h
    rw [upd_ne (Nat.ne_of_lt (Nat.lt_of_lt_of_le hlT hT))]
    exact (hf c hcm).1
  done := by
    intro X hP hw hK hc i pins s σ H E I hf st hg
    subst hP hw hK
    obtain ⟨hle, hz, hTI, hTO, h1, h2⟩ := st
    obtain ⟨hge, xs, ys, hqx, hqy, lx, ly⟩ := hg
    have e1 : i = min n m := by omega
    obtain ⟨its1, rv1, p1, _⟩ := seqX k1 I hqx
    obtain ⟨its2, rv2, p2, _⟩ := seqX k2 I hqy
    have l1 := rv1.length
    have l2 := rv2.length
    have W := WalksT.zipD2 (A := X.A) D.S (drawsX (P := X.prog) (w := X.w) (A := X.A.in1) k1 (I.ok.hd hc) i1 a D.a1 its1.toArray) (drawsX (P := X.prog) (w := X.w) (A := X.A.in1) k2 (I.ok.hd hc) i2 b D.b2 its2.toArray)
    have e2 : min its1.toArray.size its2.toArray.size = i := by rw [List.size_toArray, List.size_toArray]; omega
    have sub : ∀ c, c ∉ [z, TI, TO, i1, i2] → c ∉ [z, TO, i1, i2] := fun c hn hm => hn (by
      simp only [List.mem_cons, List.not_mem_nil, or_false] at hm ⊢
      rcases hm with q | q | q | q <;> simp [q])
    exact W.done s _ E (by rw [e2]; exact ⟨hz, hTI, hTO, ⟨h1, p1⟩, ⟨h2, p2⟩⟩) fun h' tk hk => ⟨rfl, I.turnedL (fun c o hb q => hk c o (sub c hb) q) hf⟩
  self := fun A i s Q E st h => wpAny_pyIter_zip st.2.1 h
def iZipX (K : PySem.W.Frag) (k1 k2 : Bool) (ta : TA) : TI := fun σ H RR => ta σ H fun vs H1 => ∃ a b xs ys, vs = [.ref a, .ref b] ∧ SqX K H1 a xs k1 ∧ SqX K H1 b ys k2 ∧ RR (ItzX K k1 k2 a b xs.length ys.length) H1
theorem pi_zipX {X : Cx} {e e2 : Expr} {ta : TA} {p pos tpos : Pos} {elts : List Expr} {kk : Nat} (k1 k2 : Bool) (hg : Gl X "zip") (hm : X.mg "zip" = none) (ha : PA X [e, e2] ta) (hs : starEach [e, e2] X.env = (false, eval e X.env) :: starEach [e2] X.env)
    (hpl : (backTo pos (starEach [e2] X.env)).any (·.1) = false) : PI X (.Tuple elts kk tpos) (.Call (.Name "zip" p) [e, e2] [] pos) (iZipX X.K k1 k2 ta) := by
  refine ⟨fun pins s σ H RR I h => ?_⟩
  refine Call_ (ld_blt I hg hm PyProof.Rows.boot_zip (PyProof.Rows.callWith_type1 (thn (ha.run pos pins s σ H _ I h) fun us s1 ⟨vs, H1, I1, r1, q1⟩ => ?_) hs hpl))
  obtain ⟨a, b, xs, ys, rfl, hqx, hqy, q⟩ := q1
  obtain ⟨u1, u2, rfl, ru1, ru2⟩ := Vals.two r1
  cases ru1
  cases ru2
  obtain ⟨its1, rv1, p1, _⟩ := seqX k1 I1 hqx
  obtain ⟨its2, rv2, p2, _⟩ := seqX k2 I1 hqy
  have la := isX_lt k1 p1
  have lb := isX_lt k2 p2
  refine zip_begins2 (beginsX k1 a its1.toArray) (beginsX k2 b its2.toArray) p1 p2 fun h' hz hTI hTO h1 h2 hsz hk => wpAny_pyIter_zip hz ?_
  have I2 : Inv X pins σ H1 { s1 with heap := h' } := I1.kept (t' := s1.toks) hk
  have ap : Apart (s1.heap.objs.size + 4) (s1.heap.objs.size + 2) (s1.heap.objs.size + 3) s1.heap.objs.size (s1.heap.objs.size + 1) a b :=
    ⟨zip_sep2 (fun c hc => by rw [List.mem_singleton.mp hc]; exact la) (fun c hc => by rw [List.mem_singleton.mp hc]; exact lb), Nat.ne_of_lt la, Nat.ne_of_lt (Nat.lt_succ_of_lt lb)⟩
  refine ⟨s1.heap.objs.size + 4, [s1.heap.objs.size + 4, s1.heap.objs.size + 2, s1.heap.objs.size + 3, s1.heap.objs.size, s1.heap.objs.size + 1], _, _, H1, rfl, I2, turn_zipX k1 k2 xs.length ys.length ap, ⟨Nat.zero_le _, hz, hTI, ⟨_, _, hTO⟩, itX_new k1 h1, itX_new k2 h2⟩, fun c hcm => ?_, q⟩
  have hle : s1.heap.objs.size ≤ c := by
    simp only [List.mem_cons, List.not_mem_nil, or_false] at hcm
    rcases hcm with q | q | q | q | q <;> rw [q]
    · exact Nat.le_add_right _ _
    · exact Nat.le_add_right _ _
    · exact Nat.le_add_right _ _
    · exact Nat.le_refl _
    · exact Nat.le_add_right _ _
  exact I1.fpOk hle (I1.hok.fresh hle)
end Fz
set_option Elab.async false
set_option linter.all false
set_option maxRecDepth 100000
set_option maxHeartbeats 4000000
/-! Fz, part H: what is walked, as a list of data. -/
namespace Fz
open PySem PySem.Spec PyProof.Rows L2 AutoSeq1

/-! ### enumerate(x) of a list or a tuple -/
theorem enum_new_one {v : Value} {o : Obj} {P : Heap → Prop} (B : Begins v o P) :
    Meets (Builtin.«enumerate.__new__» ⟨[.type "enumerate", v], []⟩) (fun _ RR s => P s.heap ∧
      RR (.ok (.ret (.ref (s.heap.push o).objs.size))) { s with heap := (s.heap.push o).push { cls := .type "enumerate", data := .fields #[.none, .bool false, .ref s.heap.objs.size, rawInt 0, .none, .none] } }) :=
  .of_wp fun prog w A RR s h => by
    obtain ⟨hp, g, d, tk, os⟩ := s
    obtain ⟨h1, h⟩ := h
    have hsub := sub_enumerate
    have q1 : ∀ {A' : Around} {E : Value → Shared → Prop} {Q : Value → Shared → Prop}, Q (.ref hp.objs.size) ⟨hp.push o, g, d, tk, os⟩ → wpAny (model prog w) A' (pyIter v) Q E ⟨hp, g, d, tk, os⟩ :=
      fun q => B.iter prog w _ _ ⟨hp, g, d, tk, os⟩ _ h1 q
    wp_walk using q1
    refine wpAny_stack_any fun st => wpAny_pure ?_
    split
    · rename_i c _ _ _ _ _
      cases (c == Value.type "enumerate") <;> (wp_walk using q1) <;> exact ⟨_, rfl, h⟩
    · wp_walk using q1
      exact ⟨_, rfl, h⟩
theorem enum_one {prog : Program} {w : World} {A : Around} {E : Value → Shared → Prop} {s : Shared} {v : Value} {o : Obj} {P : Heap → Prop} {Q : Value → Shared → Prop} (B : Begins v o P) (h1 : P s.heap)
    (h : ∀ h', IsEnum h' (s.heap.objs.size + 1) s.heap.objs.size 0 .none → h'.get? s.heap.objs.size = some o → h'.objs.size = s.heap.objs.size + 2 →
      (∀ b o, s.heap.get? b = some o → h'.get? b = some o) → Q (.ref (s.heap.objs.size + 1)) { s with heap := h' }) :
    wpAny (model prog w) A (call (.type "enumerate") [v]) Q E s := by
  refine callType_new F.called_enumerate (by decide) (F.typeCall_enumerate_1 _) (F.newCall_enumerate_1 _) (fun obj => F.args_object_init_2 obj _) F.entry_enumerate_new (enum_new_one B) ⟨h1, ?_⟩
  have hz : (s.heap.push o).objs.size = s.heap.objs.size + 1 := Heap.size_push ..
  show _ ∧ _
  rw [hz]
  have he := Heap.get?_push_size (s.heap.push o) (o := { cls := .type "enumerate", data := .fields #[.none, .bool false, .ref s.heap.objs.size, rawInt 0, .none, .none] }) rfl
  rw [hz] at he
  exact ⟨⟨_, he, rfl⟩, h _ he (Heap.get?_push_of_some _ (Heap.get?_push_size _ B.free)) (by rw [Heap.size_push, hz]) fun b o x => Heap.get?_push_of_some _ (Heap.get?_push_of_some _ x)⟩
def iEnum1 (K : PySem.W.Frag) (k : Bool) (ta : TA) : TI := fun σ H RR => ta σ H fun vs H1 => ∃ a xs, vs = [.ref a] ∧ SqX K H1 a xs k ∧ RR (IteX K k a 0 xs.length) H1
theorem pi_enum1 {X : Cx} {e : Expr} {ta : TA} {p pos tpos : Pos} {elts : List Expr} {kk : Nat} (k : Bool) (hg : Gl X "enumerate") (hm : X.mg "enumerate" = none) (ha : PA X [e] ta) (hs : starEach [e] X.env = (false, eval e X.env) :: starEach [] X.env) :
    PI X (.Tuple elts kk tpos) (.Call (.Name "enumerate" p) [e] [] pos) (iEnum1 X.K k ta) := by
  refine ⟨fun pins s σ H RR I h => ?_⟩
  refine Call_ (ld_blt I hg hm boot_enumerate (PyProof.Rows.callWith_type1 (thn (ha.run pos pins s σ H _ I h) fun us s1 ⟨vs, H1, I1, r1, q1⟩ => ?_) hs rfl))
  obtain ⟨a, xs, rfl, hq, q⟩ := q1
  obtain ⟨u1, rfl, ru1⟩ := Vals.one r1
  cases ru1
  obtain ⟨its, rv, p', hz⟩ := seqX k I1 hq
  have la := isX_lt k p'
  refine enum_one (beginsX k a its.toArray) p' fun h' he hob hsz hk => wpAny_pyIter_enum he ?_
  have I2 : Inv X pins σ H1 { s1 with heap := h' } := I1.kept (t' := s1.toks) hk
  refine ⟨s1.heap.objs.size + 1, [s1.heap.objs.size + 1, s1.heap.objs.size], _, _, H1, rfl, I2,
    turn_enumX k a (s1.heap.objs.size + 1) s1.heap.objs.size 0 xs.length (Nat.succ_ne_self _) (Nat.ne_of_gt (Nat.lt_succ_of_lt la)) (Nat.ne_of_lt la), ⟨Nat.zero_le _, ⟨.none, by rw [show (0 : Int) + ((0 : Nat) : Int) = 0 by omega]; exact he⟩, itX_new k hob⟩, fun b hb => ?_, q⟩
  have hle : s1.heap.objs.size ≤ b := by
    rcases List.mem_cons.mp hb with rfl | hb
    · exact Nat.le_succ _
    · rw [List.mem_singleton.mp hb]; exact Nat.le_refl _
  exact I1.fpOk hle (I1.hok.fresh hle)

end Fz
set_option Elab.async false
set_option linter.all false
set_option maxRecDepth 100000
set_option maxHeartbeats 2000000
namespace Fz
open PySem PySem.Spec PyProof.Rows L2
open Sem (wp)
/-- a zip over two, whatever became of the last tuple that it gave out -/
def ZipG (h : Heap) (z TI TO : Addr) : Prop := ∃ f0 f1 : Value, h.get? z = some { cls := .type "zip", data := .fields #[f0, f1, .bool false, .ref TI, .ref TO] } ∧ (f0 = .none ∨ ∃ a : Nat, f0 = rawInt a)
abbrev ZipR (h : Heap) (z TI TO : Addr) (f0 f1 : Value) : Prop := h.get? z = some { cls := .type "zip", data := .fields #[f0, f1, .bool false, .ref TI, .ref TO] }
section
variable {prog : Program} {w : World} {A : Around} {E : Value → Shared → Prop} {s : Shared} {z TI TO i1 i2 : Addr} {fp1 fp2 : List Addr} {n1 n2 i : Nat} {P1 P2 : Nat → Value → Prop} {St1 St2 : Nat → Heap → Prop} {a1 a2 : Value}
theorem alive_any {a : Addr} {Q : Option Obj → Shared → Prop} (h : Q (s.heap.get? a) s) : wpAny (model prog w) A (loadIfAlive a) Q E s := fun _ _ _ => h
theorem zipG_slow {Q : Value → Shared → Prop} (S : ZipSep2 z TI TO i1 i2 fp1 fp2) (D1 : Draws prog w A i1 fp1 n1 P1 St1) (D2 : Draws prog w A i2 fp2 n2 P2 St2) {a : Nat} {f1 : Value} {o : Obj} (ha : s.heap.get? a = some o)
    (hz : ZipR s.heap z TI TO (rawInt a) f1) (hTI : IsTupOf2 s.heap TI (.ref i1) (.ref i2)) (hTO : IsTupOf2 s.heap TO a1 a2) (st1 : St1 i s.heap) (st2 : St2 i s.heap) (hlt1 : i < n1) (hlt2 : i < n2)
    (hQ : ∀ x1 x2 h' tk, P1 i x1 → P2 i x2 → ZipG h' z TI TO → (∃ b1 b2, IsTupOf2 h' TO b1 b2) → St1 (i + 1) h' → St2 (i + 1) h' → IsTupOf2 h' s.heap.objs.size x1 x2 → h'.objs.size = s.heap.objs.size + 1 →
      (∀ c o, c ≠ z → c ≠ TO → c ≠ i1 → c ≠ i2 → s.heap.get? c = some o → h'.get? c = some o) → Q (.ref s.heap.objs.size) { s with heap := h', toks := tk }) :
    wpAny (model prog w) A (Builtin.«zip.__next__» ⟨[.ref z], []⟩) (fun fin s' => ∃ v, fin = .done (.ret v) ∧ Q v s') E s := by
  obtain ⟨hp, g, d, tk0, os⟩ := s
  show wpAny _ _ (field (.ref z) 2 >>= _) _ _ _
  refine wpAny_bind (wpAny_field hz rfl (x := .bool false) rfl ?_)
  show wpAny _ _ (field (.ref z) 3 >>= _) _ _ _
  refine wpAny_bind (wpAny_field hz rfl (x := .ref TI) rfl ?_)
  refine wpAny_bind (wpAny_seqItems hTI rfl ?_)
  show wpAny _ _ (Builtin.SmallTypes.ownedTupleIsFree (.ref z) >>= _) _ _ _
  refine wpAny_bind ?_
  unfold Builtin.SmallTypes.ownedTupleIsFree
  refine wpAny_bind (wpAny_field hz rfl (x := rawInt a) rfl ?_)
  show wpAny _ _ (loadIfAlive a >>= _) _ _ _
  refine wpAny_bind (alive_any ?_)
  show wpAny _ _ ((if (hp.get? a).isNone = true then _ else _) : Sem Bool) _ _ _
  refine wpAny_mono (Q := fun (b : Bool) (s' : Shared) => b = false ∧ ∃ (g0 : Heap) (f : Value), s' = ⟨g0, g, d, tk0, os⟩ ∧ ZipR g0 z TI TO (rawInt a) f ∧ Heap.SameBut z hp g0) ?_ (fun b s' hb => ?_) fun _ _ x => x
  · rw [ha]
    rw [if_neg (by simp)]
    refine wpAny_bind (wpAny_field hz rfl (x := f1) rfl ?_)
    by_cases hf : (f1 != Value.bool true) = true
    · rw [if_pos hf]
      refine wpAny_bind (wpAny_setField_rec hz (by simp) fun g0 hz0 hs0 => wpAny_pure ⟨rfl, g0, .bool true, rfl, hz0, hs0⟩)
    · rw [if_neg hf]
      exact wpAny_pure ⟨rfl, hp, f1, rfl, hz, ⟨rfl, fun _ _ => rfl⟩⟩
  · obtain ⟨rfl, g0, f, rfl, hz0, hs0⟩ := hb
    rw [show (#[Value.ref i1, Value.ref i2] : Array Value) = List.toArray [.ref i1, .ref i2] from rfl]
    simp only [if_false, Bool.false_eq_true, List.forIn_toArray, List.forIn_cons, List.forIn_nil]
    refine wpAny_bind (wpAny_bind (wpAny_bind (wpAny_holding ?_)))
    show wpAny _ _ (Builtin.SmallTypes.nextOf (.ref i1) >>= _) _ _ ⟨g0, g, d, tk0, os⟩
    refine wpAny_bind (D1.item i _ _ _ hlt1 (D1.over st1 hs0 S.zf1) fun x1 p1 tk1 hx1 sn1 hp1 => wpAny_pure ?_)
    replace hp1 : Heap.SameBut i1 g0 p1 := hp1
    refine wpAny_pure ?_
    refine wpAny_bind (wpAny_bind (wpAny_holding ?_))
    show wpAny _ _ (Builtin.SmallTypes.nextOf (.ref i2) >>= _) _ _ ⟨p1, g, d, tk1, os⟩
    refine wpAny_bind (D2.item i _ _ _ hlt2 (D2.over (D2.over st2 hs0 S.zf2) hp1 S.sep1_2) fun x2 p2 tk2 hx2 sn2 hp2 => wpAny_pure ?_)
    replace hp2 : Heap.SameBut i2 p1 p2 := hp2
    refine wpAny_pure (wpAny_pure ?_)
    refine wpAny_bind (wpAny_newTuple (hsz := by show 2 ≤ sizeLine; decide) ?_)
    have hsz : p2.objs.size = hp.objs.size := by rw [hp2.1, hp1.1, hs0.1]
    have hzz : ZipR p2 z TI TO (rawInt a) f := hp2.extBut _ _ S.zi2 (hp1.extBut _ _ S.zi1 hz0)
    have hkk : ∀ c o, c ≠ z → c ≠ TO → c ≠ i1 → c ≠ i2 → hp.get? c = some o → p2.get? c = some o := fun c o cz cT c1 c2 e => hp2.extBut _ _ c2 (hp1.extBut _ _ c1 (hs0.extBut _ _ cz e))
    refine wpAny_pure ⟨_, rfl, ?_⟩
    show Q (.ref p2.objs.size) ⟨p2.push { cls := .type "tuple", data := .seq #[x1, x2] }, g, d, tk2, os⟩
    rw [hsz]
    have up : ∀ c o, p2.get? c = some o → (p2.push { cls := .type "tuple", data := .seq #[x1, x2] }).get? c = some o := fun c o e => Heap.get?_push_of_some _ e
    refine hQ x1 x2 _ tk2 hx1 hx2 ⟨rawInt a, f, up _ _ hzz, .inr ⟨a, rfl⟩⟩ ⟨a1, a2, up _ _ (hp2.extBut _ _ S.Ti2 (hp1.extBut _ _ S.Ti1 (hs0.extBut _ _ S.TOz hTO)))⟩ (D1.frame _ _ _ (D1.over sn1 hp2 S.sep2_1) fun b _ o e => up b o e) (D2.frame _ _ _ sn2 fun b _ o e => up b o e) ?_ (by rw [Heap.size_push, hsz]) fun c o cz cT c1 c2 e => up c o (hkk c o cz cT c1 c2 e)
    show IsTupOf2 _ hp.objs.size x1 x2
    rw [← hsz]
    exact Heap.get?_push_size _ rfl
theorem updT {T : Addr} {x : Value} {k : Nat} {Q : Unit → Shared → Prop} {A1 : Around} {E1 : Value → Shared → Prop} {s1 : Shared} {b1 b2 : Value} (hT : IsTupOf2 s1.heap T b1 b2)
    (h : ∀ h', h'.get? T = some { cls := .type "tuple", data := .seq ((#[b1, b2] : Array Value).setIfInBounds k x) } → Heap.SameBut T s1.heap h' → Q () { s1 with heap := h' }) :
    wpAny (model prog w) A1 (updateSeq T (·.setIfInBounds k x)) Q E1 s1 := updateSeq_IsTupOf2 hT h
theorem zipG_free {Q : Value → Shared → Prop} (S : ZipSep2 z TI TO i1 i2 fp1 fp2) (D1 : Draws prog w A i1 fp1 n1 P1 St1) (D2 : Draws prog w A i2 fp2 n2 P2 St2) {f0 f1 : Value} (hf : f0 = .none ∨ ∃ a : Nat, f0 = rawInt a ∧ s.heap.get? a = none)
    (hz : ZipR s.heap z TI TO f0 f1) (hTI : IsTupOf2 s.heap TI (.ref i1) (.ref i2)) (hTO : IsTupOf2 s.heap TO a1 a2) (st1 : St1 i s.heap) (st2 : St2 i s.heap) (hlt1 : i < n1) (hlt2 : i < n2)
    (hQ : ∀ x1 x2 h' tk, P1 i x1 → P2 i x2 → ZipG h' z TI TO → IsTupOf2 h' TO x1 x2 → St1 (i + 1) h' → St2 (i + 1) h' → IsTupOf2 h' s.heap.objs.size x1 x2 → h'.objs.size = s.heap.objs.size + 1 →
      (∀ c o, c ≠ z → c ≠ TO → c ≠ i1 → c ≠ i2 → s.heap.get? c = some o → h'.get? c = some o) → Q (.ref s.heap.objs.size) { s with heap := h', toks := tk }) :
    wpAny (model prog w) A (Builtin.«zip.__next__» ⟨[.ref z], []⟩) (fun fin s' => ∃ v, fin = .done (.ret v) ∧ Q v s') E s := by
  obtain ⟨hp, g, d, tk0, os⟩ := s
  show wpAny _ _ (field (.ref z) 2 >>= _) _ _ _
  refine wpAny_bind (wpAny_field hz rfl (x := .bool false) rfl ?_)
  show wpAny _ _ (field (.ref z) 3 >>= _) _ _ _
  refine wpAny_bind (wpAny_field hz rfl (x := .ref TI) rfl ?_)
  refine wpAny_bind (wpAny_seqItems hTI rfl ?_)
  show wpAny _ _ (Builtin.SmallTypes.ownedTupleIsFree (.ref z) >>= _) _ _ _
  refine wpAny_bind ?_
  unfold Builtin.SmallTypes.ownedTupleIsFree
  refine wpAny_bind (wpAny_field hz rfl (x := f0) rfl ?_)
  refine wpAny_mono (Q := fun (b : Bool) (s' : Shared) => b = true ∧ s' = ⟨hp, g, d, tk0, os⟩) ?_ (fun b s' hb => ?_) fun _ _ x => x
  · rcases hf with rfl | ⟨a, rfl, ha⟩
    · exact wpAny_pure ⟨rfl, rfl⟩
    · show wpAny _ _ (loadIfAlive a >>= _) _ _ _
      refine wpAny_bind (alive_any ?_)
      show wpAny _ _ ((if (hp.get? a).isNone = true then _ else _) : Sem Bool) _ _ _
      rw [show hp.get? a = none from ha, if_pos (by simp)]
      exact wpAny_pure ⟨rfl, rfl⟩
  obtain ⟨rfl, rfl⟩ := hb
  simp only [if_true]
  refine wpAny_bind (wpAny_rule ?_)
  refine wpAny_bind (wpAny_field hz rfl (x := .ref TO) rfl ?_)
  refine wpAny_bind (wpAny_setField_rec hz (by simp) fun g0 hz0 hs0 => ?_)
  replace hz0 : ZipR g0 z TI TO .ellipsis f1 := hz0
  replace hs0 : Heap.SameBut z hp g0 := hs0
  refine wpAny_bind ?_
  simp only [List.zipIdx_cons, List.zipIdx_nil, List.forIn_cons, List.forIn_nil]
  refine wpAny_bind (wpAny_bind (wpAny_onRaise ?_))
  show wpAny _ _ (Builtin.SmallTypes.nextOf (.ref i1) >>= _) _ _ ⟨g0, g, d, tk0, os⟩
  refine wpAny_bind (D1.item i _ _ _ hlt1 (D1.over st1 hs0 S.zf1) fun x1 p1 tk1 hx1 sn1 hp1 => wpAny_pure ?_)
  replace hp1 : Heap.SameBut i1 g0 p1 := hp1
  have hU1 : IsTupOf2 p1 TO a1 a2 := hp1.extBut _ _ S.Ti1 (hs0.extBut _ _ S.TOz hTO)
  refine wpAny_bind (wpAny_seqItems (s := ⟨p1, g, d, tk1, os⟩) hU1 rfl ?_)
  refine wpAny_bind (updT (s1 := ⟨p1, g, d, tk1, os⟩) hU1 fun g1 hT1 hs1 => ?_)
  replace hT1 : IsTupOf2 g1 TO x1 a2 := hT1
  replace hs1 : Heap.SameBut TO p1 g1 := hs1
  refine wpAny_bind (wpAny_letGo (wpAny_pure ?_))
  refine wpAny_bind (wpAny_bind (wpAny_onRaise ?_))
  show wpAny _ _ (Builtin.SmallTypes.nextOf (.ref i2) >>= _) _ _ ⟨g1, g, d, tk1, os⟩
  refine wpAny_bind (D2.item i _ _ _ hlt2 (D2.over (D2.over (D2.over st2 hs0 S.zf2) hp1 S.sep1_2) hs1 S.Tf2) fun x2 p2 tk2 hx2 sn2 hp2 => wpAny_pure ?_)
  replace hp2 : Heap.SameBut i2 g1 p2 := hp2
  have hU2 : IsTupOf2 p2 TO x1 a2 := hp2.extBut _ _ S.Ti2 hT1
  refine wpAny_bind (wpAny_seqItems (s := ⟨p2, g, d, tk2, os⟩) hU2 rfl ?_)
  refine wpAny_bind (updT (s1 := ⟨p2, g, d, tk2, os⟩) hU2 fun g2 hT2 hs2 => ?_)
  replace hT2 : IsTupOf2 g2 TO x1 x2 := hT2
  replace hs2 : Heap.SameBut TO p2 g2 := hs2
  refine wpAny_bind (wpAny_letGo (wpAny_pure (wpAny_pure ?_)))
  refine wpAny_bind (wpAny_seqItems (s := ⟨g2, g, d, tk2, os⟩) hT2 rfl ?_)
  refine wpAny_bind (wpAny_newTuple ?_)
  have hsz : g2.objs.size = hp.objs.size := by rw [hs2.1, hp2.1, hs1.1, hp1.1, hs0.1]
  have hzz : ZipR g2 z TI TO .ellipsis f1 := (hs2.extBut _ _ S.TOz.symm (hp2.extBut _ _ S.zi2 (hs1.extBut _ _ S.TOz.symm (hp1.extBut _ _ S.zi1 hz0))))
  have hkk : ∀ c o, c ≠ z → c ≠ TO → c ≠ i1 → c ≠ i2 → hp.get? c = some o → g2.get? c = some o := fun c o cz cT c1 c2 e =>
    (hs2.extBut _ _ cT (hp2.extBut _ _ c2 (hs1.extBut _ _ cT (hp1.extBut _ _ c1 (hs0.extBut _ _ cz e)))))
  have hj1 : St1 (i + 1) g2 := (D1.over (D1.over (D1.over sn1 hs1 S.Tf1) hp2 S.sep2_1) hs2 S.Tf1)
  have hj2 : St2 (i + 1) g2 := (D2.over sn2 hs2 S.Tf2)
  have hzlt : z < g2.objs.size := Heap.lt_size hzz
  show wpAny _ _ (Builtin.SmallTypes.ownedTupleHandOut (.ref z) (.ref g2.objs.size) >>= _) _ _ ⟨g2.push { cls := .type "tuple", data := .seq #[x1, x2] }, g, d, tk2, os⟩
  refine wpAny_bind ?_
  unfold Builtin.SmallTypes.ownedTupleHandOut
  have hz6 : ZipR (g2.push { cls := .type "tuple", data := .seq #[x1, x2] }) z TI TO .ellipsis f1 := Heap.get?_push_of_some _ hzz
  refine wpAny_bind (wpAny_setField_rec hz6 (by simp) fun h7 hz7 hs7 => ?_)
  replace hz7 : ZipR h7 z TI TO (rawInt g2.objs.size) f1 := hz7
  refine wpAny_setField_rec hz7 (by simp) fun h8 hz8 hs8 => ?_
  replace hz8 : ZipR h8 z TI TO (rawInt g2.objs.size) (.bool false) := hz8
  replace hs7 : Heap.SameBut z (g2.push { cls := .type "tuple", data := .seq #[x1, x2] }) h7 := hs7
  replace hs8 : Heap.SameBut z h7 h8 := hs8
  have up : ∀ c o, c ≠ z → g2.get? c = some o → h8.get? c = some o := fun c o c1 e => hs8.extBut _ _ c1 (hs7.extBut _ _ c1 (Heap.get?_push_of_some _ e))
  have hT8 : IsTupOf2 h8 g2.objs.size x1 x2 := hs8.extBut _ _ (Nat.ne_of_gt hzlt) (hs7.extBut _ _ (Nat.ne_of_gt hzlt) (Heap.get?_push_size _ rfl))
  have hl8 : h8.objs.size = g2.objs.size + 1 := by rw [hs8.1, hs7.1, Heap.size_push]
  rw [hsz] at hT8 hl8
  refine wpAny_pure ⟨_, rfl, ?_⟩
  show Q (.ref g2.objs.size) ⟨h8, g, d, tk2, os⟩
  rw [hsz]
  exact hQ x1 x2 h8 tk2 hx1 hx2 ⟨_, _, hz8, .inr ⟨_, rfl⟩⟩ (up _ _ S.TOz hT2) (D1.frame _ _ _ hj1 fun b hb o e => up b o (fun q => S.zf1 (q ▸ hb)) e) (D2.frame _ _ _ hj2 fun b hb o e => up b o (fun q => S.zf2 (q ▸ hb)) e) hT8 hl8 fun c o cz cT c1 c2 e => up c o cz (hkk c o cz cT c1 c2 e)
theorem zipG_next {Q : Value → Shared → Prop} (S : ZipSep2 z TI TO i1 i2 fp1 fp2) (D1 : Draws prog w A i1 fp1 n1 P1 St1) (D2 : Draws prog w A i2 fp2 n2 P2 St2)
    (hz : ZipG s.heap z TI TO) (hTI : IsTupOf2 s.heap TI (.ref i1) (.ref i2)) (hTO : ∃ a1 a2, IsTupOf2 s.heap TO a1 a2) (st1 : St1 i s.heap) (st2 : St2 i s.heap) (hlt1 : i < n1) (hlt2 : i < n2)
    (hQ : ∀ x1 x2 h' tk, P1 i x1 → P2 i x2 → ZipG h' z TI TO → (∃ b1 b2, IsTupOf2 h' TO b1 b2) → St1 (i + 1) h' → St2 (i + 1) h' → IsTupOf2 h' s.heap.objs.size x1 x2 → h'.objs.size = s.heap.objs.size + 1 →
      (∀ c o, c ≠ z → c ≠ TO → c ≠ i1 → c ≠ i2 → s.heap.get? c = some o → h'.get? c = some o) → Q (.ref s.heap.objs.size) { s with heap := h', toks := tk }) :
    wpAny (model prog w) A (Builtin.«zip.__next__» ⟨[.ref z], []⟩) (fun fin s' => ∃ v, fin = .done (.ret v) ∧ Q v s') E s := by
  obtain ⟨f0, f1, hr, hf⟩ := hz
  obtain ⟨a1, a2, hTO⟩ := hTO
  rcases hf with rfl | ⟨a, rfl⟩
  · exact zipG_free S D1 D2 (.inl rfl) hr hTI hTO st1 st2 hlt1 hlt2 fun x1 x2 h' tk y1 y2 b1 b2 => hQ x1 x2 h' tk y1 y2 b1 ⟨_, _, b2⟩
  · cases ha : s.heap.get? a with
    | none => exact zipG_free S D1 D2 (.inr ⟨a, rfl, ha⟩) hr hTI hTO st1 st2 hlt1 hlt2 fun x1 x2 h' tk y1 y2 b1 b2 => hQ x1 x2 h' tk y1 y2 b1 ⟨_, _, b2⟩
    | some o => exact zipG_slow S D1 D2 ha hr hTI hTO st1 st2 hlt1 hlt2 hQ
end
end Fz
set_option Elab.async false
set_option linter.all false
set_option maxRecDepth 100000
set_option maxHeartbeats 2000000
namespace Fz
open PySem PySem.Spec PyProof.Rows L2
open Sem (wp)
section
variable {prog : Program} {w : World} {A : Around} {E : Value → Shared → Prop} {s : Shared} {z TI TO i1 i2 : Addr} {fp1 fp2 : List Addr} {n1 n2 i : Nat} {P1 P2 : Nat → Value → Prop} {St1 St2 : Nat → Heap → Prop} {a1 a2 : Value}
theorem zipG_end {Q : PySem.Fin → Shared → Prop} (S : ZipSep2 z TI TO i1 i2 fp1 fp2) (D1 : Draws prog w A i1 fp1 n1 P1 St1) (D2 : Draws prog w A i2 fp2 n2 P2 St2)
    (hz : ZipG s.heap z TI TO) (hTI : IsTupOf2 s.heap TI (.ref i1) (.ref i2)) (hTO : ∃ a1 a2, IsTupOf2 s.heap TO a1 a2) (st1 : St1 i s.heap) (st2 : St2 i s.heap) (hle1 : i ≤ n1) (hle2 : i ≤ n2) (hend : i = n1 ∨ i = n2)
    (hE : ∀ h' tk e, (∀ c o, c ≠ z → c ≠ TO → c ≠ i1 → c ≠ i2 → s.heap.get? c = some o → h'.get? c = some o) → (∃ o, h'.get? e = some o ∧ o.cls = .type "StopIteration") → E (.ref e) { s with heap := h', toks := tk }) :
    wpAny (model prog w) A (Builtin.«zip.__next__» ⟨[.ref z], []⟩) Q E s := by
  obtain ⟨f0, f1, hz, hf⟩ := hz
  obtain ⟨a1, a2, hTO⟩ := hTO
  obtain ⟨hp, g, d, tk0, os⟩ := s
  show wpAny _ _ (field (.ref z) 2 >>= _) _ _ _
  refine wpAny_bind (wpAny_field hz rfl (x := .bool false) rfl ?_)
  show wpAny _ _ (field (.ref z) 3 >>= _) _ _ _
  refine wpAny_bind (wpAny_field hz rfl (x := .ref TI) rfl ?_)
  refine wpAny_bind (wpAny_seqItems hTI rfl ?_)
  show wpAny _ _ (Builtin.SmallTypes.ownedTupleIsFree (.ref z) >>= _) _ _ _
  refine wpAny_bind ?_
  unfold Builtin.SmallTypes.ownedTupleIsFree
  refine wpAny_bind (wpAny_field hz rfl (x := f0) rfl ?_)
  refine wpAny_mono (Q := fun (b : Bool) (s' : Shared) => ∃ (g0 : Heap) (f1' : Value), s' = ⟨g0, g, d, tk0, os⟩ ∧ ZipR g0 z TI TO f0 f1' ∧ Heap.SameBut z hp g0) ?_ (fun b s' hb => ?_) fun _ _ x => x
  · rcases hf with rfl | ⟨a, rfl⟩
    · exact wpAny_pure ⟨hp, f1, rfl, hz, Heap.SameBut.refl _ _⟩
    · show wpAny _ _ (loadIfAlive a >>= _) _ _ _
      refine wpAny_bind (alive_any ?_)
      show wpAny _ _ ((if (hp.get? a).isNone = true then _ else _) : Sem Bool) _ _ _
      by_cases hd : (hp.get? a).isNone = true
      · rw [if_pos hd]
        exact wpAny_pure ⟨hp, f1, rfl, hz, Heap.SameBut.refl _ _⟩
      · rw [if_neg hd]
        refine wpAny_bind (wpAny_field hz rfl (x := f1) rfl ?_)
        by_cases hf : (f1 != Value.bool true) = true
        · rw [if_pos hf]
          exact wpAny_bind (wpAny_setField_rec hz (by simp) fun g0 hz0 hs0 => wpAny_pure ⟨g0, .bool true, rfl, hz0, hs0⟩)
        · rw [if_neg hf]
          exact wpAny_pure ⟨hp, f1, rfl, hz, Heap.SameBut.refl _ _⟩
  obtain ⟨g0, f1', rfl, hz0, hs0⟩ := hb
  clear hz
  cases b with
  | false =>
    rw [show (#[Value.ref i1, Value.ref i2] : Array Value) = List.toArray [.ref i1, .ref i2] from rfl]
    simp only [if_false, Bool.false_eq_true, List.forIn_toArray, List.forIn_cons, List.forIn_nil]
    refine wpAny_bind (wpAny_bind (wpAny_bind (wpAny_holding ?_)))
    show wpAny _ _ (Builtin.SmallTypes.nextOf (.ref i1) >>= _) _ _ ⟨g0, g, d, tk0, os⟩
    by_cases hlt1 : i < n1
    · refine wpAny_bind (D1.item i _ _ _ hlt1 (D1.over st1 hs0 S.zf1) fun x1 p1 tk1 hx1 sn1 hp1 => wpAny_pure ?_)
      replace hp1 : Heap.SameBut i1 g0 p1 := hp1
      refine wpAny_pure ?_
      refine wpAny_bind (wpAny_bind (wpAny_holding ?_))
      show wpAny _ _ (Builtin.SmallTypes.nextOf (.ref i2) >>= _) _ _ ⟨p1, g, d, tk1, os⟩
      have hi2 : i = n2 := by omega
      refine wpAny_bind (D2.done ⟨p1, g, d, tk1, os⟩ _ _ (by rw [← hi2]; exact (D2.over (D2.over st2 hs0 S.zf2) hp1 S.sep1_2)) fun q e hq he => ?_)
      replace hq : Heap.ExtBut i2 p1 q := hq
      exact hE q tk1 e (fun c o cz cT c1 c2 x => hq _ _ c2 (hp1.extBut _ _ c1 (hs0.extBut _ _ cz x))) he
    · have hi1 : i = n1 := by omega
      refine wpAny_bind (D1.done ⟨g0, g, d, tk0, os⟩ _ _ (by rw [← hi1]; exact (D1.over st1 hs0 S.zf1)) fun q e hq he => ?_)
      replace hq : Heap.ExtBut i1 g0 q := hq
      exact hE q tk0 e (fun c o cz cT c1 c2 x => hq _ _ c1 (hs0.extBut _ _ cz x)) he
  | true =>
    simp only [if_true]
    refine wpAny_bind (wpAny_rule ?_)
    refine wpAny_bind (wpAny_field hz0 rfl (x := .ref TO) rfl ?_)
    refine wpAny_bind (wpAny_setField_rec hz0 (by simp) fun k0 hk0 ks0 => ?_)
    replace hk0 : ZipR k0 z TI TO .ellipsis f1' := hk0
    replace ks0 : Heap.SameBut z g0 k0 := ks0
    replace hs0 : Heap.SameBut z hp k0 := Heap.SameBut.trans hs0 ks0
    refine wpAny_bind ?_
    simp only [List.zipIdx_cons, List.zipIdx_nil, List.forIn_cons, List.forIn_nil]
    refine wpAny_bind (wpAny_bind (wpAny_onRaise ?_))
    show wpAny _ _ (Builtin.SmallTypes.nextOf (.ref i1) >>= _) _ _ ⟨k0, g, d, tk0, os⟩
    by_cases hlt1 : i < n1
    · refine wpAny_bind (D1.item i _ _ _ hlt1 (D1.over st1 hs0 S.zf1) fun x1 p1 tk1 hx1 sn1 hp1 => wpAny_pure ?_)
      replace hp1 : Heap.SameBut i1 k0 p1 := hp1
      have hU1 : IsTupOf2 p1 TO a1 a2 := hp1.extBut _ _ S.Ti1 (hs0.extBut _ _ S.TOz hTO)
      refine wpAny_bind (wpAny_seqItems (s := ⟨p1, g, d, tk1, os⟩) hU1 rfl ?_)
      refine wpAny_bind (updT (s1 := ⟨p1, g, d, tk1, os⟩) hU1 fun g1 hT1 hs1 => ?_)
      replace hT1 : IsTupOf2 g1 TO x1 a2 := hT1
      replace hs1 : Heap.SameBut TO p1 g1 := hs1
      refine wpAny_bind (wpAny_letGo (wpAny_pure ?_))
      have hi2 : i = n2 := by omega
      refine wpAny_bind (wpAny_bind (wpAny_onRaise ?_))
      show wpAny _ _ (Builtin.SmallTypes.nextOf (.ref i2) >>= _) _ _ ⟨g1, g, d, tk1, os⟩
      refine wpAny_bind (D2.done ⟨g1, g, d, tk1, os⟩ _ _ (by rw [← hi2]; exact (D2.over (D2.over (D2.over st2 hs0 S.zf2) hp1 S.sep1_2) hs1 S.Tf2)) fun q e hq he => ?_)
      replace hq : Heap.ExtBut i2 g1 q := hq
      obtain ⟨oe, hoe, hce⟩ := he
      replace hoe : q.get? e = some oe := hoe
      have hzq : ZipR q z TI TO .ellipsis f1' := hq _ _ S.zi2 (hs1.extBut _ _ S.TOz.symm (hp1.extBut _ _ S.zi1 hk0))
      have hez : e ≠ z := fun x => by subst x; rw [hzq] at hoe; cases hoe; simp at hce
      refine wpAny_setField_rec (s := ⟨q, g, d, tk1, os⟩) hzq (by simp) fun q' _ hq' => ?_
      replace hq' : Heap.SameBut z q q' := hq'
      exact hE q' tk1 e (fun c o cz cT c1 c2 x => hq'.extBut _ _ cz (hq _ _ c2 (hs1.extBut _ _ cT (hp1.extBut _ _ c1 (hs0.extBut _ _ cz x))))) ⟨oe, hq'.extBut _ _ hez hoe, hce⟩
    · have hi1 : i = n1 := by omega
      refine wpAny_bind (D1.done ⟨k0, g, d, tk0, os⟩ _ _ (by rw [← hi1]; exact (D1.over st1 hs0 S.zf1)) fun q e hq he => ?_)
      replace hq : Heap.ExtBut i1 k0 q := hq
      obtain ⟨oe, hoe, hce⟩ := he
      replace hoe : q.get? e = some oe := hoe
      have hzq : ZipR q z TI TO .ellipsis f1' := hq _ _ S.zi1 hk0
      have hez : e ≠ z := fun x => by subst x; rw [hzq] at hoe; cases hoe; simp at hce
      refine wpAny_setField_rec (s := ⟨q, g, d, tk0, os⟩) hzq (by simp) fun q' _ hq' => ?_
      replace hq' : Heap.SameBut z q q' := hq'
      exact hE q' tk0 e (fun c o cz cT c1 c2 x => hq'.extBut _ _ cz (hq _ _ c1 (hs0.extBut _ _ cz x))) ⟨oe, hq'.extBut _ _ hez hoe, hce⟩
end
end Fz
set_option Elab.async false
set_option linter.all false
set_option maxRecDepth 100000
set_option maxHeartbeats 2000000
namespace Fz
open PySem PySem.Spec PyProof.Rows L2
open Sem (wp)
section
variable {prog : Program} {w : World} {A : Around} {E : Value → Shared → Prop} {s : Shared} {z TI TO i1 i2 : Addr} {fp1 fp2 : List Addr} {n1 n2 i : Nat} {P1 P2 : Nat → Value → Prop} {St1 St2 : Nat → Heap → Prop} {a1 a2 : Value}
/-- a zip's state between two turns -/
structure ZipS (h : Heap) (z TI TO i1 i2 : Addr) (i : Nat) (St1 St2 : Nat → Heap → Prop) : Prop where
  z : ZipG h z TI TO
  ti : IsTupOf2 h TI (.ref i1) (.ref i2)
  to : ∃ a1 a2, IsTupOf2 h TO a1 a2
  s1 : St1 i h
  s2 : St2 i h
theorem nextOf_zip {Q : Value → Shared → Prop} (S : ZipSep2 z TI TO i1 i2 fp1 fp2) (D1 : Draws prog w A.in1 i1 fp1 n1 P1 St1) (D2 : Draws prog w A.in1 i2 fp2 n2 P2 St2)
    (hs : ZipS s.heap z TI TO i1 i2 i St1 St2) (hlt1 : i < n1) (hlt2 : i < n2)
    (hQ : ∀ x1 x2 h' tk, P1 i x1 → P2 i x2 → ZipS h' z TI TO i1 i2 (i + 1) St1 St2 → IsTupOf2 h' s.heap.objs.size x1 x2 → h'.objs.size = s.heap.objs.size + 1 →
      (∀ c o, c ≠ z → c ≠ TO → c ≠ i1 → c ≠ i2 → s.heap.get? c = some o → h'.get? c = some o) → Q (.ref s.heap.objs.size) { s with heap := h', toks := tk }) :
    wpAny (model prog w) A (Builtin.SmallTypes.nextOf (.ref z)) Q E s := by
  obtain ⟨f0, f1, hr, hf⟩ := hs.z
  have hT : s.TypeIs (.ref z) "zip" := ⟨_, hr, rfl⟩
  unfold Builtin.SmallTypes.nextOf
  refine wpAny_bind (wpAny_callSpecial?_slot (name := Str.ofString "__next__") hT F.slot_zip_next
    (wpAny_call_entry F.slot_zip_next hT F.entry_zip_next (zipG_next S D1 D2 hs.z hs.ti hs.to hs.s1 hs.s2 hlt1 hlt2 fun x1 x2 h' tk y1 y2 b1 b2 d1 d2 b5 b6 hk => ?_) (F.args_zip_next_1 _)))
  exact wpAny_pure (hQ x1 x2 h' tk y1 y2 ⟨b1, hk _ _ S.TIz S.TITO S.TIi1 S.TIi2 hs.ti, b2, d1, d2⟩ b5 b6 hk)
theorem nextOf_zip_end {Q : Value → Shared → Prop} (S : ZipSep2 z TI TO i1 i2 fp1 fp2) (D1 : Draws prog w A.in1 i1 fp1 n1 P1 St1) (D2 : Draws prog w A.in1 i2 fp2 n2 P2 St2)
    (hs : ZipS s.heap z TI TO i1 i2 i St1 St2) (hle1 : i ≤ n1) (hle2 : i ≤ n2) (hend : i = n1 ∨ i = n2)
    (hE : ∀ h' tk e, (∀ c o, c ≠ z → c ≠ TO → c ≠ i1 → c ≠ i2 → s.heap.get? c = some o → h'.get? c = some o) → (∃ o, h'.get? e = some o ∧ o.cls = .type "StopIteration") → E (.ref e) { s with heap := h', toks := tk }) :
    wpAny (model prog w) A (Builtin.SmallTypes.nextOf (.ref z)) Q E s := by
  obtain ⟨f0, f1, hr, hf⟩ := hs.z
  have hT : s.TypeIs (.ref z) "zip" := ⟨_, hr, rfl⟩
  unfold Builtin.SmallTypes.nextOf
  exact wpAny_bind (wpAny_callSpecial?_slot (name := Str.ofString "__next__") hT F.slot_zip_next
    (wpAny_call_entry F.slot_zip_next hT F.entry_zip_next (zipG_end S D1 D2 hs.z hs.ti hs.to hs.s1 hs.s2 hle1 hle2 hend hE) (F.args_zip_next_1 _)))
/-- the zip's cells stand through a write elsewhere -/
theorem ZipS.over {h h' : Heap} (S : ZipSep2 z TI TO i1 i2 fp1 fp2) (D1 : Draws prog w A i1 fp1 n1 P1 St1) (D2 : Draws prog w A i2 fp2 n2 P2 St2) (hs : ZipS h z TI TO i1 i2 i St1 St2) (hk : ∀ b ∈ z :: TI :: TO :: (fp1 ++ fp2), ∀ o, h.get? b = some o → h'.get? b = some o) : ZipS h' z TI TO i1 i2 i St1 St2 := by
  obtain ⟨⟨f0, f1, hr, hf⟩, hti, ⟨b1, b2, hto⟩, s1, s2⟩ := hs
  refine ⟨⟨f0, f1, hk z (by simp) _ hr, hf⟩, hk TI (by simp) _ hti, ⟨b1, b2, hk TO (by simp) _ hto⟩, D1.frame _ _ _ s1 fun b hb o e => hk b (by simp [hb]) o e, D2.frame _ _ _ s2 fun b hb o e => hk b (by simp [hb]) o e⟩
theorem enumz_item {e : Addr} {c : Int} {old : Value} {Q : Option Value → Shared → Prop} (S : ZipSep2 z TI TO i1 i2 fp1 fp2) (D1 : Draws prog w A.in1.in1 i1 fp1 n1 P1 St1) (D2 : Draws prog w A.in1.in1 i2 fp2 n2 P2 St2)
    (he : IsEnum s.heap e z c old) (hs : ZipS s.heap z TI TO i1 i2 i St1 St2) (hlt1 : i < n1) (hlt2 : i < n2) (hef : e ∉ z :: TI :: TO :: (fp1 ++ fp2))
    (hQ : ∀ x1 x2 h' tk t, P1 i x1 → P2 i x2 → IsEnumOut h' e z (c + 1) (.ref s.heap.objs.size) (s.heap.objs.size + 1) → ZipS h' z TI TO i1 i2 (i + 1) St1 St2 → IsTupOf2 h' s.heap.objs.size x1 x2 →
      h'.get? (s.heap.objs.size + 1) = some { cls := .type "tuple", data := .seq #[.int c t, .ref s.heap.objs.size] } →
      (∀ b o, b ≠ e → b ≠ z → b ≠ TO → b ≠ i1 → b ≠ i2 → s.heap.get? b = some o → h'.get? b = some o) → Q (some (.ref (s.heap.objs.size + 1))) { s with heap := h', toks := tk }) :
    wpAny (model prog w) A (pyNext (.ref e)) Q E s := by
  obtain ⟨hp, g, d, tk0, os⟩ := s
  have hT : Shared.TypeIs ⟨hp, g, d, tk0, os⟩ (.ref e) "enumerate" := ⟨_, he, rfl⟩
  have nz : e ≠ z := fun q => hef (by simp [q])
  have nTO : e ≠ TO := fun q => hef (by simp [q])
  have n1' : e ≠ i1 := fun q => hef (by simp [q, S.mem1])
  have n2' : e ≠ i2 := fun q => hef (by simp [q, S.mem2])
  unfold pyNext
  refine wpAny_bind (wpAny_attempt (wpAny_callSpecial?_slot (name := Str.ofString "__next__") hT F.slot_enumerate_next
    (wpAny_call_entry F.slot_enumerate_next hT F.entry_enumerate_next ?_ (F.args_enumerate_next_1 _))))
  show wpAny _ _ (field (.ref e) 2 >>= _) _ _ _
  refine wpAny_bind (wpAny_field he rfl (x := .ref z) rfl ?_)
  refine wpAny_bind (nextOf_zip S D1 D2 hs hlt1 hlt2 fun x1 x2 h1 tk hx1 hx2 hs1 hT1 hz1 hk1 => ?_)
  replace hT1 : IsTupOf2 h1 hp.objs.size x1 x2 := hT1
  replace hz1 : h1.objs.size = hp.objs.size + 1 := hz1
  replace hk1 : ∀ c o, c ≠ z → c ≠ TO → c ≠ i1 → c ≠ i2 → hp.get? c = some o → h1.get? c = some o := hk1
  have he1 : IsEnum h1 e z c old := hk1 e _ nz nTO n1' n2' he
  show wpAny _ _ (field (.ref e) 3 >>= _) _ _ ⟨h1, g, d, tk, os⟩
  refine wpAny_bind (wpAny_field he1 rfl (x := rawInt c) rfl ?_)
  show wpAny _ _ (field (.ref e) 4 >>= _) _ _ ⟨h1, g, d, tk, os⟩
  refine wpAny_bind (wpAny_field he1 rfl (x := .none) rfl ?_)
  show wpAny _ _ (mkInt c >>= _) _ _ ⟨h1, g, d, tk, os⟩
  refine wpAny_bind (wpAny_mkInt ?_)
  show wpAny _ _ (setField (.ref e) 3 (rawInt (c + 1)) >>= _) _ _ ⟨h1, g, d, tk + 1, os⟩
  refine wpAny_bind (wpAny_setField_rec he1 (by simp) fun h2 he2 hs2 => ?_)
  replace hs2 : Heap.SameBut e h1 h2 := hs2
  replace he2 : IsEnum h2 e z (c + 1) old := he2
  show wpAny _ _ (setField (.ref e) 4 .none >>= _) _ _ ⟨h2, g, d, tk + 1, os⟩
  refine wpAny_bind (wpAny_setField_rec he2 (by simp) fun h3 he3 hs3 => ?_)
  replace hs3 : Heap.SameBut e h2 h3 := hs3
  replace he3 : IsEnum h3 e z (c + 1) old := he3
  show wpAny _ _ (newTuple [.int c tk, .ref hp.objs.size] >>= _) _ _ ⟨h3, g, d, tk + 1, os⟩
  refine wpAny_bind (wpAny_newTuple ?_)
  have he4 : IsEnum (h3.push { cls := .type "tuple", data := .seq #[.int c tk, .ref hp.objs.size] }) e z (c + 1) old := Heap.get?_push_of_some _ he3
  generalize hh4 : h3.push { cls := .type "tuple", data := .seq #[.int c tk, .ref hp.objs.size] } = h4 at he4
  have hsz : h3.objs.size = hp.objs.size + 1 := by rw [hs3.1, hs2.1, hz1]
  have hel : e < hp.objs.size := Heap.lt_size he
  have ht4 : h4.get? (hp.objs.size + 1) = some { cls := .type "tuple", data := .seq #[.int c tk, .ref hp.objs.size] } := by rw [← hh4, ← hsz]; exact Heap.get?_push_size _ rfl
  have up4 : ∀ b o, b ≠ e → h1.get? b = some o → h4.get? b = some o := fun b o hbe hb => by
    rw [← hh4]; exact Heap.get?_push_of_some _ (hs3.extBut b o hbe (hs2.extBut b o hbe hb))
  show wpAny _ _ (Builtin.SmallTypes.ownedTupleIsFree (.ref e) >>= _) _ _ ⟨h4, g, d, tk + 1, os⟩
  rw [hsz]
  clear hh4 he3 hs3 he2 hs2 hsz h3 h2
  refine wpAny_bind ?_
  · unfold Builtin.SmallTypes.ownedTupleIsFree
    refine wpAny_bind (wpAny_field he4 rfl (x := .none) rfl (wpAny_pure ?_))
    simp only [if_true]
    refine wpAny_bind (wpAny_rule ?_)
    refine wpAny_bind (wpAny_field he4 rfl (x := old) rfl ?_)
    refine wpAny_bind (wpAny_setField_rec he4 (by simp) fun h5 he5 hs5 => ?_)
    replace hs5 : Heap.SameBut e h4 h5 := hs5
    replace he5 : IsEnum h5 e z (c + 1) (.ref hp.objs.size) := he5
    show wpAny _ _ (Builtin.SmallTypes.ownedTupleHandOut (.ref e) (.ref (hp.objs.size + 1)) >>= _) _ _ ⟨h5, g, d, tk + 1, os⟩
    refine wpAny_bind ?_
    · unfold Builtin.SmallTypes.ownedTupleHandOut
      refine wpAny_bind (wpAny_setField_rec he5 (by simp) fun h6 he6 hs6 => ?_)
      replace hs6 : Heap.SameBut e h5 h6 := hs6
      replace he6 : IsEnumOut h6 e z (c + 1) (.ref hp.objs.size) (hp.objs.size + 1) := he6
      refine wpAny_setField_rec he6 (by simp) fun h7 he7 hs7 => ?_
      replace hs7 : Heap.SameBut e h6 h7 := hs7
      replace he7 : IsEnumOut h7 e z (c + 1) (.ref hp.objs.size) (hp.objs.size + 1) := he7
      have up7 : ∀ b o, b ≠ e → h4.get? b = some o → h7.get? b = some o := fun b o hbe hb => hs7.extBut b o hbe (hs6.extBut b o hbe (hs5.extBut b o hbe hb))
      have up : ∀ b o, b ≠ e → h1.get? b = some o → h7.get? b = some o := fun b o hbe hb => up7 b o hbe (up4 b o hbe hb)
      refine wpAny_bind (wpAny_letGo (wpAny_pure ⟨_, rfl, wpAny_pure ?_⟩))
      refine hQ x1 x2 h7 (tk + 1) tk hx1 hx2 he7 (hs1.over S D1 D2 fun b hb o y => up b o (fun q => hef (q ▸ hb)) y) (up _ _ (Nat.ne_of_gt hel) hT1) (up7 _ _ (Nat.ne_of_gt (Nat.lt_succ_of_lt hel)) ht4) fun b o be bz bT b1 b2 y => up b o be (hk1 b o bz bT b1 b2 y)
theorem enumz_end {e : Addr} {c : Int} {old : Value} {Q : Option Value → Shared → Prop} (S : ZipSep2 z TI TO i1 i2 fp1 fp2) (D1 : Draws prog w A.in1.in1 i1 fp1 n1 P1 St1) (D2 : Draws prog w A.in1.in1 i2 fp2 n2 P2 St2)
    (he : IsEnum s.heap e z c old) (hs : ZipS s.heap z TI TO i1 i2 i St1 St2) (hle1 : i ≤ n1) (hle2 : i ≤ n2) (hend : i = n1 ∨ i = n2)
    (hQ : ∀ h' tk, (∀ c o, c ≠ z → c ≠ TO → c ≠ i1 → c ≠ i2 → s.heap.get? c = some o → h'.get? c = some o) → Q none { s with heap := h', toks := tk }) :
    wpAny (model prog w) A (pyNext (.ref e)) Q E s := by
  have hT : s.TypeIs (.ref e) "enumerate" := ⟨_, he, rfl⟩
  unfold pyNext
  refine wpAny_bind (wpAny_attempt (wpAny_callSpecial?_slot (name := Str.ofString "__next__") hT F.slot_enumerate_next
    (wpAny_call_entry F.slot_enumerate_next hT F.entry_enumerate_next ?_ (F.args_enumerate_next_1 _))))
  show wpAny _ _ (field (.ref e) 2 >>= _) _ _ _
  refine wpAny_bind (wpAny_field he rfl (x := .ref z) rfl ?_)
  refine wpAny_bind (nextOf_zip_end S D1 D2 hs hle1 hle2 hend fun h' tk x hk hx' => ?_)
  obtain ⟨o, ho, hc⟩ := hx'
  refine wpAny_bind (wpAny_isInstance (T := "StopIteration") (b := true) ⟨o, ho, hc⟩ isSubtype_stop ?_)
  exact wpAny_pure (hQ _ _ hk)
end
end Fz
set_option Elab.async false
set_option linter.all false
set_option maxRecDepth 100000
set_option maxHeartbeats 4000000
namespace Fz
open PySem PySem.Spec PyProof.Rows L2
open Sem (wp)
section
variable {X : Cx} {pins : List (Addr × Obj)} {σ : L2.St} {H : Hp} {s : Shared} {h' : Heap}
theorem turnedNew2 {t' : Nat} {ch : List Addr} {T1 T2 : Addr} {o1 o2 : HO} (I : Inv X pins σ H s) (k : ∀ b o, b ∉ ch → s.heap.get? b = some o → h'.get? b = some o) (hf : ∀ b ∈ ch, FpOk X pins H b) (hT1 : s.heap.objs.size ≤ T1) (hT2 : s.heap.objs.size ≤ T2)
    (new1 : ObjOk X.prog X.w (upd (upd H T1 o1) T2 o2) h' T1 o1) (new2 : ObjOk X.prog X.w (upd (upd H T1 o1) T2 o2) h' T2 o2) : Inv X pins σ (upd (upd H T1 o1) T2 o2) { s with heap := h', toks := t' } := by
  have hn1 : H T1 = none := I.hok.fresh hT1
  have hn2 : H T2 = none := I.hok.fresh hT2
  have nit : ∀ b u, H b = some u → b ∉ ch := fun b u e z => by
    have q := (hf b z).1
    rw [q] at e; cases e
  have old : ∀ b u, H b = some u → upd (upd H T1 o1) T2 o2 b = some u := fun b u e => by
    rw [upd_ne (ne_of_none e hn2), upd_ne (ne_of_none e hn1)]; exact e
  refine I.step (g' := s.gens) (d' := s.drawn) (ch := ch) (fun b hb => ⟨(hf b hb).2.2.2.1, (hf b hb).2.1, (hf b hb).2.2.2.2.1, (hf b hb).2.2.2.2.2⟩) (fun b o _ _ hc e _ => k b o hc e) (fun b o _ _ hc e _ => ⟨o.slots, k b o hc e⟩)
    (fun b o _ e n => ?_) (fun b o hc e => ⟨o, k b o hc e⟩) (fun b xs e => old b _ e) (fun b o u e => old b _ e) (fun b ps e => ⟨#[], ?_⟩) (fun m hm => ?_) (fun b u e => ?_) I.bare
  · rw [upd_ne (Nat.ne_of_lt (Nat.lt_of_lt_of_le (Heap.lt_size e) hT2)), upd_ne (Nat.ne_of_lt (Nat.lt_of_lt_of_le (Heap.lt_size e) hT1))]; exact n
  · rw [old b _ e]; simp
  · obtain ⟨o, es, ep, ho, r⟩ := hm
    exact ⟨o, es, ep, k _ o (fun z => (hf _ z).2.1 rfl) ho, r⟩
  · by_cases hb2 : b = T2
    · subst hb2
      rw [upd_same] at e
      cases e
      exact new2
    · rw [upd_ne hb2] at e
      by_cases hb1 : b = T1
      · subst hb1
        rw [upd_same] at e
        cases e
        exact new1
      · rw [upd_ne hb1] at e
        refine (I.hok b u e).stay (fun c v hc q => k c v ?_ q) (fun c q => old c _ q) fun c xs q => old c _ q
        rcases hc with z | z
        · rw [z]; exact nit b u e
        · exact nit c _ z
end
/-! ### enumerate(zip(x, y)) -/
def IteZ (K : PySem.W.Frag) (k1 k2 : Bool) (a b : Addr) (n m : Nat) : It :=
  ⟨fun i H => i < min n m ∧ ∃ xs ys : List V, SqX K H a xs k1 ∧ SqX K H b ys k2 ∧ xs.length = n ∧ ys.length = m,
   fun i H v H' => ∃ U T x y, v = .ref T ∧ U ≠ T ∧ H U = none ∧ H T = none ∧ H' = upd (upd H U (.tup [x, y])) T (.tup [.int (i : Nat), .ref U]) ∧ (∀ xs, SqX K H a xs k1 → xs[i]? = some x) ∧ ∀ ys, SqX K H b ys k2 → ys[i]? = some y,
   fun i H => min n m ≤ i ∧ ∃ xs ys : List V, SqX K H a xs k1 ∧ SqX K H b ys k2 ∧ xs.length = n ∧ ys.length = m⟩
structure ApartZ (e z TI TO i1 i2 a b : Addr) : Prop where
  S : ZipSep2 z TI TO i1 i2 [i1, a] [i2, b]
  a1 : a ≠ i1
  b2 : b ≠ i2
  ef : e ∉ z :: TI :: TO :: ([i1, a] ++ [i2, b])
theorem turn_ez {P : Program} {w : World} {K : PySem.W.Frag} {elts : List Expr} {kk : Nat} {tpos : Pos} (k1 k2 : Bool) {e z TI TO i1 i2 a b : Addr} (n m : Nat) (D : ApartZ e z TI TO i1 i2 a b) :
    Turn P w K (.Tuple elts kk tpos) (IteZ K k1 k2 a b n m) [e, z, TI, TO, i1, i2] e (fun i h => i ≤ min n m ∧ (∃ old, IsEnum h e z (i : Nat) old) ∧ ZipS h z TI TO i1 i2 i (fun i h => itX h i1 a i k1) (fun i h => itX h i2 b i k2)) where
  mem := by simp
  obj := fun i h st c hc => by
    obtain ⟨_, ⟨old, he⟩, ⟨⟨f0, f1, hz, _⟩, hTI, ⟨x, y, hTO⟩, h1, h2⟩⟩ := st
    simp only [List.mem_cons, List.not_mem_nil, or_false] at hc
    rcases hc with rfl | rfl | rfl | rfl | rfl | rfl
    · exact ⟨_, he, fun v q => nomatch q⟩
    · exact ⟨_, hz, fun v q => nomatch q⟩
    · exact ⟨_, hTI, fun v q => nomatch q⟩
    · exact ⟨_, hTO, fun v q => nomatch q⟩
    · exact itX_obj k1 h1
    · exact itX_obj k2 h2
  keep := fun i h h' st q => by
    obtain ⟨hn, ⟨old, he⟩, ⟨⟨f0, f1, hz, hf⟩, hTI, ⟨x, y, hTO⟩, h1, h2⟩⟩ := st
    exact ⟨hn, ⟨old, q e (by simp) _ he⟩, ⟨⟨f0, f1, q z (by simp) _ hz, hf⟩, q TI (by simp) _ hTI, ⟨x, y, q TO (by simp) _ hTO⟩, itX_at k1 h1 fun o e => q i1 (by simp) o e, itX_at k2 h2 fun o e => q i2 (by simp) o e⟩⟩
  item := by
    intro X hP hw hK hc i pins s σ H E I hf st hg
    subst hP hw hK
    obtain ⟨_, ⟨old, he⟩, hzs⟩ := st
    obtain ⟨hlt, xs, ys, hqx, hqy, lx, ly⟩ := hg
    obtain ⟨its1, rv1, p1, _⟩ := seqX k1 I hqx
    obtain ⟨its2, rv2, p2, _⟩ := seqX k2 I hqy
    have l1 := rv1.length
    have l2 := rv2.length
    have D1 := drawsX (P := X.prog) (w := X.w) (A := X.A.in1.in1) k1 (I.ok.hd hc) i1 a D.a1 its1.toArray
    have D2 := drawsX (P := X.prog) (w := X.w) (A := X.A.in1.in1) k2 (I.ok.hd hc) i2 b D.b2 its2.toArray
    refine enumz_item D.S D1 D2 he ⟨hzs.z, hzs.ti, hzs.to, ⟨hzs.s1, p1⟩, ⟨hzs.s2, p2⟩⟩ (by rw [List.size_toArray]; omega) (by rw [List.size_toArray]; omega) D.ef fun u1 u2 h1 tk t hu1 hu2 he1 hz1 hU hT hk1 => ?_
    refine ⟨_, rfl, ?_⟩
    refine wpAny_letOwnedTupleGo_enum he1 fun h2 he2 hs2 => ?_
    replace hs2 : Heap.SameBut e h1 h2 := hs2
    have hx : i < xs.length := by omega
    have hy : i < ys.length := by omega
    obtain ⟨w1, e1, r1⟩ := rv1.get (List.getElem?_eq_getElem hx)
    obtain ⟨w2, e2, r2⟩ := rv2.get (List.getElem?_eq_getElem hy)
    have f1 : its1[i]? = some u1 := by simpa using hu1
    have f2 : its2[i]? = some u2 := by simpa using hu2
    rw [e1] at f1
    rw [e2] at f2
    obtain rfl : w1 = u1 := Option.some.inj f1
    obtain rfl : w2 = u2 := Option.some.inj f2
    have hel : e < s.heap.objs.size := Heap.lt_size he
    have hU2 : h2.get? s.heap.objs.size = some { cls := .type "tuple", data := .seq #[w1, w2] } := hs2.extBut _ _ (Nat.ne_of_gt hel) hU
    have hT2 : h2.get? (s.heap.objs.size + 1) = some { cls := .type "tuple", data := .seq #[.int (i : Nat) t, .ref s.heap.objs.size] } := hs2.extBut _ _ (Nat.ne_of_gt (Nat.lt_succ_of_lt hel)) hT
    have keep : ∀ c o, c ∉ [e, z, TI, TO, i1, i2] → s.heap.get? c = some o → h2.get? c = some o := fun c o hb q => by
      simp only [List.mem_cons, List.not_mem_nil, or_false, not_or] at hb
      obtain ⟨ce, cz, cTI, cTO, c1, c2⟩ := hb
      exact hs2.extBut c o ce (hk1 c o ce cz cTO c1 c2 q)
    have I1 : Inv X pins σ (upd (upd H s.heap.objs.size (.tup [xs[i], ys[i]])) (s.heap.objs.size + 1) (.tup [.int (i : Nat), .ref s.heap.objs.size])) { s with heap := h2, toks := tk } :=
      turnedNew2 I keep hf (Nat.le_refl _) (Nat.le_succ _) ⟨by show 2 ≤ sizeLine; decide, [w1, w2], .cons r1 (.cons r2 .nil), ⟨_, hU2, rfl, _, rfl⟩⟩
        ⟨by show 2 ≤ sizeLine; decide, [.int (i : Nat) t, .ref s.heap.objs.size], .cons ⟨_, rfl⟩ (.cons rfl .nil), ⟨_, hT2, rfl, _, rfl⟩⟩
    have hz2 : ZipS h2 z TI TO i1 i2 (i + 1) (fun i h => itX h i1 a i k1) (fun i h => itX h i2 b i k2) := by
      have := hz1.over D.S D1 D2 (h' := h2) fun c hc o q => hs2.extBut c o (fun w => D.ef (w ▸ hc)) q
      exact ⟨this.z, this.ti, this.to, this.s1.1, this.s2.1⟩
    refine ⟨.ref (s.heap.objs.size + 1), _, I1, rfl, ⟨s.heap.objs.size, s.heap.objs.size + 1, xs[i], ys[i], rfl, Nat.ne_of_lt (Nat.lt_succ_self _), I.hok.fresh (Nat.le_refl _), I.hok.fresh (Nat.le_succ _), rfl, fun l hy => by rw [injX k1 I hy hqx]; exact List.getElem?_eq_getElem hx, fun l hl => by rw [injX k2 I hl hqy]; exact List.getElem?_eq_getElem hy⟩,
      ⟨by omega, ⟨_, by rw [show ((i + 1 : Nat) : Int) = (i : Int) + 1 by omega]; exact he2⟩, hz2⟩, fun c hcm => ?_⟩
    have hlT : c < s.heap.objs.size := by
      obtain ⟨⟨f0, f1, hz, _⟩, hTI, ⟨x, y, hTO⟩, q1, q2⟩ := hzs
      simp only [List.mem_cons, List.not_mem_nil, or_false] at hcm
      rcases hcm with q | q | q | q | q | q
      · rw [q]; exact hel
      · rw [q]; exact Heap.lt_size hz
      · rw [q]; exact Heap.lt_size hTI
      · rw [q]; exact Heap.lt_size hTO
      · rw [q]; obtain ⟨o, h, _⟩ := itX_obj k1 q1; exact Heap.lt_size h
      · rw [q]; obtain ⟨o, h, _⟩ := itX_obj k2 q2; exact Heap.lt_size h
    rw [upd_ne (Nat.ne_of_lt (Nat.lt_succ_of_lt hlT)), upd_ne (Nat.ne_of_lt hlT)]
    exact (hf c hcm).1
  done := by
    intro X hP hw hK hc i pins s σ H E I hf st hg
    subst hP hw hK
    obtain ⟨hle, ⟨old, he⟩, hzs⟩ := st
    obtain ⟨hge, xs, ys, hqx, hqy, lx, ly⟩ := hg
    obtain ⟨its1, rv1, p1, _⟩ := seqX k1 I hqx
    obtain ⟨its2, rv2, p2, _⟩ := seqX k2 I hqy
    have l1 := rv1.length
    have l2 := rv2.length
    have D1 := drawsX (P := X.prog) (w := X.w) (A := X.A.in1.in1) k1 (I.ok.hd hc) i1 a D.a1 its1.toArray
    have D2 := drawsX (P := X.prog) (w := X.w) (A := X.A.in1.in1) k2 (I.ok.hd hc) i2 b D.b2 its2.toArray
    refine enumz_end D.S D1 D2 he ⟨hzs.z, hzs.ti, hzs.to, ⟨hzs.s1, p1⟩, ⟨hzs.s2, p2⟩⟩ (by rw [List.size_toArray]; omega) (by rw [List.size_toArray]; omega) (by rw [List.size_toArray, List.size_toArray]; omega) fun h' tk hk => ⟨rfl, I.turnedL (ch := [e, z, TI, TO, i1, i2]) (fun c o hb q => ?_) hf⟩
    simp only [List.mem_cons, List.not_mem_nil, or_false, not_or] at hb
    obtain ⟨ce, cz, cTI, cTO, c1, c2⟩ := hb
    exact hk c o cz cTO c1 c2 q
  self := fun A i s Q E st h => let ⟨_, ⟨_, he⟩, _⟩ := st; wpAny_pyIter_enum he h
end Fz
set_option Elab.async false
set_option linter.all false
set_option maxRecDepth 100000
set_option maxHeartbeats 4000000
namespace Fz
open PySem PySem.Spec PyProof.Rows L2
theorem enum_new_z {z TI TO : Addr} :
    Meets (Builtin.«enumerate.__new__» ⟨[.type "enumerate", .ref z], []⟩) (fun _ RR s => IsZip s.heap z TI TO .none ∧
      RR (.ok (.ret (.ref s.heap.objs.size))) { s with heap := s.heap.push { cls := .type "enumerate", data := .fields #[.none, .bool false, .ref z, rawInt 0, .none, .none] } }) :=
  .of_wp fun prog w A RR s h => by
    obtain ⟨hp, g, d, tk, os⟩ := s
    obtain ⟨h1, h⟩ := h
    have hsub := sub_enumerate
    have q1 : ∀ {A' : Around} {E : Value → Shared → Prop} {Q : Value → Shared → Prop}, Q (.ref z) ⟨hp, g, d, tk, os⟩ → wpAny (model prog w) A' (pyIter (.ref z)) Q E ⟨hp, g, d, tk, os⟩ :=
      fun q => wpAny_pyIter_zip h1 q
    wp_walk using q1
    refine wpAny_stack_any fun st => wpAny_pure ?_
    split
    · rename_i c _ _ _ _ _
      cases (c == Value.type "enumerate") <;> (wp_walk using q1) <;> exact ⟨_, rfl, h⟩
    · wp_walk using q1
      exact ⟨_, rfl, h⟩
theorem enum_z {prog : Program} {w : World} {A : Around} {E : Value → Shared → Prop} {s : Shared} {z TI TO : Addr} {Q : Value → Shared → Prop} (h1 : IsZip s.heap z TI TO .none)
    (h : ∀ h', IsEnum h' s.heap.objs.size z 0 .none → h'.objs.size = s.heap.objs.size + 1 → (∀ b o, s.heap.get? b = some o → h'.get? b = some o) → Q (.ref s.heap.objs.size) { s with heap := h' }) :
    wpAny (model prog w) A (call (.type "enumerate") [.ref z]) Q E s := by
  refine callType_new F.called_enumerate (by decide) (F.typeCall_enumerate_1 _) (F.newCall_enumerate_1 _) (fun obj => F.args_object_init_2 obj _) F.entry_enumerate_new enum_new_z ⟨h1, ?_⟩
  have he := Heap.get?_push_size s.heap (o := { cls := .type "enumerate", data := .fields #[.none, .bool false, .ref z, rawInt 0, .none, .none] }) rfl
  exact ⟨⟨_, he, rfl⟩, h _ he (by rw [Heap.size_push]) fun b o x => Heap.get?_push_of_some _ x⟩
def iEZ (K : PySem.W.Frag) (k1 k2 : Bool) (ta : TA) : TI := fun σ H RR => ta σ H fun vs H1 => ∃ a b xs ys, vs = [.ref a, .ref b] ∧ SqX K H1 a xs k1 ∧ SqX K H1 b ys k2 ∧ RR (IteZ K k1 k2 a b xs.length ys.length) H1
theorem pi_ez {X : Cx} {e1 e2 : Expr} {ta : TA} {p pos p2 pos2 tpos : Pos} {elts : List Expr} {kk : Nat} (k1 k2 : Bool) (hg : Gl X "enumerate") (hm : X.mg "enumerate" = none) (hgz : Gl X "zip") (hmz : X.mg "zip" = none) (ha : PA X [e1, e2] ta)
    (hs : starEach [e1, e2] X.env = (false, eval e1 X.env) :: starEach [e2] X.env) (hpl : (backTo pos2 (starEach [e2] X.env)).any (·.1) = false) :
    PI X (.Tuple elts kk tpos) (.Call (.Name "enumerate" p) [.Call (.Name "zip" p2) [e1, e2] [] pos2] [] pos) (iEZ X.K k1 k2 ta) := by
  refine ⟨fun pins s σ H RR I h => ?_⟩
  refine Call_ (ld_blt I hg hm boot_enumerate (PyProof.Rows.callWith_type1 ?_ rfl rfl))
  show wpAny _ _ (spliced ((false, eval (.Call (.Name "zip" p2) [e1, e2] [] pos2) X.env) :: backTo pos (starEach [] X.env))) _ _ s
  refine Calls.spliced_cons ?_
  refine Call_ (ld_blt I hgz hmz PyProof.Rows.boot_zip (PyProof.Rows.callWith_type1 (thn (ha.run pos2 pins s σ H _ I h) fun us s1 ⟨vs, H1, I1, r1, q1⟩ => ?_) hs hpl))
  obtain ⟨a, b, xs, ys, rfl, hqx, hqy, q⟩ := q1
  obtain ⟨u1, u2, rfl, ru1, ru2⟩ := Vals.two r1
  cases ru1
  cases ru2
  obtain ⟨its1, rv1, p1, _⟩ := seqX k1 I1 hqx
  obtain ⟨its2, rv2, p2, _⟩ := seqX k2 I1 hqy
  have la := isX_lt k1 p1
  have lb := isX_lt k2 p2
  refine zip_begins2 (beginsX k1 a its1.toArray) (beginsX k2 b its2.toArray) p1 p2 fun h' hz hTI hTO h1 h2 hsz hk => ?_
  refine Calls.spliced_nil ?_
  refine enum_z (s := { s1 with heap := h' }) hz fun h'' he hsz2 hk2 => wpAny_pyIter_enum he ?_
  have hsz' : h'.objs.size = s1.heap.objs.size + 5 := hsz
  replace hsz2 : h''.objs.size = h'.objs.size + 1 := hsz2
  replace he : IsEnum h'' h'.objs.size (s1.heap.objs.size + 4) 0 .none := he
  replace hk2 : ∀ b o, h'.get? b = some o → h''.get? b = some o := hk2
  have I2 : Inv X pins σ H1 { s1 with heap := h'' } := I1.kept (t' := s1.toks) fun b u e => hk2 b u (hk b u e)
  have ap : ApartZ h'.objs.size (s1.heap.objs.size + 4) (s1.heap.objs.size + 2) (s1.heap.objs.size + 3) s1.heap.objs.size (s1.heap.objs.size + 1) a b :=
    ⟨zip_sep2 (fun c hc => by rw [List.mem_singleton.mp hc]; exact la) (fun c hc => by rw [List.mem_singleton.mp hc]; exact lb), Nat.ne_of_lt la, Nat.ne_of_lt (Nat.lt_succ_of_lt lb), by
      rw [hsz']
      have key : ∀ k, k < 5 → (s1.heap.objs.size + 5 : Nat) ≠ s1.heap.objs.size + k := fun k hk q => by omega
      have key2 : ∀ c : Nat, c < s1.heap.objs.size → (s1.heap.objs.size + 5 : Nat) ≠ c := fun c hc q => by omega
      intro hin
      simp only [List.mem_cons, List.cons_append, List.nil_append, List.not_mem_nil, or_false] at hin
      rcases hin with q | q | q | q | q | q | q
      · exact key 4 (by decide) q
      · exact key 2 (by decide) q
      · exact key 3 (by decide) q
      · exact key 0 (by decide) q
      · exact key2 a la q
      · exact key 1 (by decide) q
      · exact key2 b lb q⟩
  refine ⟨h'.objs.size, [h'.objs.size, s1.heap.objs.size + 4, s1.heap.objs.size + 2, s1.heap.objs.size + 3, s1.heap.objs.size, s1.heap.objs.size + 1], _, _, H1, rfl, I2, turn_ez k1 k2 xs.length ys.length ap,
    ⟨Nat.zero_le _, ⟨.none, he⟩, ⟨⟨.none, .bool false, hk2 _ _ hz, .inl rfl⟩, hk2 _ _ hTI, ⟨_, _, hk2 _ _ hTO⟩, itX_new k1 (hk2 _ _ h1), itX_new k2 (hk2 _ _ h2)⟩⟩, fun c hcm => ?_, q⟩
  have hle : s1.heap.objs.size ≤ c := by
    simp only [List.mem_cons, List.not_mem_nil, or_false] at hcm
    rcases hcm with q | q | q | q | q | q <;> rw [q]
    · omega
    · omega
    · omega
    · omega
    · exact Nat.le_refl _
    · omega
  exact I1.fpOk hle (I1.hok.fresh hle)
end Fz
set_option Elab.async false
set_option linter.all false
set_option maxRecDepth 100000
set_option maxHeartbeats 4000000
/-! Fz, part I: what is walked, as a list of data; loops and comprehensions. -/
namespace Fz
open PySem PySem.Spec PyProof.Rows L2

/-! ### a walk over data -/
structure Wk (K : PySem.W.Frag) (J : It) (ds : List D) (G : Hp) : Prop where
  stop : ∀ i G1 H, Ex G G1 → Ex G1 H → i = ds.length → J.stop i H
  go : ∀ i G1 H, Ex G G1 → Ex G1 H → i < ds.length → J.go i H
  yld : ∀ i d G1 H x H', Ex G G1 → Ex G1 H → ds[i]? = some d → J.yld i H x H' →
    (H' = H ∧ Rp K G1 x d) ∨ (∃ T vs l, x = .ref T ∧ H T = none ∧ H' = upd H T (.tup vs) ∧ d = .tuple l ∧ Rps K G1 vs l) ∨
      ∃ U T u vs d0 l, x = .ref T ∧ U ≠ T ∧ H U = none ∧ H T = none ∧ H' = upd (upd H U (.tup vs)) T (.tup [u, .ref U]) ∧ d = .tuple [d0, .tuple l] ∧ Rp K G1 u d0 ∧ Rps K G1 vs l
def DenI (X : Cx) (β : Option Addr) (tg it : Expr) (a : En) (ds : List D) (b : En) : Prop :=
  ∀ (G H : Hp) (ρ : Own) (σ : L2.St) (Q : It → Hp → Prop), R X.K β G H ρ σ a →
    (∀ J G' H' ρ', Fr G H ρ G' H' ρ' → R X.K β G' H' ρ' σ b → Wk X.K J ds G' → Q J H') → wI X tg it σ H Q
section
variable {X : Cx} {β : Option Addr} {K : PySem.W.Frag} {G : Hp}
def seqD : D → Option (Bool × List D)
  | .list l => some (true, l)
  | .tuple l => some (false, l)
  | _ => none
theorem seq_rp {v : V} {d : D} {k : Bool} {l : List D} (h : Rp K G v d) (e : seqD d = some (k, l)) : ∃ a vs, v = .ref a ∧ Rps K G vs l ∧ SqX K G a vs k := by
  cases h with
  | lst h1 h2 => cases e; exact ⟨_, _, rfl, h2, .inl h1⟩
  | tup h1 h2 => cases e; exact ⟨_, _, rfl, h2, h1⟩
  | _ => cases e
theorem sqx_mono {H : Hp} {a : Addr} {vs : List V} (e : Ex G H) : ∀ {k : Bool}, SqX K G a vs k → SqX K H a vs k
  | true, h => Evl.ex_l e h
  | false, h => Evl.ex_t e h
theorem wk_seq {a : Addr} {vs : List V} {l : List D} (k : Bool) (h : SqX K G a vs k) (r : Rps K G vs l) : Wk K (if k then Itl K a else Itt K a) l G := by
  have key : ∀ {i : Nat} {d : D} {G1 : Hp}, Ex G G1 → l[i]? = some d → ∃ v, vs[i]? = some v ∧ Rp K G1 v d := fun e q => by
    obtain ⟨v, h1, h2⟩ := r.get q
    exact ⟨v, h1, h2.mono e⟩
  cases k with
  | true =>
    refine ⟨fun i G1 H e1 e2 hi => ⟨vs, sqx_mono (k := true) (e1.trans e2) h, by rw [r.length, hi]; exact Nat.le_refl _⟩, fun i G1 H e1 e2 hi => ?_, fun i d G1 H x H' e1 e2 hd hy => ?_⟩
    · have : i < vs.length := by rw [r.length]; exact hi
      exact ⟨vs, vs[i], sqx_mono (k := true) (e1.trans e2) h, List.getElem?_eq_getElem this⟩
    · obtain ⟨rfl, hy⟩ := hy
      obtain ⟨v, h1, h2⟩ := key e1 hd
      have := hy vs (sqx_mono (k := true) (e1.trans e2) h)
      rw [h1] at this
      cases this
      exact .inl ⟨rfl, h2⟩
  | false =>
    refine ⟨fun i G1 H e1 e2 hi => ⟨vs, sqx_mono (k := false) (e1.trans e2) h, by rw [r.length, hi]; exact Nat.le_refl _⟩, fun i G1 H e1 e2 hi => ?_, fun i d G1 H x H' e1 e2 hd hy => ?_⟩
    · have : i < vs.length := by rw [r.length]; exact hi
      exact ⟨vs, vs[i], sqx_mono (k := false) (e1.trans e2) h, List.getElem?_eq_getElem this⟩
    · obtain ⟨rfl, hy⟩ := hy
      obtain ⟨v, h1, h2⟩ := key e1 hd
      have := hy vs (sqx_mono (k := false) (e1.trans e2) h)
      rw [h1] at this
      cases this
      exact .inl ⟨rfl, h2⟩
theorem deni_seq {tg e : Expr} {a b : En} {o k : Bool} {d : D} {l : List D} (h : Den X β e a o d b) (hk : seqD d = some (k, l)) : DenI X β tg e a l b := by
  intro G H ρ σ Q r q
  cases k with
  | true =>
    refine ⟨_, pi_list pe_w, h.fz G H ρ σ _ r fun v G1 H1 ρ1 f1 r1 x1 => ?_⟩
    obtain ⟨p, vs, rfl, h1, h2⟩ := seq_rp (show Rp X.K G1 v d from x1) hk
    exact ⟨p, rfl, ⟨vs, sqx_mono (k := true) r1.ex h2⟩, q _ G1 H1 ρ1 f1 r1 (wk_seq true h2 h1)⟩
  | false =>
    refine ⟨_, pi_tup pe_w, h.fz G H ρ σ _ r fun v G1 H1 ρ1 f1 r1 x1 => ?_⟩
    obtain ⟨p, vs, rfl, h1, h2⟩ := seq_rp (show Rp X.K G1 v d from x1) hk
    exact ⟨p, rfl, ⟨vs, sqx_mono (k := false) r1.ex h2⟩, q _ G1 H1 ρ1 f1 r1 (wk_seq false h2 h1)⟩
def strD (x : Str) : List D := x.cps.toList.map fun c => .str ⟨#[c]⟩
theorem deni_str {tg e : Expr} {a b : En} {o : Bool} {x : Str} (h : Den X β e a o (.str x) b) : DenI X β tg e a (strD x) b := by
  intro G H ρ σ Q r q
  refine ⟨_, pi_str pe_w, h.fz G H ρ σ _ r fun v G1 H1 ρ1 f1 r1 x1 => ?_⟩
  cases (show Rp X.K G1 v (.str x) from x1)
  refine ⟨x, rfl, q _ G1 H1 ρ1 f1 r1 ⟨fun i G2 H2 e1 e2 hi => ?_, fun i G2 H2 e1 e2 hi => ?_, fun i d G2 H2 y H' e1 e2 hd hy => ?_⟩⟩
  · show x.cps.size ≤ i
    rw [hi]; simp [strD]
  · show i < x.cps.size
    simpa [strD] using hi
  · obtain ⟨rfl, c, hc, rfl⟩ := hy
    have : (strD x)[i]? = some (.str ⟨#[c]⟩) := by
      unfold strD
      rw [List.getElem?_map, Array.getElem?_toList, hc]
      rfl
    rw [this] at hd
    cases hd
    exact .inl ⟨rfl, .str _⟩
/-! ranges -/
def rngD (lo : Int) (n : Nat) : List D := (List.range n).map fun (i : Nat) => .int (lo + (i : Int))
theorem rngD_len (lo : Int) (n : Nat) : (rngD lo n).length = n := by simp [rngD]
theorem rngD_get {lo : Int} {n i : Nat} {d : D} (h : (rngD lo n)[i]? = some d) : d = .int (lo + (i : Int)) := by
  unfold rngD at h
  rw [List.getElem?_map] at h
  cases z : (List.range n)[i]? with
  | none => rw [z] at h; cases h
  | some j =>
    rw [z] at h
    cases h
    have := List.getElem?_eq_some_iff.mp z
    obtain ⟨h1, h2⟩ := this
    rw [List.getElem_range] at h2
    rw [h2]
theorem wk_rng {lo : Int} {n : Nat} : Wk K (Itr lo n) (rngD lo n) G := by
  refine ⟨fun i G1 H e1 e2 hi => ?_, fun i G1 H e1 e2 hi => ?_, fun i d G1 H x H' e1 e2 hd hy => ?_⟩
  · show n ≤ i
    rw [hi, rngD_len]; exact Nat.le_refl _
  · show i < n
    rw [rngD_len] at hi; exact hi
  · obtain ⟨rfl, rfl⟩ := hy
    rw [rngD_get hd]
    exact .inl ⟨rfl, .int _⟩
def b62 (i : Int) : Bool := decide (-(2 ^ 62) ≤ i) && decide (i < 2 ^ 62)
theorem b62_ok {i : Int} (h : b62 i = true) : -(2 ^ 62) ≤ i ∧ i < 2 ^ 62 := by
  unfold b62 at h
  rw [Bool.and_eq_true, decide_eq_true_eq, decide_eq_true_eq] at h
  exact h
theorem deni_rng1 {tg e : Expr} {p pos : Pos} {a b : En} {i : Int} (hs : isStar e = false) (hg : Gl X "range") (hm : X.mg "range" = none) (h : DenA X β [e] a [.int i] b) (hi : b62 i = true) : DenI X β tg (.Call (.Name "range" p) [e] [] pos) a (rngD 0 i.toNat) b := by
  intro G H ρ σ Q r q
  refine ⟨_, pi_range1 hg hm pa_w (star_ok hs), h G H ρ σ _ r fun vs G1 H1 ρ1 f1 r1 x1 => ?_⟩
  obtain ⟨v, rfl, h1⟩ := rps1 x1
  cases h1
  exact ⟨i, rfl, (b62_ok hi).1, (b62_ok hi).2, q _ G1 H1 ρ1 f1 r1 wk_rng⟩
theorem deni_rng2 {tg e e2 : Expr} {p pos : Pos} {a b : En} {i j : Int} (hs : isStar e = false) (hs2 : isStar e2 = false) (hg : Gl X "range") (hm : X.mg "range" = none) (h : DenA X β [e, e2] a [.int i, .int j] b) (hi : b62 i = true) (hj : b62 j = true) :
    DenI X β tg (.Call (.Name "range" p) [e, e2] [] pos) a (rngD i (j - i).toNat) b := by
  intro G H ρ σ Q r q
  refine ⟨_, pi_range2 hg hm pa_w (by rw [star_ok hs, star_ok hs2]; rfl) (star_ok hs2), h G H ρ σ _ r fun vs G1 H1 ρ1 f1 r1 x1 => ?_⟩
  obtain ⟨v, w, rfl, h1, h2⟩ := rps2 x1
  cases h1
  cases h2
  exact ⟨i, j, rfl, ⟨(b62_ok hi).1, (b62_ok hi).2, (b62_ok hj).1, (b62_ok hj).2⟩, q _ G1 H1 ρ1 f1 r1 wk_rng⟩

theorem deni_rng3 {tg e e2 e3 : Expr} {p pos : Pos} {a b : En} {i j : Int} (hs : [e, e2, e3].all (fun e => !isStar e) = true) (hg : Gl X "range") (hm : X.mg "range" = none) (h : DenA X β [e, e2, e3] a [.int i, .int j, .int (-1)] b) (hi : b62 i = true) (hj : b62 j = true) :
    DenI X β tg (.Call (.Name "range" p) [e, e2, e3] [] pos) a (((List.range (i - j).toNat).map fun (m : Nat) => .int (i - (m : Int)))) b := by
  intro G H ρ σ Q r q
  have hs1 := hs
  rw [List.all_cons, Bool.and_eq_true] at hs
  refine ⟨_, pi_range3 hg hm pa_w (star_ok (by simpa using hs.1)) (stars_ok hs.2), h G H ρ σ _ r fun vs G1 H1 ρ1 f1 r1 x1 => ?_⟩
  cases x1 with
  | cons h1 x1 =>
    obtain ⟨v, w, rfl, h2, h3⟩ := rps2 x1
    cases h1
    cases h2
    cases h3
    refine ⟨i, j, -1, (i - j).toNat, rfl, RgC.neg (b62_ok hi).1 (b62_ok hi).2 (b62_ok hj).1 (b62_ok hj).2, q _ G1 H1 ρ1 f1 r1 ⟨fun m G1 H e1 e2 hm => ?_, fun m G1 H e1 e2 hm => ?_, fun m d G1 H x H' e1 e2 hd hy => ?_⟩⟩
    · show _ ≤ m
      rw [hm]; simp
    · show m < _
      simpa using hm
    · obtain ⟨rfl, rfl⟩ := hy
      rw [List.getElem?_map] at hd
      cases z : (List.range (i - j).toNat)[m]? with
      | none => rw [z] at hd; cases hd
      | some m' =>
        rw [z] at hd
        cases hd
        obtain ⟨h1, h2⟩ := List.getElem?_eq_some_iff.mp z
        rw [List.getElem_range] at h2
        subst h2
        refine .inl ⟨rfl, ?_⟩
        rw [show i + (m : Int) * -1 = i - (m : Int) by omega]
        exact .int _
/-! enumerate, zip -/
def enumD (c : Int) : List D → List D
  | [] => []
  | d :: l => .tuple [.int c, d] :: enumD (c + 1) l
theorem enumD_len : ∀ (l : List D) (c : Int), (enumD c l).length = l.length
  | [], _ => rfl
  | d :: l, c => by unfold enumD; rw [List.length_cons, List.length_cons, enumD_len l]
theorem enumD_get : ∀ {l : List D} {c : Int} {i : Nat} {d : D}, (enumD c l)[i]? = some d → ∃ e, l[i]? = some e ∧ d = .tuple [.int (c + (i : Int)), e]
  | [], _, _, _, h => by simp [enumD] at h
  | e :: l, c, 0, d, h => by
    simp only [enumD, List.getElem?_cons_zero, Option.some.injEq] at h
    exact ⟨e, rfl, by rw [← h]; simp⟩
  | e :: l, c, i + 1, d, h => by
    simp only [enumD, List.getElem?_cons_succ] at h
    obtain ⟨e', h1, h2⟩ := enumD_get h
    refine ⟨e', by simpa using h1, ?_⟩
    rw [h2, show c + 1 + (i : Int) = c + ((i + 1 : Nat) : Int) by omega]
theorem wk_enum {a : Addr} {vs : List V} {l : List D} {c : Int} (k : Bool) (h : SqX K G a vs k) (r : Rps K G vs l) : Wk K (IteX K k a c vs.length) (enumD c l) G := by
  refine ⟨fun i G1 H e1 e2 hi => ⟨by rw [hi, enumD_len, r.length]; exact Nat.le_refl _, vs, sqx_mono (e1.trans e2) h, rfl⟩, fun i G1 H e1 e2 hi => ⟨by rw [enumD_len] at hi; rw [r.length]; exact hi, vs, sqx_mono (e1.trans e2) h, rfl⟩, fun i d G1 H x H' e1 e2 hd hy => ?_⟩
  obtain ⟨T, y, rfl, hT, rfl, hy⟩ := hy
  obtain ⟨e, he, rfl⟩ := enumD_get hd
  obtain ⟨v, v1, v2⟩ := r.get he
  have := hy vs (sqx_mono (e1.trans e2) h)
  rw [v1] at this
  cases this
  exact .inr (.inl ⟨T, _, _, rfl, hT, rfl, rfl, .cons (.int _) (.cons (v2.mono e1) .nil)⟩)
theorem deni_enum1 {e : Expr} {elts : List Expr} {kk : Nat} {tpos p pos : Pos} {a b : En} {d : D} {l : List D} {k : Bool} (hs : isStar e = false) (hg : Gl X "enumerate") (hm : X.mg "enumerate" = none) (h : DenA X β [e] a [d] b) (hk : seqD d = some (k, l)) :
    DenI X β (.Tuple elts kk tpos) (.Call (.Name "enumerate" p) [e] [] pos) a (enumD 0 l) b := by
  intro G H ρ σ Q r q
  refine ⟨_, pi_enum1 k hg hm pa_w (star_ok hs), h G H ρ σ _ r fun vs G1 H1 ρ1 f1 r1 x1 => ?_⟩
  obtain ⟨v, rfl, h1⟩ := rps1 x1
  obtain ⟨p', ws, rfl, h2, h3⟩ := seq_rp h1 hk
  exact ⟨p', ws, rfl, sqx_mono r1.ex h3, q _ G1 H1 ρ1 f1 r1 (wk_enum k h3 h2)⟩
theorem deni_enum2 {e e2 : Expr} {elts : List Expr} {kk : Nat} {tpos p pos : Pos} {a b : En} {d : D} {c : Int} {l : List D} {k : Bool} (hs : isStar e = false) (hs2 : isStar e2 = false) (hg : Gl X "enumerate") (hm : X.mg "enumerate" = none) (h : DenA X β [e, e2] a [d, .int c] b) (hk : seqD d = some (k, l)) (hc : b62 c = true) :
    DenI X β (.Tuple elts kk tpos) (.Call (.Name "enumerate" p) [e, e2] [] pos) a (enumD c l) b := by
  intro G H ρ σ Q r q
  refine ⟨_, pi_enumX k hg hm pa_w (star_ok hs) (stars_ok (by simp [hs2])), h G H ρ σ _ r fun vs G1 H1 ρ1 f1 r1 x1 => ?_⟩
  obtain ⟨v, w, rfl, h1, h0⟩ := rps2 x1
  cases h0
  obtain ⟨p', ws, rfl, h2, h3⟩ := seq_rp h1 hk
  have := b62_ok hc
  exact ⟨p', c, ws, rfl, sqx_mono r1.ex h3, by omega, by omega, q _ G1 H1 ρ1 f1 r1 (wk_enum k h3 h2)⟩
def zipD : List D → List D → List D
  | d :: l, e :: m => .tuple [d, e] :: zipD l m
  | _, _ => []
theorem zipD_len : ∀ (l m : List D), (zipD l m).length = min l.length m.length
  | [], m => by simp [zipD]
  | d :: l, [] => by simp [zipD]
  | d :: l, e :: m => by unfold zipD; rw [List.length_cons, List.length_cons, List.length_cons, zipD_len l m]; omega
theorem zipD_get : ∀ {l m : List D} {i : Nat} {d : D}, (zipD l m)[i]? = some d → ∃ e f, l[i]? = some e ∧ m[i]? = some f ∧ d = .tuple [e, f]
  | [], m, _, _, h => by simp [zipD] at h
  | d :: l, [], _, _, h => by simp [zipD] at h
  | e :: l, f :: m, 0, d, h => by
    simp only [zipD, List.getElem?_cons_zero, Option.some.injEq] at h
    exact ⟨e, f, rfl, rfl, h.symm⟩
  | e :: l, f :: m, i + 1, d, h => by
    simp only [zipD, List.getElem?_cons_succ] at h
    obtain ⟨e', f', h1, h2, h3⟩ := zipD_get h
    exact ⟨e', f', by simpa using h1, by simpa using h2, h3⟩
theorem deni_zip {e e2 : Expr} {elts : List Expr} {kk : Nat} {tpos p pos : Pos} {a b : En} {d d2 : D} {l m : List D} {k k2 : Bool} (hs : isStar e = false) (hs2 : isStar e2 = false) (hg : Gl X "zip") (hm : X.mg "zip" = none) (h : DenA X β [e, e2] a [d, d2] b) (hk : seqD d = some (k, l)) (hk2 : seqD d2 = some (k2, m)) :
    DenI X β (.Tuple elts kk tpos) (.Call (.Name "zip" p) [e, e2] [] pos) a (zipD l m) b := by
  intro G H ρ σ Q r q
  refine ⟨_, pi_zipX k k2 hg hm pa_w (star_ok hs) (stars_ok (by simp [hs2])), h G H ρ σ _ r fun vs G1 H1 ρ1 f1 r1 x1 => ?_⟩
  obtain ⟨v, w, rfl, h1, h0⟩ := rps2 x1
  obtain ⟨p1, ws, rfl, h2, h3⟩ := seq_rp h1 hk
  obtain ⟨p2, us, rfl, h4, h5⟩ := seq_rp h0 hk2
  refine ⟨p1, p2, ws, us, rfl, sqx_mono r1.ex h3, sqx_mono r1.ex h5, q _ G1 H1 ρ1 f1 r1 ⟨fun i G2 H2 e1 e2 hi => ⟨?_, ws, us, sqx_mono (e1.trans e2) h3, sqx_mono (e1.trans e2) h5, rfl, rfl⟩, fun i G2 H2 e1 e2 hi => ⟨?_, ws, us, sqx_mono (e1.trans e2) h3, sqx_mono (e1.trans e2) h5, rfl, rfl⟩, fun i d G2 H2 x H' e1 e2 hd hy => ?_⟩⟩
  · rw [hi, zipD_len, h2.length, h4.length]; exact Nat.le_refl _
  · rw [zipD_len] at hi; rw [h2.length, h4.length]; exact hi
  · obtain ⟨T, x, y, rfl, hT, rfl, hx, hy⟩ := hy
    obtain ⟨e, f, g1, g2, rfl⟩ := zipD_get hd
    obtain ⟨v1, w1, w2⟩ := h2.get g1
    obtain ⟨v2, w3, w4⟩ := h4.get g2
    have t1 := hx ws (sqx_mono (e1.trans e2) h3)
    have t2 := hy us (sqx_mono (e1.trans e2) h5)
    rw [w1] at t1
    rw [w3] at t2
    cases t1
    cases t2
    exact .inr (.inl ⟨T, _, _, rfl, hT, rfl, rfl, .cons (w2.mono e1) (.cons (w4.mono e1) .nil)⟩)
theorem deni_ez {e e2 : Expr} {elts : List Expr} {kk : Nat} {tpos p pos p2 pos2 : Pos} {a b : En} {d d2 : D} {l m : List D} {k k2 : Bool} (hs : isStar e = false) (hs2 : isStar e2 = false) (hge : Gl X "enumerate") (hme : X.mg "enumerate" = none) (hg : Gl X "zip") (hm : X.mg "zip" = none) (h : DenA X β [e, e2] a [d, d2] b) (hk : seqD d = some (k, l)) (hk2 : seqD d2 = some (k2, m)) :
    DenI X β (.Tuple elts kk tpos) (.Call (.Name "enumerate" p) [.Call (.Name "zip" p2) [e, e2] [] pos2] [] pos) a (enumD 0 (zipD l m)) b := by
  intro G H ρ σ Q r q
  refine ⟨_, pi_ez k k2 hge hme hg hm pa_w (star_ok hs) (stars_ok (by simp [hs2])), h G H ρ σ _ r fun vs G1 H1 ρ1 f1 r1 x1 => ?_⟩
  obtain ⟨v, w, rfl, h1, h0⟩ := rps2 x1
  obtain ⟨p1, ws, rfl, h2, h3⟩ := seq_rp h1 hk
  obtain ⟨p2, us, rfl, h4, h5⟩ := seq_rp h0 hk2
  refine ⟨p1, p2, ws, us, rfl, sqx_mono r1.ex h3, sqx_mono r1.ex h5, q _ G1 H1 ρ1 f1 r1 ⟨fun i G2 H2 e1 e2 hi => ⟨?_, ws, us, sqx_mono (e1.trans e2) h3, sqx_mono (e1.trans e2) h5, rfl, rfl⟩, fun i G2 H2 e1 e2 hi => ⟨?_, ws, us, sqx_mono (e1.trans e2) h3, sqx_mono (e1.trans e2) h5, rfl, rfl⟩, fun i d G2 H2 x H' e1 e2 hd hy => ?_⟩⟩
  · rw [hi, enumD_len, zipD_len, h2.length, h4.length]; exact Nat.le_refl _
  · rw [enumD_len, zipD_len] at hi; rw [h2.length, h4.length]; exact hi
  · obtain ⟨U, T, x, y, rfl, hne, hU, hT, rfl, hx, hy⟩ := hy
    obtain ⟨z, hz, rfl⟩ := enumD_get hd
    obtain ⟨e, f, g1, g2, rfl⟩ := zipD_get hz
    obtain ⟨v1, w1, w2⟩ := h2.get g1
    obtain ⟨v2, w3, w4⟩ := h4.get g2
    have t1 := hx ws (sqx_mono (e1.trans e2) h3)
    have t2 := hy us (sqx_mono (e1.trans e2) h5)
    rw [w1] at t1
    rw [w3] at t2
    cases t1
    cases t2
    refine .inr (.inr ⟨U, T, .int (i : Nat), _, .int (i : Nat), _, rfl, hne, hU, hT, rfl, by rw [Int.zero_add], .int _, .cons (w2.mono e1) (.cons (w4.mono e1) .nil)⟩)
/-! reversed(x) -/
theorem deni_rev {tg e : Expr} {p pos : Pos} {a b : En} {o k : Bool} {d : D} {l : List D} (hs : isStar e = false) (hg : Gl X "reversed") (hm : X.mg "reversed" = none) (h : Den X β e a o d b) (hk : seqD d = some (k, l)) : DenI X β tg (.Call (.Name "reversed" p) [e] [] pos) a l.reverse b := by
  intro G H ρ σ Q r q
  refine ⟨_, RT.pi_revA hg hm pe_w (star_ok hs), h.fz G H ρ σ _ r fun v G1 H1 ρ1 f1 r1 x1 => ?_⟩
  obtain ⟨p', vs, rfl, h1, h2⟩ := seq_rp (show Rp X.K G1 v d from x1) hk
  have key : ∀ {i : Nat} {d : D} {G2 : Hp}, Ex G1 G2 → l.reverse[i]? = some d → ∃ v, vs[vs.length - 1 - i]? = some v ∧ Rp X.K G2 v d := fun {i d G2} e q => by
    have hi : i < l.length := by have := (List.getElem?_eq_some_iff.mp q).1; simpa using this
    rw [List.getElem?_reverse hi] at q
    obtain ⟨v, w1, w2⟩ := h1.get q
    exact ⟨v, by rw [h1.length]; exact w1, w2.mono e⟩
  refine ⟨p', vs, rfl, ?_⟩
  cases k with
  | true =>
    refine .inl ⟨Evl.ex_l r1.ex h2, q _ G1 H1 ρ1 f1 r1 ⟨fun i G2 H2 e1 e2 hi => ?_, fun i G2 H2 e1 e2 hi => ?_, fun i d G2 H2 x H' e1 e2 hd hy => ?_⟩⟩
    · show _ ≤ i
      rw [hi, List.length_reverse, h1.length]; exact Nat.le_refl _
    · rw [List.length_reverse] at hi
      have hi' : i < vs.length := by rw [h1.length]; exact hi
      exact ⟨hi', vs, vs[vs.length - 1 - i]'(by omega), Evl.ex_l (e1.trans e2) h2, List.getElem?_eq_getElem _⟩
    · obtain ⟨rfl, hy⟩ := hy
      obtain ⟨v, w1, w2⟩ := key e1 hd
      have t := hy vs (Evl.ex_l (e1.trans e2) h2)
      rw [w1] at t
      cases t
      exact .inl ⟨rfl, w2⟩
  | false =>
    refine .inr ⟨Evl.ex_t r1.ex h2, q _ G1 H1 ρ1 f1 r1 ⟨fun i G2 H2 e1 e2 hi => ?_, fun i G2 H2 e1 e2 hi => ?_, fun i d G2 H2 x H' e1 e2 hd hy => ?_⟩⟩
    · show _ ≤ i
      rw [hi, List.length_reverse, h1.length]; exact Nat.le_refl _
    · rw [List.length_reverse] at hi
      have hi' : i < vs.length := by rw [h1.length]; exact hi
      exact ⟨hi', vs, vs[vs.length - 1 - i]'(by omega), Evl.ex_t (e1.trans e2) h2, List.getElem?_eq_getElem _⟩
    · obtain ⟨rfl, hy⟩ := hy
      obtain ⟨v, w1, w2⟩ := key e1 hd
      have t := hy vs (Evl.ex_t (e1.trans e2) h2)
      rw [w1] at t
      cases t
      exact .inl ⟨rfl, w2⟩
end
end Fz
set_option Elab.async false
set_option linter.all false
set_option maxRecDepth 100000
set_option maxHeartbeats 4000000
/-! Fz, part J: stores, targets, statements. -/
namespace Fz
open PySem PySem.Spec PyProof.Rows L2

inductive SR where
  | nx (e : En)
  | rt (o : Bool) (d : D) (e : En)
  | bk (e : En)
  | ct (e : En)
def slotOf (o : Bool) (d : D) : Sl := match o, d with
  | true, .list l => .own l
  | _, d => .val d
def setS (e : En) (i : Nat) (o : Bool) (d : D) : En := { e with sl := e.sl.set i (slotOf o d) }
section
variable {K : PySem.W.Frag} {β : Option Addr} {G H G0 H0 : Hp} {ρ ρ0 : Own} {σ : L2.St} {e : En}
theorem R.store {i : Nat} {o : Bool} {d : D} {v : V} (r : R K β G H ρ σ e) (hi : i < e.sl.length) (x : VR K H0 G H ρ d v o) (f : Fr G0 H0 ρ0 G H ρ) :
    ∃ ρ', R K β G H ρ' (σ.set i (some v)) (setS e i o d) ∧ Fr G0 H0 ρ0 G H ρ' := by
  have hσ : i < σ.length := by rw [r.len]; exact hi
  cases o with
  | false =>
    refine ⟨ρ, ⟨by simp [setS, r.len], r.ex, r.ow, fun j s hj => ?_, r.bg⟩, f⟩
    by_cases k : j = i
    · subst k
      simp only [setS, List.getElem?_set, if_true, hi, slotOf] at hj
      cases hj
      refine ⟨v, by simp [hσ], x⟩
    · simp only [setS, List.getElem?_set, if_neg (Ne.symm k)] at hj
      have w := r.sl j s hj
      simp only [List.getElem?_set, if_neg (Ne.symm k)]
      exact w
  | true =>
    obtain ⟨p, l, vs, rfl, rfl, h0, hg, hr, hh, hv⟩ := x
    refine ⟨fun z => if z = p then some (i + 1) else ρ z, ⟨by simp [setS, r.len], r.ex, fun z hz => ?_, fun j s hj => ?_, fun z hz => ?_⟩, ⟨f.ex, fun z u hz hρ => ?_, f.dom⟩⟩
    · by_cases k : z = p
      · subst k; exact ⟨hg, by rw [hh]; simp⟩
      · simp only [k, if_false] at hz; exact r.ow z hz
    · by_cases k : j = i
      · subst k
        simp only [setS, List.getElem?_set, if_true, hi, slotOf] at hj
        cases hj
        exact ⟨p, vs, by simp [hσ], by simp, hh, hv⟩
      · simp only [setS, List.getElem?_set, if_neg (Ne.symm k)] at hj
        have w := r.sl j s hj
        simp only [List.getElem?_set, if_neg (Ne.symm k)]
        cases s with
        | no => trivial
        | val d => exact w
        | bag => exact w
        | own l' =>
          obtain ⟨p', vs', w1, w2, w3, w4⟩ := w
          have ne : p' ≠ p := fun z => by rw [z, hr] at w2; cases w2
          exact ⟨p', vs', w1, by simp [ne, w2], w3, w4⟩
    · obtain ⟨b1, ws, b2, b3⟩ := r.bg z hz
      have ne : z ≠ p := fun k => by rw [k, hr] at b1; cases b1
      exact ⟨by simp [ne, b1], ws, b2, b3⟩
    · obtain ⟨h1, h2, h3⟩ := f.keep z u hz hρ
      have ne : z ≠ p := fun k => by rw [k, h0] at hz; cases hz
      exact ⟨h1, by simp [ne, h2], h3⟩
theorem R.storeV {i : Nat} {d : D} {v : V} (r : R K β G H ρ σ e) (hi : i < e.sl.length) (x : Rp K G v d) : R K β G H ρ (σ.set i (some v)) (setS e i false d) := by
  have hσ : i < σ.length := by rw [r.len]; exact hi
  refine ⟨by simp [setS, r.len], r.ex, r.ow, fun j s hj => ?_, r.bg⟩
  by_cases k : j = i
  · subst k
    simp only [setS, List.getElem?_set, if_true, hi, slotOf] at hj
    cases hj
    exact ⟨v, by simp [hσ], x⟩
  · simp only [setS, List.getElem?_set, if_neg (Ne.symm k)] at hj
    have w := r.sl j s hj
    simp only [List.getElem?_set, if_neg (Ne.symm k)]
    exact w

/-! ### targets: a name, or a tuple of names -/
inductive Tg where
  | one (i : Nat)
  | tup (l : List Nat)
  /-- a name and a tuple of names -/
  | pr (i : Nat) (l : List Nat)
def Tg.ix : Tg → List Nat
  | .one i => [i]
  | .tup l => l
  | .pr i l => i :: l
def gNames : List Nat → TGs
  | [] => gNil
  | i :: l => gCons (gName i) (gNames l)
def gOf (K : PySem.W.Frag) : Tg → TG
  | .one i => gName i
  | .tup l => gTup K l.length (gNames l)
  | .pr i l => gTup K 2 (gCons (gName i) (gCons (gTup K l.length (gNames l)) gNil))
def stAll (e : En) : List Nat → List D → Option En
  | [], [] => some e
  | i :: l, d :: ds => if i < e.sl.length then stAll (setS e i false d) l ds else none
  | _, _ => none
def stT (e : En) (t : Tg) (d : D) : Option En :=
  match t with
  | .one i => if i < e.sl.length then some (setS e i false d) else none
  | .tup l => match d with
    | .tuple ds => stAll e l ds
    | _ => none
  | .pr i l => match d with
    | .tuple [x, .tuple ds] => if i < e.sl.length then stAll (setS e i false x) l ds else none
    | _ => none
theorem gNames_ok : ∀ {l : List Nat} {ds : List D} {vs : List V} {σ : L2.St} {e e1 : En} {Q : L2.St → Hp → Prop}, R K β G H ρ σ e → Rps K G vs ds → stAll e l ds = some e1 →
    (∀ σ1, R K β G H ρ σ1 e1 → σ1.length = σ.length → (∀ j, j ∉ l → σ1[j]? = σ[j]?) → Q σ1 H) → gNames l vs σ H Q ∧ vs.length = l.length
  | [], [], _, σ, e, e1, Q, r, .nil, h, q => by
    cases h
    exact ⟨⟨rfl, q σ r rfl fun _ _ => rfl⟩, rfl⟩
  | i :: l, d :: ds, _, σ, e, e1, Q, r, .cons hv hr, h, q => by
    unfold stAll at h
    split at h
    · rename_i hi
      have key := gNames_ok (Q := Q) (r.storeV hi hv) hr h fun σ1 r1 l1 a1 => q σ1 r1 (by rw [l1]; simp) fun j hj => by
        rw [List.mem_cons, not_or] at hj
        rw [a1 j hj.2]
        simp only [List.getElem?_set, if_neg (Ne.symm hj.1)]
      exact ⟨⟨_, _, rfl, key.1⟩, by rw [List.length_cons, List.length_cons, key.2]⟩
    · cases h
  | [], _ :: _, _, _, _, _, _, _, _, h, _ => by cases h
  | _ :: _, [], _, _, _, _, _, _, _, h, _ => by cases h
theorem gOf_ok {t : Tg} {d : D} {v : V} {e1 : En} {Q : L2.St → Hp → Prop} (r : R K β G H ρ σ e) (hv : Rp K G v d) (h : stT e t d = some e1)
    (q : ∀ σ1, R K β G H ρ σ1 e1 → σ1.length = σ.length → (∀ j, j ∉ t.ix → σ1[j]? = σ[j]?) → Q σ1 H) : gOf K t v σ H Q := by
  cases t with
  | one i =>
    unfold stT at h
    simp only at h
    split at h
    · rename_i hi
      cases h
      refine q _ (r.storeV hi hv) (by simp) fun j hj => ?_
      have : j ≠ i := fun z => hj (by simp [Tg.ix, z])
      simp only [List.getElem?_set, if_neg (Ne.symm this)]
    · cases h
  | tup l =>
    cases d with
    | tuple ds =>
      cases hv with
      | tup h1 h2 =>
        have key := gNames_ok r h2 h q
        exact ⟨_, _, rfl, Evl.ex_t r.ex h1, key.2, key.1⟩
    | _ => cases h
  | pr i l =>
    unfold stT at h
    simp only at h
    split at h
    · split at h
      · rename_i x ds hi
        cases hv with
        | tup h1 h2 =>
          cases h2 with
          | cons hx h3 =>
            cases h3 with
            | cons hy h4 =>
              cases h4
              cases hy with
              | tup h5 h6 =>
                have key := gNames_ok (Q := fun σ' H' => gNil [] σ' H' Q) (r.storeV hi hx) h6 h fun σ1 r1 l1 a1 => ⟨rfl, q σ1 r1 (by rw [l1]; simp) fun j hj => by
                  rw [show (Tg.pr i l).ix = i :: l from rfl, List.mem_cons, not_or] at hj
                  rw [a1 j hj.2]
                  simp only [List.getElem?_set, if_neg (Ne.symm hj.1)]⟩
                exact ⟨_, _, rfl, Evl.ex_t r.ex h1, rfl, _, _, rfl, _, _, rfl, ⟨_, _, rfl, Evl.ex_t r.ex h5, key.2, key.1⟩⟩
      · cases h
    · cases h
end

section
variable {X : Cx} {β : Option Addr}
/-- the names of a target and their slots -/
def idxOf (N : List Str) (x : Str) : Option Nat := N.findIdx? (· == x)
theorem idxOf_get {N : List Str} {x : Str} {i : Nat} (h : idxOf N x = some i) : N[i]? = some x := by
  unfold idxOf at h
  rw [List.findIdx?_eq_some_iff_getElem] at h
  obtain ⟨h1, h2, h3⟩ := h
  rw [List.getElem?_eq_getElem h1]
  simp at h2
  rw [h2]
def tgNames (N : List Str) : List Expr → Option (List (Str × Nat))
  | [] => some []
  | .Name x _ :: r => match idxOf N x, tgNames N r with
    | some i, some l => some ((x, i) :: l)
    | _, _ => none
  | _ :: _ => none
def tgOf (N : List Str) : Expr → Option (Tg × List (Str × Nat))
  | .Name x _ => (idxOf N x).map fun i => (.one i, [(x, i)])
  | .Tuple es _ _ => match tgNames N es with
    | some l => some (.tup (l.map (·.2)), l)
    | none => match es with
      | [.Name x _, .Tuple fs _ _] => match idxOf N x, tgNames N fs with
        | some i, some l => some (.pr i (l.map (·.2)), (x, i) :: l)
        | _, _ => none
      | _ => none
  | _ => none
/-- what storing to a name asks of the context -/
def StOk (X : Cx) (x : Str) : Prop := Loc X.env.scope x ∧ (X.fn x = true ∨ X.env.scope.names.lookup x = some .local)
theorem pgs_names {nd : X.N.Nodup} : ∀ {es : List Expr} {l : List (Str × Nat)}, tgNames X.N es = some l → (∀ p ∈ l, StOk X p.1) → PGs X es (gNames (l.map (·.2))) ∧ (assignEach es X.env).length = l.length ∧ (assignEach es X.env).findIdx? (·.1) = none
  | [], l, h, _ => by cases h; exact ⟨pgs_nil, rfl, rfl⟩
  | .Name x p :: r, l, h, hs => by
    unfold tgNames at h
    cases z : idxOf X.N x with
    | none => rw [z] at h; cases h
    | some i =>
      rw [z] at h
      cases z2 : tgNames X.N r with
      | none => rw [z2] at h; cases h
      | some l' =>
        rw [z2] at h
        cases h
        obtain ⟨k1, k2, k3⟩ := pgs_names (nd := nd) z2 fun p hp => hs p (List.mem_cons_of_mem _ hp)
        obtain ⟨s1, s2⟩ := hs (x, i) List.mem_cons_self
        refine ⟨pgs_cons (pg_name nd (idxOf_get z) s1 s2) k1, ?_, ?_⟩
        · show (assignEach r X.env).length + 1 = l'.length + 1
          rw [k2]
        · show List.findIdx? (·.1) ((false, assign (.Name x p) X.env) :: assignEach r X.env) = none
          rw [List.findIdx?_cons, if_neg (by simp), k3]
          rfl
theorem pg_tg {tg : Expr} {t : Tg} {l : List (Str × Nat)} (nd : X.N.Nodup) (hc : X.calm = true) (h : tgOf X.N tg = some (t, l)) (hs : ∀ p ∈ l, StOk X p.1) : PG X tg (gOf X.K t) := by
  unfold tgOf at h
  split at h
  · rename_i x p
    cases z : idxOf X.N x with
    | none => rw [z] at h; cases h
    | some i =>
      rw [z] at h
      cases h
      obtain ⟨s1, s2⟩ := hs (x, i) List.mem_cons_self
      exact pg_name nd (idxOf_get z) s1 s2
  · rename_i es k p
    cases z : tgNames X.N es with
    | none =>
      rw [z] at h
      dsimp only at h
      split at h
      · rename_i x px fs kf pf
        split at h
        · rename_i i l' hi hl
          cases h
          obtain ⟨k1, k2, k3⟩ := pgs_names (nd := nd) hl fun p hp => hs p (List.mem_cons_of_mem _ hp)
          obtain ⟨s1, s2⟩ := hs (x, i) List.mem_cons_self
          exact pg_tup hc (pgs_cons (pg_name nd (idxOf_get hi) s1 s2) (pgs_cons (pg_tup hc k1 (by rw [k2, List.length_map]) k3) pgs_nil)) rfl rfl
        · cases h
      · cases h
    | some l' =>
      rw [z] at h
      cases h
      obtain ⟨k1, k2, k3⟩ := pgs_names (nd := nd) z hs
      exact pg_tup hc k1 (by rw [k2, List.length_map]) k3
  · cases h

/-! ### statements -/
def PostS (K : PySem.W.Frag) (β : Option Addr) (G H : Hp) (ρ : Own) (Dn : Ends) : SR → Prop
  | .nx b => ∀ G' H' ρ' σ', Fr G H ρ G' H' ρ' → R K β G' H' ρ' σ' b → Dn.nx σ' H'
  | .bk b => ∀ G' H' ρ' σ', Fr G H ρ G' H' ρ' → R K β G' H' ρ' σ' b → Dn.bk σ' H'
  | .ct b => ∀ G' H' ρ' σ', Fr G H ρ G' H' ρ' → R K β G' H' ρ' σ' b → Dn.ct σ' H'
  | .rt o d b => ∀ v G' H' ρ' σ', Fr G H ρ G' H' ρ' → R K β G' H' ρ' σ' b → VR K H G' H' ρ' d v o → Dn.rt v H'
theorem VR.back {K : PySem.W.Frag} {H0 H1 G H : Hp} {ρ : Own} {d : D} {v : V} {o : Bool} (x : VR K H1 G H ρ d v o) (f : ∀ p, H1 p = none → H0 p = none) : VR K H0 G H ρ d v o := by
  cases o with
  | false => exact x
  | true => obtain ⟨p, l, vs, h1, h2, h3, h4⟩ := x; exact ⟨p, l, vs, h1, h2, f p h3, h4⟩
theorem PostS.at {K : PySem.W.Frag} {G H G1 H1 : Hp} {ρ ρ1 : Own} {Dn : Ends} {r : SR} (q : PostS K β G H ρ Dn r) (f : Fr G H ρ G1 H1 ρ1) : PostS K β G1 H1 ρ1 Dn r := by
  cases r with
  | nx b => exact fun G' H' ρ' σ' f' r' => q G' H' ρ' σ' (f.trans f') r'
  | bk b => exact fun G' H' ρ' σ' f' r' => q G' H' ρ' σ' (f.trans f') r'
  | ct b => exact fun G' H' ρ' σ' f' r' => q G' H' ρ' σ' (f.trans f') r'
  | rt o d b => exact fun v G' H' ρ' σ' f' r' x => q v G' H' ρ' σ' (f.trans f') r' (x.back f.dom)
def DenS (X : Cx) (β : Option Addr) (st : Stmt) (a : En) (r : SR) : Prop :=
  ∀ (G H : Hp) (ρ : Own) (σ : L2.St) (Dn : Ends), R X.K β G H ρ σ a → PostS X.K β G H ρ Dn r → wS X st Dn σ H
def DenSs (X : Cx) (β : Option Addr) (st : List Stmt) (a : En) (r : SR) : Prop :=
  ∀ (G H : Hp) (ρ : Own) (σ : L2.St) (Dn : Ends), R X.K β G H ρ σ a → PostS X.K β G H ρ Dn r → wSs X st Dn σ H
theorem denss_nil {a : En} : DenSs X β [] a (.nx a) := fun G H ρ σ Dn r q => ⟨_, pss_nil, q G H ρ σ .refl r⟩
theorem denss_cons {st : Stmt} {rest : List Stmt} {a b : En} {r : SR} (h1 : DenS X β st a (.nx b)) (h2 : DenSs X β rest b r) : DenSs X β (st :: rest) a r := fun G H ρ σ Dn r0 q =>
  ⟨_, pss_cons ps_w pss_w, h1 G H ρ σ _ r0 fun G1 H1 ρ1 σ1 f1 r1 => h2 G1 H1 ρ1 σ1 Dn r1 (q.at f1)⟩
theorem denss_stop {st : Stmt} {rest : List Stmt} {a : En} {r : SR} (hr : ∀ b, r ≠ .nx b) (h1 : DenS X β st a r) : DenSs X β (st :: rest) a r := fun G H ρ σ Dn r0 q => by
  refine ⟨_, pss_cons ps_w pss_w, h1 G H ρ σ _ r0 ?_⟩
  cases r with
  | nx b => exact absurd rfl (hr b)
  | bk b => exact q
  | ct b => exact q
  | rt o d b => exact q
theorem dens_pass {pos : Pos} {a : En} : DenS X β (.Pass pos) a (.nx a) := fun G H ρ σ Dn r q => ⟨_, ps_pass, q G H ρ σ .refl r⟩
theorem dens_break {pos : Pos} {a : En} : DenS X β (.Break pos) a (.bk a) := fun G H ρ σ Dn r q => ⟨_, ps_break, q G H ρ σ .refl r⟩
theorem dens_continue {pos : Pos} {a : En} : DenS X β (.Continue pos) a (.ct a) := fun G H ρ σ Dn r q => ⟨_, ps_continue, q G H ρ σ .refl r⟩
theorem dens_ret {e : Expr} {pos : Pos} {a b : En} {o : Bool} {d : D} (h : Den X β e a o d b) : DenS X β (.Return (some e) pos) a (.rt o d b) := fun G H ρ σ Dn r q =>
  ⟨_, ps_ret pe_w, h G H ρ σ _ r fun v G1 H1 ρ1 f1 r1 x1 => q v G1 H1 ρ1 σ f1 r1 x1⟩
theorem dens_retN {pos : Pos} {a : En} : DenS X β (.Return none pos) a (.rt false .none a) := fun G H ρ σ Dn r q => ⟨_, ps_retN, q .non G H ρ σ .refl r .non⟩
theorem dens_if {t : Expr} {A B : List Stmt} {pos : Pos} {a b : En} {k : Bool} {r : SR} (h : DenT X β t a k b) (h1 : DenSs X β (if k then A else B) b r) : DenS X β (.If t A B pos) a r := fun G H ρ σ Dn r0 q => by
  refine ⟨_, ps_if pt_w pss_w pss_w, h G H ρ σ _ r0 fun G1 H1 ρ1 f1 r1 => ?_⟩
  cases k with
  | true => exact h1 G1 H1 ρ1 σ Dn r1 (q.at f1)
  | false => exact h1 G1 H1 ρ1 σ Dn r1 (q.at f1)
def isComp : Expr → Bool
  | .ListComp .. | .SetComp .. | .DictComp .. => true
  | _ => false
theorem swaps_ok {e : Expr} {t : Option Expr} {n : Nat} {env : Env} (h : isComp e = false) : swapsWith e t n env = pure false := by
  cases e <;> first | rfl | cases h
theorem dens_expr {e : Expr} {pos : Pos} {a b : En} {o : Bool} {d : D} (hc : isComp e = false) (h : Den X β e a o d b) : DenS X β (.Expr e pos) a (.nx b) := fun G H ρ σ Dn r q =>
  ⟨_, ps_expr pe_w (swaps_ok hc), h G H ρ σ _ r fun v G1 H1 ρ1 f1 r1 x1 => q G1 H1 ρ1 σ f1 r1⟩
theorem dens_set {x : Str} {px pos : Pos} {e : Expr} {a b : En} {o : Bool} {d : D} {i : Nat} (nd : X.N.Nodup) (hN : idxOf X.N x = some i) (hs : StOk X x) (hsw : swapsWith e (some (.Name x px)) pos.line X.env = pure false) (hi : i < b.sl.length) (h : Den X β e a o d b) :
    DenS X β (.Assign [.Name x px] e pos) a (.nx (setS b i o d)) := fun G H ρ σ Dn r q => by
  refine ⟨_, ps_set nd (idxOf_get hN) hs.1 pe_w hsw hs.2, h G H ρ σ _ r fun v G1 H1 ρ1 f1 r1 x1 => ?_⟩
  obtain ⟨ρ2, r2, f2⟩ := r1.store hi x1 f1
  exact q G1 H1 ρ2 _ f2 r2
theorem dens_tg {tg e : Expr} {pos : Pos} {a b c : En} {o : Bool} {d : D} {t : Tg} {l : List (Str × Nat)} (nd : X.N.Nodup) (hc : X.calm = true) (ht : tgOf X.N tg = some (t, l)) (hs : ∀ p ∈ l, StOk X p.1)
    (h1 : swapsWithSole [tg] e pos.line X.env = pure false) (h2 : swappedStores [tg] e X.env = pure none) (h3 : (assignEach [tg] X.env).map (·.2) = [assign tg X.env]) (h : Den X β e a o d b) (hst : stT b t d = some c) :
    DenS X β (.Assign [tg] e pos) a (.nx c) := fun G H ρ σ Dn r q => by
  refine ⟨_, ps_asg pe_w (pg_tg nd hc ht hs) h1 h2 h3, h.fz G H ρ σ _ r fun v G1 H1 ρ1 f1 r1 x1 => ?_⟩
  exact gOf_ok r1 x1 hst fun σ1 r2 _ _ => q G1 H1 ρ1 σ1 f1 r2
/-- x[i] = e, x a name that owns a list -/
theorem put_ok {o i : Expr} {pos : Pos} (h : isSlice i = false) (v : Value) : assign (.Subscript o i pos) X.env v = (do
    let ov ← holding [v] (eval o X.env); let iv ← holding [v, ov] (eval i X.env); standAt pos; holding [v, ov, iv] (setItem ov iv v); release [v, ov, iv] []) := by
  cases i <;> first | rfl | cases h
theorem dens_put {x : Str} {px pp pos : Pos} {e ei : Expr} {a b c : En} {o o2 : Bool} {d : D} {k : Int} {i j : Nat} {l : List D} (hN : idxOf X.N x = some i) (hv : Vis X.env.scope x) (hd : (x == ("__debug__" : Str)) = false) (hcd : (x == ("__classdict__" : Str)) = false)
    (hsl : isSlice ei = false) (hsw : swapsWith e (some (.Subscript (.Name x px) ei pp)) pos.line X.env = pure false) (h : Den X β e a o d b) (h2 : Den X β ei b o2 (.int k) c) (hb : (slotL b i).isSome = true) (hl : slotL c i = some l) (hj : ixN l.length k = some j) :
    DenS X β (.Assign [.Subscript (.Name x px) ei pp] e pos) a (.nx (putL c i (l.set j d))) := fun G H ρ σ Dn r q => by
  refine ⟨_, ps_asg pe_w (pg_sub pe_w pe_w set_list (put_ok hsl)) hsw rfl rfl, h.fz G H ρ σ _ r fun v G1 H1 ρ1 f1 r1 x1 => ?_⟩
  obtain ⟨l0, hb⟩ := Option.isSome_iff_exists.mp hb
  obtain ⟨p, vs, p1, p2, p3, p4⟩ := r1.ownAt hb
  refine peek (idxOf_get hN) hv hd hcd p1 (h2.fz G1 H1 ρ1 σ _ r1 fun y G2 H2 ρ2 f2 r2 x2 => ?_)
  cases (show Rp X.K G2 y (.int k) from x2)
  obtain ⟨p', vs', q1, q2, q3, q4⟩ := r2.ownAt hl
  rw [p1] at q1
  cases q1
  obtain ⟨r3, f3⟩ := r2.put hl p1 (q3.set j (Rp.mono f2.ex x1))
  exact ⟨p, vs', k, j, rfl, rfl, q2, by rw [q3.length]; exact hj, q G2 _ ρ2 σ ((f1.trans f2).trans f3) r3⟩

/-! ### while -/
def whileL (t : En → Option (Bool × En)) (f : En → Option SR) : Nat → En → Option SR
  | 0, _ => none
  | n + 1, e => match t e with
    | none => none
    | some (false, e1) => some (.nx e1)
    | some (true, e1) => match f e1 with
      | some (.nx e2) => whileL t f n e2
      | some (.ct e2) => whileL t f n e2
      | some (.bk e2) => some (.nx e2)
      | some (.rt o d e2) => some (.rt o d e2)
      | none => none
theorem dens_while {c : Expr} {body : List Stmt} {pos : Pos} {a : En} {r : SR} {n : Nat} {t : En → Option (Bool × En)} {f : En → Option SR} (hp : PassesOwn (model X.prog X.w) X.A X.env X.xe)
    (ht : ∀ e k e1, t e = some (k, e1) → DenT X β c e k e1) (hf : ∀ e r, f e = some r → DenSs X β body e r) (h : whileL t f n a = some r) : DenS X β (.While c body [] pos) a r := fun G H ρ σ Dn r0 q => by
  refine ⟨_, ps_while hp pt_w pss_w, fun m σ' H' => ∃ e G' ρ', Fr G H ρ G' H' ρ' ∧ R X.K β G' H' ρ' σ' e ∧ whileL t f m e = some r, ⟨n, a, G, ρ, .refl, r0, h⟩, ?_⟩
  rintro m σ1 H1 ⟨e, G1, ρ1, f1, r1, h1⟩
  cases m with
  | zero => cases h1
  | succ m =>
    unfold whileL at h1
    cases z : t e with
    | none => rw [z] at h1; cases h1
    | some ke =>
      obtain ⟨k, e1⟩ := ke
      rw [z] at h1
      refine ht e k e1 z G1 H1 ρ1 σ1 _ r1 fun G2 H2 ρ2 f2 r2 => ?_
      cases k with
      | false =>
        cases h1
        exact q G2 H2 ρ2 σ1 (f1.trans f2) r2
      | true =>
        refine ⟨fun σ' H' => ∃ e G' ρ', Fr G H ρ G' H' ρ' ∧ R X.K β G' H' ρ' σ' e ∧ whileL t f m e = some r, fun σ' H' w => ⟨m, Nat.lt_succ_self m, w⟩, ?_⟩
        cases z2 : f e1 with
        | none => simp only [z2] at h1; cases h1
        | some rr =>
          simp only [z2] at h1
          refine hf e1 rr z2 G2 H2 ρ2 σ1 _ r2 ?_
          cases rr with
          | nx e2 => exact fun G3 H3 ρ3 σ3 f3 r3 => ⟨e2, G3, ρ3, (f1.trans f2).trans f3, r3, h1⟩
          | ct e2 => exact fun G3 H3 ρ3 σ3 f3 r3 => ⟨e2, G3, ρ3, (f1.trans f2).trans f3, r3, h1⟩
          | bk e2 => cases h1; exact fun G3 H3 ρ3 σ3 f3 r3 => q G3 H3 ρ3 σ3 ((f1.trans f2).trans f3) r3
          | rt o d e2 => cases h1; exact fun v G3 H3 ρ3 σ3 f3 r3 x3 => q v G3 H3 ρ3 σ3 ((f1.trans f2).trans f3) r3 (x3.back (f1.trans f2).dom)

/-! ### for -/
def forL (f : D → En → Option SR) : List D → En → Option SR
  | [], e => some (.nx e)
  | d :: ds, e => match f d e with
    | some (.nx e2) => forL f ds e2
    | some (.ct e2) => forL f ds e2
    | some (.bk e2) => some (.nx e2)
    | some (.rt o d e2) => some (.rt o d e2)
    | none => none
/-- the item of a turn, locked -/
theorem Wk.turn {K : PySem.W.Frag} {J : It} {ds : List D} {G0 G H : Hp} {ρ : Own} {σ : L2.St} {e : En} {i : Nat} {d : D} {x : V} {H' : Hp} (w : Wk K J ds G0) (e0 : Ex G0 G) (r : R K β G H ρ σ e) (hd : ds[i]? = some d) (hy : J.yld i H x H') :
    ∃ G', Fr G H ρ G' H' ρ ∧ R K β G' H' ρ σ e ∧ Rp K G' x d := by
  rcases w.yld i d G H x H' e0 r.ex hd hy with ⟨rfl, h⟩ | ⟨T, vs, l, rfl, hT, rfl, rfl, h⟩ | ⟨U, T, u, vs, d0, l, rfl, hne, hU, hT, rfl, rfl, hu, h⟩
  · exact ⟨G, .refl, r, h⟩
  · have hg := (r.free hT).2
    exact ⟨upd G T (.tup vs), (Fr.grow hT).lock hT hg, (r.grow hT).lock upd_same hg (r.free hT).1, .tup (.inl (.inl upd_same)) (h.mono (Evl.Ex.new hg))⟩
  · have hg := (r.free hU).2
    have f1 : Fr G H ρ (upd G U (.tup vs)) (upd H U (.tup vs)) ρ := (Fr.grow hU).lock hU hg
    have r1 : R K β (upd G U (.tup vs)) (upd H U (.tup vs)) ρ σ e := (r.grow hU).lock upd_same hg (r.free hU).1
    have hT2 : upd H U (.tup vs) T = none := by rw [upd_ne (Ne.symm hne)]; exact hT
    have hg2 := (r1.free hT2).2
    have x1 : Rp K (upd G U (.tup vs)) (.ref U) (.tuple l) := .tup (.inl (.inl upd_same)) (h.mono (Evl.Ex.new hg))
    refine ⟨upd (upd G U (.tup vs)) T (.tup [u, .ref U]), f1.trans ((Fr.grow hT2).lock hT2 hg2), (r1.grow hT2).lock upd_same hg2 (r1.free hT2).1, .tup (.inl (.inl upd_same)) (.cons (hu.mono ((Evl.Ex.new hg).trans (Evl.Ex.new hg2))) (.cons (x1.mono (Evl.Ex.new hg2)) .nil))⟩
theorem dens_for {tg it : Expr} {body : List Stmt} {pos : Pos} {a b : En} {r : SR} {ds : List D} {t : Tg} {l : List (Str × Nat)} {f : D → En → Option SR} (hp : PassesOwn (model X.prog X.w) X.A X.env X.xe) (nd : X.N.Nodup) (hc : X.calm = true)
    (ht : tgOf X.N tg = some (t, l)) (hs : ∀ p ∈ l, StOk X p.1) (hset : isSet it = false) (hi : DenI X β tg it a ds b) (hf : ∀ d e r, f d e = some r → ∃ e1, stT e t d = some e1 ∧ DenSs X β body e1 r) (h : forL f ds b = some r) :
    DenS X β (.For tg it body [] pos) a r := fun G H ρ σ Dn r0 q => by
  refine ⟨_, ps_for hp hc pi_w (pg_tg nd hc ht hs) pss_w (fun x => by cases it <;> first | rfl | cases hset), hi G H ρ σ _ r0 fun J G1 H1 ρ1 f1 r1 wk => ?_⟩
  refine ⟨fun i m σ' H' => m = ds.length - i ∧ i ≤ ds.length ∧ ∃ e G' ρ', Fr G1 H1 ρ1 G' H' ρ' ∧ R X.K β G' H' ρ' σ' e ∧ forL f (ds.drop i) e = some r, ⟨ds.length, by simp, Nat.zero_le _, b, G1, ρ1, .refl, r1, h⟩, ?_⟩
  rintro i m σ2 H2 ⟨rfl, hle, e, G2, ρ2, f2, r2, h2⟩
  by_cases hlt : i < ds.length
  · have hd : ds[i]? = some ds[i] := List.getElem?_eq_getElem hlt
    rw [List.drop_eq_getElem_cons hlt] at h2
    unfold forL at h2
    refine .inr ⟨wk.go i G2 H2 f2.ex r2.ex hlt, fun σ' H' => i + 1 ≤ ds.length ∧ ∃ e G' ρ', Fr G1 H1 ρ1 G' H' ρ' ∧ R X.K β G' H' ρ' σ' e ∧ forL f (ds.drop (i + 1)) e = some r,
      fun σ' H' w => ⟨ds.length - (i + 1), by omega, rfl, w.1, w.2⟩, fun x H' hy => ?_⟩
    obtain ⟨G3, f3, r3, x3⟩ := wk.turn f2.ex r2 hd hy
    cases z : f ds[i] e with
    | none => rw [z] at h2; cases h2
    | some rr =>
      obtain ⟨e1, st, hb⟩ := hf _ _ _ z
      refine gOf_ok r3 x3 st fun σ4 r4 _ _ => hb G3 H' ρ2 σ4 _ r4 ?_
      rw [z] at h2
      have F : Fr G1 H1 ρ1 G3 H' ρ2 := f2.trans f3
      cases rr with
      | nx e2 => exact fun G5 H5 ρ5 σ5 f5 r5 => ⟨hlt, e2, G5, ρ5, F.trans f5, r5, h2⟩
      | ct e2 => exact fun G5 H5 ρ5 σ5 f5 r5 => ⟨hlt, e2, G5, ρ5, F.trans f5, r5, h2⟩
      | bk e2 => cases h2; exact fun G5 H5 ρ5 σ5 f5 r5 => q G5 H5 ρ5 σ5 ((f1.trans F).trans f5) r5
      | rt o d e2 => cases h2; exact fun v G5 H5 ρ5 σ5 f5 r5 x5 => q v G5 H5 ρ5 σ5 ((f1.trans F).trans f5) r5 (x5.back (f1.trans F).dom)
  · have e1 : i = ds.length := by omega
    subst e1
    rw [List.drop_length] at h2
    cases h2
    exact .inl ⟨wk.stop _ G2 H2 f2.ex r2.ex rfl, q G2 H2 ρ2 σ2 (f1.trans f2) r2⟩
end
end Fz
set_option Elab.async false
set_option linter.all false
set_option maxRecDepth 100000
set_option maxHeartbeats 4000000
/-! Fz, part K: list comprehensions. -/
namespace Fz
open PySem PySem.Spec PyProof.Rows L2

theorem wipe_get (σ : L2.St) : ∀ (vs : List Nat) (j : Nat), j ∉ vs → (wipe σ vs)[j]? = σ[j]?
  | [], _, _ => rfl
  | v :: vs, j, h => by
    rw [List.mem_cons, not_or] at h
    unfold wipe
    rw [List.getElem?_set_ne (Ne.symm h.1), wipe_get σ vs j h.2]
theorem wipe_at (σ : L2.St) : ∀ (vs : List Nat) (j : Nat), j ∈ vs → j < σ.length → (wipe σ vs)[j]? = some none
  | [], _, h, _ => by cases h
  | v :: vs, j, h, hl => by
    unfold wipe
    by_cases e : v = j
    · subst e
      rw [List.getElem?_set_self (by rw [wipe_length]; exact hl)]
    · rw [List.getElem?_set_ne e]
      rcases List.mem_cons.mp h with h | h
      · exact absurd h.symm e
      · exact wipe_at σ vs j h hl
theorem wipe_same {σ τ : L2.St} {vs : List Nat} (hl : σ.length = τ.length) (h : ∀ j, j ∉ vs → σ[j]? = τ[j]?) : wipe σ vs = wipe τ vs := by
  apply List.ext_getElem?
  intro j
  by_cases m : j ∈ vs
  · by_cases hj : j < σ.length
    · rw [wipe_at σ vs j m hj, wipe_at τ vs j m (by rw [← hl]; exact hj)]
    · rw [List.getElem?_eq_none (by rw [wipe_length]; omega), List.getElem?_eq_none (by rw [wipe_length]; omega)]
  · rw [wipe_get σ vs j m, wipe_get τ vs j m, h j m]

def wipeS (sl : List Sl) : List Nat → List Sl
  | [] => sl
  | v :: vs => (wipeS sl vs).set v .no
def wipeE (e : En) (vs : List Nat) : En := { e with sl := wipeS e.sl vs }
def restS (old new : List Sl) : List Nat → List Sl
  | [] => new
  | v :: vs => (restS old new vs).set v (old.getD v .no)
def restE (old new : En) (vs : List Nat) : En := { new with sl := restS old.sl new.sl vs }
theorem wipeS_len (sl : List Sl) : ∀ vs : List Nat, (wipeS sl vs).length = sl.length
  | [] => rfl
  | v :: vs => by unfold wipeS; rw [List.length_set, wipeS_len sl vs]
theorem restS_len (old new : List Sl) : ∀ vs : List Nat, (restS old new vs).length = new.length
  | [] => rfl
  | v :: vs => by unfold restS; rw [List.length_set, restS_len old new vs]
theorem wipeS_get {sl : List Sl} : ∀ {vs : List Nat} {j : Nat} {s : Sl}, (wipeS sl vs)[j]? = some s → s = .no ∨ (j ∉ vs ∧ sl[j]? = some s)
  | [], _, _, h => .inr ⟨by simp, h⟩
  | v :: vs, j, s, h => by
    unfold wipeS at h
    by_cases e : v = j
    · subst e
      rw [List.getElem?_set] at h
      simp only [if_true] at h
      split at h
      · exact .inl (Option.some.inj h).symm
      · cases h
    · rw [List.getElem?_set_ne e] at h
      rcases wipeS_get h with k | ⟨k1, k2⟩
      · exact .inl k
      · exact .inr ⟨by rw [List.mem_cons, not_or]; exact ⟨Ne.symm e, k1⟩, k2⟩
theorem restS_get {old new : List Sl} : ∀ {vs : List Nat} {j : Nat} {s : Sl}, (restS old new vs)[j]? = some s → (j ∈ vs ∧ s = old.getD j .no) ∨ (j ∉ vs ∧ new[j]? = some s)
  | [], _, _, h => .inr ⟨by simp, h⟩
  | v :: vs, j, s, h => by
    unfold restS at h
    by_cases e : v = j
    · subst e
      rw [List.getElem?_set] at h
      simp only [if_true] at h
      split at h
      · exact .inl ⟨List.mem_cons_self, (Option.some.inj h).symm⟩
      · cases h
    · rw [List.getElem?_set_ne e] at h
      rcases restS_get h with ⟨k1, k2⟩ | ⟨k1, k2⟩
      · exact .inl ⟨List.mem_cons_of_mem _ k1, k2⟩
      · exact .inr ⟨by rw [List.mem_cons, not_or]; exact ⟨Ne.symm e, k1⟩, k2⟩
def plainS : Sl → Bool
  | .no => true
  | .val _ => true
  | _ => false
section
variable {K : PySem.W.Frag} {β : Option Addr} {G H G' H' : Hp} {ρ ρ' : Own} {σ τ : L2.St} {e e' : En}
theorem R.wiped {vs : List Nat} (r : R K β G H ρ σ e) : R K β G H ρ (wipe σ vs) (wipeE e vs) := by
  refine ⟨by rw [wipe_length, r.len]; exact (wipeS_len _ _).symm, r.ex, r.ow, fun j s hj => ?_, r.bg⟩
  rcases wipeS_get hj with rfl | ⟨h1, h2⟩
  · trivial
  · rw [wipe_get σ vs j h1]
    exact r.sl j s h2
theorem R.rest {vs : List Nat} (r : R K β G H ρ σ e) (x : Ex G G') (hp : ∀ v ∈ vs, plainS (e.sl.getD v .no) = true) (r' : R K β G' H' ρ' τ e') (hl : τ.length = σ.length) (ha : ∀ j, j ∉ vs → τ[j]? = σ[j]?) : R K β G' H' ρ' σ (restE e e' vs) := by
  refine ⟨?_, r'.ex, r'.ow, fun j s hj => ?_, r'.bg⟩
  · show σ.length = (restS e.sl e'.sl vs).length
    rw [restS_len, ← r'.len, hl]
  · rcases restS_get hj with ⟨h1, h2⟩ | ⟨h1, h2⟩
    · subst h2
      have p := hp j h1
      cases z : e.sl[j]? with
      | none => rw [List.getD_eq_getElem?_getD, z]; trivial
      | some s0 =>
        have w := r.sl j s0 z
        rw [List.getD_eq_getElem?_getD, z] at p ⊢
        simp only [Option.getD_some] at p ⊢
        cases s0 with
        | no => trivial
        | val d => obtain ⟨v, w1, w2⟩ := w; exact ⟨v, w1, w2.mono x⟩
        | own l => cases p
        | bag => cases p
    · have w := r'.sl j s h2
      rw [← ha j h1]
      exact w
end

/-- the comprehension's loop -/
def lcL (f : D → En → Option (Option D × En)) : List D → En → Option (List D × En)
  | [], e => some ([], e)
  | d :: ds, e => match f d e with
    | none => none
    | some (o, e1) => match lcL f ds e1 with
      | none => none
      | some (l, e2) => some (o.toList ++ l, e2)
section
variable {X : Cx} {β : Option Addr}
/-- a context of the comprehension's block -/
abbrev Bl (X : Cx) (scope : Scope) (s : Shared) (H : Hp) (C : Addr) (cl : List (Str × Addr)) (fp : List Addr) : Cx := X.blk s H scope (compEnvC scope cl C X.env) fp
def DenTs (X : Cx) (β : Option Addr) (es : List Expr) (a : En) (k : Bool) (b : En) : Prop :=
  ∀ (G H : Hp) (ρ : Own) (σ : L2.St) (Q : Bool → Hp → Prop), R X.K β G H ρ σ a →
    (∀ G' H' ρ', Fr G H ρ G' H' ρ' → R X.K β G' H' ρ' σ b → Q k H') → ∃ t, PTs X es t ∧ t σ H Q
theorem dents_nil {a : En} : DenTs X β [] a true a := fun G H ρ σ Q r q => ⟨_, pts_nil, q G H ρ .refl r⟩
theorem dents_one {e : Expr} {a b : En} {k : Bool} (h : DenT X β e a k b) : DenTs X β [e] a k b := fun G H ρ σ Q r q => ⟨_, pts_one pt_w, h G H ρ σ Q r q⟩
/-- one turn: the target, the tests, the element, in the block's contexts -/
def TurnC (X : Cx) (β : Option Addr) (scope : Scope) (t : Tg) (vs : List Nat) (ifs : List Expr) (elt : Expr) (d : D) (e : En) (o : Option D) (e' : En) : Prop :=
  (∀ v ∈ vs, plainS (e.sl.getD v .no) = true) ∧ ∃ e1 k e2, stT (wipeE e vs) t d = some e1 ∧ (∀ s H C cl fp, DenTs (Bl X scope s H C cl fp) β ifs e1 k e2) ∧
    match k with
    | false => o = none ∧ e' = restE e e2 vs
    | true => ∃ e3 d', (∀ s H C cl fp, Den (Bl X scope s H C cl fp) β elt e2 false d' e3) ∧ o = some d' ∧ e' = restE e e3 vs
def wTs (X : Cx) (scope : Scope) (ifs : List Expr) : TT := fun σ H Q => ∀ s H0 C cl fp, ∃ t, PTs (Bl X scope s H0 C cl fp) ifs t ∧ t σ H Q
def wEs (X : Cx) (scope : Scope) (e : Expr) : TE := fun σ H Q => ∀ s H0 C cl fp, wE (Bl X scope s H0 C cl fp) e σ H Q
theorem read_lc {tg it elt : Expr} {ifs : List Expr} {scope : Scope} {a b c : En} {ds l : List D} {t : Tg} {vs : List Nat} {f : D → En → Option (Option D × En)} (hv : ∀ j ∈ t.ix, j ∈ vs) (hi : DenI X β tg it a ds b)
    (hf : ∀ d e o e', f d e = some (o, e') → TurnC X β scope t vs ifs elt d e o e') (h : lcL f ds b = some (l, c)) (hl : ds.length ≤ 1000000) {G H : Hp} {ρ : Own} {σ : L2.St} {Q : VK} (r : R X.K β G H ρ σ a) (q : Kn X.K β G H ρ σ c true (.list l) Q) :
    tLc (wI X tg it) (gOf X.K t) (wTs X scope ifs) (wEs X scope elt) vs σ H Q := by
  refine hi G H ρ σ _ r fun J G1 H1 ρ1 f1 r1 wk => fun Dn hDn => ?_
  have gD : ρ1 Dn = none ∧ G1 Dn = none := r1.free hDn
  refine ⟨fun i m H' => m = ds.length - i ∧ i ≤ ds.length ∧ ∃ e G' ρ' acc done rest, Fr G1 H1 ρ1 G' H' ρ' ∧ R X.K β G' H' ρ' σ e ∧ G' Dn = none ∧ ρ' Dn = none ∧ H' Dn = some (.lst acc) ∧ Rps X.K G' acc done ∧ done.length ≤ i ∧ lcL f (ds.drop i) e = some (rest, c) ∧ l = done ++ rest,
    ⟨ds.length, by simp, Nat.zero_le _, b, G1, ρ1, [], [], l, .grow hDn, r1.grow hDn, gD.2, gD.1, upd_same, .nil, Nat.le_refl _, h, rfl⟩, ?_⟩
  rintro i m H2 ⟨rfl, hle, e, G2, ρ2, acc, done, rest, f2, r2, g2, o2, h2, ha, hdl, hr, hlst⟩
  by_cases hlt : i < ds.length
  · have hd : ds[i]? = some ds[i] := List.getElem?_eq_getElem hlt
    rw [List.drop_eq_getElem_cons hlt] at hr
    unfold lcL at hr
    cases z : f ds[i] e with
    | none => rw [z] at hr; cases hr
    | some oe =>
      obtain ⟨o, e'⟩ := oe
      simp only [z] at hr
      cases z2 : lcL f (ds.drop (i + 1)) e' with
      | none => rw [z2] at hr; cases hr
      | some le =>
        obtain ⟨l2, e2'⟩ := le
        rw [z2] at hr
        simp only [Option.some.injEq, Prod.mk.injEq] at hr
        obtain ⟨hr1, hr2⟩ := hr
        subst hr2
        refine .inr ⟨wk.go i G2 H2 f2.ex r2.ex hlt, fun H' => i + 1 ≤ ds.length ∧ ∃ e G' ρ' acc done rest, Fr G1 H1 ρ1 G' H' ρ' ∧ R X.K β G' H' ρ' σ e ∧ G' Dn = none ∧ ρ' Dn = none ∧ H' Dn = some (.lst acc) ∧ Rps X.K G' acc done ∧ done.length ≤ i + 1 ∧ lcL f (ds.drop (i + 1)) e = some (rest, e2') ∧ l = done ++ rest,
          fun H' w => ⟨ds.length - (i + 1), by omega, rfl, w.1, w.2⟩, fun x H' hy => ?_⟩
        obtain ⟨hp, e1, k, e2, hst, htest, hk⟩ := hf _ _ _ _ z
        obtain ⟨G3, f3, r3, x3⟩ := wk.turn f2.ex r2 hd hy
        have rw3 := r3.wiped (vs := vs)
        refine gOf_ok rw3 x3 hst fun σ4 r4 l4 a4 => ⟨?_, ?_⟩
        · rw [wipe_same (σ := σ4) (τ := wipe σ vs) l4 fun j hj => a4 j fun hm => hj (hv j hm)]
          exact wipe_same (wipe_length σ vs) fun j hj => wipe_get σ vs j hj
        · intro s0 H0 C cl fp
          have l4' : σ4.length = σ.length := by rw [l4, wipe_length]
          have a4' : ∀ j, j ∉ vs → σ4[j]? = σ[j]? := fun j hj => by rw [a4 j fun hm => hj (hv j hm), wipe_get σ vs j hj]
          refine htest s0 H0 C cl fp G3 H' ρ2 σ4 _ r4 fun G5 H5 ρ5 f5 r5 => ?_
          have F5 : Fr G2 H2 ρ2 G5 H5 ρ5 := f3.trans f5
          cases k with
          | false =>
            obtain ⟨rfl, rfl⟩ := hk
            obtain ⟨d1, d2, d3⟩ := F5.keep Dn _ h2 o2
            exact ⟨hlt, _, G5, ρ5, acc, done, l2, f2.trans F5, r3.rest f5.ex hp r5 l4' a4', d3 g2, d2, d1, ha.mono F5.ex, Nat.le_succ_of_le hdl, z2, by rw [hlst, ← hr1]; rfl⟩
          | true =>
            obtain ⟨e3, d', hE, rfl, rfl⟩ := hk
            show wEs X scope elt σ4 H5 _
            intro s1 H1' C1 cl1 fp1
            refine hE s1 H1' C1 cl1 fp1 G5 H5 ρ5 σ4 _ r5 fun v G6 H6 ρ6 f6 r6 x6 => ?_
            have F6 : Fr G2 H2 ρ2 G6 H6 ρ6 := F5.trans f6
            obtain ⟨d1, d2, d3⟩ := F6.keep Dn _ h2 o2
            have r7 : R X.K β G6 H6 ρ6 σ (restE e e3 vs) := r3.rest (f5.trans f6).ex hp r6 l4' a4'
            have hacc : acc.length < sizeLine := by rw [(ha).length]; exact Nat.lt_of_le_of_lt hdl (Nat.lt_of_lt_of_le hlt (len_ok hl))
            have g6 : G6 Dn = none := d3 g2
            have upE : ∀ a, a ≠ Dn → upd H6 Dn (.lst (acc ++ [v])) a = H6 a := fun a h => upd_ne h
            have ne : ∀ a, ρ6 a ≠ none → a ≠ Dn := fun a h z => h (by rw [z]; exact d2)
            have r8 : R X.K β G6 (upd H6 Dn (.lst (acc ++ [v]))) ρ6 σ (restE e e3 vs) := by
              refine ⟨r7.len, r7.ex.mut g6, fun a h => ⟨(r7.ow a h).1, by rw [upE a (ne a h)]; exact (r7.ow a h).2⟩, fun j s hj => (r7.sl j s hj).mono (Evl.Ex.refl _) fun a h => upE a (ne a h), fun a h => ?_⟩
              obtain ⟨b1, ws, b2, b3⟩ := r7.bg a h
              exact ⟨b1, ws, by rw [upE a (ne a (by rw [b1]; simp))]; exact b2, b3⟩
            have ff : Fr G1 H1 ρ1 G6 H6 ρ6 := f2.trans F6
            refine ⟨acc, d1, hacc, hlt, _, G6, ρ6, acc ++ [v], done ++ [d'], l2, ⟨ff.ex, fun a u hu hr => ?_, fun a h => ?_⟩, r8, g6, d2, upd_same, (ha.mono F6.ex).append (.cons x6 .nil), by rw [List.length_append]; exact Nat.succ_le_succ hdl, z2, by rw [hlst, ← hr1]; simp⟩
            · obtain ⟨k1, k2, k3⟩ := ff.keep a u hu hr
              exact ⟨by rw [upE a (ne_of_none hu hDn)]; exact k1, k2, k3⟩
            · by_cases k : a = Dn
              · subst k; rw [upd_same] at h; cases h
              · rw [upE a k] at h; exact ff.dom a h
  · have e1 : i = ds.length := by omega
    subst e1
    rw [List.drop_length] at hr
    simp only [lcL, Option.some.injEq, Prod.mk.injEq] at hr
    obtain ⟨rfl, rfl⟩ := hr
    refine .inl ⟨wk.stop _ G2 H2 f2.ex r2.ex rfl, ?_⟩
    refine q (.ref Dn) G2 H2 ρ2 (f1.trans f2) r2 ⟨Dn, l, acc, rfl, rfl, f1.dom Dn hDn, g2, o2, h2, ?_⟩
    rw [hlst, List.append_nil]
    exact ha
theorem pts_all {scope : Scope} {ifs : List Expr} (s : Shared) (H : Hp) (C : Addr) (cl : List (Str × Addr)) (fp : List Addr) : PTs (Bl X scope s H C cl fp) ifs (wTs X scope ifs) :=
  ⟨fun pins s' σ H' Q I h => by obtain ⟨t, p, q⟩ := h s H C cl fp; exact p.run pins s' σ H' Q I q⟩
theorem pe_all {scope : Scope} {e : Expr} (s : Shared) (H : Hp) (C : Addr) (cl : List (Str × Addr)) (fp : List Addr) : PE (Bl X scope s H C cl fp) e (wEs X scope e) :=
  ⟨fun pins s' σ H' Q I h => by obtain ⟨t, p, q⟩ := h s H C cl fp; exact p.run pins s' σ H' Q I q⟩
theorem den_lc {tg it elt : Expr} {ifs : List Expr} {scope : Scope} {pos : Pos} {own : List (Str × Nat)} {a b c : En} {ds l : List D} {t : Tg} {tl : List (Str × Nat)} {f : D → En → Option (Option D × En)} (nd : X.N.Nodup) (hc : X.calm = true) (hset : isSet it = false)
    (ok : BlkOk X.N X.env.scope scope own) (ht : tgOf X.N tg = some (t, tl)) (hst : ∀ s H C cl fp, ∀ p ∈ tl, StOk (Bl X scope s H C cl fp) p.1) (hv : ∀ j ∈ t.ix, j ∈ own.map (·.2)) (hi : DenI X β tg it a ds b)
    (hf : ∀ d e o e', f d e = some (o, e') → TurnC X β scope t (own.map (·.2)) ifs elt d e o e') (h : lcL f ds b = some (l, c)) (hl : ds.length ≤ 1000000) : Den X β (.ListComp elt [⟨tg, it, ifs, 0⟩] scope pos) a true (.list l) c := fun G H ρ σ Q r q =>
  ⟨_, pe_lc hc nd pi_w ok (fun s H C cl fp => pg_tg (X := Bl X scope s H C cl fp) nd hc ht (hst s H C cl fp)) pts_all pe_all (fun x => by cases it <;> first | rfl | cases hset), read_lc hv hi hf h hl r q⟩
theorem dens_setLc {x : Str} {px spos : Pos} {i : Nat} {tg it elt : Expr} {ifs : List Expr} {scope : Scope} {pos : Pos} {own : List (Str × Nat)} {a b c : En} {ds l : List D} {t : Tg} {tl : List (Str × Nat)} {f : D → En → Option (Option D × En)} (nd : X.N.Nodup) (hc : X.calm = true) (hset : isSet it = false)
    (hN : idxOf X.N x = some i) (hx : X.env.scope.names.lookup x = some .local) (hsw : swapsWith (.ListComp elt [⟨tg, it, ifs, 0⟩] scope pos) (some (.Name x px)) spos.line X.env = pure true) (hic : i < c.sl.length)
    (ok : BlkOk X.N X.env.scope scope own) (ht : tgOf X.N tg = some (t, tl)) (hst : ∀ s H C cl fp, ∀ p ∈ tl, StOk (Bl X scope s H C cl fp) p.1) (hv : ∀ j ∈ t.ix, j ∈ own.map (·.2)) (hi : DenI X β tg it a ds b)
    (hf : ∀ d e o e', f d e = some (o, e') → TurnC X β scope t (own.map (·.2)) ifs elt d e o e') (h : lcL f ds b = some (l, c)) (hl : ds.length ≤ 1000000) :
    DenS X β (.Assign [.Name x px] (.ListComp elt [⟨tg, it, ifs, 0⟩] scope pos) spos) a (.nx (setS c i true (.list l))) := fun G H ρ σ Dn r q =>
  ⟨_, ps_setLc hc nd (idxOf_get hN) hx hsw pi_w ok (fun s H C cl fp => pg_tg (X := Bl X scope s H C cl fp) nd hc ht (hst s H C cl fp)) pts_all pe_all (fun x => by cases it <;> first | rfl | cases hset), read_lc hv hi hf h hl r fun v G1 H1 ρ1 f1 r1 x1 => by
    obtain ⟨ρ2, r2, f2⟩ := r1.store hic x1 f1
    exact q G1 H1 ρ2 _ f2 r2⟩
end
end Fz
set_option Elab.async false
set_option linter.all false
set_option maxRecDepth 100000
set_option maxHeartbeats 4000000
/-! Fz, part L: defs and their calls. -/
namespace Fz
open PySem PySem.Spec PyProof.Rows L2

/-- a way to call with keywords: so many by place, these names, where each parameter's value lies -/
structure Kw where
  n : Nat
  ks : List Str
  perm : List Nat
/-- what a def computes: parameters; whether the first one is a list that it may change; the function -/
structure Fn where
  ps : List Str
  io : Bool
  kws : List Kw
  den : List D → Option (Bool × D × List D)
def r0 (β : Option Addr) : Own := fun a => if β = some a then some 0 else none
def ArgR (K : PySem.W.Frag) (β : Option Addr) (G H : Hp) : Bool → List V → List D → Prop
  | false, vs, ds => β = none ∧ Rps K G vs ds
  | true, vs, ds => ∃ a bs ws vs' ds', β = some a ∧ vs = .ref a :: vs' ∧ ds = .list bs :: ds' ∧ G a = none ∧ H a = some (.lst ws) ∧ Rps K G ws bs ∧ Rps K G vs' ds'
def spD (K : PySem.W.Frag) (fn : Fn) : Sp := fun vs H Q _ => ∃ (G : Hp) (β : Option Addr) (ds : List D) (o : Bool) (d : D) (l : List D),
  fn.den ds = some (o, d, l) ∧ vs.length = fn.ps.length ∧ Ex G H ∧ ArgR K β G H fn.io vs ds ∧
  ∀ v G' H' ρ', Fr G H (r0 β) G' H' ρ' → Ex G' H' → (∀ a, β = some a → G' a = none ∧ ∃ ws, H' a = some (.lst ws) ∧ Rps K G' ws l) → VR K H G' H' ρ' d v o → Q v H'
def vals : List D → List Sl
  | [] => []
  | d :: l => .val d :: vals l
theorem vals_len : ∀ l, (vals l).length = l.length
  | [] => rfl
  | _ :: l => by unfold vals; rw [List.length_cons, List.length_cons, vals_len l]
theorem vals_get : ∀ {l : List D} {i : Nat} {s : Sl}, (vals l)[i]? = some s → ∃ d, l[i]? = some d ∧ s = .val d
  | [], _, _, h => by simp [vals] at h
  | d :: l, 0, s, h => by simp only [vals, List.getElem?_cons_zero, Option.some.injEq] at h; exact ⟨d, rfl, h.symm⟩
  | d :: l, i + 1, s, h => by simp only [vals, List.getElem?_cons_succ] at h; obtain ⟨e, h1, h2⟩ := vals_get h; exact ⟨e, by simpa using h1, h2⟩
/-- the slots at a def's start -/
def en0 (n : Nat) : Bool → List D → En
  | true, .list b :: r => ⟨.bag :: vals r ++ List.replicate (n - (r.length + 1)) .no, b⟩
  | _, ds => ⟨vals ds ++ List.replicate (n - ds.length) .no, []⟩
theorem rep_get {n i : Nat} {s : Sl} (h : (List.replicate n Sl.no)[i]? = some s) : s = .no := by
  rw [List.getElem?_replicate] at h
  split at h
  · exact (Option.some.inj h).symm
  · cases h
theorem start_get {N : List Str} {vs : List V} {i : Nat} {v : V} (h : vs[i]? = some v) : (L2.start N vs)[i]? = some (some v) := by
  have hi : i < vs.length := (List.getElem?_eq_some_iff.mp h).1
  unfold L2.start
  rw [List.getElem?_append_left (by simpa using hi), List.getElem?_map, h]
  rfl
theorem start_len {N : List Str} {vs : List V} (h : vs.length ≤ N.length) : (L2.start N vs).length = N.length := by
  unfold L2.start
  rw [List.length_append, List.length_map, List.length_replicate]
  omega
theorem start_R {K : PySem.W.Frag} {β : Option Addr} {G H : Hp} {N : List Str} {io : Bool} {vs : List V} {ds : List D} (hl : vs.length ≤ N.length) (ex : Ex G H) (h : ArgR K β G H io vs ds) : R K β G H (r0 β) (L2.start N vs) (en0 N.length io ds) := by
  cases io with
  | false =>
    obtain ⟨rfl, hr⟩ := h
    have e0 : en0 N.length false ds = ⟨vals ds ++ List.replicate (N.length - ds.length) .no, []⟩ := by cases ds <;> rfl
    rw [e0]
    refine ⟨?_, ex, fun a ha => absurd rfl ha, fun i s hs => ?_, fun a ha => by cases ha⟩
    · rw [start_len hl]
      show _ = (vals ds ++ List.replicate (N.length - ds.length) Sl.no).length
      rw [List.length_append, vals_len, List.length_replicate, ← hr.length]
      omega
    · have hs : (vals ds ++ List.replicate (N.length - ds.length) Sl.no)[i]? = some s := hs
      by_cases hi : i < (vals ds).length
      · rw [List.getElem?_append_left hi] at hs
        obtain ⟨d, h1, rfl⟩ := vals_get hs
        obtain ⟨v, h2, h3⟩ := hr.get h1
        exact ⟨v, start_get h2, h3⟩
      · rw [List.getElem?_append_right (by omega)] at hs
        rw [rep_get hs]
        trivial
  | true =>
    obtain ⟨a, bs, ws, vs', ds', rfl, rfl, rfl, hg, hh, hw, hr⟩ := h
    have e0 : en0 N.length true (.list bs :: ds') = ⟨.bag :: vals ds' ++ List.replicate (N.length - (ds'.length + 1)) .no, bs⟩ := rfl
    rw [e0]
    rw [List.length_cons] at hl
    refine ⟨?_, ex, fun b hb => ?_, fun i s hs => ?_, fun b hb => ?_⟩
    · rw [start_len (by rw [List.length_cons]; exact hl)]
      show _ = (Sl.bag :: vals ds' ++ List.replicate (N.length - (ds'.length + 1)) Sl.no).length
      rw [List.length_append, List.length_cons, vals_len, List.length_replicate, ← hr.length]
      omega
    · unfold r0 at hb
      by_cases k : some a = some b
      · cases k
        exact ⟨hg, by rw [hh]; simp⟩
      · rw [if_neg k] at hb; exact absurd rfl hb
    · have hs : (Sl.bag :: (vals ds' ++ List.replicate (N.length - (ds'.length + 1)) Sl.no))[i]? = some s := hs
      cases i with
      | zero => cases hs; exact ⟨a, rfl, start_get rfl⟩
      | succ i =>
        rw [List.getElem?_cons_succ] at hs
        by_cases hi : i < (vals ds').length
        · rw [List.getElem?_append_left hi] at hs
          obtain ⟨d, h1, rfl⟩ := vals_get hs
          obtain ⟨v, h2, h3⟩ := hr.get h1
          exact ⟨v, start_get (by rw [List.getElem?_cons_succ]; exact h2), h3⟩
        · rw [List.getElem?_append_right (by omega)] at hs
          rw [rep_get hs]
          trivial
    · cases hb
      exact ⟨by simp [r0], ws, hh, hw⟩

/-! ### a def by its body -/
/-- what a body's end hands back -/
def endD : SR → Option (Bool × D × List D)
  | .nx e => some (false, .none, e.bg)
  | .rt o d e => some (o, d, e.bg)
  | _ => none
/-- the context of a def's body -/
structure Ctx (P : Program) (w : World) (K : PySem.W.Frag) (mg : Str → Option Value) (base : Heap) (N : List Str) (k : Nat) (sc : Scope) (X : Cx) : Prop where
  prog : X.prog = P
  w : X.w = w
  K : X.K = K
  mg : X.mg = mg
  base : X.base = base
  N : X.N = N
  calm : X.calm = true
  room : Room k X.A
  sc : X.env.scope = sc
  fn : ∀ x, X.fn x = true
  po : PassesOwn (model X.prog X.w) X.A X.env X.xe
theorem fn_ok {P : Program} {w : World} {K : PySem.W.Frag} {mg : Str → Option Value} {base : Heap} {x qual : Str} {st : Stmt} {f : Addr} {fd : FuncData} {N : List Str} {k : Nat} {fn : Fn} (F : L2.Fun K x qual st f fd) (S : FnScope N fn.ps (defScope st))
    (hb : ∀ (X : Cx) (β : Option Addr), Ctx P w K mg base N k (defScope st) X → ∀ ds z, fn.den ds = some z → ∃ r, DenSs X β (defBody st) (en0 N.length fn.io ds) r ∧ endD r = some z) :
    FnOk P w K mg base CX0 (k + 1) f fd fn.ps (spD K fn) := by
  have hpl : fn.ps.length ≤ N.length := by have := congrArg List.length S.pre; rw [List.length_take] at this; omega
  refine F.ok S (fun vs H Q E h => ?_) (fun cdv A outer s H vs Q E hr h => ?_)
  · obtain ⟨G, β, ds, o, d, l, h1, h2, _⟩ := h
    exact h2
  · obtain ⟨G, β, ds, o, d, l, h1, h2, ex, ha, q⟩ := h
    obtain ⟨r, hd, he⟩ := hb (cxOf CX0 P w K mg base N qual (defScope st) f cdv A outer s H E).nox β ⟨rfl, rfl, rfl, rfl, rfl, rfl, rfl, hr, rfl, fun _ => rfl, PassesOwn.never⟩ ds _ h1
    refine ⟨_, pss_w, hd G H (r0 β) (L2.start N vs) _ (start_R (by rw [h2]; exact hpl) ex ha) ?_⟩
    cases r with
    | nx e =>
      cases he
      intro G' H' ρ' σ' f' r'
      refine q .non G' H' ρ' f' r'.ex (fun a e => ?_) .non
      obtain ⟨b1, ws, b2, b3⟩ := r'.bg a e
      exact ⟨(r'.ow a (by rw [b1]; simp)).1, ws, b2, b3⟩
    | rt o e b =>
      cases he
      intro v G' H' ρ' σ' f' r' x
      refine q v G' H' ρ' f' r'.ex (fun a e => ?_) x
      obtain ⟨b1, ws, b2, b3⟩ := r'.bg a e
      exact ⟨(r'.ow a (by rw [b1]; simp)).1, ws, b2, b3⟩
    | bk e => cases he
    | ct e => cases he

/-! ### the state behind a call -/
section
variable {K : PySem.W.Frag} {β : Option Addr} {G H G' H' : Hp} {ρ ρ' : Own} {σ : L2.St} {e : En}
theorem R.called (r : R K β G H ρ σ e) (f : Fr G H (r0 none) G' H' ρ') (ex : Ex G' H') : R K β G' H' ρ σ e ∧ Fr G H ρ G' H' ρ := by
  have kp : ∀ a, ρ a ≠ none → H' a = H a ∧ G' a = none := fun a ha => by
    obtain ⟨h1, h2⟩ := r.ow a ha
    cases z : H a with
    | none => exact absurd z h2
    | some u =>
      obtain ⟨k1, k2, k3⟩ := f.keep a u z rfl
      exact ⟨k1, k3 h1⟩
  refine ⟨⟨r.len, ex, fun a ha => ⟨(kp a ha).2, by rw [(kp a ha).1]; exact (r.ow a ha).2⟩, fun i s hs => (r.sl i s hs).mono f.ex fun a ha => (kp a ha).1, fun a ha => ?_⟩, ⟨f.ex, fun a u ha hr => ?_, f.dom⟩⟩
  · obtain ⟨b1, ws, b2, b3⟩ := r.bg a ha
    exact ⟨b1, ws, by rw [(kp a (by rw [b1]; simp)).1]; exact b2, b3.mono f.ex⟩
  · obtain ⟨k1, k2, k3⟩ := f.keep a u ha rfl
    exact ⟨k1, hr, k3⟩
theorem R.calledIo {i : Nat} {l l' : List D} {p : Addr} {vs' : List V} (r : R K β G H ρ σ e) (h : slotL e i = some l) (hp : σ[i]? = some (some (.ref p))) (f : Fr G H (r0 (some p)) G' H' ρ') (ex : Ex G' H')
    (hg : G' p = none) (hh : H' p = some (.lst vs')) (hv : Rps K G' vs' l') : R K β G' H' ρ σ (putL e i l') ∧ Fr G H ρ G' H' ρ := by
  obtain ⟨p', vs, h1, h2, h3, h4⟩ := r.ownAt h
  rw [hp] at h1
  cases h1
  have kp : ∀ a, ρ a ≠ none → a ≠ p → H' a = H a ∧ G' a = none := fun a ha ne => by
    obtain ⟨h1, h2⟩ := r.ow a ha
    cases z : H a with
    | none => exact absurd z h2
    | some u =>
      obtain ⟨k1, k2, k3⟩ := f.keep a u z (by simp [r0, Ne.symm ne])
      exact ⟨k1, k3 h1⟩
  -- the same slots over the heap behind the call, with p as it was
  have r1 : R K β G' (upd H' p (.lst vs)) ρ σ e := by
    refine ⟨r.len, ex.mut hg, fun a ha => ?_, fun j s hs => (r.sl j s hs).mono f.ex fun a ha => ?_, fun a ha => ?_⟩
    · by_cases z : a = p
      · rw [z]; exact ⟨hg, by rw [upd_same]; simp⟩
      · exact ⟨(kp a ha z).2, by rw [upd_ne z, (kp a ha z).1]; exact (r.ow a ha).2⟩
    · by_cases z : a = p
      · rw [z, upd_same, h2]
      · rw [upd_ne z, (kp a ha z).1]
    · obtain ⟨b1, ws, b2, b3⟩ := r.bg a ha
      refine ⟨b1, ws, ?_, b3.mono f.ex⟩
      by_cases z : a = p
      · rw [z] at b2 ⊢; rw [upd_same, ← h2, b2]
      · rw [upd_ne z, (kp a (by rw [b1]; simp) z).1]; exact b2
  obtain ⟨r2, _⟩ := r1.put h hp hv
  rw [upd_upd, show upd H' p (.lst vs') = H' from funext fun a => by
    by_cases z : a = p
    · rw [z, upd_same, hh]
    · rw [upd_ne z]] at r2
  refine ⟨r2, ⟨f.ex, fun a u ha hr => ?_, f.dom⟩⟩
  have ne : a ≠ p := fun z => h4 (by rw [← z]; exact hr)
  obtain ⟨k1, k2, k3⟩ := f.keep a u ha (by simp [r0, Ne.symm ne])
  exact ⟨k1, hr, k3⟩
end

/-! ### calls -/
def arr {α : Type} (perm : List Nat) (us ws : List α) : List α := perm.filterMap fun i => (us ++ ws)[i]?
theorem arr_rps {K : PySem.W.Frag} {G : Hp} {vs zs : List V} {ds es : List D} (h1 : Rps K G vs ds) (h2 : Rps K G zs es) : ∀ perm : List Nat, Rps K G (arr perm vs zs) (arr perm ds es)
  | [] => .nil
  | i :: perm => by
    have h := h1.append h2
    have ih := arr_rps h1 h2 perm
    unfold arr at ih ⊢
    rw [List.filterMap_cons, List.filterMap_cons]
    cases z : (ds ++ es)[i]? with
    | none =>
      have : (vs ++ zs)[i]? = none := by
        rw [List.getElem?_eq_none_iff] at z ⊢
        rw [h.length]; exact z
      rw [this]
      exact ih
    | some d =>
      obtain ⟨v, k1, k2⟩ := h.get z
      rw [k1]
      exact .cons k2 ih
theorem arr_vals {vs zs : List V} {us ws : List Value} (h1 : Vals vs us) (h2 : Vals zs ws) : ∀ perm : List Nat, Vals (arr perm vs zs) (arr perm us ws)
  | [] => .nil
  | i :: perm => by
    have h := h1.append h2
    have ih := arr_vals h1 h2 perm
    unfold arr at ih ⊢
    rw [List.filterMap_cons, List.filterMap_cons]
    cases z : (vs ++ zs)[i]? with
    | none => rw [h.none_of z]; exact ih
    | some v =>
      obtain ⟨u, k1, k2⟩ := h.get z
      rw [k1]
      exact .cons k2 ih
/-- a def of the text that a context can call -/
structure FnAt (X : Cx) (k : Nat) (x : Str) (fn : Fn) : Prop where
  ex : ∃ f fd, X.mg x = some (.ref f) ∧ PySem.W.keepIn X.K (.ref f) = true ∧ FnOk X.prog X.w X.K X.mg X.base CX0 k f fd fn.ps (spD X.K fn) ∧ Binds X.K fd fn.ps [] ∧
    ∀ kw ∈ fn.kws, KBn X.K fd fn.ps kw.n kw.ks (arr kw.perm) (arr kw.perm)
  nd : (x == ("__debug__" : Str)) = false
section
variable {X : Cx} {β : Option Addr} {k : Nat} {x : Str} {fn : Fn}
theorem sp_plain {b : En} {ds : List D} {o : Bool} {d : D} {l : List D} {G H : Hp} {ρ : Own} {σ : L2.St} {vs : List V} {Q : VK} {E : XK} (hio : fn.io = false) (hd : fn.den ds = some (o, d, l)) (hl : ds.length = fn.ps.length) (r : R X.K β G H ρ σ b) (hx : Rps X.K G vs ds) (q : Kn X.K β G H ρ σ b o d Q) : spD X.K fn vs H Q E := by
  refine ⟨G, none, ds, o, d, l, hd, by rw [hx.length]; exact hl, r.ex, by rw [hio]; exact ⟨rfl, hx⟩, fun v G' H' ρ' f ex _ x => ?_⟩
  obtain ⟨r', f'⟩ := r.called f ex
  refine q v G' H' ρ f' r' ?_
  cases o with
  | false => exact x
  | true =>
    obtain ⟨p, l', ws, h1, h2, h3, h4, h5, h6, h7⟩ := x
    exact ⟨p, l', ws, h1, h2, h3, h4, (r.free h3).1, h6, h7⟩
theorem den_call0 {p pos : Pos} {a : En} {o : Bool} {d : D} {l : List D} (F : FnAt X k x fn) (hr : Room k X.A) (hg : Gl X x) (hio : fn.io = false) (hd : fn.den [] = some (o, d, l)) (hl : fn.ps.length = 0) : Den X β (.Call (.Name x p) [] [] pos) a o d a := by
  intro G H ρ σ Q r q
  obtain ⟨f, fd, hm, hk, Fk, hb, _⟩ := F.ex
  exact ⟨_, pe_call0 (E := E0) Fk hr hg hm hk hb .nil pass0 F.nd, sp_plain (E := E0) hio hd hl.symm r .nil q⟩
theorem den_call {p pos : Pos} {e : Expr} {es : List Expr} {a b : En} {ds : List D} {o : Bool} {d : D} {l : List D} (F : FnAt X k x fn) (hr : Room k X.A) (hg : Gl X x) (hs : (e :: es).all (fun e => !isStar e) = true) (hio : fn.io = false) (ha : DenA X β (e :: es) a ds b) (hd : fn.den ds = some (o, d, l)) (hl : ds.length = fn.ps.length) :
    Den X β (.Call (.Name x p) (e :: es) [] pos) a o d b := by
  intro G H ρ σ Q r q
  obtain ⟨f, fd, hm, hk, Fk, hb, _⟩ := F.ex
  rw [List.all_cons, Bool.and_eq_true] at hs
  refine ⟨_, pe_call Fk hr hg hm hk hb .nil pass0 pa_w F.nd (star_ok (by simpa using hs.1)) (stars_ok hs.2), ha G H ρ σ _ r fun vs G1 H1 ρ1 f1 r1 x1 => ?_⟩
  rw [List.append_nil]
  exact sp_plain hio hd hl r1 x1 (Kn.at q f1)
/-- the first argument a list that the def may change -/
theorem den_callIo {y : Str} {p pos py : Pos} {es : List Expr} {a b : En} {i : Nat} {bs : List D} {ds : List D} {o : Bool} {d : D} {l : List D} (F : FnAt X k x fn) (hr : Room k X.A) (hg : Gl X x) (hs : es.all (fun e => !isStar e) = true) (hio : fn.io = true)
    (hN : X.N[i]? = some y) (hv : Vis X.env.scope y) (hdb : (y == ("__debug__" : Str)) = false) (hcd : (y == ("__classdict__" : Str)) = false) (h0 : (slotL a i).isSome = true) (ha : DenA X β es a ds b) (hb : slotL b i = some bs) (hd : fn.den (.list bs :: ds) = some (o, d, l)) (hl : ds.length + 1 = fn.ps.length) :
    Den X β (.Call (.Name x p) (.Name y py :: es) [] pos) a o d (putL b i l) := by
  intro G H ρ σ Q r q
  obtain ⟨f, fd, hm, hk, Fk, hbd, _⟩ := F.ex
  obtain ⟨l0, h0⟩ := Option.isSome_iff_exists.mp h0
  obtain ⟨p0, vs0, p1, p2, p3, p4⟩ := r.ownAt h0
  refine ⟨_, pe_call Fk hr hg hm hk hbd .nil pass0 (pa_cons pe_w pa_w) F.nd rfl (stars_ok hs), peek hN hv hdb hcd p1 (ha G H ρ σ _ r fun vs G1 H1 ρ1 f1 r1 x1 => ?_)⟩
  show spD X.K fn (V.ref p0 :: vs ++ []) H1 _ E0
  rw [List.append_nil]
  obtain ⟨p', ws, q1, q2, q3, q4⟩ := r1.ownAt hb
  rw [p1] at q1
  cases q1
  have hg1 : G1 p0 = none := (r1.ow p0 q4).1
  refine ⟨G1, some p0, .list bs :: ds, o, d, l, hd, by rw [List.length_cons, x1.length]; exact hl, r1.ex, by rw [hio]; exact ⟨p0, bs, ws, vs, ds, rfl, rfl, rfl, hg1, q2, q3, x1⟩, fun v G' H' ρ' f ex hbag x => ?_⟩
  obtain ⟨g', ws', k1, k2⟩ := hbag p0 rfl
  obtain ⟨r', f'⟩ := r1.calledIo hb p1 f ex g' k1 k2
  refine Kn.at q f1 v G' H' ρ1 f' r' ?_
  cases o with
  | false => exact x
  | true =>
    obtain ⟨p, l', ws, h1, h2, h3, h4, h5, h6, h7⟩ := x
    exact ⟨p, l', ws, h1, h2, h3, h4, (r1.free h3).1, h6, h7⟩

/-! ### calls with keywords -/
def kwNames : List Keyword → Option (List Str)
  | [] => some []
  | ⟨some x, _, _⟩ :: r => (kwNames r).map (x :: ·)
  | ⟨none, _, _⟩ :: _ => none
theorem kw_ok {pos : Pos} {env : Env} : ∀ {kws : List Keyword} {ks : List Str}, kwNames kws = some ks →
    (backToKw pos (keywordEach kws env)).all (·.1.isSome) = true ∧ (backToKw pos (keywordEach kws env)).filterMap (·.1) = ks ∧ (backToKw pos (keywordEach kws env)).any (·.1.isNone) = false
  | [], ks, h => by cases h; exact ⟨rfl, rfl, rfl⟩
  | ⟨some x, e, p⟩ :: r, ks, h => by
    unfold kwNames at h
    cases z : kwNames r with
    | none => rw [z] at h; cases h
    | some l =>
      rw [z] at h
      cases h
      obtain ⟨h1, h2, h3⟩ := kw_ok (pos := pos) (env := env) z
      unfold backToKw at h1 h2 h3 ⊢
      simp only [keywordEach, List.map_cons, List.all_cons, List.filterMap_cons, List.any_cons, h1, h2, h3, Option.isSome_some, Option.isNone_some, Bool.and_self, Bool.or_self, and_self]
  | ⟨none, e, p⟩ :: r, ks, h => by cases h
def DenK (X : Cx) (β : Option Addr) (kws : List Keyword) (a : En) (ds : List D) (b : En) : Prop :=
  ∀ (G H : Hp) (ρ : Own) (σ : L2.St) (Q : List V → Hp → Prop), R X.K β G H ρ σ a →
    (∀ vs G' H' ρ', Fr G H ρ G' H' ρ' → R X.K β G' H' ρ' σ b → Rps X.K G' vs ds → Q vs H') → wK X kws σ H Q
theorem denk_nil {a : En} : DenK X β [] a [] a := fun G H ρ σ Q r q => ⟨_, pk_nil, q [] G H ρ .refl r .nil⟩
theorem denk_cons {nm : Option Str} {e : Expr} {kp : Pos} {kws : List Keyword} {a b c : En} {o : Bool} {d : D} {ds : List D} (h1 : Den X β e a o d b) (h2 : DenK X β kws b ds c) : DenK X β (⟨nm, e, kp⟩ :: kws) a (d :: ds) c := by
  intro G H ρ σ Q r q
  refine ⟨_, pk_cons pe_w pk_w, h1.fz G H ρ σ _ r fun v G1 H1 ρ1 f1 r1 x1 => h2 G1 H1 ρ1 σ _ r1 fun vs G2 H2 ρ2 f2 r2 x2 => ?_⟩
  exact q (v :: vs) G2 H2 ρ2 (f1.trans f2) r2 (.cons (Rp.mono f2.ex x1) x2)
theorem pe_names {f : Addr} {fd : FuncData} {sp : Sp} {ps ks : List Str} {kws : List Keyword} {tk : TA} {p pos : Pos} {g : List Value → List Value → List Value} {gV : List V → List V → List V} (Fk : FnOk X.prog X.w X.K X.mg X.base CX0 k f fd ps sp) (hr : Room k X.A) (hg : Gl X x) (hm : X.mg x = some (.ref f)) (hk : PySem.W.keepIn X.K (.ref f) = true)
    (hb : KBn X.K fd ps 0 ks g gV) (hkw : PK X kws tk) (hn : kwNames kws = some ks) (hdb : (x == ("__debug__" : Str)) = false) :
    PE X (.Call (.Name x p) [] kws pos) (fun σ H Q => tk σ H fun zs H2 => zs.length = ks.length ∧ sp (gV [] zs) H2 Q E0) := by
  obtain ⟨h1, h2, h3⟩ := kw_ok (pos := pos) (env := X.env) hn
  refine ⟨fun pins s σ H Q I h => wpAny_Call_Name_kw (ld_glob I hg hm ?_ hdb)⟩
  refine PySem.W.callWith_KW0 (h₀ := X.base) I.ok.mod.kin hk h1 (thn (hkw.run pos pins s σ H _ I h) fun ws s2 ⟨zs, H2, I2, rz, l2, q2⟩ => ⟨I2.kIn, ?_⟩) (by rw [h3]; rfl)
  rw [h2]
  exact run_fnN (vs := []) Fk hr hb pass0 I2 .nil rz rfl l2 q2
theorem den_callK {p pos : Pos} {es : List Expr} {kws : List Keyword} {kw : Kw} {a b c : En} {ds es' : List D} {o : Bool} {d : D} {l : List D} (F : FnAt X k x fn) (hr : Room k X.A) (hg : Gl X x) (hs : es.all (fun e => !isStar e) = true) (hio : fn.io = false)
    (hkw : kw ∈ fn.kws) (hn : kwNames kws = some kw.ks) (hpos : es.length = kw.n) (ha : DenA X β es a ds b) (hA : ds.length = es.length) (hka : DenK X β kws b es' c) (hkl : es'.length = kw.ks.length)
    (hd : fn.den (arr kw.perm ds es') = some (o, d, l)) (hl : (arr kw.perm ds es').length = fn.ps.length) (h0 : es = [] → ds = [] ∧ a = b) : Den X β (.Call (.Name x p) es kws pos) a o d c := by
  intro G H ρ σ Q r q
  obtain ⟨f, fd, hm, hk, Fk, hb, hKw⟩ := F.ex
  have kb := hKw kw hkw
  cases es with
  | nil =>
    obtain ⟨rfl, rfl⟩ := h0 rfl
    have e0 : kw.n = 0 := hpos.symm
    rw [e0] at kb
    refine ⟨_, pe_names Fk hr hg hm hk kb pk_w hn F.nd, hka G H ρ σ _ r fun zs G2 H2 ρ2 f2 r2 x2 => ⟨by rw [x2.length]; exact hkl, ?_⟩⟩
    exact sp_plain hio hd hl r2 (arr_rps .nil x2 kw.perm) (Kn.at q f2)
  | cons e es =>
    obtain ⟨h1, h2, h3⟩ := kw_ok (pos := pos) (env := X.env) hn
    have hs0 := hs
    rw [List.all_cons, Bool.and_eq_true] at hs
    refine ⟨_, pe_callN Fk hr hg hm hk kb pass0 pa_w pk_w h1 h2 F.nd (star_ok (by simpa using hs.1)) (by rw [h3, stars_ok hs0]; rfl), ha G H ρ σ _ r fun vs G1 H1 ρ1 f1 r1 x1 => hka G1 H1 ρ1 σ _ r1 fun zs G2 H2 ρ2 f2 r2 x2 => ⟨by rw [x1.length, hA]; exact hpos, by rw [x2.length]; exact hkl, ?_⟩⟩
    exact sp_plain hio hd hl r2 (arr_rps (x1.mono f2.ex) x2 kw.perm) (Kn.at q (f1.trans f2))
end
end Fz
set_option Elab.async false
set_option linter.all false
set_option maxRecDepth 100000
set_option maxHeartbeats 4000000
/-! Fz, part M: the text with its names resolved; what it computes; how the text is resolved. -/
namespace Fz
open PySem PySem.Spec PyProof.Rows L2

mutual
inductive RE where
  | int (i : Int) | bl (b : Bool) | non | str (x : Str)
  | nm (i : Nat)
  | bin (op : Operator) (a b : RE)
  | neg (a : RE) | not (a : RE)
  | bop (op : BoolOp) (a b : RE)
  | ife (t : RT) (a b : RE)
  | cmp (op : CmpOp) (a b : RE)
  | chn (op op' : CmpOp) (a b c : RE)
  | ix (a b : RE) | ixn (i : Nat) (b : RE)
  | sl (a : RE) (lo hi : Option RE) | sln (i : Nat) (lo hi : Option RE)
  | blt (k : Bi) (es : List RE) | lenn (i : Nat)
  | isi (a : RE) (ts : List String)
  | lst (es : List RE) | tup (es : List RE)
  | app (j : Nat) (es : List RE) | appio (j i : Nat) (es : List RE) | appk (j m : Nat) (es ks : List RE)
  | lc (t : Tg) (vs : List Nat) (it : RI) (tt : Option RT) (e : RE)
  | push (i : Nat) (e : RE) | pop (i : Nat)
inductive RT where
  | nt (a : RT)
  | bop (op : BoolOp) (a b : RT)
  | cmp (op : CmpOp) (a b : RE)
  | chn (op op' : CmpOp) (a b c : RE)
  | val (e : RE)
  | nm (i : Nat)
inductive RI where
  | seq (e : RE) | rng (es : List RE) | enu (es : List RE) | zip (a b : RE) | ez (a b : RE) | rev (e : RE)
end
inductive RS where
  | set (i : Nat) (e : RE)
  | tgt (t : Tg) (e : RE)
  | par (is : List Nat) (es : List RE)
  | put (i : Nat) (ei e : RE)
  | pro (i j : Nat) (e1 e2 : RE)
  | ret (e : RE) | retn
  | ife (t : RT) (a b : List RS)
  | whl (t : RT) (b : List RS)
  | for (t : Tg) (it : RI) (b : List RS)
  | ex (e : RE)
  | pass | brk | cnt | never

/-- the defs that may be called; how far a while is followed -/
structure Tb where
  N : List Str
  fs : List (Str × Fn)
  W : Nat

/-! ### what it computes -/
def itemsD (o : D) : Option (List D) := match o with
  | .list l => some l
  | .tuple l => some l
  | .str x => some (strD x)
  | _ => none
def rngL : List D → Option (List D)
  | [.int i] => if b62 i then some (rngD 0 i.toNat) else none
  | [.int i, .int j] => if b62 i && b62 j then some (rngD i (j - i).toNat) else none
  | [.int i, .int j, .int c] => if b62 i && b62 j && (c == -1) then some ((List.range (i - j).toNat).map fun (m : Nat) => .int (i - (m : Int))) else none
  | _ => none
def enuL : List D → Option (List D)
  | [d] => (seqD d).map fun k => enumD 0 k.2
  | [d, .int c] => if b62 c then (seqD d).map fun k => enumD c k.2 else none
  | _ => none
def opStop (op : BoolOp) (k : Bool) : Bool := match op with
  | .And => !k
  | .Or => k
section
variable (T : Tb)
mutual
def evE : Nat → RE → En → Option (Bool × D × En)
  | 0, _, _ => none
  | _ + 1, .int i, e => some (false, .int i, e)
  | _ + 1, .bl b, e => some (false, .bool b, e)
  | _ + 1, .non, e => some (false, .none, e)
  | _ + 1, .str x, e => some (false, .str x, e)
  | _ + 1, .nm i, e => (lockS e i).bind fun p => some (false, p.1, p.2)
  | n + 1, .bin op a b, e => (evE n a e).bind fun p => (evE n b p.2.2).bind fun q => (binD op p.1 p.2.1 q.2.1).bind fun z => some (z.1, z.2, q.2.2)
  | n + 1, .neg a, e => (evE n a e).bind fun p => match p.2.1 with
    | .int i => some (false, .int (-i), p.2.2)
    | _ => none
  | n + 1, .not a, e => (evE n a e).bind fun p => (truD p.2.1).bind fun k => some (false, .bool (!k), p.2.2)
  | n + 1, .bop op a b, e => (evE n a e).bind fun p => (truD p.2.1).bind fun k => if opStop op k then some p else evE n b p.2.2
  | n + 1, .ife t a b, e => (evT n t e).bind fun p => if p.1 then evE n a p.2 else evE n b p.2
  | n + 1, .cmp op a b, e => (evE n a e).bind fun p => (evE n b p.2.2).bind fun q => (cmpD op p.2.1 q.2.1).bind fun k => some (false, .bool k, q.2.2)
  | n + 1, .chn op op' a b c, e => (evE n a e).bind fun p => (evE n b p.2.2).bind fun q => (cmpD op p.2.1 q.2.1).bind fun k => if k then (evE n c q.2.2).bind fun r => (cmpD op' q.2.1 r.2.1).bind fun k2 => some (false, .bool k2, r.2.2) else some (false, .bool false, q.2.2)
  | n + 1, .ix a b, e => (evE n a e).bind fun p => (evE n b p.2.2).bind fun q => (ixD p.2.1 q.2.1).bind fun d => some (false, d, q.2.2)
  | n + 1, .ixn i b, e => match slotL e i with
    | some _ => (evE n b e).bind fun q => (slotL q.2.2 i).bind fun l => (ixD (.list l) q.2.1).bind fun d => some (false, d, q.2.2)
    | none => (lockS e i).bind fun p => (evE n b p.2).bind fun q => (ixD p.1 q.2.1).bind fun d => some (false, d, q.2.2)
  | n + 1, .sl a lo hi, e => (evE n a e).bind fun p => (evO n lo p.2.2).bind fun q => (evO n hi q.2).bind fun r => (slD p.2.1 q.1 r.1).bind fun z => some (z.1, z.2, r.2)
  | n + 1, .sln i lo hi, e => match slotL e i with
    | some _ => (evO n lo e).bind fun q => (evO n hi q.2).bind fun r => (slotL r.2 i).bind fun l => (slD (.list l) q.1 r.1).bind fun z => some (z.1, z.2, r.2)
    | none => (lockS e i).bind fun p => (evO n lo p.2).bind fun q => (evO n hi q.2).bind fun r => (slD p.1 q.1 r.1).bind fun z => some (z.1, z.2, r.2)
  | n + 1, .blt k es, e => (evA n es e).bind fun p => (bltD k p.1).bind fun z => some (z.1, z.2, p.2)
  | _ + 1, .lenn i, e => match slotL e i with
    | some l => some (false, .int l.length, e)
    | none => (lockS e i).bind fun p => (bltD .len [p.1]).bind fun z => some (z.1, z.2, p.2)
  | n + 1, .isi a ts, e => (evE n a e).bind fun p => if noTag p.2.1 then some (false, .bool (isiD p.2.1 ts), p.2.2) else none
  | n + 1, .lst es, e => (evA n es e).bind fun p => if szB p.1.length then some (true, .list p.1, p.2) else none
  | n + 1, .tup es, e => (evA n es e).bind fun p => if szB p.1.length then some (false, .tuple p.1, p.2) else none
  | n + 1, .app j es, e => (evA n es e).bind fun p => (T.fs[j]?).bind fun f => if f.2.io = false ∧ p.1.length = f.2.ps.length then (f.2.den p.1).bind fun z => some (z.1, z.2.1, p.2) else none
  | n + 1, .appio j i es, e => (slotL e i).bind fun _ => (evA n es e).bind fun p => (slotL p.2 i).bind fun bs => (T.fs[j]?).bind fun f =>
      if f.2.io = true ∧ p.1.length + 1 = f.2.ps.length then (f.2.den (.list bs :: p.1)).bind fun z => some (z.1, z.2.1, putL p.2 i z.2.2) else none
  | n + 1, .appk j m es ks, e => (evA n es e).bind fun p => (evA n ks p.2).bind fun q => (T.fs[j]?).bind fun f => (f.2.kws[m]?).bind fun kw =>
      if f.2.io = false ∧ p.1.length = es.length ∧ q.1.length = kw.ks.length ∧ (arr kw.perm p.1 q.1).length = f.2.ps.length then (f.2.den (arr kw.perm p.1 q.1)).bind fun z => some (z.1, z.2.1, q.2) else none
  | n + 1, .lc t vs it tt x, e => (evI n it e).bind fun p => if szB p.1.length then (lcL (evC n t vs tt x) p.1 p.2).bind fun z => some (true, .list z.1, z.2) else none
  | n + 1, .push i x, e => (slotL e i).bind fun _ => (evE n x e).bind fun p => (slotL p.2.2 i).bind fun l => if szB (l.length + 1) then some (false, .none, putL p.2.2 i (l ++ [p.2.1])) else none
  | _ + 1, .pop i, e => (slotL e i).bind fun l => (l[l.length - 1]?).bind fun d => some (false, d, putL e i l.dropLast)
/-- one turn of a comprehension -/
def evC : Nat → Tg → List Nat → Option RT → RE → D → En → Option (Option D × En)
  | 0, _, _, _, _, _, _ => none
  | n + 1, t, vs, tt, x, d, e => if vs.all (fun v => plainS (e.sl.getD v .no)) then
      (stT (wipeE e vs) t d).bind fun e1 => (evTo n tt e1).bind fun p => if p.1 then (evE n x p.2).bind fun q => some (some q.2.1, restE e q.2.2 vs) else some (none, restE e p.2 vs)
    else none
def evTo : Nat → Option RT → En → Option (Bool × En)
  | 0, _, _ => none
  | _ + 1, none, e => some (true, e)
  | n + 1, some t, e => evT n t e
def evO : Nat → Option RE → En → Option (Option Int × En)
  | 0, _, _ => none
  | _ + 1, none, e => some (none, e)
  | n + 1, some a, e => (evE n a e).bind fun p => match p.2.1 with
    | .int i => some (some i, p.2.2)
    | _ => none
def evA : Nat → List RE → En → Option (List D × En)
  | 0, _, _ => none
  | _ + 1, [], e => some ([], e)
  | n + 1, a :: es, e => (evE n a e).bind fun p => (evA n es p.2.2).bind fun q => some (p.2.1 :: q.1, q.2)
def evT : Nat → RT → En → Option (Bool × En)
  | 0, _, _ => none
  | n + 1, .nt a, e => (evT n a e).bind fun p => some (!p.1, p.2)
  | n + 1, .bop op a b, e => (evT n a e).bind fun p => if opStop op p.1 then some p else evT n b p.2
  | n + 1, .cmp op a b, e => (evE n a e).bind fun p => (evE n b p.2.2).bind fun q => (cmpD op p.2.1 q.2.1).bind fun k => some (k, q.2.2)
  | n + 1, .chn op op' a b c, e => (evE n a e).bind fun p => (evE n b p.2.2).bind fun q => (cmpD op p.2.1 q.2.1).bind fun k => if k then (evE n c q.2.2).bind fun r => (cmpD op' q.2.1 r.2.1).bind fun k2 => some (k2, r.2.2) else some (false, q.2.2)
  | n + 1, .val a, e => (evE n a e).bind fun p => (truD p.2.1).bind fun k => some (k, p.2.2)
  | _ + 1, .nm i, e => match slotL e i with
    | some l => some (!l.isEmpty, e)
    | none => (lockS e i).bind fun p => (truD p.1).bind fun k => some (k, p.2)
def evI : Nat → RI → En → Option (List D × En)
  | 0, _, _ => none
  | n + 1, .seq a, e => (evE n a e).bind fun p => (itemsD p.2.1).bind fun l => some (l, p.2.2)
  | n + 1, .rng es, e => (evA n es e).bind fun p => (rngL p.1).bind fun l => some (l, p.2)
  | n + 1, .enu es, e => (evA n es e).bind fun p => (enuL p.1).bind fun l => some (l, p.2)
  | n + 1, .zip a b, e => (evE n a e).bind fun p => (evE n b p.2.2).bind fun q => (seqD p.2.1).bind fun l => (seqD q.2.1).bind fun m => some (zipD l.2 m.2, q.2.2)
  | n + 1, .ez a b, e => (evE n a e).bind fun p => (evE n b p.2.2).bind fun q => (seqD p.2.1).bind fun l => (seqD q.2.1).bind fun m => some (enumD 0 (zipD l.2 m.2), q.2.2)
  | n + 1, .rev a, e => (evE n a e).bind fun p => (seqD p.2.1).bind fun l => some (l.2.reverse, p.2.2)
end
mutual
def evS : Nat → RS → En → Option SR
  | 0, _, _ => none
  | n + 1, .set i a, e => (evE T n a e).bind fun p => if i < p.2.2.sl.length then some (.nx (setS p.2.2 i p.1 p.2.1)) else none
  | n + 1, .tgt t a, e => (evE T n a e).bind fun p => (stT p.2.2 t p.2.1).bind fun z => some (.nx z)
  | n + 1, .par is es, e => (evA T n es e).bind fun p => (stAll p.2 is p.1).bind fun z => some (.nx z)
  | n + 1, .put i b a, e => (evE T n a e).bind fun p => (slotL p.2.2 i).bind fun _ => (evE T n b p.2.2).bind fun q => match q.2.1 with
    | .int k => (slotL q.2.2 i).bind fun l => (ixN l.length k).bind fun j => some (.nx (putL q.2.2 i (l.set j p.2.1)))
    | _ => none
  | n + 1, .ret a, e => (evE T n a e).bind fun p => some (.rt p.1 p.2.1 p.2.2)
  | _ + 1, .retn, e => some (.rt false .none e)
  | n + 1, .ife t a b, e => (evT T n t e).bind fun p => if p.1 then evSs n a p.2 else evSs n b p.2
  | n + 1, .whl t b, e => whileL (evT T n t) (evSs n b) T.W e
  | n + 1, .for t it b, e => (evI T n it e).bind fun p => forL (fun d e => (stT e t d).bind fun e1 => evSs n b e1) p.1 p.2
  | n + 1, .ex a, e => (evE T n a e).bind fun p => some (.nx p.2.2)
  | _ + 1, .pass, e => some (.nx e)
  | _ + 1, .brk, e => some (.bk e)
  | _ + 1, .cnt, e => some (.ct e)
  | _ + 1, .never, _ => none
  | n + 1, .pro i j p q, e => (evE T n p e).bind fun y => (evE T n q y.2.2).bind fun z => if i < z.2.2.sl.length then if j < z.2.2.sl.length then some (.nx (setS (setS z.2.2 i false y.2.1) j z.1 z.2.1)) else none else none
def evSs : Nat → List RS → En → Option SR
  | 0, _, _ => none
  | _ + 1, [], e => some (.nx e)
  | n + 1, s :: ss, e => (evS n s e).bind fun r => match r with
    | .nx e1 => evSs n ss e1
    | r => some r
end
end

/-! ### resolving -/
/-- the names of built-ins that the text uses -/
def bltNames : List Str := ["len", "int", "abs", "list", "tuple", "all", "any", "max", "min", "sum", "isinstance", "range", "enumerate", "zip", "reversed", "bool", "str"]
def nameOk (x : Str) : Bool := !(x == ("__debug__" : Str)) && !(x == ("__classdict__" : Str))
def slotN (T : Tb) (sc : Scope) (x : Str) : Option Nat := match sc.names.lookup x with
  | some .local => if nameOk x then idxOf T.N x else none
  | some .cell => if nameOk x then idxOf T.N x else none
  | some .free => if nameOk x then idxOf T.N x else none
  | _ => none
def isGl (sc : Scope) (x : Str) : Bool := match sc.names.lookup x with
  | some .globalImplicit => true
  | _ => false
def isBlt (sc : Scope) (x : Str) : Bool := isGl sc x && bltNames.contains x
def fnIx (T : Tb) (x : Str) : Option Nat := T.fs.findIdx? (fun p => p.1 == x)
def kwIx (kws : List Kw) (n : Nat) (ks : List Str) : Option Nat := kws.findIdx? (fun k => k.n == n && k.ks == ks)
def stoOk (raw : Scope) (x : Str) : Bool := match raw.names.lookup x with
  | some .local => true
  | some .cell => true
  | _ => false
end Fz
set_option Elab.async false
set_option linter.all false
set_option maxRecDepth 100000
set_option maxHeartbeats 4000000
/-! Fz, part N: a check that the resolved text is the text; contexts. -/
namespace Fz
open PySem PySem.Spec PyProof.Rows L2

def noStars (es : List Expr) : Bool := es.all fun e => !isStar e
def isIsi (sc : Scope) (f : Str) : Bool := isBlt sc f && (f == ("isinstance" : Str))
def tyBlt (sc : Scope) (l : List (Str × String)) : Bool := l.all fun p => isBlt sc p.1 && (tyOf p.1 == some p.2)
def fnBlt (sc : Scope) (f : Str) (x : Str) : Bool := isBlt sc f && (f == x)
section
variable (T : Tb)
mutual
def ckE : Nat → Scope → Expr → RE → Bool
  | 0, _, _, _ => false
  | n + 1, sc, e, r => match r with
    | .int j => match e with
      | .Constant (.int i) _ _ => i == j
      | _ => false
    | .bl c => match e with
      | .Constant (.bool b) _ _ => b == c
      | _ => false
    | .non => match e with
      | .Constant .none _ _ => true
      | _ => false
    | .str y => match e with
      | .Constant (.str x) _ _ => x == y
      | _ => false
    | .nm i => match e with
      | .Name x _ => slotN T sc x == some i
      | _ => false
    | .bin op' a b => match e with
      | .BinOp l op q _ => decide (op = op') && ckE n sc l a && ckE n sc q b
      | _ => false
    | .neg a => match e with
      | .UnaryOp .USub x _ => ckE n sc x a
      | _ => false
    | .not a => match e with
      | .UnaryOp .Not x _ => ckE n sc x a
      | _ => false
    | .bop op' a b => match e with
      | .BoolOp op [x, y] _ => decide (op = op') && ckE n sc x a && ckE n sc y b
      | .BoolOp op (x :: y :: z :: rest) pos => decide (op = op') && ckE n sc x a && ckE n sc (.BoolOp op (y :: z :: rest) pos) b
      | _ => false
    | .ife t a b => match e with
      | .IfExp c x y _ => ckT n sc c t && ckE n sc x a && ckE n sc y b
      | _ => false
    | .cmp op' a b => match e with
      | .Compare l [op] [q] _ => decide (op = op') && !isSet q && ckE n sc l a && ckE n sc q b
      | _ => false
    | .chn op1 op2 a b c => match e with
      | .Compare l [op, op'] [q, q'] _ => decide (op = op1) && decide (op' = op2) && !isSet q' && ckE n sc l a && ckE n sc q b && ckE n sc q' c
      | _ => false
    | .ix a b => match e with
      | .Subscript x i _ => !isSlice i && ckE n sc x a && ckE n sc i b
      | _ => false
    | .ixn j b => match e with
      | .Subscript (.Name x _) i _ => (slotN T sc x == some j) && !isSlice i && ckE n sc i b
      | _ => false
    | .sl a lo' hi' => match e with
      | .Subscript x (.Slice lo hi none _) _ => ckE n sc x a && ckO n sc lo lo' && ckO n sc hi hi'
      | _ => false
    | .sln j lo' hi' => match e with
      | .Subscript (.Name x _) (.Slice lo hi none _) _ => (slotN T sc x == some j) && ckO n sc lo lo' && ckO n sc hi hi'
      | _ => false
    | .blt k es => match e with
      | .Call (.Name f _) (a :: args) [] _ => isBlt sc f && (biOf f == some k) && noStars (a :: args) && ckA n sc (a :: args) es
      | _ => false
    | .lenn i => match e with
      | .Call (.Name f _) [.Name y _] [] _ => isBlt sc f && (biOf f == some .len) && (slotN T sc y == some i)
      | _ => false
    | .isi a ts => match e with
      | .Call (.Name f _) [x, .Name t _] [] _ => isIsi sc f && !isStar x && isBlt sc t && (match tyOf t with | some s => ts == [s] | none => false) && ckE n sc x a
      | .Call (.Name f _) [x, .Tuple es _ _] [] _ => isIsi sc f && !isStar x && (match tyNames es with | some l => tyBlt sc l && decide (l.length ≤ 100) && (ts == l.map (·.2)) | none => false) && ckE n sc x a
      | _ => false
    | .lst es => match e with
      | .List xs _ => noStars xs && ckA n sc xs es
      | _ => false
    | .tup es => match e with
      | .Tuple xs _ _ => noStars xs && ckA n sc xs es
      | _ => false
    | .app j es => match e with
      | .Call (.Name f _) args [] _ => isGl sc f && (match T.fs[j]? with | some p => p.1 == f | none => false) && noStars args && ckA n sc args es
      | _ => false
    | .appio j i es => match e with
      | .Call (.Name f _) (.Name y _ :: args) [] _ => isGl sc f && (match T.fs[j]? with | some p => p.1 == f | none => false) && (slotN T sc y == some i) && noStars args && ckA n sc args es
      | _ => false
    | .appk j m es ks => match e with
      | .Call (.Name f _) args kws _ => isGl sc f && (match T.fs[j]? with
          | some p => (p.1 == f) && (match p.2.kws[m]? with
            | some kw => (kw.n == args.length) && (kwNames kws == some kw.ks)
            | none => false)
          | none => false) && noStars args && ckA n sc args es && ckK n sc kws ks
      | _ => false
    | .lc t vs it' tt x => match e with
      | .ListComp elt [⟨tg, it, ifs, 0⟩] scope _ => !isSet it && (match tgOf T.N tg with
          | some (t', tl) => decide (t'.ix = t.ix) && (match t', t with | .one _, .one _ => true | .tup _, .tup _ => true | .pr _ _, .pr _ _ => true | _, _ => false) && (tl.map (·.2) == vs) && (t.ix.all fun j => vs.contains j) && blkC T.N sc scope tl && tl.all (fun p => stoOk scope p.1)
          | none => false) && ckI n sc tg it it' && ckTo n (relS scope sc) ifs tt && ckE n (relS scope sc) elt x
      | _ => false
    | .push i a => match e with
      | .Call (.Attribute (.Name x _) m pa) [y] [] cp => (m == ("append" : Str)) && (slotN T sc x == some i) && !isStar y && (pa.endLine == cp.line) && ckE n sc y a
      | _ => false
    | .pop i => match e with
      | .Call (.Attribute (.Name x _) m pa) [] [] cp => (m == ("pop" : Str)) && (slotN T sc x == some i) && (pa.endLine == cp.line)
      | _ => false
def ckO : Nat → Scope → Option Expr → Option RE → Bool
  | 0, _, _, _ => false
  | _ + 1, _, none, none => true
  | n + 1, sc, some e, some r => ckE n sc e r
  | _ + 1, _, _, _ => false
def ckA : Nat → Scope → List Expr → List RE → Bool
  | 0, _, _, _ => false
  | _ + 1, _, [], [] => true
  | n + 1, sc, e :: es, r :: rs => ckE n sc e r && ckA n sc es rs
  | _ + 1, _, _, _ => false
def ckK : Nat → Scope → List Keyword → List RE → Bool
  | 0, _, _, _ => false
  | _ + 1, _, [], [] => true
  | n + 1, sc, ⟨_, e, _⟩ :: es, r :: rs => ckE n sc e r && ckK n sc es rs
  | _ + 1, _, _, _ => false
def ckTo : Nat → Scope → List Expr → Option RT → Bool
  | 0, _, _, _ => false
  | _ + 1, _, [], none => true
  | n + 1, sc, [e], some r => ckT n sc e r
  | _ + 1, _, _, _ => false
def ckT : Nat → Scope → Expr → RT → Bool
  | 0, _, _, _ => false
  | n + 1, sc, e, r => match r with
    | .nt a => match e with
      | .UnaryOp .Not x _ => ckT n sc x a
      | _ => false
    | .bop op' a b => match e with
      | .BoolOp op [x, y] _ => decide (op = op') && ckT n sc x a && ckT n sc y b
      | .BoolOp op (x :: y :: z :: rest) pos => decide (op = op') && ckT n sc x a && ckT n sc (.BoolOp op (y :: z :: rest) pos) b
      | _ => false
    | .cmp op' a b => match e with
      | .Compare l [op] [q] _ => decide (op = op') && !isSet q && ckE n sc l a && ckE n sc q b
      | _ => false
    | .chn op1 op2 a b c => match e with
      | .Compare l [op, op'] [q, q'] _ => decide (op = op1) && decide (op' = op2) && !isSet q' && ckE n sc l a && ckE n sc q b && ckE n sc q' c
      | _ => false
    | .val a => plainT e && ckE n sc e a
    | .nm i => match e with
      | .Name x _ => slotN T sc x == some i
      | _ => false
def ckI : Nat → Scope → Expr → Expr → RI → Bool
  | 0, _, _, _, _ => false
  | n + 1, sc, tg, e, r => match r with
    | .seq a => ckE n sc e a
    | .rng rs => match e with
      | .Call (.Name f _) args [] _ => fnBlt sc f "range" && noStars args && ckA n sc args rs
      | _ => false
    | .enu rs => match e, tg with
      | .Call (.Name f _) args [] _, .Tuple _ _ _ => fnBlt sc f "enumerate" && noStars args && ckA n sc args rs
      | _, _ => false
    | .zip a b => match e, tg with
      | .Call (.Name f _) [x, y] [] _, .Tuple _ _ _ => fnBlt sc f "zip" && !isStar x && !isStar y && ckE n sc x a && ckE n sc y b
      | _, _ => false
    | .ez a b => match e, tg with
      | .Call (.Name f _) [.Call (.Name g _) [x, y] [] _] [] _, .Tuple _ _ _ => fnBlt sc f "enumerate" && fnBlt sc g "zip" && !isStar x && !isStar y && ckE n sc x a && ckE n sc y b
      | _, _ => false
    | .rev a => match e with
      | .Call (.Name f _) [x] [] _ => fnBlt sc f "reversed" && !isStar x && ckE n sc x a
      | _ => false
end
end

/-! ### a context for a scope -/
structure Cok (T : Tb) (k : Nat) (sc : Scope) (X : Cx) : Prop where
  N : X.N = T.N
  nd : T.N.Nodup
  calm : X.calm = true
  room : Room k X.A
  sc : X.env.scope = sc
  blt : ∀ x, bltNames.contains x = true → X.mg x = none
  fns : ∀ (j : Nat) (p : Str × Fn), T.fs[j]? = some p → FnAt X k p.1 p.2
section
variable {T : Tb} {k : Nat} {sc : Scope} {X : Cx}
theorem Cok.slot (c : Cok T k sc X) {x : Str} {i : Nat} (h : slotN T sc x = some i) : idxOf X.N x = some i ∧ Vis X.env.scope x ∧ (x == ("__debug__" : Str)) = false ∧ (x == ("__classdict__" : Str)) = false := by
  have key : ∀ (q : sc.names.lookup x = some .local ∨ sc.names.lookup x = some .cell ∨ sc.names.lookup x = some .free), (if nameOk x then idxOf T.N x else none) = some i → idxOf X.N x = some i ∧ Vis X.env.scope x ∧ (x == ("__debug__" : Str)) = false ∧ (x == ("__classdict__" : Str)) = false := fun q h => by
    split at h
    · rename_i ok
      unfold nameOk at ok
      rw [Bool.and_eq_true] at ok
      exact ⟨by rw [c.N]; exact h, by rw [c.sc]; exact q, by simpa using ok.1, by simpa using ok.2⟩
    · cases h
  unfold slotN at h
  split at h
  · exact key (.inl (by assumption)) h
  · exact key (.inr (.inl (by assumption))) h
  · exact key (.inr (.inr (by assumption))) h
  · cases h
theorem Cok.gl (c : Cok T k sc X) {x : Str} (h : isGl sc x = true) : Gl X x := by
  unfold isGl at h
  split at h
  · rename_i q
    show X.env.scope.names.lookup x = some .globalImplicit
    rw [c.sc]; exact q
  · cases h
theorem Cok.bltG (c : Cok T k sc X) {x : Str} (h : isBlt sc x = true) : Gl X x ∧ X.mg x = none := by
  unfold isBlt at h
  rw [Bool.and_eq_true] at h
  exact ⟨c.gl h.1, c.blt x h.2⟩
theorem relS_look {scope sc : Scope} {x : Str} : (relS scope sc).names.lookup x = (scope.names.lookup x).map fun k => if (k == .free && sc.kind == .function && sc.names.lookup x == some .cell) then .cell else k := by
  show (scope.names.map fun p => match p with | (n, k) => if (k == .free && sc.kind == .function && sc.names.lookup n == some .cell) then (n, NameKind.cell) else (n, k)).lookup x = _
  induction scope.names with
  | nil => rfl
  | cons p r ih =>
    obtain ⟨y, k⟩ := p
    rw [List.map_cons]
    show List.lookup x ((if (k == .free && sc.kind == .function && sc.names.lookup y == some .cell) then (y, NameKind.cell) else (y, k)) :: _) = _
    have e2 : (if (k == .free && sc.kind == .function && sc.names.lookup y == some .cell) then (y, NameKind.cell) else (y, k)) = (y, if (k == .free && sc.kind == .function && sc.names.lookup y == some .cell) then NameKind.cell else k) := by
      split <;> rfl
    rw [e2, List.lookup_cons, List.lookup_cons]
    cases b : (x == y) with
    | true =>
      have : x = y := by simpa using b
      subst this
      rfl
    | false => exact ih
theorem Cok.bl (c : Cok T k sc X) (scope : Scope) (s : Shared) (H : Hp) (C : Addr) (cl : List (Str × Addr)) (fp : List Addr) : Cok T k (relS scope sc) (Bl X scope s H C cl fp) :=
  ⟨c.N, c.nd, c.calm, c.room, by rw [← c.sc]; rfl, c.blt, fun j p h => ⟨(c.fns j p h).ex, (c.fns j p h).nd⟩⟩
theorem stok_bl {scope : Scope} {s : Shared} {H : Hp} {C : Addr} {cl : List (Str × Addr)} {fp : List Addr} {x : Str} (h : stoOk scope x = true) : StOk (Bl X scope s H C cl fp) x := by
  unfold stoOk at h
  have look : (Bl X scope s H C cl fp).env.scope.names.lookup x = (scope.names.lookup x).map fun k => if (k == .free && X.env.scope.kind == .function && X.env.scope.names.lookup x == some .cell) then .cell else k := relS_look
  split at h
  · rename_i q
    rw [q] at look
    exact ⟨.inl look, .inr look⟩
  · rename_i q
    rw [q] at look
    refine ⟨.inr look, .inl ?_⟩
    show (scope.names.lookup x == some .cell) = true
    rw [q]; rfl
  · cases h
end
end Fz
set_option Elab.async false
set_option linter.all false
set_option maxRecDepth 100000
set_option maxHeartbeats 8000000
/-! Fz, part O: what is computed is what runs: expressions. -/
namespace Fz
open PySem PySem.Spec PyProof.Rows L2

structure Snd (T : Tb) (k n : Nat) : Prop where
  E : ∀ {sc : Scope} {X : Cx} {β : Option Addr} {e : Expr} {r : RE} {m : Nat} {a : En} {z : Bool × D × En}, Cok T k sc X → ckE T n sc e r = true → evE T m r a = some z → Den X β e a z.1 z.2.1 z.2.2
  A : ∀ {sc : Scope} {X : Cx} {β : Option Addr} {e : List Expr} {r : List RE} {m : Nat} {a : En} {z : List D × En}, Cok T k sc X → ckA T n sc e r = true → noStars e = true → evA T m r a = some z → DenA X β e a z.1 z.2 ∧ z.1.length = e.length ∧ r.length = e.length ∧ (e = [] → z.1 = [] ∧ a = z.2)
  Kw : ∀ {sc : Scope} {X : Cx} {β : Option Addr} {e : List Keyword} {r : List RE} {m : Nat} {a : En} {z : List D × En}, Cok T k sc X → ckK T n sc e r = true → evA T m r a = some z → DenK X β e a z.1 z.2
  O : ∀ {sc : Scope} {X : Cx} {β : Option Addr} {e : Option Expr} {r : Option RE} {m : Nat} {a : En} {z : Option Int × En}, Cok T k sc X → ckO T n sc e r = true → evO T m r a = some z → DenO X β e a z.1 z.2
  To : ∀ {sc : Scope} {X : Cx} {β : Option Addr} {e : List Expr} {r : Option RT} {m : Nat} {a : En} {z : Bool × En}, Cok T k sc X → ckTo T n sc e r = true → evTo T m r a = some z → DenTs X β e a z.1 z.2
  Tt : ∀ {sc : Scope} {X : Cx} {β : Option Addr} {e : Expr} {r : RT} {m : Nat} {a : En} {z : Bool × En}, Cok T k sc X → ckT T n sc e r = true → evT T m r a = some z → DenT X β e a z.1 z.2
  Tw : ∀ {sc : Scope} {X : Cx} {β : Option Addr} {e : Expr} {r : RT} {m : Nat} {a : En} {z : Bool × En}, Cok T k sc X → ckT T n sc e r = true → evT T m r a = some z → (∃ op es pos, e = .BoolOp op es pos) → DenW X β e a z.1 z.2
  I : ∀ {sc : Scope} {X : Cx} {β : Option Addr} {tg e : Expr} {r : RI} {m : Nat} {a : En} {z : List D × En}, Cok T k sc X → ckI T n sc tg e r = true → evI T m r a = some z → DenI X β tg e a z.1 z.2
section
variable {T : Tb} {k n : Nat}
theorem snd_zero : Snd T k 0 := by
  refine ⟨?_, ?_, ?_, ?_, ?_, ?_, ?_, ?_⟩ <;> intros <;> simp only [ckE, ckA, ckK, ckO, ckTo, ckT, ckI, Bool.false_eq_true] at * <;> contradiction
theorem stop_and : ∀ {op : BoolOp} {k : Bool}, opStop op k = true → k = match op with | .And => false | .Or => true
  | .And, false, _ => rfl
  | .And, true, h => by cases h
  | .Or, false, h => by cases h
  | .Or, true, _ => rfl
theorem stop_on : ∀ {op : BoolOp} {k : Bool}, ¬ opStop op k = true → k = match op with | .And => true | .Or => false
  | .And, false, h => absurd rfl h
  | .And, true, _ => rfl
  | .Or, false, _ => rfl
  | .Or, true, h => absurd rfl h
theorem idx_of {X : Cx} {sc : Scope} (c : Cok T k sc X) {x : Str} {i : Nat} (h : slotN T sc x = some i) : X.N[i]? = some x := idxOf_get (c.slot h).1
/-- a turn of a comprehension -/
theorem turn_ok {sc scope : Scope} {X : Cx} {β : Option Addr} {t : Tg} {vs : List Nat} {ifs : List Expr} {elt : Expr} {tt : Option RT} {x : RE} {m : Nat} {d : D} {e : En} {o : Option D} {e' : En} (S : Snd T k n) (c : Cok T k sc X) (h1 : ckTo T n (relS scope sc) ifs tt = true) (h2 : ckE T n (relS scope sc) elt x = true)
    (h : evC T m t vs tt x d e = some (o, e')) : TurnC X β scope t vs ifs elt d e o e' := by
  cases m with
  | zero => simp only [evC] at h; cases h
  | succ m =>
    simp only [evC] at h
    split at h
    · rename_i hp
      simp only [Option.bind_eq_some_iff] at h
      obtain ⟨e1, hst, p, ht, hk⟩ := h
      refine ⟨List.all_eq_true.mp hp, e1, p.1, p.2, hst, fun s H C cl fp => S.To (c.bl scope s H C cl fp) h1 ht, ?_⟩
      cases hk1 : p.1 with
      | false =>
        rw [hk1] at hk
        simp only [Bool.false_eq_true, if_false, Option.some.injEq, Prod.mk.injEq] at hk
        exact ⟨hk.1.symm, hk.2.symm⟩
      | true =>
        rw [hk1] at hk
        simp only [if_true, Option.bind_eq_some_iff, Option.some.injEq, Prod.mk.injEq] at hk
        obtain ⟨q, hq, k1, k2⟩ := hk
        exact ⟨q.2.2, q.2.1, fun s H C cl fp => (S.E (c.bl scope s H C cl fp) h2 hq).fz, k1.symm, k2.symm⟩
    · cases h
theorem snd_E (S : Snd T k n) {sc : Scope} {X : Cx} {β : Option Addr} {e : Expr} {r : RE} {m : Nat} {a : En} {z : Bool × D × En} (c : Cok T k sc X) (hc : ckE T (n + 1) sc e r = true) (hv : evE T m r a = some z) : Den X β e a z.1 z.2.1 z.2.2 := by
  cases m with
  | zero => simp only [evE] at hv; cases hv
  | succ m =>
  cases r with
  | int j =>
    simp only [ckE] at hc
    split at hc
    · simp only [evE, Option.some.injEq] at hv
      subst hv
      rw [beq_iff_eq] at hc
      subst hc
      exact den_int
    · cases hc
  | bl j =>
    simp only [ckE] at hc
    split at hc
    · simp only [evE, Option.some.injEq] at hv
      subst hv
      rw [beq_iff_eq] at hc
      subst hc
      exact den_bl
    · cases hc
  | non =>
    simp only [ckE] at hc
    split at hc
    · simp only [evE, Option.some.injEq] at hv
      subst hv
      exact den_non
    · cases hc
  | str j =>
    simp only [ckE] at hc
    split at hc
    · simp only [evE, Option.some.injEq] at hv
      subst hv
      rw [beq_iff_eq] at hc
      subst hc
      exact den_str
    · cases hc
  | nm i =>
    simp only [ckE] at hc
    split at hc
    · rw [beq_iff_eq] at hc
      simp only [evE, Option.bind_eq_some_iff, Option.some.injEq] at hv
      obtain ⟨p, hp, rfl⟩ := hv
      dsimp only
      obtain ⟨q1, q2, q3, q4⟩ := c.slot hc
      exact den_name (idxOf_get q1) q2 q3 q4 hp
    · cases hc
  | bin op' p q =>
    simp only [ckE] at hc
    split at hc
    · simp only [Bool.and_eq_true, decide_eq_true_eq] at hc
      obtain ⟨⟨rfl, h1⟩, h2⟩ := hc
      simp only [evE, Option.bind_eq_some_iff, Option.some.injEq] at hv
      obtain ⟨z1, e1, z2, e2, z3, e3, rfl⟩ := hv
      dsimp only
      obtain ⟨rr, ho, hr⟩ := bin_ok (X := X) (β := β) (b := z2.2.2) e3
      exact den_bin ho (S.E c h1 e1) (S.E c h2 e2) hr
    · cases hc
  | neg p =>
    simp only [ckE] at hc
    split at hc
    · simp only [evE, Option.bind_eq_some_iff] at hv
      obtain ⟨⟨o, d, b⟩, e1, hv⟩ := hv
      simp only at hv
      split at hv
      · cases hv
        exact den_neg (S.E c hc e1)
      · cases hv
    · cases hc
  | not p =>
    simp only [ckE] at hc
    split at hc
    · simp only [evE, Option.bind_eq_some_iff, Option.some.injEq] at hv
      obtain ⟨z1, e1, z2, e2, rfl⟩ := hv
      dsimp only
      exact den_not (S.E c hc e1) e2
    · cases hc
  | bop op' p q =>
    simp only [ckE] at hc
    split at hc
    · simp only [Bool.and_eq_true, decide_eq_true_eq] at hc
      obtain ⟨⟨rfl, h1⟩, h2⟩ := hc
      simp only [evE, Option.bind_eq_some_iff] at hv
      obtain ⟨z1, e1, z2, e2, hv⟩ := hv
      split at hv
      · rename_i hs
        cases hv
        try dsimp only
        exact den_short (S.E c h1 e1) e2 (stop_and hs)
      · rename_i hs
        exact den_on (S.E c h1 e1) e2 (stop_on hs) (den_bool1 (S.E c h2 hv))
    · simp only [Bool.and_eq_true, decide_eq_true_eq] at hc
      obtain ⟨⟨rfl, h1⟩, h2⟩ := hc
      simp only [evE, Option.bind_eq_some_iff] at hv
      obtain ⟨z1, e1, z2, e2, hv⟩ := hv
      split at hv
      · rename_i hs
        cases hv
        try dsimp only
        exact den_short (S.E c h1 e1) e2 (stop_and hs)
      · rename_i hs
        exact den_on (S.E c h1 e1) e2 (stop_on hs) (S.E c h2 hv)
    · cases hc
  | ife t p q =>
    simp only [ckE] at hc
    split at hc
    · simp only [Bool.and_eq_true] at hc
      obtain ⟨⟨h0, h1⟩, h2⟩ := hc
      simp only [evE, Option.bind_eq_some_iff] at hv
      obtain ⟨⟨kk, b⟩, e1, hv⟩ := hv
      cases kk with
      | true => exact den_if (k := true) (S.Tt c h0 e1) (S.E c h1 hv)
      | false => exact den_if (k := false) (S.Tt c h0 e1) (S.E c h2 hv)
    · cases hc
  | cmp op' p q =>
    simp only [ckE] at hc
    split at hc
    · simp only [Bool.and_eq_true, decide_eq_true_eq, Bool.not_eq_true'] at hc
      obtain ⟨⟨⟨rfl, h0⟩, h1⟩, h2⟩ := hc
      simp only [evE, Option.bind_eq_some_iff, Option.some.injEq] at hv
      obtain ⟨z1, e1, z2, e2, z3, e3, rfl⟩ := hv
      dsimp only
      obtain ⟨rr, ho, hr⟩ := cmp_ok (X := X) (β := β) (b := z2.2.2) (o1 := z1.1) c.room e3
      exact den_cmp h0 ho (S.E c h1 e1) (S.E c h2 e2) hr
    · cases hc
  | chn op1 op2 p q c3 =>
    simp only [ckE] at hc
    split at hc
    · simp only [Bool.and_eq_true, decide_eq_true_eq, Bool.not_eq_true'] at hc
      obtain ⟨⟨⟨⟨⟨rfl, rfl⟩, h0⟩, h1⟩, h2⟩, h3⟩ := hc
      simp only [evE, Option.bind_eq_some_iff] at hv
      obtain ⟨z1, e1, z2, e2, k, e3, hv⟩ := hv
      obtain ⟨rr, ho, hr⟩ := cmp_ok (X := X) (β := β) (b := z2.2.2) (o1 := z1.1) c.room e3
      cases k with
      | false =>
        rw [if_neg (by simp)] at hv
        cases hv
        dsimp only
        exact den_chain (k := false) (k2 := false) (o3 := false) (d3 := .none) (d0 := z2.2.2) h0 ho op_any (S.E c h1 e1) (S.E c h2 e2) hr (fun h => by cases h)
      | true =>
        rw [if_pos rfl] at hv
        simp only [Option.bind_eq_some_iff, Option.some.injEq] at hv
        obtain ⟨z3, e4, k2, e5, rfl⟩ := hv
        obtain ⟨rr2, ho2, hr2⟩ := cmp_ok (X := X) (β := β) (b := z3.2.2) (o1 := false) c.room e5
        dsimp only
        exact den_chain (k := true) h0 ho ho2 (S.E c h1 e1) (S.E c h2 e2) hr (fun _ => ⟨S.E c h3 e4, hr2⟩)
    · cases hc
  | ix p q =>
    simp only [ckE] at hc
    split at hc
    · simp only [Bool.and_eq_true, Bool.not_eq_true'] at hc
      obtain ⟨⟨h0, h1⟩, h2⟩ := hc
      simp only [evE, Option.bind_eq_some_iff, Option.some.injEq] at hv
      obtain ⟨z1, e1, z2, e2, z3, e3, rfl⟩ := hv
      dsimp only
      exact den_ix h0 (S.E c h1 e1) (S.E c h2 e2) e3
    · cases hc
  | ixn i q =>
    simp only [ckE] at hc
    split at hc
    · simp only [Bool.and_eq_true, Bool.not_eq_true', beq_iff_eq] at hc
      obtain ⟨⟨h0, h1⟩, h2⟩ := hc
      obtain ⟨q1, q2, q3, q4⟩ := c.slot h0
      simp only [evE] at hv
      split at hv
      · rename_i l hl
        simp only [Option.bind_eq_some_iff, Option.some.injEq] at hv
        obtain ⟨z1, e1, z2, e2, z3, e3, rfl⟩ := hv
        dsimp only
        exact den_ixN (idxOf_get q1) q2 q3 q4 h1 hl (S.E c h2 e1) e2 e3
      · simp only [Option.bind_eq_some_iff, Option.some.injEq] at hv
        obtain ⟨z1, e1, z2, e2, z3, e3, rfl⟩ := hv
        dsimp only
        exact den_ix h1 (den_name (idxOf_get q1) q2 q3 q4 e1) (S.E c h2 e2) e3
    · cases hc
  | sl p lo hi =>
    simp only [ckE] at hc
    split at hc
    · simp only [Bool.and_eq_true] at hc
      obtain ⟨⟨h0, h1⟩, h2⟩ := hc
      simp only [evE, Option.bind_eq_some_iff, Option.some.injEq] at hv
      obtain ⟨z1, e1, z2, e2, z3, e3, z4, e4, rfl⟩ := hv
      dsimp only
      exact den_sl (S.E c h0 e1) (S.O c h1 e2) (S.O c h2 e3) e4
    · cases hc
  | sln i lo hi =>
    simp only [ckE] at hc
    split at hc
    · simp only [Bool.and_eq_true, beq_iff_eq] at hc
      obtain ⟨⟨h0, h1⟩, h2⟩ := hc
      obtain ⟨q1, q2, q3, q4⟩ := c.slot h0
      simp only [evE] at hv
      split at hv
      · rename_i l hl
        simp only [Option.bind_eq_some_iff, Option.some.injEq] at hv
        obtain ⟨z2, e2, z3, e3, z5, e5, z4, e4, rfl⟩ := hv
        dsimp only
        exact den_slN (idxOf_get q1) q2 q3 q4 hl (S.O c h1 e2) (S.O c h2 e3) e5 e4
      · simp only [Option.bind_eq_some_iff, Option.some.injEq] at hv
        obtain ⟨z1, e1, z2, e2, z3, e3, z4, e4, rfl⟩ := hv
        dsimp only
        exact den_sl (den_name (idxOf_get q1) q2 q3 q4 e1) (S.O c h1 e2) (S.O c h2 e3) e4
    · cases hc
  | blt kk es =>
    simp only [ckE] at hc
    split at hc
    · simp only [Bool.and_eq_true, beq_iff_eq] at hc
      obtain ⟨⟨⟨h0, h1⟩, h2⟩, h3⟩ := hc
      obtain ⟨g1, g2⟩ := c.bltG h0
      simp only [evE, Option.bind_eq_some_iff, Option.some.injEq] at hv
      obtain ⟨z1, e1, z2, e2, rfl⟩ := hv
      dsimp only
      exact den_blt h2 c.calm g1 g2 h1 (S.A c h3 h2 e1).1 e2
    · cases hc
  | lenn i =>
    simp only [ckE] at hc
    split at hc
    · simp only [Bool.and_eq_true, beq_iff_eq] at hc
      obtain ⟨⟨h0, h1⟩, h2⟩ := hc
      obtain ⟨g1, g2⟩ := c.bltG h0
      obtain ⟨q1, q2, q3, q4⟩ := c.slot h2
      simp only [evE] at hv
      split at hv
      · rename_i l hl
        cases hv
        try dsimp only
        exact den_lenN g1 g2 h1 (idxOf_get q1) q2 q3 q4 hl
      · simp only [Option.bind_eq_some_iff, Option.some.injEq] at hv
        obtain ⟨z1, e1, z2, e2, rfl⟩ := hv
        dsimp only
        exact den_blt rfl c.calm g1 g2 h1 (dena_cons rfl (den_name (idxOf_get q1) q2 q3 q4 e1) dena_nil) e2
    · cases hc
  | isi p ts =>
    simp only [ckE] at hc
    simp only [evE, Option.bind_eq_some_iff] at hv
    obtain ⟨z1, e1, hv⟩ := hv
    split at hv
    case isFalse => cases hv
    rename_i htag
    cases hv
    dsimp only
    have isx : ∀ {f : Str}, isIsi sc f = true → Gl X f ∧ X.mg f = none ∧ f = "isinstance" := fun {f} h => by
      unfold isIsi at h
      rw [Bool.and_eq_true, beq_iff_eq] at h
      exact ⟨(c.bltG h.1).1, (c.bltG h.1).2, h.2⟩
    split at hc
    · simp only [Bool.and_eq_true, Bool.not_eq_true'] at hc
      obtain ⟨⟨⟨⟨h0, h1⟩, h2⟩, h3⟩, h4⟩ := hc
      obtain ⟨g1, g2, rfl⟩ := isx h0
      obtain ⟨g3, g4⟩ := c.bltG h2
      split at h3
      · rename_i s hs
        rw [beq_iff_eq] at h3
        subst h3
        exact den_isi1 h1 g1 g2 hs g3 g4 htag (S.E c h4 e1)
      · cases h3
    · simp only [Bool.and_eq_true, Bool.not_eq_true'] at hc
      obtain ⟨⟨⟨h0, h1⟩, h3⟩, h4⟩ := hc
      obtain ⟨g1, g2, rfl⟩ := isx h0
      split at h3
      · rename_i l hl
        simp only [Bool.and_eq_true, decide_eq_true_eq, beq_iff_eq] at h3
        obtain ⟨⟨h5, h6⟩, rfl⟩ := h3
        unfold tyBlt at h5
        rw [List.all_eq_true] at h5
        refine den_isi h1 g1 g2 hl h6 (fun p hp => c.bltG ?_) (fun p hp => ?_) htag (S.E c h4 e1)
        · have := h5 p hp; rw [Bool.and_eq_true] at this; exact this.1
        · have := h5 p hp; rw [Bool.and_eq_true, beq_iff_eq] at this; exact this.2
      · cases h3
    · cases hc
  | lst es =>
    simp only [ckE] at hc
    split at hc
    · simp only [Bool.and_eq_true] at hc
      simp only [evE, Option.bind_eq_some_iff] at hv
      obtain ⟨z1, e1, hv⟩ := hv
      split at hv
      · rename_i hl
        cases hv
        try dsimp only
        exact den_list (S.A c hc.2 hc.1 e1).1 (szB_le hl)
      · cases hv
    · cases hc
  | tup es =>
    simp only [ckE] at hc
    split at hc
    · simp only [Bool.and_eq_true] at hc
      simp only [evE, Option.bind_eq_some_iff] at hv
      obtain ⟨z1, e1, hv⟩ := hv
      split at hv
      · rename_i hl
        cases hv
        try dsimp only
        exact den_tuple (S.A c hc.2 hc.1 e1).1 (szB_le hl)
      · cases hv
    · cases hc
  | app j es =>
    simp only [ckE] at hc
    split at hc
    · rename_i f p args pos
      simp only [Bool.and_eq_true] at hc
      obtain ⟨⟨⟨h0, h1⟩, h2⟩, h3⟩ := hc
      simp only [evE, Option.bind_eq_some_iff] at hv
      obtain ⟨z1, e1, ff, e2, hv⟩ := hv
      split at hv
      · rename_i hl
        simp only [Option.bind_eq_some_iff, Option.some.injEq] at hv
        obtain ⟨⟨o, d, l⟩, e3, rfl⟩ := hv
        dsimp only
        rw [e2] at h1
        simp only [beq_iff_eq] at h1
        subst h1
        obtain ⟨k1, k2, k3, k4⟩ := S.A (β := β) c h3 h2 e1
        cases args with
        | nil =>
          obtain ⟨w1, w2⟩ := k4 rfl
          rw [w1] at e3 hl
          subst w2
          exact den_call0 (c.fns j ff e2) c.room (c.gl h0) hl.1 e3 hl.2.symm
        | cons x xs => exact den_call (c.fns j ff e2) c.room (c.gl h0) h2 hl.1 k1 e3 hl.2
      · cases hv
    · cases hc
  | appio j i es =>
    simp only [ckE] at hc
    split at hc
    · rename_i f p y py args pos
      simp only [Bool.and_eq_true, beq_iff_eq] at hc
      obtain ⟨⟨⟨⟨h0, h1⟩, h4⟩, h2⟩, h3⟩ := hc
      obtain ⟨q1, q2, q3, q4⟩ := c.slot h4
      simp only [evE, Option.bind_eq_some_iff] at hv
      obtain ⟨l0, e0, z1, e1, bs, e4, ff, e2, hv⟩ := hv
      split at hv
      · rename_i hl
        simp only [Option.bind_eq_some_iff, Option.some.injEq] at hv
        obtain ⟨⟨o, d, l⟩, e3, rfl⟩ := hv
        dsimp only
        rw [e2] at h1
        simp only [beq_iff_eq] at h1
        subst h1
        exact den_callIo (c.fns j ff e2) c.room (c.gl h0) h2 hl.1 (idxOf_get q1) q2 q3 q4 (by rw [e0]; rfl) (S.A c h3 h2 e1).1 e4 e3 hl.2
      · cases hv
    · cases hc
  | appk j mm es ks =>
    simp only [ckE] at hc
    split at hc
    · rename_i f p args kws pos
      simp only [Bool.and_eq_true] at hc
      obtain ⟨⟨⟨⟨h0, h1⟩, h2⟩, h3⟩, h4⟩ := hc
      simp only [evE, Option.bind_eq_some_iff] at hv
      obtain ⟨z1, e1, z2, e2, ff, e3, kw, e4, hv⟩ := hv
      split at hv
      · rename_i hl
        simp only [Option.bind_eq_some_iff, Option.some.injEq] at hv
        obtain ⟨⟨o, d, l⟩, e5, rfl⟩ := hv
        dsimp only
        rw [e3] at h1
        simp only [Bool.and_eq_true, beq_iff_eq] at h1
        obtain ⟨h1, h5⟩ := h1
        subst h1
        rw [e4] at h5
        simp only [Bool.and_eq_true, beq_iff_eq] at h5
        obtain ⟨k1, k2, k3, k4⟩ := S.A (β := β) c h3 h2 e1
        exact den_callK (c.fns j ff e3) c.room (c.gl h0) h2 hl.1 (List.mem_of_getElem? e4) h5.2 h5.1.symm k1 (by rw [k2]) (S.Kw c h4 e2) hl.2.2.1 e5 hl.2.2.2 k4
      · cases hv
    · cases hc
  | lc t vs it' tt x =>
    simp only [ckE] at hc
    split at hc
    · rename_i elt tg it ifs scope pos
      simp only [Bool.and_eq_true, Bool.not_eq_true'] at hc
      obtain ⟨⟨⟨⟨h0, h1⟩, h2⟩, h3⟩, h4⟩ := hc
      split at h1
      · rename_i t' tl ht
        simp only [Bool.and_eq_true, decide_eq_true_eq, beq_iff_eq, List.all_eq_true] at h1
        obtain ⟨⟨⟨⟨⟨g1, g2⟩, g3⟩, g4⟩, g5⟩, g6⟩ := h1
        have et : t' = t := by
          cases t' <;> cases t <;> simp_all [Tg.ix]
        subst et
        subst g3
        simp only [evE, Option.bind_eq_some_iff] at hv
        obtain ⟨z1, e1, hv⟩ := hv
        split at hv
        · rename_i hl
          simp only [Option.bind_eq_some_iff, Option.some.injEq] at hv
          obtain ⟨z2, e2, rfl⟩ := hv
          dsimp only
          rw [← c.N] at ht
          exact den_lc (tl := tl) (own := tl) (by rw [c.N]; exact c.nd) c.calm h0 (blkOk_by (by rw [c.N, c.sc]; exact g5)) ht (fun s H C cl fp p hp => stok_bl (g6 p hp)) (fun j hj => by simpa using g4 j hj) (S.I c h2 e1)
            (fun d e o e' hh => turn_ok S c h3 h4 hh) e2 (szB_le hl)
        · cases hv
      · cases h1
    · cases hc
  | push i p =>
    simp only [ckE] at hc
    split at hc
    · simp only [Bool.and_eq_true, beq_iff_eq, Bool.not_eq_true'] at hc
      obtain ⟨⟨⟨⟨rfl, h1⟩, h2⟩, h3⟩, h4⟩ := hc
      obtain ⟨q1, q2, q3, q4⟩ := c.slot h1
      simp only [evE, Option.bind_eq_some_iff] at hv
      obtain ⟨l0, e0, z1, e1, l, e2, hv⟩ := hv
      split at hv
      · rename_i hl
        cases hv
        try dsimp only
        exact den_append (idxOf_get q1) q2 q3 q4 h2 (by rw [beq_iff_eq]; exact h3) (by rw [e0]; rfl) (S.E c h4 e1) e2 (szB_le hl)
      · cases hv
    · cases hc
  | pop i =>
    simp only [ckE] at hc
    split at hc
    · simp only [Bool.and_eq_true, beq_iff_eq] at hc
      obtain ⟨⟨rfl, h1⟩, h3⟩ := hc
      obtain ⟨q1, q2, q3, q4⟩ := c.slot h1
      simp only [evE, Option.bind_eq_some_iff, Option.some.injEq] at hv
      obtain ⟨l, e2, d, e3, rfl⟩ := hv
      dsimp only
      exact den_pop (idxOf_get q1) q2 q3 q4 (by rw [beq_iff_eq]; exact h3) e2 e3
    · cases hc
end
end Fz
set_option Elab.async false
set_option linter.all false
set_option maxRecDepth 100000
set_option maxHeartbeats 8000000
/-! Fz, part P: the other pieces, and all of them. -/
namespace Fz
open PySem PySem.Spec PyProof.Rows L2
section
variable {T : Tb} {k n : Nat}
theorem stars_cons {e : Expr} {es : List Expr} (h : noStars (e :: es) = true) : isStar e = false ∧ noStars es = true := by
  unfold noStars at h ⊢
  rw [List.all_cons, Bool.and_eq_true] at h
  exact ⟨by simpa using h.1, h.2⟩
theorem snd_A (S : Snd T k n) {sc : Scope} {X : Cx} {β : Option Addr} {e : List Expr} {r : List RE} {m : Nat} {a : En} {z : List D × En} (c : Cok T k sc X) (hc : ckA T (n + 1) sc e r = true) (hs : noStars e = true) (hv : evA T m r a = some z) :
    DenA X β e a z.1 z.2 ∧ z.1.length = e.length ∧ r.length = e.length ∧ (e = [] → z.1 = [] ∧ a = z.2) := by
  cases m with
  | zero => simp only [evA] at hv; cases hv
  | succ m =>
  cases e with
  | nil =>
    cases r with
    | nil =>
      simp only [evA, Option.some.injEq] at hv
      subst hv
      exact ⟨dena_nil, rfl, rfl, fun _ => ⟨rfl, rfl⟩⟩
    | cons y ys => simp only [ckA] at hc; cases hc
  | cons x xs =>
    cases r with
    | nil => simp only [ckA] at hc; cases hc
    | cons y ys =>
      simp only [ckA, Bool.and_eq_true] at hc
      simp only [evA, Option.bind_eq_some_iff, Option.some.injEq] at hv
      obtain ⟨z1, e1, z2, e2, rfl⟩ := hv
      obtain ⟨s1, s2⟩ := stars_cons hs
      obtain ⟨k1, k2, k3, k4⟩ := S.A (β := β) c hc.2 s2 e2
      exact ⟨dena_cons s1 (S.E c hc.1 e1) k1, by simp [k2], by simp [k3], fun h => by cases h⟩
theorem snd_K (S : Snd T k n) {sc : Scope} {X : Cx} {β : Option Addr} {e : List Keyword} {r : List RE} {m : Nat} {a : En} {z : List D × En} (c : Cok T k sc X) (hc : ckK T (n + 1) sc e r = true) (hv : evA T m r a = some z) : DenK X β e a z.1 z.2 := by
  cases m with
  | zero => simp only [evA] at hv; cases hv
  | succ m =>
  cases e with
  | nil =>
    cases r with
    | nil =>
      simp only [evA, Option.some.injEq] at hv
      subst hv
      exact denk_nil
    | cons y ys => simp only [ckK] at hc; cases hc
  | cons x xs =>
    obtain ⟨nm, x, kp⟩ := x
    cases r with
    | nil => simp only [ckK] at hc; cases hc
    | cons y ys =>
      simp only [ckK, Bool.and_eq_true] at hc
      simp only [evA, Option.bind_eq_some_iff, Option.some.injEq] at hv
      obtain ⟨z1, e1, z2, e2, rfl⟩ := hv
      exact denk_cons (S.E c hc.1 e1) (S.Kw c hc.2 e2)
theorem snd_O (S : Snd T k n) {sc : Scope} {X : Cx} {β : Option Addr} {e : Option Expr} {r : Option RE} {m : Nat} {a : En} {z : Option Int × En} (c : Cok T k sc X) (hc : ckO T (n + 1) sc e r = true) (hv : evO T m r a = some z) : DenO X β e a z.1 z.2 := by
  cases m with
  | zero => simp only [evO] at hv; cases hv
  | succ m =>
  cases e with
  | none =>
    cases r with
    | none =>
      simp only [evO, Option.some.injEq] at hv
      subst hv
      exact deno_none
    | some y => simp only [ckO] at hc; cases hc
  | some x =>
    cases r with
    | none => simp only [ckO] at hc; cases hc
    | some y =>
      simp only [ckO] at hc
      simp only [evO, Option.bind_eq_some_iff] at hv
      obtain ⟨⟨o, d, b⟩, e1, hv⟩ := hv
      dsimp only at hv
      split at hv
      · cases hv
        exact deno_some (S.E c hc e1)
      · cases hv
theorem snd_To (S : Snd T k n) {sc : Scope} {X : Cx} {β : Option Addr} {e : List Expr} {r : Option RT} {m : Nat} {a : En} {z : Bool × En} (c : Cok T k sc X) (hc : ckTo T (n + 1) sc e r = true) (hv : evTo T m r a = some z) : DenTs X β e a z.1 z.2 := by
  cases m with
  | zero => simp only [evTo] at hv; cases hv
  | succ m =>
  match e, r, hc with
  | [], none, hc =>
    simp only [evTo, Option.some.injEq] at hv
    subst hv
    exact dents_nil
  | [x], some y, hc =>
    simp only [ckTo] at hc
    simp only [evTo] at hv
    exact dents_one (S.Tt c hc hv)
  | [], some _, hc => exact absurd hc (show ¬ false = true from Bool.false_ne_true)
  | [_], none, hc => exact absurd hc (show ¬ false = true from Bool.false_ne_true)
  | _ :: _ :: _, none, hc => exact absurd hc (show ¬ false = true from Bool.false_ne_true)
  | _ :: _ :: _, some _, hc => exact absurd hc (show ¬ false = true from Bool.false_ne_true)
/-- and, or, by what is known of the operands -/
theorem snd_W (S : Snd T k n) {sc : Scope} {X : Cx} {β : Option Addr} {e : Expr} {r : RT} {m : Nat} {a : En} {z : Bool × En} (c : Cok T k sc X) (hc : ckT T (n + 1) sc e r = true) (hv : evT T m r a = some z) (hb : ∃ op es pos, e = .BoolOp op es pos) : DenW X β e a z.1 z.2 := by
  obtain ⟨op0, es0, pos0, rfl⟩ := hb
  cases m with
  | zero => simp only [evT] at hv; cases hv
  | succ m =>
  cases r with
  | bop op' p q =>
    simp only [ckT] at hc
    split at hc
    · rename_i x y he
      cases he
      simp only [Bool.and_eq_true, decide_eq_true_eq] at hc
      obtain ⟨⟨rfl, h1⟩, h2⟩ := hc
      simp only [evT, Option.bind_eq_some_iff] at hv
      obtain ⟨z1, e1, hv⟩ := hv
      split at hv
      · rename_i hs
        cases hv
        exact denw_short (S.Tt c h1 e1) (stop_and hs)
      · rename_i hs
        exact denw_on (S.Tt c h1 e1) (stop_on hs) (dent_bool1 (S.Tt c h2 hv))
    · rename_i x y w rest pos he
      cases he
      simp only [Bool.and_eq_true, decide_eq_true_eq] at hc
      obtain ⟨⟨rfl, h1⟩, h2⟩ := hc
      simp only [evT, Option.bind_eq_some_iff] at hv
      obtain ⟨z1, e1, hv⟩ := hv
      split at hv
      · rename_i hs
        cases hv
        exact denw_short (S.Tt c h1 e1) (stop_and hs)
      · rename_i hs
        exact denw_on (S.Tt c h1 e1) (stop_on hs) (S.Tw c h2 hv ⟨_, _, _, rfl⟩)
    · cases hc
  | nt p => simp only [ckT] at hc; cases hc
  | cmp op' p q => simp only [ckT] at hc; cases hc
  | chn op1 op2 p q c3 => simp only [ckT] at hc; cases hc
  | val p => simp only [ckT, plainT, Bool.false_and] at hc; cases hc
  | nm i => simp only [ckT] at hc; cases hc
theorem snd_T (S : Snd T k n) {sc : Scope} {X : Cx} {β : Option Addr} {e : Expr} {r : RT} {m : Nat} {a : En} {z : Bool × En} (c : Cok T k sc X) (hc : ckT T (n + 1) sc e r = true) (hv : evT T m r a = some z) : DenT X β e a z.1 z.2 := by
  have hc0 := hc
  have hv0 := hv
  cases m with
  | zero => simp only [evT] at hv; cases hv
  | succ m =>
  cases r with
  | nt p =>
    simp only [ckT] at hc
    split at hc
    · simp only [evT, Option.bind_eq_some_iff, Option.some.injEq] at hv
      obtain ⟨z1, e1, rfl⟩ := hv
      exact dent_not (S.Tt c hc e1)
    · cases hc
  | bop op' p q =>
    refine (snd_W S c hc0 hv0 ?_).t
    simp only [ckT] at hc
    split at hc
    · exact ⟨_, _, _, rfl⟩
    · exact ⟨_, _, _, rfl⟩
    · cases hc
  | cmp op' p q =>
    simp only [ckT] at hc
    split at hc
    · simp only [Bool.and_eq_true, decide_eq_true_eq, Bool.not_eq_true'] at hc
      obtain ⟨⟨⟨rfl, h0⟩, h1⟩, h2⟩ := hc
      simp only [evT, Option.bind_eq_some_iff, Option.some.injEq] at hv
      obtain ⟨z1, e1, z2, e2, z3, e3, rfl⟩ := hv
      obtain ⟨rr, ho, hr⟩ := cmp_ok (X := X) (β := β) (b := z2.2.2) (o1 := z1.1) c.room e3
      exact dent_cmp h0 ho (S.E c h1 e1) (S.E c h2 e2) hr
    · cases hc
  | chn op1 op2 p q c3 =>
    simp only [ckT] at hc
    split at hc
    · simp only [Bool.and_eq_true, decide_eq_true_eq, Bool.not_eq_true'] at hc
      obtain ⟨⟨⟨⟨⟨rfl, rfl⟩, h0⟩, h1⟩, h2⟩, h3⟩ := hc
      simp only [evT, Option.bind_eq_some_iff] at hv
      obtain ⟨z1, e1, z2, e2, k, e3, hv⟩ := hv
      obtain ⟨rr, ho, hr⟩ := cmp_ok (X := X) (β := β) (b := z2.2.2) (o1 := z1.1) c.room e3
      cases k with
      | false =>
        rw [if_neg (by simp)] at hv
        cases hv
        dsimp only
        exact dent_chain (k := false) (k2 := false) (o3 := false) (d3 := .none) (d0 := z2.2.2) h0 ho op_any (S.E c h1 e1) (S.E c h2 e2) hr (fun h => by cases h)
      | true =>
        rw [if_pos rfl] at hv
        simp only [Option.bind_eq_some_iff, Option.some.injEq] at hv
        obtain ⟨z3, e4, k2, e5, rfl⟩ := hv
        obtain ⟨rr2, ho2, hr2⟩ := cmp_ok (X := X) (β := β) (b := z3.2.2) (o1 := false) c.room e5
        dsimp only
        exact dent_chain (k := true) h0 ho ho2 (S.E c h1 e1) (S.E c h2 e2) hr (fun _ => ⟨S.E c h3 e4, hr2⟩)
    · cases hc
  | val p =>
    simp only [ckT, Bool.and_eq_true] at hc
    simp only [evT, Option.bind_eq_some_iff, Option.some.injEq] at hv
    obtain ⟨z1, e1, z2, e2, rfl⟩ := hv
    exact dent_val hc.1 (S.E c hc.2 e1) e2
  | nm i =>
    simp only [ckT] at hc
    split at hc
    · rw [beq_iff_eq] at hc
      obtain ⟨q1, q2, q3, q4⟩ := c.slot hc
      simp only [evT] at hv
      split at hv
      · rename_i l hl
        cases hv
        exact dent_own (idxOf_get q1) q2 q3 q4 hl
      · simp only [Option.bind_eq_some_iff, Option.some.injEq] at hv
        obtain ⟨z1, e1, z2, e2, rfl⟩ := hv
        exact dent_val rfl (den_name (idxOf_get q1) q2 q3 q4 e1) e2
    · cases hc
theorem fnb {sc : Scope} {X : Cx} {f x : Str} (c : Cok T k sc X) (h : fnBlt sc f x = true) : Gl X f ∧ X.mg f = none ∧ f = x := by
  unfold fnBlt at h
  rw [Bool.and_eq_true, beq_iff_eq] at h
  exact ⟨(c.bltG h.1).1, (c.bltG h.1).2, h.2⟩
theorem snd_I (S : Snd T k n) {sc : Scope} {X : Cx} {β : Option Addr} {tg e : Expr} {r : RI} {m : Nat} {a : En} {z : List D × En} (c : Cok T k sc X) (hc : ckI T (n + 1) sc tg e r = true) (hv : evI T m r a = some z) : DenI X β tg e a z.1 z.2 := by
  cases m with
  | zero => simp only [evI] at hv; cases hv
  | succ m =>
  cases r with
  | seq p =>
    simp only [ckI] at hc
    simp only [evI, Option.bind_eq_some_iff, Option.some.injEq] at hv
    obtain ⟨⟨o, d, b⟩, e1, l, e2, rfl⟩ := hv
    have h := S.E (β := β) c hc e1
    dsimp only at e2 h ⊢
    unfold itemsD at e2
    split at e2
    · cases e2; exact deni_seq h rfl
    · cases e2; exact deni_seq h rfl
    · cases e2; exact deni_str h
    · cases e2
  | rng rs =>
    simp only [ckI] at hc
    split at hc
    · rename_i f p args pos
      simp only [Bool.and_eq_true] at hc
      obtain ⟨⟨h0, h1⟩, h2⟩ := hc
      obtain ⟨g1, g2, rfl⟩ := fnb c h0
      simp only [evI, Option.bind_eq_some_iff, Option.some.injEq] at hv
      obtain ⟨⟨ds, b⟩, e1, l, e2, rfl⟩ := hv
      obtain ⟨k1, k2, k3, k4⟩ := S.A (β := β) c h2 h1 e1
      dsimp only at e2 k1 k2 ⊢
      unfold rngL at e2
      split at e2
      · rename_i i
        split at e2
        · rename_i hb
          cases e2
          obtain ⟨x, rfl⟩ : ∃ x, args = [x] := by
            match args, k2 with
            | [x], _ => exact ⟨x, rfl⟩
          exact deni_rng1 (stars_cons h1).1 g1 g2 k1 hb
        · cases e2
      · rename_i i j
        split at e2
        · rename_i hb
          cases e2
          rw [Bool.and_eq_true] at hb
          obtain ⟨x, y, rfl⟩ : ∃ x y, args = [x, y] := by
            match args, k2 with
            | [x, y], _ => exact ⟨x, y, rfl⟩
          exact deni_rng2 (stars_cons h1).1 (stars_cons (stars_cons h1).2).1 g1 g2 k1 hb.1 hb.2
        · cases e2
      · rename_i i j cc
        split at e2
        · rename_i hb
          cases e2
          simp only [Bool.and_eq_true, beq_iff_eq] at hb
          obtain ⟨⟨hb1, hb2⟩, rfl⟩ := hb
          obtain ⟨x, y, w, rfl⟩ : ∃ x y w, args = [x, y, w] := by
            match args, k2 with
            | [x, y, w], _ => exact ⟨x, y, w, rfl⟩
          exact deni_rng3 h1 g1 g2 k1 hb1 hb2
        · cases e2
      · cases e2
    · cases hc
  | enu rs =>
    simp only [ckI] at hc
    split at hc
    · rename_i f p args pos elts kk tpos
      simp only [Bool.and_eq_true] at hc
      obtain ⟨⟨h0, h1⟩, h2⟩ := hc
      obtain ⟨g1, g2, rfl⟩ := fnb c h0
      simp only [evI, Option.bind_eq_some_iff, Option.some.injEq] at hv
      obtain ⟨⟨ds, b⟩, e1, l, e2, rfl⟩ := hv
      obtain ⟨k1, k2, k3, k4⟩ := S.A (β := β) c h2 h1 e1
      dsimp only at e2 k1 k2 ⊢
      unfold enuL at e2
      split at e2
      · rename_i d
        cases hd : seqD d with
        | none => rw [hd] at e2; cases e2
        | some q =>
          rw [hd] at e2
          cases e2
          obtain ⟨x, rfl⟩ : ∃ x, args = [x] := by
            match args, k2 with
            | [x], _ => exact ⟨x, rfl⟩
          exact deni_enum1 (stars_cons h1).1 g1 g2 k1 hd
      · rename_i d cc
        split at e2
        · rename_i hb
          cases hd : seqD d with
          | none => rw [hd] at e2; cases e2
          | some q =>
            rw [hd] at e2
            cases e2
            obtain ⟨x, y, rfl⟩ : ∃ x y, args = [x, y] := by
              match args, k2 with
              | [x, y], _ => exact ⟨x, y, rfl⟩
            exact deni_enum2 (stars_cons h1).1 (stars_cons (stars_cons h1).2).1 g1 g2 k1 hd hb
        · cases e2
      · cases e2
    · cases hc
  | zip p q =>
    simp only [ckI] at hc
    split at hc
    · simp only [Bool.and_eq_true, Bool.not_eq_true'] at hc
      obtain ⟨⟨⟨⟨h0, h1⟩, h2⟩, h3⟩, h4⟩ := hc
      obtain ⟨g1, g2, rfl⟩ := fnb c h0
      simp only [evI, Option.bind_eq_some_iff, Option.some.injEq] at hv
      obtain ⟨z1, e1, z2, e2, l1, e3, l2, e4, rfl⟩ := hv
      exact deni_zip h1 h2 g1 g2 (dena_cons h1 (S.E c h3 e1) (dena_cons h2 (S.E c h4 e2) dena_nil)) e3 e4
    · cases hc
  | ez p q =>
    simp only [ckI] at hc
    split at hc
    · simp only [Bool.and_eq_true, Bool.not_eq_true'] at hc
      obtain ⟨⟨⟨⟨⟨h0, h00⟩, h1⟩, h2⟩, h3⟩, h4⟩ := hc
      obtain ⟨g1, g2, rfl⟩ := fnb c h0
      obtain ⟨g3, g4, rfl⟩ := fnb c h00
      simp only [evI, Option.bind_eq_some_iff, Option.some.injEq] at hv
      obtain ⟨z1, e1, z2, e2, l1, e3, l2, e4, rfl⟩ := hv
      exact deni_ez h1 h2 g1 g2 g3 g4 (dena_cons h1 (S.E c h3 e1) (dena_cons h2 (S.E c h4 e2) dena_nil)) e3 e4
    · cases hc
  | rev p =>
    simp only [ckI] at hc
    split at hc
    · simp only [Bool.and_eq_true, Bool.not_eq_true'] at hc
      obtain ⟨⟨h0, h1⟩, h3⟩ := hc
      obtain ⟨g1, g2, rfl⟩ := fnb c h0
      simp only [evI, Option.bind_eq_some_iff, Option.some.injEq] at hv
      obtain ⟨z1, e1, l1, e3, rfl⟩ := hv
      exact deni_rev h1 g1 g2 (S.E c h3 e1) e3
    · cases hc
theorem snd_all (T : Tb) (k : Nat) : ∀ n, Snd T k n
  | 0 => snd_zero
  | n + 1 => by
    have S := snd_all T k n
    exact ⟨fun c h v => snd_E S c h v, fun c h s v => snd_A S c h s v, fun c h v => snd_K S c h v, fun c h v => snd_O S c h v, fun c h v => snd_To S c h v, fun c h v => snd_T S c h v, fun c h v b => snd_W S c h v b, fun c h v => snd_I S c h v⟩
end
end Fz
set_option Elab.async false
set_option linter.all false
set_option maxRecDepth 100000
set_option maxHeartbeats 8000000
/-! Fz, part Q: statements, defs. -/
namespace Fz
open PySem PySem.Spec PyProof.Rows L2

def swNames (sc : Scope) (ts : List Expr) : List Str := ts.filterMap fun t => match t with
  | .Name x q => if sc.names.lookup x == some .local && q.line == (ts.head?.map (·.pos.line)).getD 0 then some x else none
  | _ => none
/-- what a pair of tuples is: none of the two ways | stored in order | from the right -/
def swF (sc : Scope) (ts vs : List Expr) : Option (Option (List Str)) :=
  if (!(ts.length == 2 || ts.length == 3) || vs.length != ts.length) = true then some none
  else if vs.any isStar = true then some none
  else if ((swNames sc ts).length != ts.length || (swNames sc ts).eraseDups.length != (swNames sc ts).length) = true then some none
  else if vs.all (foldedForSure 8) = true then some none
  else if vs.all (constantsAlone 8) = true then none
  else some (some (swNames sc ts))
theorem sw_tab {env : Env} {ts vs : List Expr} {k k2 : Nat} {p p2 : Pos} {r : Option (List Str)} (hk : env.scope.kind = .function) (h : swF env.scope ts vs = some r) : swappedStores [.Tuple ts k p] (.Tuple vs k2 p2) env = pure r := by
  have hb : env.blockKind = .function := by unfold Env.blockKind; rw [hk]; rfl
  unfold swappedStores
  unfold swF at h
  simp only [hb, bne_self_eq_false, Bool.or_false]
  have es : ∀ f : Expr → Bool, (∀ e, f e = isStar e) → vs.any f = vs.any isStar := fun f hf => by rw [show f = isStar from funext hf]
  have en : ∀ f : Expr → Option Str, (∀ t, f t = (match t with | .Name x q => if env.scope.names.lookup x == some .local && q.line == (ts.head?.map (·.pos.line)).getD 0 then some x else none | _ => none)) → ts.filterMap f = swNames env.scope ts := fun f hf => by rw [funext hf]; rfl
  split at h
  · rename_i c1
    cases h
    rw [if_pos c1]
  · rename_i c1
    rw [if_neg c1, es _ (fun e => by cases e <;> rfl)]
    split at h
    · rename_i c2
      cases h
      rw [if_pos c2]
    · rename_i c2
      rw [if_neg c2]
      split at h
      · rename_i c3
        cases h
        rw [en _ (fun e => by cases e <;> rfl), if_pos c3]
      · rename_i c3
        rw [en _ (fun e => by cases e <;> rfl), if_neg c3]
        split at h
        · rename_i c4
          cases h
          rw [if_pos c4]
        · rename_i c4
          rw [if_neg c4]
          split at h
          · cases h
          · rename_i c5
            cases h
            rw [if_neg c5]

section
variable {X : Cx} {β : Option Addr}
theorem dens_par2 {x y : Str} {e1 e2 : Expr} {px py pt pt2 pos : Pos} {kt k2 : Nat} {a b c : En} {ds : List D} {i j : Nat} (hc : X.calm = true) (nd : X.N.Nodup) (h1 : idxOf X.N x = some i) (h2 : idxOf X.N y = some j) (hij : i ≠ j)
    (hx : X.env.scope.names.lookup x = some .local) (hy : X.env.scope.names.lookup y = some .local) (hw : swappedStores [.Tuple [.Name x px, .Name y py] kt pt] (.Tuple [e1, e2] k2 pt2) X.env = pure (some [x, y]))
    (ha : DenA X β [e1, e2] a ds b) (hs : stAll b [i, j] ds = some c) : DenS X β (.Assign [.Tuple [.Name x px, .Name y py] kt pt] (.Tuple [e1, e2] k2 pt2) pos) a (.nx c) := fun G H ρ σ Dn r q => by
  refine ⟨_, ps_par hc nd (idxOf_get h1) (idxOf_get h2) hij hx hy pa_w hw rfl, ha G H ρ σ _ r fun vs G1 H1 ρ1 f1 r1 x1 => ?_⟩
  match ds, hs, x1 with
  | [d1, d2], hs, .cons (v := v) x1 (.cons (v := w) x2 .nil) =>
    simp only [stAll] at hs
    split at hs
    · rename_i hi
      split at hs
      · rename_i hj
        cases hs
        exact ⟨v, w, rfl, q G1 H1 ρ1 _ f1 ((r1.storeV hi x1).storeV hj x2)⟩
      · cases hs
    · cases hs
  | [_], hs, _ => simp [stAll] at hs
  | _ :: _ :: _ :: _, hs, _ => simp [stAll] at hs
theorem dens_pro {x y : Str} {e1 e2 : Expr} {px py pt pt2 pos : Pos} {kt k2 : Nat} {a b c : En} {o1 o2 : Bool} {d1 d2 : D} {i j : Nat} (hc : X.calm = true) (nd : X.N.Nodup) (h1 : idxOf X.N x = some i) (h2 : idxOf X.N y = some j) (hij : i ≠ j)
    (hx : X.env.scope.names.lookup x = some .local) (hy : X.env.scope.names.lookup y = some .local) (hw : swappedStores [.Tuple [.Name x px, .Name y py] kt pt] (.Tuple [e1, e2] k2 pt2) X.env = pure (some [x, y]))
    (s1 : isStar e1 = false) (s2 : isStar e2 = false) (g1 : Den X β e1 a o1 d1 b) (g2 : Den X β e2 b o2 d2 c) (hi : i < c.sl.length) (hj : j < c.sl.length) : DenS X β (.Assign [.Tuple [.Name x px, .Name y py] kt pt] (.Tuple [e1, e2] k2 pt2) pos) a (.nx (setS (setS c i false d1) j o2 d2)) := fun G H ρ σ Dn r q => by
  refine ⟨_, ps_par hc nd (idxOf_get h1) (idxOf_get h2) hij hx hy (pa_cons pe_w (pa_cons pe_w pa_nil (star_ok s2)) (star_ok s1)) hw rfl, g1.fz G H ρ σ _ r fun v G1 H1 ρ1 f1 r1 x1 => g2 G1 H1 ρ1 σ _ r1 fun w G2 H2 ρ2 f2 r2 x2 => ?_⟩
  obtain ⟨ρ3, r3, f3⟩ := (r2.storeV hi (Rp.mono f2.ex x1)).store (i := j) (by simpa [setS] using hj) x2 f2
  exact ⟨v, w, rfl, q G2 H2 ρ3 _ (f1.trans f3) r3⟩
theorem dens_par3 {x y u : Str} {e1 e2 e3 : Expr} {px py pu pt pt2 pos : Pos} {kt k2 : Nat} {a b c : En} {ds : List D} {i j l : Nat} (hc : X.calm = true) (nd : X.N.Nodup) (h1 : idxOf X.N x = some i) (h2 : idxOf X.N y = some j) (h3 : idxOf X.N u = some l) (hij : i ≠ j) (hil : i ≠ l) (hjl : j ≠ l)
    (hx : X.env.scope.names.lookup x = some .local) (hy : X.env.scope.names.lookup y = some .local) (hu : X.env.scope.names.lookup u = some .local)
    (hw : swappedStores [.Tuple [.Name x px, .Name y py, .Name u pu] kt pt] (.Tuple [e1, e2, e3] k2 pt2) X.env = pure (some [x, y, u]))
    (ha : DenA X β [e1, e2, e3] a ds b) (hs : stAll b [i, j, l] ds = some c) : DenS X β (.Assign [.Tuple [.Name x px, .Name y py, .Name u pu] kt pt] (.Tuple [e1, e2, e3] k2 pt2) pos) a (.nx c) := fun G H ρ σ Dn r q => by
  refine ⟨_, ps_par3 hc nd (idxOf_get h1) (idxOf_get h2) (idxOf_get h3) hij hil hjl hx hy hu pa_w hw rfl, ha G H ρ σ _ r fun vs G1 H1 ρ1 f1 r1 x1 => ?_⟩
  match ds, hs, x1 with
  | [d1, d2, d3], hs, .cons (v := v) x1 (.cons (v := w) x2 (.cons (v := v3) x3 .nil)) =>
    simp only [stAll] at hs
    split at hs
    · rename_i hi
      split at hs
      · rename_i hj
        split at hs
        · rename_i hl
          cases hs
          exact ⟨v, w, v3, rfl, q G1 H1 ρ1 _ f1 (((r1.storeV hi x1).storeV hj x2).storeV hl x3)⟩
        · cases hs
      · cases hs
    · cases hs
  | [_], hs, _ => simp [stAll] at hs
  | [_, _], hs, _ => simp [stAll] at hs
  | _ :: _ :: _ :: _ :: _, hs, _ => simp [stAll] at hs
end

/-! ### the check of statements -/
def locB (sc : Scope) (x : Str) : Bool := match sc.names.lookup x with
  | some .local => true
  | _ => false
theorem locB_ok {sc : Scope} {x : Str} (h : locB sc x = true) : sc.names.lookup x = some .local := by
  unfold locB at h
  split at h
  · assumption
  · cases h
def tgEq : Tg → Tg → Bool
  | .one i, .one j => i == j
  | .tup l, .tup m => l == m
  | .pr i l, .pr j m => (i == j) && (l == m)
  | _, _ => false
theorem tgEq_ok {t u : Tg} (h : tgEq t u = true) : t = u := by
  cases t <;> cases u <;> simp_all [tgEq]
def ckTg (T : Tb) (sc : Scope) (tg : Expr) (t : Tg) : Bool := match tgOf T.N tg with
  | some (t', tl) => tgEq t' t && tl.all fun p => stoOk sc p.1
  | none => false
def parN (T : Tb) (sc : Scope) (x : Str) (i : Nat) : Bool := (idxOf T.N x == some i) && locB sc x
section
variable (T : Tb)
mutual
def ckS : Nat → Scope → Stmt → RS → Bool
  | 0, _, _, _ => false
  | n + 1, sc, st, r => match r with
    | .set i a => match st with
      | .Assign [.Name x _] e _ => (idxOf T.N x == some i) && stoOk sc x && ckE T n sc e a
      | _ => false
    | .tgt t a => match st with
      | .Assign [.Tuple ts k p] e _ => ckTg T sc (.Tuple ts k p) t && (match e with
        | .Tuple vs _ _ => swF sc ts vs == some none
        | _ => true) && ckE T n sc e a
      | _ => false
    | .par is es => match st with
      | .Assign [.Tuple [.Name x px, .Name y py] _ _] (.Tuple [e1, e2] _ _) _ => (match is with
        | [i, j] => parN T sc x i && parN T sc y j && (i != j)
        | _ => false) && (swF sc [.Name x px, .Name y py] [e1, e2] == some (some [x, y])) && noStars [e1, e2] && ckA T n sc [e1, e2] es
      | .Assign [.Tuple [.Name x px, .Name y py, .Name u pu] _ _] (.Tuple [e1, e2, e3] _ _) _ => (match is with
        | [i, j, l] => parN T sc x i && parN T sc y j && parN T sc u l && (i != j) && (i != l) && (j != l)
        | _ => false) && (swF sc [.Name x px, .Name y py, .Name u pu] [e1, e2, e3] == some (some [x, y, u])) && noStars [e1, e2, e3] && ckA T n sc [e1, e2, e3] es
      | _ => false
    | .put i b a => match st with
      | .Assign [.Subscript (.Name x _) ei _] e _ => (slotN T sc x == some i) && !isSlice ei && !isComp e && ckE T n sc ei b && ckE T n sc e a
      | _ => false
    | .ret a => match st with
      | .Return (some e) _ => ckE T n sc e a
      | _ => false
    | .retn => match st with
      | .Return none _ => true
      | _ => false
    | .ife t A B => match st with
      | .If c p q _ => ckT T n sc c t && ckSs n sc p A && ckSs n sc q B
      | _ => false
    | .whl t b => match st with
      | .While c body [] _ => ckT T n sc c t && ckSs n sc body b
      | _ => false
    | .for t it b => match st with
      | .For tg iter body [] _ => ckTg T sc tg t && !isSet iter && ckI T n sc tg iter it && ckSs n sc body b
      | _ => false
    | .ex a => match st with
      | .Expr e _ => !isComp e && ckE T n sc e a
      | _ => false
    | .pass => match st with
      | .Pass _ => true
      | _ => false
    | .brk => match st with
      | .Break _ => true
      | _ => false
    | .cnt => match st with
      | .Continue _ => true
      | _ => false
    | .never => true
    | .pro i j p q => match st with
      | .Assign [.Tuple [.Name x px, .Name y py] _ _] (.Tuple [e1, e2] _ _) _ => parN T sc x i && parN T sc y j && (i != j) && (swF sc [.Name x px, .Name y py] [e1, e2] == some (some [x, y])) && noStars [e1, e2] && ckE T n sc e1 p && ckE T n sc e2 q
      | _ => false
def ckSs : Nat → Scope → List Stmt → List RS → Bool
  | 0, _, _, _ => false
  | _ + 1, _, [], [] => true
  | n + 1, sc, s :: ss, r :: rs => ckS n sc s r && ckSs n sc ss rs
  | _ + 1, _, _, _ => false
end
end
/-- a def's own context -/
structure Cos (T : Tb) (k : Nat) (sc : Scope) (X : Cx) : Prop where
  ok : Cok T k sc X
  kind : sc.kind = .function
  fn : ∀ x, X.fn x = true
  po : PassesOwn (model X.prog X.w) X.A X.env X.xe
section
variable {T : Tb} {k : Nat}
theorem Cos.sto {sc : Scope} {X : Cx} (c : Cos T k sc X) {x : Str} (h : stoOk sc x = true) : StOk X x := by
  unfold stoOk at h
  split at h
  · exact ⟨.inl (by rw [c.ok.sc]; assumption), .inl (c.fn x)⟩
  · exact ⟨.inr (by rw [c.ok.sc]; assumption), .inl (c.fn x)⟩
  · cases h
theorem Cos.tg {sc : Scope} {X : Cx} (c : Cos T k sc X) {tg : Expr} {t : Tg} (h : ckTg T sc tg t = true) : ∃ tl, tgOf X.N tg = some (t, tl) ∧ ∀ p ∈ tl, StOk X p.1 := by
  unfold ckTg at h
  split at h
  · rename_i t' tl ht
    rw [Bool.and_eq_true, List.all_eq_true] at h
    have := tgEq_ok h.1
    subst this
    exact ⟨tl, by rw [c.ok.N]; exact ht, fun p hp => c.sto (h.2 p hp)⟩
  · cases h
theorem Cos.par {sc : Scope} {X : Cx} (c : Cos T k sc X) {x : Str} {i : Nat} (h : parN T sc x i = true) : idxOf X.N x = some i ∧ X.env.scope.names.lookup x = some .local := by
  unfold parN at h
  rw [Bool.and_eq_true, beq_iff_eq] at h
  exact ⟨by rw [c.ok.N]; exact h.1, by rw [c.ok.sc]; exact locB_ok h.2⟩
theorem swaps_lc {elt : Expr} {gs : List Comprehension} {scope : Scope} {pos px : Pos} {x : Str} {l : Nat} {env : Env} : swapsWith (.ListComp elt gs scope pos) (some (.Name x px)) l env = pure (env.blockKind == .function && env.kindOf x == some .local && px.line == pos.line && !(scope.names.any fun p => p.1 == x && (p.2 == .local || p.2 == .cell))) := rfl
theorem swaps_tup {e : Expr} {ts : List Expr} {q : Nat} {p : Pos} {l : Nat} {env : Env} : swapsWithSole [.Tuple ts q p] e l env = pure false := by
  show swapsWith e (some (.Tuple ts q p)) l env = pure false
  cases e <;> rfl
theorem set_ok {n m : Nat} {sc : Scope} {X : Cx} {β : Option Addr} {x : Str} {px pos : Pos} {e : Expr} {r : RE} {i : Nat} {a : En} {z : Bool × D × En} (c : Cos T k sc X) (hi : idxOf T.N x = some i) (hs : stoOk sc x = true) (hc : ckE T n sc e r = true) (hv : evE T m r a = some z) (hl : i < z.2.2.sl.length) :
    DenS X β (.Assign [.Name x px] e pos) a (.nx (setS z.2.2 i z.1 z.2.1)) := by
  have hi' : idxOf X.N x = some i := by rw [c.ok.N]; exact hi
  have nd : X.N.Nodup := by rw [c.ok.N]; exact c.ok.nd
  have plain : swapsWith e (some (.Name x px)) pos.line X.env = pure false → DenS X β (.Assign [.Name x px] e pos) a (.nx (setS z.2.2 i z.1 z.2.1)) := fun h => dens_set nd hi' (c.sto hs) h hl ((snd_all T k n).E c.ok hc hv)
  by_cases hcomp : isComp e = false
  · exact plain (swaps_ok hcomp)
  · cases e with
    | ListComp elt gs scope epos =>
      cases hb : (X.env.blockKind == .function && X.env.kindOf x == some .local && px.line == epos.line && !(scope.names.any fun p => p.1 == x && (p.2 == .local || p.2 == .cell))) with
      | false => exact plain (by rw [swaps_lc, hb])
      | true =>
        have hx : X.env.scope.names.lookup x = some .local := by
          simp only [Bool.and_eq_true, beq_iff_eq] at hb
          exact hb.1.1.2
        cases n with
        | zero => simp only [ckE] at hc; cases hc
        | succ n =>
        cases r with
        | lc t vs it' tt y =>
          cases m with
          | zero => simp only [evE] at hv; cases hv
          | succ m =>
          have S := snd_all T k n
          simp only [ckE] at hc
          split at hc
          · rename_i elt' tg it ifs scope' pos' he
            cases he
            simp only [Bool.and_eq_true, Bool.not_eq_true'] at hc
            obtain ⟨⟨⟨⟨h0, h1⟩, h2⟩, h3⟩, h4⟩ := hc
            split at h1
            · rename_i t' tl ht
              simp only [Bool.and_eq_true, decide_eq_true_eq, beq_iff_eq, List.all_eq_true] at h1
              obtain ⟨⟨⟨⟨⟨g1, g2⟩, g3⟩, g4⟩, g5⟩, g6⟩ := h1
              have et : t' = t := by
                cases t' <;> cases t <;> simp_all [Tg.ix]
              subst et
              subst g3
              simp only [evE, Option.bind_eq_some_iff] at hv
              obtain ⟨z1, e1, hv⟩ := hv
              split at hv
              · rename_i hl1
                simp only [Option.bind_eq_some_iff, Option.some.injEq] at hv
                obtain ⟨z2, e2, rfl⟩ := hv
                dsimp only at hl ⊢
                rw [← c.ok.N] at ht
                exact dens_setLc (tl := tl) (own := tl) nd c.ok.calm h0 hi' hx (by rw [swaps_lc, hb]) hl (blkOk_by (by rw [c.ok.N, c.ok.sc]; exact g5)) ht (fun s H C cl fp p hp => stok_bl (g6 p hp)) (fun j hj => by simpa using g4 j hj) (S.I c.ok h2 e1)
                  (fun d e o e' hh => turn_ok S c.ok h3 h4 hh) e2 (szB_le hl1)
              · cases hv
            · cases h1
          · cases hc
        | _ => simp only [ckE] at hc; cases hc
    | SetComp _ _ _ _ =>
      cases n with
      | zero => simp only [ckE] at hc; cases hc
      | succ n => cases r <;> simp only [ckE] at hc <;> cases hc
    | DictComp _ _ _ _ _ =>
      cases n with
      | zero => simp only [ckE] at hc; cases hc
      | succ n => cases r <;> simp only [ckE] at hc <;> cases hc
    | _ => exact absurd rfl hcomp
end
end Fz
set_option Elab.async false
set_option linter.all false
set_option maxRecDepth 100000
set_option maxHeartbeats 8000000
/-! Fz, part R: statements and defs: what is computed is what runs. -/
namespace Fz
open PySem PySem.Spec PyProof.Rows L2
section
variable {T : Tb} {k : Nat}
structure SndS (T : Tb) (k n : Nat) : Prop where
  S : ∀ {sc : Scope} {X : Cx} {β : Option Addr} {st : Stmt} {r : RS} {m : Nat} {a : En} {z : SR}, Cos T k sc X → ckS T n sc st r = true → evS T m r a = some z → DenS X β st a z
  Ss : ∀ {sc : Scope} {X : Cx} {β : Option Addr} {st : List Stmt} {r : List RS} {m : Nat} {a : En} {z : SR}, Cos T k sc X → ckSs T n sc st r = true → evSs T m r a = some z → DenSs X β st a z
theorem sndS_S {n : Nat} (Sn : SndS T k n) {sc : Scope} {X : Cx} {β : Option Addr} {st : Stmt} {r : RS} {m : Nat} {a : En} {z : SR} (c : Cos T k sc X) (hc : ckS T (n + 1) sc st r = true) (hv : evS T m r a = some z) : DenS X β st a z := by
  have E := snd_all T k n
  have nd : X.N.Nodup := by rw [c.ok.N]; exact c.ok.nd
  cases m with
  | zero => simp only [evS] at hv; cases hv
  | succ m =>
  cases r with
  | set i p =>
    simp only [ckS] at hc
    split at hc
    · simp only [Bool.and_eq_true, beq_iff_eq] at hc
      simp only [evS, Option.bind_eq_some_iff] at hv
      obtain ⟨z1, e1, hv⟩ := hv
      split at hv
      · rename_i hl
        cases hv
        exact set_ok c hc.1.1 hc.1.2 hc.2 e1 hl
      · cases hv
    · cases hc
  | tgt t p =>
    simp only [ckS] at hc
    split at hc
    · rename_i ts kk pt e pos
      simp only [Bool.and_eq_true] at hc
      obtain ⟨⟨h0, h1⟩, h2⟩ := hc
      obtain ⟨tl, g1, g2⟩ := c.tg h0
      simp only [evS, Option.bind_eq_some_iff, Option.some.injEq] at hv
      obtain ⟨z1, e1, z2, e2, rfl⟩ := hv
      refine dens_tg nd c.ok.calm g1 g2 swaps_tup ?_ rfl (E.E c.ok h2 e1) e2
      split at h1
      · rw [beq_iff_eq] at h1
        exact sw_tab (by rw [c.ok.sc]; exact c.kind) (by rw [c.ok.sc]; exact h1)
      · rename_i hne
        cases e <;> first | rfl | exact absurd rfl (hne _ _ _)
    · cases hc
  | par is es =>
    simp only [ckS] at hc
    split at hc
    · simp only [Bool.and_eq_true] at hc
      obtain ⟨⟨⟨h0, h1⟩, h2⟩, h3⟩ := hc
      simp only [evS, Option.bind_eq_some_iff, Option.some.injEq] at hv
      obtain ⟨z1, e1, z2, e2, rfl⟩ := hv
      split at h0
      · rename_i i j
        simp only [Bool.and_eq_true, bne_iff_ne, ne_eq] at h0
        obtain ⟨⟨p1, p2⟩, p3⟩ := h0
        obtain ⟨q1, q2⟩ := c.par p1
        obtain ⟨q3, q4⟩ := c.par p2
        rw [beq_iff_eq] at h1
        exact dens_par2 c.ok.calm nd q1 q3 p3 q2 q4 (sw_tab (by rw [c.ok.sc]; exact c.kind) (by rw [c.ok.sc]; exact h1)) (E.A c.ok h3 h2 e1).1 e2
      · cases h0
    · simp only [Bool.and_eq_true] at hc
      obtain ⟨⟨⟨h0, h1⟩, h2⟩, h3⟩ := hc
      simp only [evS, Option.bind_eq_some_iff, Option.some.injEq] at hv
      obtain ⟨z1, e1, z2, e2, rfl⟩ := hv
      split at h0
      · rename_i i j l
        simp only [Bool.and_eq_true, bne_iff_ne, ne_eq] at h0
        obtain ⟨⟨⟨⟨⟨p1, p2⟩, p4⟩, p3⟩, p5⟩, p6⟩ := h0
        obtain ⟨q1, q2⟩ := c.par p1
        obtain ⟨q3, q4⟩ := c.par p2
        obtain ⟨q5, q6⟩ := c.par p4
        rw [beq_iff_eq] at h1
        exact dens_par3 c.ok.calm nd q1 q3 q5 p3 p5 p6 q2 q4 q6 (sw_tab (by rw [c.ok.sc]; exact c.kind) (by rw [c.ok.sc]; exact h1)) (E.A c.ok h3 h2 e1).1 e2
      · cases h0
    · cases hc
  | put i b p =>
    simp only [ckS] at hc
    split at hc
    · simp only [Bool.and_eq_true, beq_iff_eq, Bool.not_eq_true'] at hc
      obtain ⟨⟨⟨⟨h0, h1⟩, h2⟩, h3⟩, h4⟩ := hc
      obtain ⟨q1, q2, q3, q4⟩ := c.ok.slot h0
      simp only [evS, Option.bind_eq_some_iff] at hv
      obtain ⟨z1, e1, l0, e2, ⟨o2, d2, b2⟩, e3, hv⟩ := hv
      dsimp only at hv
      split at hv
      · simp only [Option.bind_eq_some_iff, Option.some.injEq] at hv
        obtain ⟨l, e4, j, e5, rfl⟩ := hv
        exact dens_put q1 q2 q3 q4 h1 (swaps_ok h2) (E.E c.ok h4 e1) (E.E c.ok h3 e3) (by rw [e2]; rfl) e4 e5
      · cases hv
    · cases hc
  | ret p =>
    simp only [ckS] at hc
    split at hc
    · simp only [evS, Option.bind_eq_some_iff, Option.some.injEq] at hv
      obtain ⟨z1, e1, rfl⟩ := hv
      exact dens_ret (E.E c.ok hc e1)
    · cases hc
  | retn =>
    simp only [ckS] at hc
    split at hc
    · simp only [evS, Option.some.injEq] at hv
      subst hv
      exact dens_retN
    · cases hc
  | ife t A B =>
    simp only [ckS] at hc
    split at hc
    · simp only [Bool.and_eq_true] at hc
      obtain ⟨⟨h0, h1⟩, h2⟩ := hc
      simp only [evS, Option.bind_eq_some_iff] at hv
      obtain ⟨⟨kk, b⟩, e1, hv⟩ := hv
      cases kk with
      | true => exact dens_if (k := true) (E.Tt c.ok h0 e1) (Sn.Ss c h1 hv)
      | false => exact dens_if (k := false) (E.Tt c.ok h0 e1) (Sn.Ss c h2 hv)
    · cases hc
  | whl t b =>
    simp only [ckS] at hc
    split at hc
    · simp only [Bool.and_eq_true] at hc
      simp only [evS] at hv
      exact dens_while c.po (fun e kk e1 h => E.Tt c.ok hc.1 h) (fun e rr h => Sn.Ss c hc.2 h) hv
    · cases hc
  | «for» t it b =>
    simp only [ckS] at hc
    split at hc
    · simp only [Bool.and_eq_true, Bool.not_eq_true'] at hc
      obtain ⟨⟨⟨h0, h1⟩, h2⟩, h3⟩ := hc
      obtain ⟨tl, g1, g2⟩ := c.tg h0
      simp only [evS, Option.bind_eq_some_iff] at hv
      obtain ⟨z1, e1, hv⟩ := hv
      refine dens_for c.po nd c.ok.calm g1 g2 h1 (E.I c.ok h2 e1) (fun d e rr h => ?_) hv
      simp only [Option.bind_eq_some_iff] at h
      obtain ⟨e2, w1, w2⟩ := h
      exact ⟨e2, w1, Sn.Ss c h3 w2⟩
    · cases hc
  | ex p =>
    simp only [ckS] at hc
    split at hc
    · simp only [Bool.and_eq_true, Bool.not_eq_true'] at hc
      simp only [evS, Option.bind_eq_some_iff, Option.some.injEq] at hv
      obtain ⟨z1, e1, rfl⟩ := hv
      exact dens_expr hc.1 (E.E c.ok hc.2 e1)
    · cases hc
  | pass =>
    simp only [ckS] at hc
    split at hc
    · simp only [evS, Option.some.injEq] at hv
      subst hv
      exact dens_pass
    · cases hc
  | brk =>
    simp only [ckS] at hc
    split at hc
    · simp only [evS, Option.some.injEq] at hv
      subst hv
      exact dens_break
    · cases hc
  | cnt =>
    simp only [ckS] at hc
    split at hc
    · simp only [evS, Option.some.injEq] at hv
      subst hv
      exact dens_continue
    · cases hc
  | pro i j p q =>
    simp only [ckS] at hc
    split at hc
    · simp only [Bool.and_eq_true, bne_iff_ne, ne_eq] at hc
      obtain ⟨⟨⟨⟨⟨⟨p1, p2⟩, p3⟩, h1⟩, h2⟩, h3⟩, h4⟩ := hc
      simp only [evS, Option.bind_eq_some_iff] at hv
      obtain ⟨⟨o1, d1, b1⟩, e1, ⟨o2, d2, b2⟩, e2, hv⟩ := hv
      dsimp only at hv
      split at hv
      · rename_i hi
        split at hv
        · rename_i hj
          cases hv
          obtain ⟨q1, q2⟩ := c.par p1
          obtain ⟨q3, q4⟩ := c.par p2
          rw [beq_iff_eq] at h1
          simp only [noStars, List.all_cons, List.all_nil, Bool.and_true, Bool.and_eq_true, Bool.not_eq_true'] at h2
          exact dens_pro c.ok.calm nd q1 q3 p3 q2 q4 (sw_tab (by rw [c.ok.sc]; exact c.kind) (by rw [c.ok.sc]; exact h1)) h2.1 h2.2 (E.E c.ok h3 e1) (E.E c.ok h4 e2) hi hj
        · cases hv
      · cases hv
    · cases hc
  | never =>
    simp only [evS] at hv
    cases hv
theorem sndS_Ss {n : Nat} (Sn : SndS T k n) {sc : Scope} {X : Cx} {β : Option Addr} {st : List Stmt} {r : List RS} {m : Nat} {a : En} {z : SR} (c : Cos T k sc X) (hc : ckSs T (n + 1) sc st r = true) (hv : evSs T m r a = some z) : DenSs X β st a z := by
  cases m with
  | zero => simp only [evSs] at hv; cases hv
  | succ m =>
  cases st with
  | nil =>
    cases r with
    | nil =>
      simp only [evSs, Option.some.injEq] at hv
      subst hv
      exact denss_nil
    | cons y ys => exact absurd hc (show ¬ false = true from Bool.false_ne_true)
  | cons s ss =>
    cases r with
    | nil => exact absurd hc (show ¬ false = true from Bool.false_ne_true)
    | cons y ys =>
      simp only [ckSs, Bool.and_eq_true] at hc
      simp only [evSs, Option.bind_eq_some_iff] at hv
      obtain ⟨rr, e1, hv⟩ := hv
      cases rr with
      | nx e2 => exact denss_cons (Sn.S c hc.1 e1) (Sn.Ss c hc.2 hv)
      | rt o d e2 => cases hv; exact denss_stop (fun b h => by cases h) (Sn.S c hc.1 e1)
      | bk e2 => cases hv; exact denss_stop (fun b h => by cases h) (Sn.S c hc.1 e1)
      | ct e2 => cases hv; exact denss_stop (fun b h => by cases h) (Sn.S c hc.1 e1)
theorem sndS_all (T : Tb) (k : Nat) : ∀ n, SndS T k n
  | 0 => { S := fun _ h _ => absurd h (show ¬ false = true from Bool.false_ne_true), Ss := fun _ h _ => absurd h (show ¬ false = true from Bool.false_ne_true) }
  | n + 1 => ⟨fun c h v => sndS_S (sndS_all T k n) c h v, fun c h v => sndS_Ss (sndS_all T k n) c h v⟩

/-! ### a def of the text -/
/-- what a def of the module's text is at run time, for the table -/
structure Env1 (P : Program) (w : World) (K : PySem.W.Frag) (mg : Str → Option Value) (base : Heap) (k : Nat) (x : Str) (fn : Fn) : Prop where
  ex : ∃ f fd, mg x = some (.ref f) ∧ PySem.W.keepIn K (.ref f) = true ∧ FnOk P w K mg base CX0 k f fd fn.ps (spD K fn) ∧ Binds K fd fn.ps [] ∧
    ∀ kw ∈ fn.kws, KBn K fd fn.ps kw.n kw.ks (arr kw.perm) (arr kw.perm)
  nd : (x == ("__debug__" : Str)) = false
/-- the result of a def by its resolved body -/
def runD (T : Tb) (n : Nat) (io : Bool) (b : List RS) (ds : List D) : Option (Bool × D × List D) := (evSs T n b (en0 T.N.length io ds)).bind endD
theorem def_ok {P : Program} {w : World} {K : PySem.W.Frag} {mg : Str → Option Value} {base : Heap} {x qual : Str} {st : Stmt} {f : Addr} {fd : FuncData} {n : Nat} {fn : Fn} {b : List RS} (F : L2.Fun K x qual st f fd) (S : FnScope T.N fn.ps (defScope st))
    (hb : ∀ y, bltNames.contains y = true → mg y = none) (hf : ∀ (j : Nat) (p : Str × Fn), T.fs[j]? = some p → Env1 P w K mg base k p.1 p.2) (hc : ckSs T n (defScope st) (defBody st) b = true)
    (hd : ∀ ds z, fn.den ds = some z → ∃ m, runD T m fn.io b ds = some z) : FnOk P w K mg base CX0 (k + 1) f fd fn.ps (spD K fn) := by
  refine fn_ok F S fun X β C ds z hz => ?_
  obtain ⟨m, hm⟩ := hd ds z hz
  unfold runD at hm
  rw [Option.bind_eq_some_iff] at hm
  obtain ⟨r, h1, h2⟩ := hm
  obtain ⟨c1, c2, c3, c4, c5, c6, c7, c8, c9, c10, c11⟩ := C
  subst c1 c2 c3 c4 c5
  refine ⟨r, (sndS_all T k n).Ss ⟨⟨c6, S.nd, c7, c8, c9, hb, fun j p hp => ⟨(hf j p hp).ex, (hf j p hp).nd⟩⟩, S.kind, c10, c11⟩ hc h1, h2⟩
end
end Fz
set_option Elab.async false
set_option linter.all false
set_option maxRecDepth 100000
set_option maxHeartbeats 4000000
/-! Fz, part S: ints and lists of ints as data; steps; sizes. -/
namespace Fz
open PySem PySem.Spec PyProof.Rows L2
/-! ### lists of ints as data -/
def I (f : List Int) : List D := f.map PyData.int
@[simp] theorem I_len (f : List Int) : (I f).length = f.length := by simp [I]
@[simp] theorem I_nil : I [] = [] := rfl
@[simp] theorem I_cons (x : Int) (f : List Int) : I (x :: f) = .int x :: I f := rfl
@[simp] theorem I_app (f g : List Int) : I (f ++ g) = I f ++ I g := by simp [I]
@[simp] theorem I_emp (f : List Int) : (I f).isEmpty = f.isEmpty := by cases f <;> rfl
@[simp] theorem allI_I : ∀ f : List Int, allI (I f) = some f
  | [] => rfl
  | x :: f => by
    show (allI (I f)).map (x :: ·) = _
    rw [allI_I f]
    rfl
theorem I_get (f : List Int) (i : Nat) : (I f)[i]? = (f[i]?).map PyData.int := by simp [I]
theorem I_take (f : List Int) (i : Nat) : (I f).take i = I (f.take i) := by simp [I]
theorem I_drop (f : List Int) (i : Nat) : (I f).drop i = I (f.drop i) := by simp [I]
theorem I_set (f : List Int) (i : Nat) (x : Int) : (I f).set i (.int x) = I (f.set i x) := by simp [I]
theorem I_rev (f : List Int) : (I f).reverse = I f.reverse := by simp [I]
theorem zip_I : ∀ f g : List Int, zipD (I f) (I g) = (f.zip g).map fun q => .tuple [.int q.1, .int q.2]
  | [], _ => rfl
  | _ :: _, [] => rfl
  | x :: f, y :: g => by
    show PyData.tuple [.int x, .int y] :: zipD (I f) (I g) = PyData.tuple [.int x, .int y] :: ((f.zip g).map fun q => PyData.tuple [.int q.1, .int q.2])
    rw [zip_I f g]
/-! ### loops over typed lists -/
theorem lcL_pure {α : Type} {F : D → En → Option (Option D × En)} {e : En} (g : α → D) (h : α → D) : ∀ {xs : List α}, (∀ x ∈ xs, F (g x) e = some (some (h x), e)) → lcL F (xs.map g) e = some (xs.map h, e)
  | [], _ => rfl
  | x :: xs, H => by
    show lcL F (g x :: xs.map g) e = _
    unfold lcL
    rw [H x List.mem_cons_self]
    simp only
    rw [lcL_pure g h fun y hy => H y (List.mem_cons_of_mem _ hy)]
    rfl
theorem forL_fold {α γ : Type} {F : D → En → Option SR} (g : α → D) (st : γ → En) (k : γ → α → γ) (P : γ → Prop) : ∀ {xs : List α} {c : γ}, P c → (∀ x ∈ xs, ∀ c, P c → F (g x) (st c) = some (.nx (st (k c x))) ∧ P (k c x)) → forL F (xs.map g) (st c) = some (.nx (st (xs.foldl k c))) ∧ P (xs.foldl k c)
  | [], c, hc, _ => ⟨rfl, hc⟩
  | x :: xs, c, hc, H => by
    show forL F (g x :: xs.map g) (st c) = _ ∧ _
    unfold forL
    obtain ⟨h1, h2⟩ := H x List.mem_cons_self c hc
    rw [h1]
    exact forL_fold g st k P h2 fun y hy => H y (List.mem_cons_of_mem _ hy)
/-! ### steps -/
section
variable {T : Tb} {n : Nat} {e e1 e2 : En}
theorem while_step {t : En → Option (Bool × En)} {f : En → Option SR} {r : SR} (ht : t e = some (true, e1)) (hf : f e1 = some (.nx e2)) (h : whileL t f n e2 = some r) : whileL t f (n + 1) e = some r := by
  unfold whileL
  rw [ht]
  dsimp only
  rw [hf]
  exact h
theorem while_end {t : En → Option (Bool × En)} {f : En → Option SR} (ht : t e = some (false, e1)) : whileL t f (n + 1) e = some (.nx e1) := by
  unfold whileL
  rw [ht]
theorem ss_nx {s : RS} {ss : List RS} {r : SR} (h1 : evS T n s e = some (.nx e1)) (h2 : evSs T n ss e1 = some r) : evSs T (n + 1) (s :: ss) e = some r := by
  rw [evSs, h1]
  exact h2
theorem ss_rt {s : RS} {ss : List RS} {o : Bool} {d : D} (h1 : evS T n s e = some (.rt o d e1)) : evSs T (n + 1) (s :: ss) e = some (.rt o d e1) := by
  rw [evSs, h1]
  rfl
theorem s_whl {t : RT} {b : List RS} {r : SR} (h : whileL (evT T n t) (evSs T n b) T.W e = some r) : evS T (n + 1) (.whl t b) e = some r := h
theorem s_for {t : Tg} {it : RI} {b : List RS} {r : SR} {ds : List D} (hi : evI T n it e = some (ds, e1)) (h : forL (fun d e => (stT e t d).bind fun e1 => evSs T n b e1) ds e1 = some r) : evS T (n + 1) (.for t it b) e = some r := by
  rw [evS, hi]
  exact h
theorem s_set {i : Nat} {a : RE} {o : Bool} {d : D} (h : evE T n a e = some (o, d, e1)) (hl : i < e1.sl.length) : evS T (n + 1) (.set i a) e = some (.nx (setS e1 i o d)) := by
  rw [evS, h]
  show (if i < e1.sl.length then _ else _) = _
  rw [if_pos hl]
theorem s_ret {a : RE} {o : Bool} {d : D} (h : evE T n a e = some (o, d, e1)) : evS T (n + 1) (.ret a) e = some (.rt o d e1) := by
  rw [evS, h]
  rfl
theorem s_ife {t : RT} {A B : List RS} {k : Bool} {r : SR} (h : evT T n t e = some (k, e1)) (h2 : evSs T n (if k then A else B) e1 = some r) : evS T (n + 1) (.ife t A B) e = some r := by
  rw [evS, h]
  cases k <;> exact h2
theorem e_lc {t : Tg} {vs : List Nat} {it : RI} {tt : Option RT} {x : RE} {ds l : List D} (hi : evI T n it e = some (ds, e1)) (hl : szB ds.length = true) (h : lcL (evC T n t vs tt x) ds e1 = some (l, e2)) : evE T (n + 1) (.lc t vs it tt x) e = some (true, .list l, e2) := by
  rw [evE, hi]
  show (if szB ds.length then _ else _) = _
  rw [if_pos hl, h]
  rfl
theorem e_bin {op : Operator} {a b : RE} {o1 o2 o : Bool} {d1 d2 d : D} (h1 : evE T n a e = some (o1, d1, e1)) (h2 : evE T n b e1 = some (o2, d2, e2)) (h : binD op o1 d1 d2 = some (o, d)) : evE T (n + 1) (.bin op a b) e = some (o, d, e2) := by
  rw [evE, h1]
  show (evE T n b e1).bind _ = _
  rw [h2]
  show (binD op o1 d1 d2).bind _ = _
  rw [h]
  rfl
theorem e_blt {k : Bi} {es : List RE} {ds : List D} {o : Bool} {d : D} (h1 : evA T n es e = some (ds, e1)) (h : bltD k ds = some (o, d)) : evE T (n + 1) (.blt k es) e = some (o, d, e1) := by
  rw [evE, h1]
  show (bltD k ds).bind _ = _
  rw [h]
  rfl
theorem e_app {j : Nat} {es : List RE} {ds : List D} {o : Bool} {d : D} {l : List D} {p : Str × Fn} (h1 : evA T n es e = some (ds, e1)) (hf : T.fs[j]? = some p) (hio : p.2.io = false) (hl : ds.length = p.2.ps.length) (h : p.2.den ds = some (o, d, l)) : evE T (n + 1) (.app j es) e = some (o, d, e1) := by
  rw [evE, h1]
  show (T.fs[j]?).bind _ = _
  rw [hf]
  show (if _ ∧ _ then _ else _) = _
  rw [if_pos ⟨hio, hl⟩, h]
  rfl
theorem e_appio {j i : Nat} {es : List RE} {ds b0 bs l : List D} {o : Bool} {d : D} {p : Str × Fn} (h0 : slotL e i = some b0) (h1 : evA T n es e = some (ds, e1)) (hb : slotL e1 i = some bs) (hf : T.fs[j]? = some p) (hio : p.2.io = true) (hl : ds.length + 1 = p.2.ps.length) (h : p.2.den (.list bs :: ds) = some (o, d, l)) :
    evE T (n + 1) (.appio j i es) e = some (o, d, putL e1 i l) := by
  rw [evE, h0]
  show (evA T n es e).bind _ = _
  rw [h1]
  show (slotL e1 i).bind _ = _
  rw [hb]
  show (T.fs[j]?).bind _ = _
  rw [hf]
  show (if _ ∧ _ then _ else _) = _
  rw [if_pos ⟨hio, hl⟩, h]
  rfl
theorem a_cons {a : RE} {es : List RE} {o : Bool} {d : D} {ds : List D} (h1 : evE T n a e = some (o, d, e1)) (h2 : evA T n es e1 = some (ds, e2)) : evA T (n + 1) (a :: es) e = some (d :: ds, e2) := by
  rw [evA, h1]
  show (evA T n es e1).bind _ = _
  rw [h2]
  rfl
theorem a_nil : evA T (n + 1) [] e = some ([], e) := rfl
end

/-! ### sizes, by omega -/
theorem szB_of {n : Nat} (h : n ≤ 1000000) : szB n = true := decide_eq_true h
theorem posB_of {j : Int} (h : 0 < j) : posB j = true := decide_eq_true h
theorem b62_of {i : Int} (h1 : -4611686018427387904 ≤ i) (h2 : i < 4611686018427387904) : b62 i = true := by
  unfold b62
  rw [Bool.and_eq_true, decide_eq_true_eq, decide_eq_true_eq]
  exact ⟨by omega, by omega⟩
theorem mulB_of {x y : Int} (h1 : -1000000000000000000000000000000000000000000000000 < x) (h2 : x < 1000000000000000000000000000000000000000000000000) (h3 : -1000000000000000000000000000000000000000000000000 < y) (h4 : y < 1000000000000000000000000000000000000000000000000) : mulB x y = true := by
  unfold mulB
  rw [decide_eq_true_eq]
  exact wide_mul (a := 200) (b := 200) (by omega) (by omega) (by decide) (by decide) (by decide)
theorem divB_of {j : Int} (h : 0 < j) (h2 : j < 1000000000000000000000000000000000000000000000000) : divB j = true := by
  unfold divB
  rw [Bool.and_eq_true, decide_eq_true_eq, decide_eq_true_eq]
  exact wide_div (i := 0) (b := 200) h (by omega) (by decide) (by decide)
theorem powB_of {i j : Int} (h1 : 0 ≤ j) (h2 : j ≤ 1000000) (h3 : -18446744073709551616 < i) (h4 : i < 18446744073709551616) : powB i j = true := decide_eq_true ⟨h1, h2, by omega⟩
theorem repB_one {k : Int} (h1 : -4611686018427387904 < k) (h2 : k ≤ 1000000) : repB 1 k = true := decide_eq_true ⟨by omega, by omega, by omega⟩
theorem timB_one {k : Int} (h1 : -4611686018427387904 < k) (h2 : k ≤ 1000) : timB 1 k = true := decide_eq_true ⟨by omega, by omega, by omega⟩
theorem flat_one {α : Type} (x : α) : ∀ n : Nat, (List.replicate n [x]).flatten = List.replicate n x
  | 0 => rfl
  | n + 1 => by rw [List.replicate_succ, List.flatten_cons, flat_one x n]; rfl
theorem I_rep (x : Int) (n : Nat) : List.replicate n (PyData.int x) = I (List.replicate n x) := by simp [I]
/-! ### items -/
theorem atI_0 {α : Type} (l : List α) : atI l 0 = l[0]? := by
  unfold atI ixN
  cases l <;> simp
theorem atI_k {α : Type} (l : List α) (k : Nat) : atI l (k : Int) = l[k]? := by
  by_cases h : k < l.length
  · rw [List.getElem?_eq_getElem h]
    exact atI_nat (List.getElem?_eq_getElem h)
  · unfold atI ixN
    rw [if_pos (by omega), if_neg (by omega), List.getElem?_eq_none (by omega)]
    rfl
theorem atI_1 {α : Type} (l : List α) : atI l 1 = l[1]? := atI_k l 1
theorem atI_2 {α : Type} (l : List α) : atI l 2 = l[2]? := atI_k l 2
theorem atI_3 {α : Type} (l : List α) : atI l 3 = l[3]? := atI_k l 3
theorem atI_4 {α : Type} (l : List α) : atI l 4 = l[4]? := atI_k l 4
theorem atI_I {f : List Int} {i : Int} (h1 : 0 ≤ i) (h2 : i < f.length) : atI (I f) i = some (.int (f.getD i.toNat 0)) := by
  obtain ⟨k, rfl⟩ := Int.eq_ofNat_of_zero_le h1
  rw [atI_k, I_get]
  have hk : k < f.length := by omega
  rw [List.getElem?_eq_getElem hk, List.getD_eq_getElem?_getD, Int.toNat_natCast, List.getElem?_eq_getElem hk]
  rfl
theorem atI_last1 {α : Type} (l : List α) : atI l (-1) = l.getLast? := by
  rcases List.eq_nil_or_concat l with rfl | ⟨m, y, rfl⟩
  · rfl
  · rw [List.concat_eq_append, atI_last, List.getLast?_append]
    rfl
theorem I_last (f : List Int) : (I f).getLast? = (f.getLast?).map PyData.int := by simp [I]
theorem ixN_of {n : Nat} {i : Int} (h1 : 0 ≤ i) (h2 : i < n) : ixN n i = some i.toNat := by
  unfold ixN
  rw [if_pos h1, if_pos h2]
theorem cut_from {f : List Int} {i : Int} (h : 0 ≤ i) : Fz.cutD (I f) (some i) none = I (f.drop i.toNat) := by
  obtain ⟨n, rfl⟩ := Int.eq_ofNat_of_zero_le h
  unfold Fz.cutD
  rw [HT.sIx_nat, HT.sIx_none, I_len, I_drop, I_take, Int.toNat_natCast]
  congr 1
  rw [List.take_of_length_le (by rw [List.length_drop]; omega)]
  by_cases h : n ≤ f.length
  · rw [Nat.min_eq_left h]
  · rw [Nat.min_eq_right (by omega), List.drop_length, List.drop_eq_nil_of_le (by omega)]
theorem cut_to {f : List Int} {i : Int} (h : 0 ≤ i) : Fz.cutD (I f) none (some i) = I (f.take i.toNat) := by
  obtain ⟨n, rfl⟩ := Int.eq_ofNat_of_zero_le h
  unfold Fz.cutD
  rw [HT.sIx_nat, HT.sIx_none, I_len, List.drop_zero, Nat.sub_zero, I_take, Int.toNat_natCast]
  congr 1
  by_cases h : n ≤ f.length
  · rw [Nat.min_eq_left h]
  · rw [Nat.min_eq_right (by omega), List.take_length, List.take_of_length_le (by omega)]
/-! ### equality -/
theorem eqv_int (a b : Int) : PyData.eqv (.int a) (.int b) = (a == b) := rfl
theorem eqv_none : PyData.eqv .none .none = true := rfl
theorem shp_int (a : Int) : shp (.int a) = true := rfl
theorem shp_bool (a : Bool) : shp (.bool a) = true := rfl
theorem shp_none : shp .none = true := rfl
theorem eqvAll_I : ∀ f g : List Int, PyData.eqvAll (I f) (I g) = (f == g)
  | [], [] => rfl
  | [], _ :: _ => rfl
  | _ :: _, [] => rfl
  | x :: f, y :: g => by
    show (PyData.eqv (.int x) (.int y) && PyData.eqvAll (I f) (I g)) = _
    rw [eqvAll_I f g, eqv_int]
    rfl
theorem eqv_tup (f g : List Int) : PyData.eqv (.tuple (I f)) (.tuple (I g)) = (f == g) := eqvAll_I f g
theorem eqv_lst (f g : List Int) : PyData.eqv (.list (I f)) (.list (I g)) = (f == g) := eqvAll_I f g
theorem run_of {T : Tb} {io : Bool} {b : List RS} {ds : List D} {o : Bool} {d : D} {e : En} {n : Nat} (h : evSs T n b (en0 T.N.length io ds) = some (.rt o d e)) : runD T n io b ds = some (o, d, e.bg) := by
  unfold runD
  rw [h]
  rfl
theorem allI_eq {l : List D} {ns : List Int} (h : allI l = some ns) : l = I ns := by
  induction l generalizing ns with
  | nil => cases h; rfl
  | cons x l ih =>
    cases x with
    | int i =>
      unfold allI at h
      cases z : allI l with
      | none => rw [z] at h; cases h
      | some t => rw [z] at h; cases h; rw [ih z]; rfl
    | _ => cases h
theorem seqI {d : D} {q : Bool × List D} {ns : List Int} (_ : seqD d = some q) (h2 : allI q.2 = some ns) : q.2 = I ns := allI_eq h2
theorem items_of {d : D} {q : Bool × List D} (h : seqD d = some q) : itemsD d = some q.2 := by
  cases d <;> cases h <;> rfl
end Fz
set_option Elab.async false
set_option linter.all false
set_option maxRecDepth 100000
set_option maxHeartbeats 4000000
/-! Fz, part T: the evaluator's rows as equations, for a rewriter that goes outside in. -/
namespace Fz
open PySem PySem.Spec PyProof.Rows L2
/-- a bind whose second part a rewriter leaves alone till the first one is known: another argument's type speaks of it -/
def obind {α β : Type} (f : α → Option β) (_ : f = f) (a : Option α) : Option β := a.bind f
theorem bind_o {α β : Type} (a : Option α) (f : α → Option β) : a.bind f = obind f rfl a := rfl
theorem obind_some {α β : Type} (f : α → Option β) (h : f = f) (v : α) : obind f h (some v) = f v := rfl
def bodyF (T : Tb) (n : Nat) (t : Tg) (b : List RS) : D → En → Option SR := fun d e => (stT e t d).bind fun e1 => evSs T n b e1
def goOn (T : Tb) (n : Nat) (ss : List RS) (r : SR) : Option SR := match r with
    | .nx e1 => evSs T n ss e1
    | r => some r
section
variable {T : Tb} {n : Nat} {e : En}
theorem q_int {i : Int} : evE T (n + 1) (.int i) e = some (false, .int i, e) := rfl
theorem q_bl {b : Bool} : evE T (n + 1) (.bl b) e = some (false, .bool b, e) := rfl
theorem q_non : evE T (n + 1) .non e = some (false, .none, e) := rfl
theorem q_nm {i : Nat} : evE T (n + 1) (.nm i) e = (lockS e i).bind fun p => some (false, p.1, p.2) := rfl
theorem q_bin {op : Operator} {a b : RE} : evE T (n + 1) (.bin op a b) e = (evE T n a e).bind fun p => (evE T n b p.2.2).bind fun q => (binD op p.1 p.2.1 q.2.1).bind fun z => some (z.1, z.2, q.2.2) := rfl
def negD : D → Option D
  | .int i => some (.int (-i))
  | _ => none
theorem q_neg {a : RE} : evE T (n + 1) (.neg a) e = (evE T n a e).bind fun p => (negD p.2.1).bind fun d => some (false, d, p.2.2) := by
  rw [evE]
  congr 1
  funext p
  obtain ⟨o, d, e⟩ := p
  cases d <;> rfl
theorem q_negI {i : Int} : negD (.int i) = some (.int (-i)) := rfl
theorem q_not {a : RE} : evE T (n + 1) (.not a) e = (evE T n a e).bind fun p => (truD p.2.1).bind fun k => some (false, .bool (!k), p.2.2) := rfl
theorem q_bop {op : BoolOp} {a b : RE} : evE T (n + 1) (.bop op a b) e = (evE T n a e).bind fun p => (truD p.2.1).bind fun k => if opStop op k then some p else evE T n b p.2.2 := rfl
theorem q_ife {t : RT} {a b : RE} : evE T (n + 1) (.ife t a b) e = (evT T n t e).bind fun p => if p.1 then evE T n a p.2 else evE T n b p.2 := rfl
theorem q_cmp {op : CmpOp} {a b : RE} : evE T (n + 1) (.cmp op a b) e = (evE T n a e).bind fun p => (evE T n b p.2.2).bind fun q => (cmpD op p.2.1 q.2.1).bind fun k => some (false, .bool k, q.2.2) := rfl
theorem q_ix {a b : RE} : evE T (n + 1) (.ix a b) e = (evE T n a e).bind fun p => (evE T n b p.2.2).bind fun q => (ixD p.2.1 q.2.1).bind fun d => some (false, d, q.2.2) := rfl
/-- the slot of a name, whether it is own -/
def atS (e : En) (i : Nat) : Option (Bool × D × En) := match slotL e i with
  | some l => some (true, .list l, e)
  | none => (lockS e i).bind fun p => some (false, p.1, p.2)
def reS (e : En) (i : Nat) (o : Bool) (d : D) : Option D := match o with
  | true => (slotL e i).bind fun l => some (.list l)
  | false => some d
theorem q_ixn {i : Nat} {b : RE} : evE T (n + 1) (.ixn i b) e = (atS e i).bind fun p => (evE T n b p.2.2).bind fun q => (reS q.2.2 i p.1 p.2.1).bind fun l => (ixD l q.2.1).bind fun d => some (false, d, q.2.2) := by
  rw [evE]
  unfold atS
  cases slotL e i with
  | none => simp only; cases lockS e i <;> rfl
  | some l =>
    simp only [Option.bind_some]
    congr 1
    funext q
    show _ = ((slotL q.2.2 i).bind fun l => some (PyData.list l)).bind _
    cases slotL q.2.2 i <;> rfl
theorem q_sl {a : RE} {lo hi : Option RE} : evE T (n + 1) (.sl a lo hi) e = (evE T n a e).bind fun p => (evO T n lo p.2.2).bind fun q => (evO T n hi q.2).bind fun r => (slD p.2.1 q.1 r.1).bind fun z => some (z.1, z.2, r.2) := rfl
theorem q_sln {i : Nat} {lo hi : Option RE} : evE T (n + 1) (.sln i lo hi) e = (atS e i).bind fun p => (evO T n lo p.2.2).bind fun q => (evO T n hi q.2).bind fun r => (reS r.2 i p.1 p.2.1).bind fun l => (slD l q.1 r.1).bind fun z => some (z.1, z.2, r.2) := by
  rw [evE]
  unfold atS
  cases slotL e i with
  | none => simp only; cases lockS e i <;> rfl
  | some l =>
    simp only [Option.bind_some]
    congr 1
    funext q
    congr 1
    funext r
    show _ = ((slotL r.2 i).bind fun l => some (PyData.list l)).bind _
    cases slotL r.2 i <;> rfl
theorem q_blt {k : Bi} {es : List RE} : evE T (n + 1) (.blt k es) e = (evA T n es e).bind fun p => (bltD k p.1).bind fun z => some (z.1, z.2, p.2) := rfl
theorem q_lenn {i : Nat} : evE T (n + 1) (.lenn i) e = (atS e i).bind fun p => (bltD .len [p.2.1]).bind fun z => some (z.1, z.2, p.2.2) := by
  rw [evE]
  unfold atS
  cases slotL e i with
  | none => simp only; cases lockS e i <;> rfl
  | some l => rfl
theorem q_isi {a : RE} {ts : List String} : evE T (n + 1) (.isi a ts) e = (evE T n a e).bind fun p => if noTag p.2.1 then some (false, .bool (isiD p.2.1 ts), p.2.2) else none := rfl
theorem q_lst {es : List RE} : evE T (n + 1) (.lst es) e = (evA T n es e).bind fun p => if szB p.1.length then some (true, .list p.1, p.2) else none := rfl
theorem q_tup {es : List RE} : evE T (n + 1) (.tup es) e = (evA T n es e).bind fun p => if szB p.1.length then some (false, .tuple p.1, p.2) else none := rfl
/-- a call, from its promise -/
def callF (f : Str × Fn) (ds : List D) : Option (Bool × D) := if f.2.io = false ∧ ds.length = f.2.ps.length then (f.2.den ds).bind fun z => some (z.1, z.2.1) else none
theorem q_app {j : Nat} {es : List RE} : evE T (n + 1) (.app j es) e = (evA T n es e).bind fun p => (T.fs[j]?).bind fun f => (callF f p.1).bind fun z => some (z.1, z.2, p.2) := by
  rw [evE]
  congr 1
  funext p
  congr 1
  funext f
  unfold callF
  split
  · cases f.2.den p.1 <;> rfl
  · rfl
def callB (f : Str × Fn) (bs : List D) (ds : List D) : Option (Bool × D × List D) := if f.2.io = true ∧ ds.length + 1 = f.2.ps.length then f.2.den (.list bs :: ds) else none
theorem q_appio {j i : Nat} {es : List RE} : evE T (n + 1) (.appio j i es) e = (slotL e i).bind fun _ => (evA T n es e).bind fun p => (slotL p.2 i).bind fun bs => (T.fs[j]?).bind fun f => (callB f bs p.1).bind fun z => some (z.1, z.2.1, putL p.2 i z.2.2) := by
  rw [evE]
  congr 1
  funext _
  congr 1
  funext p
  congr 1
  funext bs
  congr 1
  funext f
  unfold callB
  split
  · rfl
  · rfl
def callK (f : Str × Fn) (m : Nat) (k : Nat) (as bs : List D) : Option (Bool × D) := (f.2.kws[m]?).bind fun kw => if f.2.io = false ∧ as.length = k ∧ bs.length = kw.ks.length ∧ (arr kw.perm as bs).length = f.2.ps.length then (f.2.den (arr kw.perm as bs)).bind fun z => some (z.1, z.2.1) else none
theorem q_appk {j m : Nat} {es ks : List RE} : evE T (n + 1) (.appk j m es ks) e = (evA T n es e).bind fun p => (evA T n ks p.2).bind fun q => (T.fs[j]?).bind fun f => (callK f m es.length p.1 q.1).bind fun z => some (z.1, z.2, q.2) := by
  rw [evE]
  congr 1
  funext p
  congr 1
  funext q
  congr 1
  funext f
  unfold callK
  cases f.2.kws[m]? with
  | none => rfl
  | some kw =>
    show (if _ then _ else _) = (if _ then _ else _ : Option _).bind _
    split
    · cases f.2.den (arr kw.perm p.1 q.1) <;> rfl
    · rfl
theorem q_lc {t : Tg} {vs : List Nat} {it : RI} {tt : Option RT} {x : RE} : evE T (n + 1) (.lc t vs it tt x) e = (evI T n it e).bind fun p => if szB p.1.length then (lcL (evC T n t vs tt x) p.1 p.2).bind fun z => some (true, .list z.1, z.2) else none := rfl
theorem q_push {i : Nat} {x : RE} : evE T (n + 1) (.push i x) e = (slotL e i).bind fun _ => (evE T n x e).bind fun p => (slotL p.2.2 i).bind fun l => if szB (l.length + 1) then some (false, .none, putL p.2.2 i (l ++ [p.2.1])) else none := rfl
theorem q_pop {i : Nat} : evE T (n + 1) (.pop i) e = (slotL e i).bind fun l => (l[l.length - 1]?).bind fun d => some (false, d, putL e i l.dropLast) := rfl
theorem q_evc {t : Tg} {vs : List Nat} {tt : Option RT} {x : RE} {d : D} : evC T (n + 1) t vs tt x d e = if vs.all (fun v => plainS (e.sl.getD v .no)) then (stT (wipeE e vs) t d).bind fun e1 => (evTo T n tt e1).bind fun p => if p.1 then (evE T n x p.2).bind fun q => some (some q.2.1, restE e q.2.2 vs) else some (none, restE e p.2 vs) else none := rfl
theorem q_to0 : evTo T (n + 1) none e = some (true, e) := rfl
theorem q_to1 {t : RT} : evTo T (n + 1) (some t) e = evT T n t e := rfl
def intD : D → Option Int
  | .int i => some i
  | _ => none
theorem q_o0 : evO T (n + 1) none e = some (none, e) := rfl
theorem q_o1 {a : RE} : evO T (n + 1) (some a) e = (evE T n a e).bind fun p => (intD p.2.1).bind fun i => some (some i, p.2.2) := by
  rw [evO]
  congr 1
  funext p
  obtain ⟨o, d, e⟩ := p
  cases d <;> rfl
theorem q_intD {i : Int} : intD (.int i) = some i := rfl
theorem q_a0 : evA T (n + 1) [] e = some ([], e) := rfl
theorem q_a1 {a : RE} {es : List RE} : evA T (n + 1) (a :: es) e = (evE T n a e).bind fun p => (evA T n es p.2.2).bind fun q => some (p.2.1 :: q.1, q.2) := rfl
theorem q_tnt {a : RT} : evT T (n + 1) (.nt a) e = (evT T n a e).bind fun p => some (!p.1, p.2) := rfl
theorem q_tbop {op : BoolOp} {a b : RT} : evT T (n + 1) (.bop op a b) e = (evT T n a e).bind fun p => if opStop op p.1 then some p else evT T n b p.2 := rfl
theorem q_tcmp {op : CmpOp} {a b : RE} : evT T (n + 1) (.cmp op a b) e = (evE T n a e).bind fun p => (evE T n b p.2.2).bind fun q => (cmpD op p.2.1 q.2.1).bind fun k => some (k, q.2.2) := rfl
theorem q_chn {op op' : CmpOp} {a b c : RE} : evE T (n + 1) (.chn op op' a b c) e = (evE T n a e).bind fun p => (evE T n b p.2.2).bind fun q => (cmpD op p.2.1 q.2.1).bind fun k => if k then (evE T n c q.2.2).bind fun r => (cmpD op' q.2.1 r.2.1).bind fun k2 => some (false, .bool k2, r.2.2) else some (false, .bool false, q.2.2) := rfl
theorem q_tchn {op op' : CmpOp} {a b c : RE} : evT T (n + 1) (.chn op op' a b c) e = (evE T n a e).bind fun p => (evE T n b p.2.2).bind fun q => (cmpD op p.2.1 q.2.1).bind fun k => if k then (evE T n c q.2.2).bind fun r => (cmpD op' q.2.1 r.2.1).bind fun k2 => some (k2, r.2.2) else some (false, q.2.2) := rfl
theorem q_tval {a : RE} : evT T (n + 1) (.val a) e = (evE T n a e).bind fun p => (truD p.2.1).bind fun k => some (k, p.2.2) := rfl
theorem q_tnm {i : Nat} : evT T (n + 1) (.nm i) e = (atS e i).bind fun p => (truD p.2.1).bind fun k => some (k, p.2.2) := by
  rw [evT]
  unfold atS
  cases slotL e i with
  | none => simp only; cases lockS e i <;> rfl
  | some l => rfl
theorem q_iseq {a : RE} : evI T (n + 1) (.seq a) e = (evE T n a e).bind fun p => (itemsD p.2.1).bind fun l => some (l, p.2.2) := rfl
theorem q_irng {es : List RE} : evI T (n + 1) (.rng es) e = (evA T n es e).bind fun p => (rngL p.1).bind fun l => some (l, p.2) := rfl
theorem q_ienu {es : List RE} : evI T (n + 1) (.enu es) e = (evA T n es e).bind fun p => (enuL p.1).bind fun l => some (l, p.2) := rfl
theorem q_izip {a b : RE} : evI T (n + 1) (.zip a b) e = (evE T n a e).bind fun p => (evE T n b p.2.2).bind fun q => (seqD p.2.1).bind fun l => (seqD q.2.1).bind fun m => some (zipD l.2 m.2, q.2.2) := rfl
theorem q_iez {a b : RE} : evI T (n + 1) (.ez a b) e = (evE T n a e).bind fun p => (evE T n b p.2.2).bind fun q => (seqD p.2.1).bind fun l => (seqD q.2.1).bind fun m => some (enumD 0 (zipD l.2 m.2), q.2.2) := rfl
theorem q_irev {a : RE} : evI T (n + 1) (.rev a) e = (evE T n a e).bind fun p => (seqD p.2.1).bind fun l => some (l.2.reverse, p.2.2) := rfl
theorem q_sset {i : Nat} {a : RE} : evS T (n + 1) (.set i a) e = (evE T n a e).bind fun p => if i < p.2.2.sl.length then some (.nx (setS p.2.2 i p.1 p.2.1)) else none := rfl
theorem q_stgt {t : Tg} {a : RE} : evS T (n + 1) (.tgt t a) e = (evE T n a e).bind fun p => (stT p.2.2 t p.2.1).bind fun z => some (.nx z) := rfl
theorem q_spro {i j : Nat} {a b : RE} : evS T (n + 1) (.pro i j a b) e = (evE T n a e).bind fun y => (evE T n b y.2.2).bind fun z => if i < z.2.2.sl.length then if j < z.2.2.sl.length then some (.nx (setS (setS z.2.2 i false y.2.1) j z.1 z.2.1)) else none else none := rfl
theorem q_spar {is : List Nat} {es : List RE} : evS T (n + 1) (.par is es) e = (evA T n es e).bind fun p => (stAll p.2 is p.1).bind fun z => some (.nx z) := rfl
theorem q_sput {i : Nat} {b a : RE} : evS T (n + 1) (.put i b a) e = (evE T n a e).bind fun p => (slotL p.2.2 i).bind fun _ => (evE T n b p.2.2).bind fun q => (intD q.2.1).bind fun k => (slotL q.2.2 i).bind fun l => (ixN l.length k).bind fun j => some (.nx (putL q.2.2 i (l.set j p.2.1))) := by
  rw [evS]
  congr 1
  funext p
  congr 1
  funext _
  congr 1
  funext q
  obtain ⟨o, d, e⟩ := q
  cases d <;> rfl
theorem q_sret {a : RE} : evS T (n + 1) (.ret a) e = (evE T n a e).bind fun p => some (.rt p.1 p.2.1 p.2.2) := rfl
theorem q_sretn : evS T (n + 1) .retn e = some (.rt false .none e) := rfl
theorem q_sife {t : RT} {a b : List RS} : evS T (n + 1) (.ife t a b) e = (evT T n t e).bind fun p => if p.1 then evSs T n a p.2 else evSs T n b p.2 := rfl
theorem q_swhl {t : RT} {b : List RS} : evS T (n + 1) (.whl t b) e = whileL (evT T n t) (evSs T n b) T.W e := rfl
theorem q_sfor {t : Tg} {it : RI} {b : List RS} : evS T (n + 1) (.for t it b) e = (evI T n it e).bind fun p => forL (bodyF T n t b) p.1 p.2 := rfl
theorem q_sex {a : RE} : evS T (n + 1) (.ex a) e = (evE T n a e).bind fun p => some (.nx p.2.2) := rfl
theorem q_spass : evS T (n + 1) .pass e = some (.nx e) := rfl
theorem q_sbrk : evS T (n + 1) .brk e = some (.bk e) := rfl
theorem q_scnt : evS T (n + 1) .cnt e = some (.ct e) := rfl
theorem q_ss0 : evSs T (n + 1) [] e = some (.nx e) := rfl
theorem q_ss1 {s : RS} {ss : List RS} : evSs T (n + 1) (s :: ss) e = (evS T n s e).bind (goOn T n ss) := by
  rw [evSs]
  congr 1
theorem q_gonx {ss : List RS} : goOn T n ss (.nx e) = evSs T n ss e := rfl
theorem q_gort {ss : List RS} {o : Bool} {d : D} : goOn T n ss (.rt o d e) = some (.rt o d e) := rfl
theorem q_gobk {ss : List RS} : goOn T n ss (.bk e) = some (.bk e) := rfl
theorem q_goct {ss : List RS} : goOn T n ss (.ct e) = some (.ct e) := rfl
/-! operators -/
theorem q_add {o : Bool} {i j : Int} : binD .Add o (.int i) (.int j) = some (false, .int (i + j)) := rfl
theorem q_addl {o : Bool} {a b : List D} : binD .Add o (.list a) (.list b) = if szB (a.length + b.length) then some (true, .list (a ++ b)) else none := rfl
theorem q_addt {o : Bool} {a b : List D} : binD .Add o (.tuple a) (.tuple b) = if szB (a.length + b.length) then some (false, .tuple (a ++ b)) else none := rfl
theorem q_sub {o : Bool} {i j : Int} : binD .Sub o (.int i) (.int j) = some (false, .int (i - j)) := rfl
theorem q_mul {o : Bool} {i j : Int} : binD .Mult o (.int i) (.int j) = if mulB i j then some (false, .int (i * j)) else none := by cases o <;> rfl
theorem q_mull {a : List D} {k : Int} : binD .Mult true (.list a) (.int k) = if repB a.length k then some (true, .list (List.replicate k.toNat a).flatten) else none := rfl
theorem q_mult {o : Bool} {a : List D} {k : Int} : binD .Mult o (.tuple a) (.int k) = if timB a.length k then some (false, .tuple (List.replicate k.toNat a).flatten) else none := by cases o <;> rfl
theorem q_div {o : Bool} {i j : Int} : binD .FloorDiv o (.int i) (.int j) = if divB j then some (false, .int (i / j)) else none := rfl
theorem q_mod {o : Bool} {i j : Int} : binD .Mod o (.int i) (.int j) = if posB j then some (false, .int (i % j)) else none := rfl
theorem q_pow {o : Bool} {i j : Int} : binD .Pow o (.int i) (.int j) = if powB i j then some (false, .int (i ^ j.toNat)) else none := rfl
theorem q_eq {d c : D} : cmpD .Eq d c = if shp d && shp c then some (PyData.eqv d c) else none := by cases d <;> rfl
theorem q_ne {d c : D} : cmpD .NotEq d c = if shp d && shp c then some (!PyData.eqv d c) else none := by cases d <;> rfl
theorem q_lt {i j : Int} : cmpD .Lt (.int i) (.int j) = some (decide (i < j)) := rfl
theorem q_le {i j : Int} : cmpD .LtE (.int i) (.int j) = some (decide (i ≤ j)) := rfl
theorem q_gt {i j : Int} : cmpD .Gt (.int i) (.int j) = some (decide (j < i)) := rfl
theorem q_ge {i j : Int} : cmpD .GtE (.int i) (.int j) = some (decide (j ≤ i)) := rfl
theorem q_is1 : cmpD .Is .none .none = some true := rfl
theorem q_is2 {l : List D} : cmpD .Is (.tuple l) .none = some false := rfl
theorem q_is3 {l : List D} : cmpD .Is (.list l) .none = some false := rfl
theorem q_is4 {i : Int} : cmpD .Is (.int i) .none = some false := rfl
theorem q_is5 {b : Bool} : cmpD .Is (.bool b) .none = some false := rfl
theorem q_tr0 : truD .none = some false := rfl
theorem q_trb {b : Bool} : truD (.bool b) = some b := rfl
theorem q_tri {i : Int} : truD (.int i) = some (i != 0) := rfl
theorem q_trl {l : List D} : truD (.list l) = some (!l.isEmpty) := rfl
theorem q_trt {l : List D} : truD (.tuple l) = some (!l.isEmpty) := rfl
theorem q_ixl {l : List D} {i : Int} : ixD (.list l) (.int i) = atI l i := rfl
theorem q_ixt {l : List D} {i : Int} : ixD (.tuple l) (.int i) = atI l i := rfl
theorem q_sll {l : List D} {lo hi : Option Int} : slD (.list l) lo hi = some (true, .list (Fz.cutD l lo hi)) := rfl
theorem q_slt {l : List D} {lo hi : Option Int} : slD (.tuple l) lo hi = some (false, .tuple (Fz.cutD l lo hi)) := rfl
theorem q_sls {l : List D} {lo hi : Option Int} : slD (.dict [(.none, .list l)]) lo hi = some (true, .list (Fz.cutD l lo hi)) := rfl
theorem q_lenl {l : List D} : bltD .len [.list l] = some (false, .int l.length) := rfl
theorem q_lent {l : List D} : bltD .len [.tuple l] = some (false, .int l.length) := rfl
theorem q_inti {i : Int} : bltD .int [.int i] = some (false, .int i) := rfl
theorem q_absi {i : Int} : bltD .abs [.int i] = some (false, .int (if i < 0 then -i else i)) := rfl
theorem q_lisl {l : List D} : bltD .list [.list l] = some (true, .list l) := rfl
theorem q_list {l : List D} : bltD .list [.tuple l] = some (true, .list l) := rfl
theorem q_tupl {l : List D} : bltD .tuple [.list l] = some (false, .tuple l) := rfl
theorem q_tupt {l : List D} : bltD .tuple [.tuple l] = some (false, .tuple l) := rfl
theorem q_all {l : List D} : bltD .all [.list l] = (allB l).bind fun bs => some (false, .bool (bs.all id)) := by
  show (allB l).map _ = _
  cases allB l <;> rfl
theorem q_maxl {l : List D} : bltD .max [.list l] = (allI l).bind fun ns => ns.max?.map fun m => (false, .int m) := rfl
theorem q_max {i j : Int} : bltD .max [.int i, .int j] = some (false, .int (if j > i then j else i)) := rfl
theorem q_min {i j : Int} : bltD .min [.int i, .int j] = some (false, .int (if j < i then j else i)) := rfl
theorem q_itl {l : List D} : itemsD (.list l) = some l := rfl
theorem q_itt {l : List D} : itemsD (.tuple l) = some l := rfl
theorem q_seql {l : List D} : seqD (.list l) = some (true, l) := rfl
theorem q_seqt {l : List D} : seqD (.tuple l) = some (false, l) := rfl
theorem q_rng1 {i : Int} : rngL [.int i] = if b62 i then some (rngD 0 i.toNat) else none := rfl
theorem q_rng2 {i j : Int} : rngL [.int i, .int j] = if b62 i && b62 j then some (rngD i (j - i).toNat) else none := rfl
theorem q_enu1 {d : D} : enuL [d] = (seqD d).bind fun k => some (enumD 0 k.2) := by
  show (seqD d).map _ = _
  cases seqD d <;> rfl
theorem q_enu2 {d : D} {c : Int} : enuL [d, .int c] = if b62 c then (seqD d).bind fun k => some (enumD c k.2) else none := by
  show (if _ then (seqD d).map _ else _) = _
  cases seqD d <;> rfl
theorem q_end1 : endD (.nx e) = some (false, .none, e.bg) := rfl
theorem q_end2 {o : Bool} {d : D} : endD (.rt o d e) = some (o, d, e.bg) := rfl
theorem q_own {l : List D} : slotOf true (.list l) = .own l := rfl
theorem q_val {d : D} : slotOf false d = .val d := by cases d <;> rfl
theorem q_st1 {i : Nat} {d : D} : stT e (.one i) d = if i < e.sl.length then some (setS e i false d) else none := rfl
theorem q_stt {l : List Nat} {ds : List D} : stT e (.tup l) (.tuple ds) = stAll e l ds := rfl
theorem q_stpr {i : Nat} {l : List Nat} {x : D} {ds : List D} : stT e (.pr i l) (.tuple [x, .tuple ds]) = if i < e.sl.length then stAll (setS e i false x) l ds else none := rfl
theorem q_sta0 : stAll e [] [] = some e := rfl
theorem q_sta1 {i : Nat} {l : List Nat} {d : D} {ds : List D} : stAll e (i :: l) (d :: ds) = if i < e.sl.length then stAll (setS e i false d) l ds else none := rfl
theorem q_re1 {i : Nat} {d : D} : reS e i true d = (slotL e i).bind fun l => some (.list l) := rfl
theorem q_re0 {i : Nat} {d : D} : reS e i false d = some d := rfl
end
section
variable {sl : List Sl} {bg : List D} {i : Nat}
theorem q_lkv {d : D} {s : List Sl} (h : sl[i]? = some (.val d)) : lockS ⟨sl, bg⟩ i = some (d, ⟨sl, bg⟩) := by unfold lockS; rw [h]
theorem q_lko {l : List D} (h : sl[i]? = some (.own l)) : lockS ⟨sl, bg⟩ i = some (.list l, ⟨sl.set i (.val (.list l)), bg⟩) := by unfold lockS; rw [h]
theorem q_atv {d : D} (h : sl[i]? = some (.val d)) : atS ⟨sl, bg⟩ i = some (false, d, ⟨sl, bg⟩) := by unfold atS slotL lockS; rw [h]; rfl
theorem q_ato {l : List D} (h : sl[i]? = some (.own l)) : atS ⟨sl, bg⟩ i = some (true, .list l, ⟨sl, bg⟩) := by unfold atS slotL; rw [h]
theorem q_atb (h : sl[i]? = some .bag) : atS ⟨sl, bg⟩ i = some (true, .list bg, ⟨sl, bg⟩) := by unfold atS slotL; rw [h]
theorem q_slo {l : List D} (h : sl[i]? = some (.own l)) : slotL ⟨sl, bg⟩ i = some l := by unfold slotL; rw [h]
theorem q_slb (h : sl[i]? = some .bag) : slotL ⟨sl, bg⟩ i = some bg := by unfold slotL; rw [h]
theorem q_pto {l m : List D} (h : sl[i]? = some (.own m)) : putL ⟨sl, bg⟩ i l = ⟨sl.set i (.own l), bg⟩ := by unfold putL; rw [h]
theorem q_ptb {l : List D} (h : sl[i]? = some .bag) : putL ⟨sl, bg⟩ i l = ⟨sl, l⟩ := by unfold putL; rw [h]
end
theorem forL_nx {f : D → En → Option SR} {d : D} {ds : List D} {e e2 : En} (h : f d e = some (.nx e2)) : forL f (d :: ds) e = forL f ds e2 := by
  rw [forL, h]
theorem forL_ct {f : D → En → Option SR} {d : D} {ds : List D} {e e2 : En} (h : f d e = some (.ct e2)) : forL f (d :: ds) e = forL f ds e2 := by
  rw [forL, h]
theorem forL_rt {f : D → En → Option SR} {d c : D} {ds : List D} {o : Bool} {e e2 : En} (h : f d e = some (.rt o c e2)) : forL f (d :: ds) e = some (.rt o c e2) := by
  rw [forL, h]
/-! ### calls by the place of the table -/
structure At (fs : List (Str × Fn)) (j : Nat) (io : Bool) (n : Nat) (d : List D → Option (Bool × D × List D)) : Prop where
  ex : ∃ x ps kws, fs[j]? = some (x, ⟨ps, io, kws, d⟩) ∧ ps.length = n
def cAt (fs : List (Str × Fn)) (j : Nat) (ds : List D) : Option (Bool × D) := (fs[j]?).bind fun f => callF f ds
def bAt (fs : List (Str × Fn)) (j : Nat) (bs ds : List D) : Option (Bool × D × List D) := (fs[j]?).bind fun f => callB f bs ds
def kAt (fs : List (Str × Fn)) (j m k : Nat) (as bs : List D) : Option (Bool × D) := (fs[j]?).bind fun f => callK f m k as bs
section
variable {fs : List (Str × Fn)} {j n : Nat} {d : List D → Option (Bool × D × List D)}
theorem At.c (h : At fs j false n d) {ds l : List D} {o : Bool} {z : D} (hl : ds.length = n) (hz : d ds = some (o, z, l)) : cAt fs j ds = some (o, z) := by
  obtain ⟨x, ps, kws, e, hp⟩ := h.ex
  unfold cAt callF
  rw [e, Option.bind_some, if_pos ⟨rfl, hl.trans hp.symm⟩]
  show (d ds).bind _ = _
  rw [hz]
  rfl
theorem At.b (h : At fs j true n d) {bs ds : List D} {z : Bool × D × List D} (hl : ds.length + 1 = n) (hz : d (.list bs :: ds) = some z) : bAt fs j bs ds = some z := by
  obtain ⟨x, ps, kws, e, hp⟩ := h.ex
  unfold bAt callB
  rw [e, Option.bind_some, if_pos ⟨rfl, hl.trans hp.symm⟩]
  exact hz
theorem At.of {x : Str} {ps : List Str} {kws : List Kw} {io : Bool} (h : fs[j]? = some (x, ⟨ps, io, kws, d⟩)) (hp : ps.length = n) : At fs j io n d := ⟨x, ps, kws, h, hp⟩
/-- a call by names: the same by place -/
theorem kAt_of {x : Str} {ps : List Str} {kws : List Kw} {m k : Nat} {kw : Kw} {as bs es : List D} (h : fs[j]? = some (x, ⟨ps, false, kws, d⟩)) (hk : kws[m]? = some kw) (h1 : as.length = k) (h2 : bs.length = kw.ks.length) (h3 : arr kw.perm as bs = es) : kAt fs j m k as bs = cAt fs j es := by
  unfold kAt cAt callF callK
  rw [h, Option.bind_some, Option.bind_some]
  show (kws[m]?).bind _ = _
  rw [hk, Option.bind_some, h3]
  by_cases hl : es.length = ps.length
  · rw [if_pos ⟨rfl, h1, h2, hl⟩, if_pos ⟨rfl, hl⟩]
  · rw [if_neg (fun q => hl q.2.2.2), if_neg (fun q => hl q.2)]
end
section
variable {T : Tb} {n : Nat} {e : En}
theorem q_appA {j : Nat} {es : List RE} : evE T (n + 1) (.app j es) e = (evA T n es e).bind fun p => (cAt T.fs j p.1).bind fun z => some (z.1, z.2, p.2) := by
  rw [q_app]
  congr 1
  funext p
  unfold cAt
  cases T.fs[j]? <;> rfl
theorem q_appioA {j i : Nat} {es : List RE} : evE T (n + 1) (.appio j i es) e = (slotL e i).bind fun _ => (evA T n es e).bind fun p => (slotL p.2 i).bind fun bs => (bAt T.fs j bs p.1).bind fun z => some (z.1, z.2.1, putL p.2 i z.2.2) := by
  rw [q_appio]
  congr 1
  funext _
  congr 1
  funext p
  congr 1
  funext bs
  unfold bAt
  cases T.fs[j]? <;> rfl
theorem q_appkA {j m : Nat} {es ks : List RE} : evE T (n + 1) (.appk j m es ks) e = (evA T n es e).bind fun p => (evA T n ks p.2).bind fun q => (kAt T.fs j m es.length p.1 q.1).bind fun z => some (z.1, z.2, q.2) := by
  rw [q_appk]
  congr 1
  funext p
  congr 1
  funext q
  unfold kAt
  cases T.fs[j]? <;> rfl
end
/-! ### data that == may be asked of -/
def pl : Nat → D → Bool
  | _, .none => true
  | _, .bool _ => true
  | _, .int _ => true
  | n + 1, .list l => l.all (pl n)
  | n + 1, .tuple l => l.all (pl n)
  | _, _ => false
theorem pl_all {n : Nat} (h : ∀ d, pl n d = true → d.canLay0 = true ∧ d.depth ≤ n) : ∀ l : List D, l.all (pl n) = true → PyData.canLayAll0 l = true ∧ PyData.depthAll l ≤ n
  | [], _ => ⟨by simp only [PyData.canLayAll0], by simp [PyData.depthAll]⟩
  | x :: l, q => by
    rw [List.all_cons, Bool.and_eq_true] at q
    obtain ⟨h1, h2⟩ := h x q.1
    obtain ⟨h3, h4⟩ := pl_all h l q.2
    refine ⟨by rw [PyData.canLayAll0, h1, h3]; rfl, ?_⟩
    rw [PyData.depthAll]
    omega
theorem pl_ok : ∀ (n : Nat) (d : D), pl n d = true → d.canLay0 = true ∧ d.depth ≤ n
  | _, .none, _ => ⟨by simp only [PyData.canLay0], by simp [PyData.depth]⟩
  | _, .bool _, _ => ⟨by simp only [PyData.canLay0], by simp [PyData.depth]⟩
  | _, .int _, _ => ⟨by simp only [PyData.canLay0], by simp [PyData.depth]⟩
  | n + 1, .list l, h => by
    obtain ⟨h1, h2⟩ := pl_all (pl_ok n) l h
    exact ⟨by rw [PyData.canLay0]; exact h1, by rw [PyData.depth]; omega⟩
  | n + 1, .tuple l, h => by
    obtain ⟨h1, h2⟩ := pl_all (pl_ok n) l h
    exact ⟨by rw [PyData.canLay0]; exact h1, by rw [PyData.depth]; omega⟩
  | 0, .list l, h => by cases h
  | 0, .tuple l, h => by cases h
  | 0, .str _, h => by cases h
  | n + 1, .str _, h => by cases h
  | 0, .dict _, h => by cases h
  | n + 1, .dict _, h => by cases h
theorem shp_pl {n : Nat} {d : D} (h : pl n d = true) (hn : n ≤ 64) : shp d = true := by
  obtain ⟨h1, h2⟩ := pl_ok n d h
  show (d.canLay0 && decide (d.depth ≤ 64)) = true
  rw [h1, decide_eq_true (show d.depth ≤ 64 by omega)]
  rfl
theorem pl_I (n : Nat) (f : List Int) : (I f).all (pl n) = true := by
  rw [List.all_eq_true]
  intro x hx
  obtain ⟨i, _, rfl⟩ := List.mem_map.mp hx
  cases n <;> rfl
theorem shp_list (f : List Int) : shp (.list (I f)) = true := shp_pl (n := 1) (pl_I 0 f) (by decide)
theorem shp_tup (f : List Int) : shp (.tuple (I f)) = true := shp_pl (n := 1) (pl_I 0 f) (by decide)
theorem eqv_pl : ∀ (n : Nat) (d : D), pl n d = true → PyData.eqv d d = true := by
  intro n
  induction n with
  | zero =>
    intro d h
    cases d with
    | none => rfl
    | bool b => simp [PyData.eqv]
    | int i => simp [PyData.eqv]
    | list l => cases h
    | tuple l => cases h
    | str _ => cases h
    | dict _ => cases h
  | succ n ih =>
    have key : ∀ l : List D, l.all (pl n) = true → PyData.eqvAll l l = true := by
      intro l
      induction l with
      | nil => intro _; rfl
      | cons x l il =>
        intro h
        rw [List.all_cons, Bool.and_eq_true] at h
        show (PyData.eqv x x && PyData.eqvAll l l) = true
        rw [ih x h.1, il h.2]
        rfl
    intro d h
    cases d with
    | none => rfl
    | bool b => simp [PyData.eqv]
    | int i => simp [PyData.eqv]
    | list l => exact key l h
    | tuple l => exact key l h
    | str _ => cases h
    | dict _ => cases h
end Fz
set_option Elab.async false
set_option linter.all false
set_option maxRecDepth 100000
set_option maxHeartbeats 4000000
/-! Fz, part U: the table of the text's defs, one after another; the end. -/
namespace Fz
open PySem PySem.Spec PyProof.Rows L2
abbrev FnP (K : PySem.W.Frag) (x : Str) (st : Stmt) (f : Addr) (fd : FuncData) : Prop := FunD K x x (defArgs st) (defBody st) (defScope st) [] [] f fd
/-- how values come to a def's parameters: by place, and by the names of each pattern -/
structure Bnd (x : Str) (st : Stmt) (fn : Fn) : Prop where
  b : ∀ (kV doc pm : Value) (an : Option Addr) (cdv ct : Value) (us : List Value), us.length = fn.ps.length → bindArgs (PySem.W.fnOf x x (defArgs st) (defBody st) (defScope st) .none kV doc pm an cdv ct) ⟨us, []⟩ = pure (fn.ps.zip us)
  k : ∀ kw ∈ fn.kws, ∀ (kV doc pm : Value) (an : Option Addr) (cdv ct : Value) (us ws : List Value), us.length = kw.n → ws.length = kw.ks.length → bindArgs (PySem.W.fnOf x x (defArgs st) (defBody st) (defScope st) .none kV doc pm an cdv ct) ⟨us, kw.ks.zip ws⟩ = pure (fn.ps.zip (arr kw.perm us ws))
section
variable {P : Program} {w : World} {K : PySem.W.Frag} {mg : Str → Option Value} {base : Heap}
theorem FunD.kbPlain {x : Str} {st : Stmt} {f : Addr} {fd : FuncData} {fn : Fn} (F : FnP K x st f fd) (B : Bnd x st fn) : ∀ kw ∈ fn.kws, KBn K fd fn.ps kw.n kw.ks (arr kw.perm) (arr kw.perm) := by
  intro kw hkw
  obtain ⟨oc, od, dV, kV, doc, pm, an, cdv, ct, osl, rfl, lk, hcd, hD, hK⟩ := F.ex
  rcases hD with ⟨_, rfl⟩ | ⟨e, _⟩
  · exact ⟨fun s us ws X l1 l2 => .of_eq (B.k kw hkw kV doc pm an cdv ct us ws l1 l2), fun r1 r2 => arr_vals r1 r2 kw.perm⟩
  · exact absurd rfl e
/-- a def of the text, once the defs ahead of it are good -/
theorem def_fn {x : Str} {st : Stmt} {f : Addr} {fd : FuncData} {n k W : Nat} {fn : Fn} {b : List RS} {N : List Str} {fs : List (Str × Fn)} (F : FnP K x st f fd) (S : FnScope N fn.ps (defScope st))
    (hb : ∀ y, bltNames.contains y = true → mg y = none) (hf : ∀ (j : Nat) (p : Str × Fn), fs[j]? = some p → Env1 P w K mg base k p.1 p.2) (hc : ckSs ⟨N, fs, W⟩ n (defScope st) (defBody st) b = true)
    (hd : ∀ ds z, fn.den ds = some z → ∃ m, runD ⟨N, fs, W⟩ m fn.io b ds = some z) : FnOk P w K mg base CX0 (k + 1) f fd fn.ps (spD K fn) := by
  have hpl : fn.ps.length ≤ N.length := by have := congrArg List.length S.pre; rw [List.length_take] at this; omega
  refine FunD.ok F S (fun vs H Q E h => ?_) (fun cdv A outer s H vs Q E hr h => ?_)
  · obtain ⟨G, β, ds, o, d, l, h1, h2, _⟩ := h
    exact h2
  · obtain ⟨G, β, ds, o, d, l, h1, h2, ex, ha, q⟩ := h
    obtain ⟨m, hm⟩ := hd ds _ h1
    unfold runD at hm
    rw [Option.bind_eq_some_iff] at hm
    obtain ⟨r, e1, e2⟩ := hm
    have C : Ctx P w K mg base N k (defScope st) (cxOf CX0 P w K mg base N x (defScope st) f cdv A outer s H E).nox := ⟨rfl, rfl, rfl, rfl, rfl, rfl, rfl, hr, rfl, fun _ => rfl, PassesOwn.never⟩
    have hds : DenSs (cxOf CX0 P w K mg base N x (defScope st) f cdv A outer s H E).nox β (defBody st) (en0 N.length fn.io ds) r :=
      (sndS_all ⟨N, fs, W⟩ k n).Ss ⟨⟨rfl, S.nd, rfl, hr, rfl, hb, fun j p hp => ⟨(hf j p hp).ex, (hf j p hp).nd⟩⟩, S.kind, fun _ => rfl, PassesOwn.never⟩ hc e1
    refine ⟨_, PSs.nox pss_w, hds G H (r0 β) (L2.start N vs) _ (start_R (by rw [h2]; exact hpl) ex ha) ?_⟩
    cases r with
    | nx e =>
      cases e2
      intro G' H' ρ' σ' f' r'
      refine q .non G' H' ρ' f' r'.ex (fun a e => ?_) .non
      obtain ⟨b1, ws, b2, b3⟩ := r'.bg a e
      exact ⟨(r'.ow a (by rw [b1]; simp)).1, ws, b2, b3⟩
    | rt o e b =>
      cases e2
      intro v G' H' ρ' σ' f' r' x
      refine q v G' H' ρ' f' r'.ex (fun a e => ?_) x
      obtain ⟨b1, ws, b2, b3⟩ := r'.bg a e
      exact ⟨(r'.ow a (by rw [b1]; simp)).1, ws, b2, b3⟩
    | bk e => cases e2
    | ct e => cases e2
theorem def_env {x : Str} {st : Stmt} {f : Addr} {fd : FuncData} {n k W : Nat} {fn : Fn} {b : List RS} {N : List Str} {fs : List (Str × Fn)} (hmg : mg x = some (.ref f)) (F : FnP K x st f fd) (S : FnScope N fn.ps (defScope st)) (B : Bnd x st fn)
    (hb : ∀ y, bltNames.contains y = true → mg y = none) (hf : ∀ (j : Nat) (p : Str × Fn), fs[j]? = some p → Env1 P w K mg base k p.1 p.2) (hc : ckSs ⟨N, fs, W⟩ n (defScope st) (defBody st) b = true)
    (hd : ∀ ds z, fn.den ds = some z → ∃ m, runD ⟨N, fs, W⟩ m fn.io b ds = some z) (nd : (x == ("__debug__" : Str)) = false) : Env1 P w K mg base (k + 1) x fn :=
  ⟨⟨f, fd, hmg, F.kp, def_fn F S hb hf hc hd, FunD.bindsN F B.b, FunD.kbPlain F B⟩, nd⟩
/-- a def of which nothing is promised -/
theorem void_env {x : Str} {st : Stmt} {f : Addr} {fd : FuncData} {k : Nat} {fn : Fn} {N : List Str} (hmg : mg x = some (.ref f)) (F : FnP K x st f fd) (S : FnScope N fn.ps (defScope st)) (B : Bnd x st fn) (hd : ∀ ds, fn.den ds = none) (nd : (x == ("__debug__" : Str)) = false) : Env1 P w K mg base (k + 1) x fn := by
  refine ⟨⟨f, fd, hmg, F.kp, ?_, FunD.bindsN F B.b, FunD.kbPlain F B⟩, nd⟩
  refine FunD.ok F S (fun vs H Q E h => ?_) (fun cdv A outer s H vs Q E hr h => ?_)
  · obtain ⟨G, β, ds, o, d, l, h1, h2, _⟩ := h
    exact h2
  · obtain ⟨G, β, ds, o, d, l, h1, _⟩ := h
    rw [hd] at h1
    cases h1
theorem Env1.up {x : Str} {fn : Fn} {k : Nat} (h : Env1 P w K mg base k x fn) : Env1 P w K mg base (k + 1) x fn := by
  obtain ⟨f, fd, h1, h2, h3, h4, h5⟩ := h.ex
  exact ⟨⟨f, fd, h1, h2, h3.mono (Nat.le_succ k), h4, h5⟩, h.nd⟩
/-- a table of good defs -/
def Good (P : Program) (w : World) (K : PySem.W.Frag) (mg : Str → Option Value) (base : Heap) (k : Nat) (fs : List (Str × Fn)) : Prop := ∀ (j : Nat) (p : Str × Fn), fs[j]? = some p → Env1 P w K mg base k p.1 p.2
theorem Good.nil {k : Nat} : Good P w K mg base k [] := fun j p h => by simp at h
theorem Good.push {k : Nat} {fs : List (Str × Fn)} {x : Str} {fn : Fn} (g : Good P w K mg base k fs) (e : Env1 P w K mg base (k + 1) x fn) : Good P w K mg base (k + 1) (fs ++ [(x, fn)]) := by
  intro j p h
  rw [List.getElem?_append] at h
  split at h
  · exact (g j p h).up
  · have : (x, fn) = p := by
      cases hj : j - fs.length with
      | zero => rw [hj] at h; simpa using h
      | succ m => rw [hj] at h; simp at h
    cases this
    exact e
theorem Good.upn {k : Nat} {fs : List (Str × Fn)} : ∀ n : Nat, Good P w K mg base k fs → Good P w K mg base (k + n) fs
  | 0, g => g
  | n + 1, g => fun j p h => (Good.upn n g j p h).up
end
/-! ### the law's own call -/
theorem rps_ints {K : PySem.W.Frag} {H : Hp} : ∀ ns : List Int, Rps K H (ns.map V.int) (I ns)
  | [] => .nil
  | n :: ns => .cons (.int n) (rps_ints ns)
theorem law_in {K : PySem.W.Frag} {fn : Fn} (hio : fn.io = false) (hp : fn.ps.length = 1) (hden : ∀ cs : List Int, cs.length ≤ 63 → ∃ l, fn.den [.dict [(.none, .list (I cs))]] = some (false, .bool true, l)) (H : Hp) (a : Addr) (ns : List Int) (hl : ns.length ≤ 63) (hO : Only H) (hS : SqL K H a (ns.map V.int)) :
    spD K fn [.ref a] H (fun v _ => v = .bl true) (fun _ _ _ => False) := by
  obtain ⟨l, hd⟩ := hden ns hl
  refine ⟨H, none, [.dict [(.none, .list (I ns))]], false, .bool true, l, hd, by rw [hp]; rfl, ?_, ?_, fun v G' H' ρ' f ex _ x => ?_⟩
  · exact Evl.Ex.refl H
  · rw [hio]
    refine ⟨rfl, .cons (.scr hS (rps_ints ns)) .nil⟩
  · cases x
    rfl
end Fz
set_option Elab.async false
set_option linter.all false
set_option maxRecDepth 100000
set_option maxHeartbeats 2000000
namespace W1
open PySem PySem.Spec PyProof.Rows L2 Fz
def B_inverse : List RS := [.set 2 (.nm 0), .set 3 (.bin .Mod (.nm 1) (.nm 0)), .set 4 (.int 0), .set 5 (.int 1), .whl (.cmp .Gt (.nm 3) (.int 1)) [.set 6 (.bin .FloorDiv (.nm 2) (.nm 3)), .par [2, 3] [(.nm 3), (.bin .Sub (.nm 2) (.bin .Mult (.nm 6) (.nm 3)))], .par [4, 5] [(.nm 5), (.bin .Sub (.nm 4) (.bin .Mult (.nm 6) (.nm 5)))]], .ret (.bin .Mod (.nm 5) (.nm 0))]
def B_form_of : List RS := [.set 2 (.lc (.one 3) [3] (.seq (.nm 1)) none (.bin .Mod (.nm 3) (.nm 0))), .whl (.bop .And (.nm 2) (.cmp .Eq (.ixn 2 (.neg (.int 1))) (.int 0))) [.ex (.pop 2)], .ret (.blt .tuple [(.nm 2)])]
def B_degree_of : List RS := [.ife (.nt (.nm 0)) [.ret .non] [], .ret (.bin .Sub (.lenn 0) (.int 1))]
def B_add (j1 : Nat) : List RS := [.set 3 (.lc (.tup [4, 5]) [4, 5] (.zip (.nm 1) (.nm 2)) none (.bin .Add (.nm 4) (.nm 5))), .set 6 (.lenn 3), .ret (.app j1 [(.nm 0), (.bin .Add (.bin .Add (.nm 3) (.blt .list [(.sln 1 (some (.nm 6)) none)])) (.blt .list [(.sln 2 (some (.nm 6)) none)]))])]
def B_subtract (j1 : Nat) : List RS := [.set 3 (.lc (.tup [4, 5]) [4, 5] (.zip (.nm 1) (.nm 2)) none (.bin .Sub (.nm 4) (.nm 5))), .set 6 (.lenn 3), .ret (.app j1 [(.nm 0), (.bin .Add (.bin .Add (.nm 3) (.blt .list [(.sln 1 (some (.nm 6)) none)])) (.lc (.one 5) [5] (.seq (.sln 2 (some (.nm 6)) none)) none (.neg (.nm 5))))])]
def B_multiply (j1 : Nat) : List RS := [.ife (.bop .Or (.nt (.nm 1)) (.nt (.nm 2))) [.ret (.tup [])] [], .set 3 (.bin .Mult (.lst [(.int 0)]) (.bin .Sub (.bin .Add (.lenn 1) (.lenn 2)) (.int 1))), .for (.tup [4, 5]) (.enu [(.nm 1)]) [.ife (.cmp .NotEq (.nm 5) (.int 0)) [.for (.tup [6, 7]) (.enu [(.nm 2), (.nm 4)]) [.put 3 (.nm 6) (.bin .Add (.ixn 3 (.nm 6)) (.bin .Mult (.nm 5) (.nm 7)))]] []], .ret (.app j1 [(.nm 0), (.nm 3)])]
def B_scaled (j1 : Nat) : List RS := [.ret (.app j1 [(.nm 0), (.lc (.one 3) [3] (.seq (.nm 1)) none (.bin .Mult (.nm 2) (.nm 3)))])]
def B_raised : List RS := [.ife (.nt (.nm 0)) [.ret (.tup [])] [], .ret (.bin .Add (.bin .Mult (.tup [(.int 0)]) (.nm 1)) (.nm 0))]
def B_monic_of (j0 j6 : Nat) : List RS := [.ife (.nt (.nm 1)) [.ret (.tup [])] [], .ret (.app j6 [(.nm 0), (.nm 1), (.app j0 [(.nm 0), (.ixn 1 (.neg (.int 1)))])])]
def B_value_at : List RS := [.set 3 (.int 0), .for (.one 4) (.rev (.nm 1)) [.set 3 (.bin .Mod (.bin .Add (.bin .Mult (.nm 3) (.nm 2)) (.nm 4)) (.nm 0))], .ret (.nm 3)]
def B_q_bag : List RS := [.set 1 (.int 4201), .for (.one 2) (.seq (.sln 0 none (some (.int 63)))) [.set 1 (.bin .Mod (.blt .int [(.bin .Add (.bin .Add (.bin .Mult (.nm 1) (.int 69621)) (.bin .Mult (.bin .Mod (.blt .int [(.nm 2)]) (.int 999983)) (.int 733))) (.int 17))]) (.int 2147483629))], .ret (.lst [(.blt .list [(.sln 0 none (some (.int 63)))]), (.int 0), (.int 0), (.nm 1), (.int 0)])]
def B_q_draw : List RS := [.put 0 (.int 4) (.bin .Add (.ixn 0 (.int 4)) (.int 1)), .ife (.bop .And (.cmp .Eq (.ixn 0 (.int 2)) (.int 0)) (.cmp .Lt (.ixn 0 (.int 1)) (.blt .len [(.ixn 0 (.int 0))]))) [.set 2 (.blt .int [(.ix (.ixn 0 (.int 0)) (.ixn 0 (.int 1)))]), .put 0 (.int 1) (.bin .Add (.ixn 0 (.int 1)) (.int 1)), .ife (.cmp .GtE (.blt .abs [(.nm 2)]) (.bin .Pow (.int 10) (.int 18))) [.put 0 (.int 2) (.blt .abs [(.nm 2)])] [.put 0 (.int 3) (.bin .Mod (.blt .int [(.bin .Add (.bin .Add (.bin .Mult (.ixn 0 (.int 3)) (.int 16381)) (.bin .Mult (.bin .Mod (.blt .int [(.nm 2)]) (.int 999983)) (.int 1013))) (.int 7))]) (.int 2147483587))]] [], .ife (.cmp .Gt (.ixn 0 (.int 2)) (.int 0)) [.set 3 (.bin .Mod (.blt .int [(.ixn 0 (.int 2))]) (.nm 1)), .put 0 (.int 2) (.bin .FloorDiv (.ixn 0 (.int 2)) (.nm 1)), .ret (.nm 3)] [], .set 4 (.blt .int [(.ixn 0 (.int 3))]), .put 0 (.int 3) (.bin .Mod (.blt .int [(.bin .Add (.bin .Add (.bin .Add (.bin .Pow (.nm 4) (.int 3)) (.bin .Mult (.nm 4) (.int 31337))) (.bin .Mult (.ixn 0 (.int 4)) (.int 104729))) (.int 50021))]) (.int 2147483549)), .ret (.bin .Mod (.blt .int [(.bin .Add (.bin .FloorDiv (.ixn 0 (.int 3)) (.int 67)) (.bin .Mult (.bin .Mod (.blt .int [(.ixn 0 (.int 3))]) (.int 7919)) (.int 61)))]) (.nm 1))]
def B_q_of (j11 : Nat) : List RS := [.ret (.ixn 1 (.appio j11 0 [(.lenn 1)]))]
def B_q_same (j13 : Nat) : List RS := [.ife (.val (.isi (.nm 1) ["list", "tuple"])) [.ife (.bop .Or (.cmp .NotEq (.isi (.nm 0) ["list"]) (.isi (.nm 1) ["list"])) (.cmp .NotEq (.isi (.nm 0) ["tuple"]) (.isi (.nm 1) ["tuple"]))) [.ret (.bl false)] [], .ret (.bop .And (.cmp .Eq (.lenn 0) (.lenn 1)) (.blt .all [(.lc (.tup [2, 3]) [2, 3] (.zip (.nm 0) (.nm 1)) none (.app j13 [(.nm 2), (.nm 3)]))]))] [], .ife (.val (.isi (.nm 0) ["list", "tuple"])) [.ret (.bl false)] [], .ife (.bop .Or (.cmp .Is (.nm 1) .non) (.cmp .Is (.nm 0) .non)) [.ret (.bop .And (.cmp .Is (.nm 1) .non) (.cmp .Is (.nm 0) .non))] [], .ife (.bop .Or (.val (.isi (.nm 1) ["bool"])) (.val (.isi (.nm 0) ["bool"]))) [.ret (.bop .And (.isi (.nm 1) ["bool"]) (.bop .And (.isi (.nm 0) ["bool"]) (.cmp .Eq (.nm 0) (.nm 1))))] [], .ife (.bop .Or (.val (.isi (.nm 1) ["int"])) (.val (.isi (.nm 0) ["int"]))) [.ret (.bop .And (.isi (.nm 1) ["int"]) (.bop .And (.isi (.nm 0) ["int"]) (.cmp .Eq (.nm 0) (.nm 1))))] [], .ife (.bop .Or (.val (.isi (.nm 1) ["str"])) (.val (.isi (.nm 0) ["str"]))) [.ret (.bop .And (.isi (.nm 1) ["str"]) (.bop .And (.isi (.nm 0) ["str"]) (.cmp .Eq (.nm 0) (.nm 1))))] [], .ret (.cmp .Eq (.nm 0) (.nm 1))]
def B_q_is_num : List RS := [.ret (.bop .And (.isi (.nm 0) ["int"]) (.not (.isi (.nm 0) ["bool"])))]
def B_q_primes : List RS := [.ret (.lc (.one 0) [0] (.rng [(.int 2), (.int 98)]) (some (.cmp .Eq (.lc (.one 1) [1] (.rng [(.int 2), (.nm 0)]) (some (.cmp .Eq (.bin .Mult (.bin .FloorDiv (.nm 0) (.nm 1)) (.nm 1)) (.nm 0))) (.nm 1)) (.lst []))) (.nm 0))]
def B_q_prime (j11 j12 j15 : Nat) : List RS := [.ife (.cmp .Eq (.appio j11 0 [(.int 6)]) (.int 0)) [.ret (.appio j12 0 [(.app j15 [])])] [], .ret (.appio j12 0 [(.lst [(.int 2), (.int 3), (.int 5), (.int 7), (.int 2), (.int 3), (.int 5), (.int 11), (.int 13)])])]
def B_q_trim : List RS := [.set 1 (.lenn 0), .whl (.bop .And (.cmp .Gt (.nm 1) (.int 0)) (.cmp .Eq (.ixn 0 (.bin .Sub (.nm 1) (.int 1))) (.int 0))) [.set 1 (.bin .Sub (.nm 1) (.int 1))], .ret (.blt .tuple [(.sln 0 none (some (.nm 1)))])]
def B_q_plus (j17 : Nat) : List RS := [.set 3 (.blt .max [(.lenn 1), (.lenn 2)]), .ret (.app j17 [(.lc (.one 4) [4] (.rng [(.nm 3)]) none (.bin .Mod (.blt .int [(.bin .Add (.ife (.cmp .Lt (.nm 4) (.lenn 1)) (.ixn 1 (.nm 4)) (.int 0)) (.ife (.cmp .Lt (.nm 4) (.lenn 2)) (.ixn 2 (.nm 4)) (.int 0)))]) (.nm 0)))])]
def B_q_minus (j17 : Nat) : List RS := [.set 3 (.blt .max [(.lenn 1), (.lenn 2)]), .ret (.app j17 [(.lc (.one 4) [4] (.rng [(.nm 3)]) none (.bin .Mod (.blt .int [(.bin .Sub (.ife (.cmp .Lt (.nm 4) (.lenn 1)) (.ixn 1 (.nm 4)) (.int 0)) (.ife (.cmp .Lt (.nm 4) (.lenn 2)) (.ixn 2 (.nm 4)) (.int 0)))]) (.nm 0)))])]
def B_q_mul (j17 : Nat) : List RS := [.ife (.bop .Or (.cmp .Eq (.lenn 1) (.int 0)) (.cmp .Eq (.lenn 2) (.int 0))) [.ret (.tup [])] [], .set 3 (.bin .Mult (.lst [(.int 0)]) (.bin .Sub (.bin .Add (.lenn 1) (.lenn 2)) (.int 1))), .for (.one 4) (.rng [(.lenn 1)]) [.for (.one 5) (.rng [(.lenn 2)]) [.put 3 (.bin .Add (.nm 4) (.nm 5)) (.bin .Add (.ixn 3 (.bin .Add (.nm 4) (.nm 5))) (.bin .Mult (.ixn 1 (.nm 4)) (.ixn 2 (.nm 5))))]], .ret (.app j17 [(.lc (.one 6) [6] (.seq (.nm 3)) none (.bin .Mod (.blt .int [(.nm 6)]) (.nm 0)))])]
def B_q_val : List RS := [.tgt (.tup [3, 4]) (.tup [(.int 0), (.int 1)]), .for (.one 5) (.seq (.nm 1)) [.set 3 (.bin .Mod (.blt .int [(.bin .Add (.nm 3) (.bin .Mult (.nm 5) (.nm 4)))]) (.nm 0)), .set 4 (.bin .Mod (.blt .int [(.bin .Mult (.nm 4) (.nm 2))]) (.nm 0))], .ret (.nm 3)]
def B_q_is_form (j14 : Nat) : List RS := [.ife (.nt (.val (.isi (.nm 1) ["tuple"]))) [.ret (.bl false)] [], .for (.one 2) (.seq (.nm 1)) [.ife (.bop .Or (.nt (.val (.app j14 [(.nm 2)]))) (.bop .Or (.cmp .Lt (.nm 2) (.int 0)) (.cmp .GtE (.nm 2) (.nm 0)))) [.ret (.bl false)] []], .ret (.bop .Or (.cmp .Eq (.lenn 1) (.int 0)) (.cmp .NotEq (.ixn 1 (.neg (.int 1))) (.int 0)))]
def B_q_form (j11 j17 : Nat) : List RS := [.ret (.app j17 [(.lc (.one 3) [3] (.rng [(.appio j11 0 [(.bin .Add (.nm 2) (.int 2))])]) none (.appio j11 0 [(.nm 1)]))])]
def B_q_read_numbers (j11 j12 : Nat) : List RS := [.set 2 (.appio j12 0 [(.lst [(.int 0), (.int 1), (.int 3), (.int 6), (.int 41)])]), .set 3 (.lc (.one 4) [4] (.rng [(.nm 2)]) none (.appio j12 0 [(.lst [(.int 0), (.nm 1), (.neg (.nm 1)), (.int 1), (.neg (.int 1)), (.bin .Sub (.nm 1) (.int 1)), (.appio j11 0 [(.bin .Pow (.int 10) (.int 9))]), (.bin .Sub (.int 0) (.appio j11 0 [(.bin .Pow (.int 10) (.int 9))])), (.bin .Mult (.int 3) (.nm 1))])])), .ife (.cmp .Eq (.appio j11 0 [(.int 2)]) (.int 0)) [.set 3 (.bin .Add (.sln 3 none (some (.int 38))) (.lc (.one 4) [4] (.rng [(.bin .Add (.int 1) (.appio j11 0 [(.int 3)]))]) none (.appio j12 0 [(.lst [(.int 0), (.nm 1), (.neg (.nm 1)), (.bin .Mult (.int 7) (.nm 1))])])))] [], .set 5 (.tup []), .for (.one 4) (.rng [(.lenn 3)]) [.ife (.cmp .NotEq (.bin .Mod (.blt .int [(.ixn 3 (.nm 4))]) (.nm 1)) (.int 0)) [.set 5 (.blt .tuple [(.lc (.one 6) [6] (.seq (.sln 3 none (some (.bin .Add (.nm 4) (.int 1))))) none (.bin .Mod (.blt .int [(.nm 6)]) (.nm 1)))])] []], .ret (.tup [(.nm 3), (.nm 5)])]
def B_q_pair (j11 j12 j17 j23 : Nat) : List RS := [.par [2, 3] [(.appio j23 0 [(.nm 1), (.appio j12 0 [(.lst [(.int 0), (.int 2), (.int 4), (.int 7), (.int 40)])])]), (.appio j23 0 [(.nm 1), (.appio j12 0 [(.lst [(.int 0), (.int 3), (.int 5), (.int 8), (.int 20)])])])], .set 4 (.appio j11 0 [(.int 5)]), .ife (.cmp .Eq (.nm 4) (.int 0)) [.ret (.tup [(.nm 2), (.nm 2)])] [], .ife (.cmp .Eq (.nm 4) (.int 1)) [.ret (.tup [(.nm 2), (.blt .tuple [(.lc (.one 5) [5] (.seq (.nm 2)) none (.bin .Mod (.blt .int [(.bin .Sub (.int 0) (.nm 5))]) (.nm 1)))])])] [], .ife (.bop .And (.cmp .Eq (.nm 4) (.int 2)) (.cmp .Gt (.lenn 2) (.int 1))) [.set 6 (.appio j11 0 [(.lenn 2)]), .ret (.tup [(.nm 2), (.app j17 [(.lc (.tup [7, 5]) [7, 5] (.enu [(.nm 2)]) none (.ife (.cmp .Lt (.nm 7) (.nm 6)) (.bin .Mod (.blt .int [(.bin .Add (.nm 5) (.int 1))]) (.nm 1)) (.nm 5)))])])] [], .ret (.tup [(.nm 2), (.nm 3)])]
def B_q_values_so (j9 j13 j21 : Nat) : List RS := [.for (.one 4) (.rng [(.blt .min [(.nm 0), (.int 13)])]) [.par [5, 6] [(.app j21 [(.nm 0), (.nm 1), (.nm 4)]), (.app j21 [(.nm 0), (.nm 2), (.nm 4)])], .set 7 (.lst [(.bin .Mod (.blt .int [(.bin .Add (.nm 5) (.nm 6))]) (.nm 0)), (.bin .Mod (.blt .int [(.bin .Sub (.nm 5) (.nm 6))]) (.nm 0)), (.bin .Mod (.blt .int [(.bin .Mult (.nm 5) (.nm 6))]) (.nm 0))]), .ife (.bop .Or (.cmp .NotEq (.lc (.one 8) [8] (.seq (.nm 3)) none (.app j21 [(.nm 0), (.nm 8), (.nm 4)])) (.nm 7)) (.nt (.val (.app j13 [(.lc (.one 8) [8] (.seq (.nm 3)) none (.app j9 [(.nm 0), (.nm 8), (.nm 4)])), (.nm 7)])))) [.ret (.bl false)] []], .ret (.bl true)]
end W1
set_option Elab.async false
set_option linter.all false
set_option maxRecDepth 100000
set_option maxHeartbeats 2000000
namespace W1
open PySem PySem.Spec PyProof.Rows L2 Fz
variable {fs : List (Str × Fn)} {N : List Str} {j0 j1 j2 j3 j4 j5 j6 j7 j8 j9 j10 j11 j12 j13 j14 j15 j16 j17 j18 j19 j20 j21 j22 j23 j24 j25 j26 j27 : Nat}
/-! ### sizes -/
def small (x : Int) : Prop := x.natAbs < 2 ^ 64
theorem small_mul {x y : Int} (hx : small x) (hy : small y) : mulB x y = true := by
  unfold mulB
  rw [decide_eq_true_eq]
  exact wide_mul (a := 64) (b := 64) hx hy (by decide) (by decide) (by decide)
theorem small_of {x : Int} (h1 : -(2 ^ 64) < x) (h2 : x < 2 ^ 64) : small x := by
  unfold small
  omega
/-! ### forms -/
def trim : List Int → List Int
  | [] => []
  | x :: xs => match trim xs with
    | [] => if x = 0 then [] else [x]
    | y :: ys => x :: y :: ys
theorem trim_snoc0 : ∀ xs : List Int, trim (xs ++ [0]) = trim xs
  | [] => rfl
  | x :: xs => by
    show trim (x :: (xs ++ [0])) = trim (x :: xs)
    unfold trim
    rw [trim_snoc0 xs]
theorem trim_snoc : ∀ (xs : List Int) {y : Int}, y ≠ 0 → trim (xs ++ [y]) = xs ++ [y]
  | [], y, h => by simp [trim, h]
  | x :: xs, y, h => by
    show trim (x :: (xs ++ [y])) = x :: (xs ++ [y])
    unfold trim
    rw [trim_snoc xs h]
    cases xs <;> rfl
def formOf (p : Int) (ns : List Int) : List Int := trim (ns.map (· % p))
def zadd (f g : List Int) : List Int := ((f.zip g).map fun q => q.1 + q.2) ++ (f.drop (f.zip g).length ++ g.drop (f.zip g).length)
def zsub (f g : List Int) : List Int := ((f.zip g).map fun q => q.1 - q.2) ++ (f.drop (f.zip g).length ++ (g.drop (f.zip g).length).map (- ·))
def gd (f : List Int) (k : Nat) : Int := f.getD k 0
/-- g, times x, added to s from a place on -/
def addAt (s : List Int) (i : Nat) (x : Int) : List Int → List Int
  | [] => s
  | y :: g => addAt (s.set i (gd s i + x * y)) (i + 1) x g
def mulFrom (g : List Int) : List Int → Nat → List Int → List Int
  | s, _, [] => s
  | s, i, x :: f => mulFrom g (addAt s i x g) (i + 1) f
def mulRaw (f g : List Int) : List Int := mulFrom g (List.replicate (f.length + g.length - 1) 0) 0 f
theorem addAt_len (x : Int) : ∀ (g s : List Int) (i : Nat), (addAt s i x g).length = s.length
  | [], _, _ => rfl
  | y :: g, s, i => by unfold addAt; rw [addAt_len x g, List.length_set]
theorem set_same (s : List Int) (i : Nat) : s.set i (gd s i) = s := by
  unfold gd
  by_cases h : i < s.length
  · rw [List.getD_eq_getElem?_getD, List.getElem?_eq_getElem h]
    exact List.set_getElem_self h
  · exact List.set_eq_of_length_le (by omega)
theorem addAt_zero : ∀ (g s : List Int) (i : Nat), addAt s i 0 g = s
  | [], _, _ => rfl
  | y :: g, s, i => by unfold addAt; rw [Int.zero_mul, Int.add_zero, set_same, addAt_zero g]
theorem mulFrom_len (g : List Int) : ∀ (f s : List Int) (i : Nat), (mulFrom g s i f).length = s.length
  | [], _, _ => rfl
  | x :: f, s, i => by unfold mulFrom; rw [mulFrom_len g f, addAt_len]
theorem mulRaw_len (f g : List Int) : (mulRaw f g).length = f.length + g.length - 1 := by unfold mulRaw; rw [mulFrom_len, List.length_replicate]
def horner (p c : Int) (f : List Int) : Int := f.foldr (fun r v => (v * c + r) % p) 0
/-! ### the words of the defs of the program -/
noncomputable section
def d_form_of : List D → Option (Bool × D × List D)
  | [.int p, d] => (seqD d).bind fun q => (allI q.2).bind fun ns => if 0 < p ∧ ns.length ≤ 100000 then some (false, .tuple (I (formOf p ns)), []) else none
  | _ => none
def d_degree_of : List D → Option (Bool × D × List D)
  | [.tuple l] => (allI l).bind fun f => some (false, if f.isEmpty then .none else .int (f.length - 1), [])
  | _ => none
def two (p : Int) (a b : List D) (k : List Int → List Int → Option D) : Option (Bool × D × List D) := (allI a).bind fun f => (allI b).bind fun g => if 0 < p ∧ f.length ≤ 40000 ∧ g.length ≤ 40000 then (k f g).map fun d => (false, d, []) else none
def d_add : List D → Option (Bool × D × List D)
  | [.int p, .tuple a, .tuple b] => two p a b fun f g => some (.tuple (I (formOf p (zadd f g))))
  | _ => none
def d_subtract : List D → Option (Bool × D × List D)
  | [.int p, .tuple a, .tuple b] => two p a b fun f g => some (.tuple (I (formOf p (zsub f g))))
  | _ => none
open Classical in
def d_multiply : List D → Option (Bool × D × List D)
  | [.int p, .tuple a, .tuple b] => two p a b fun f g => if (∀ x ∈ f, small x) ∧ (∀ x ∈ g, small x) then some (.tuple (if f.isEmpty || g.isEmpty then [] else I (formOf p (mulRaw f g)))) else none
  | _ => none
open Classical in
def d_scaled : List D → Option (Bool × D × List D)
  | [.int p, .tuple a, .int n] => (allI a).bind fun f => if 0 < p ∧ f.length ≤ 40000 ∧ small n ∧ ∀ x ∈ f, small x then some (false, .tuple (I (formOf p (f.map (n * ·)))), []) else none
  | _ => none
def d_raised : List D → Option (Bool × D × List D)
  | [.tuple a, .int n] => (allI a).bind fun f => if 0 ≤ n ∧ n ≤ 1000 ∧ f.length ≤ 40000 then some (false, .tuple (if f.isEmpty then [] else I (List.replicate n.toNat 0 ++ f)), []) else none
  | _ => none
open Classical in
def d_value_at : List D → Option (Bool × D × List D)
  | [.int p, .tuple a, .int c] => (allI a).bind fun f => if 0 < p ∧ p < 4294967296 ∧ 0 ≤ c ∧ c < 4294967296 then some (false, .int (horner p c f), []) else none
  | _ => none
end
end W1
set_option Elab.async false
set_option linter.all false
set_option maxRecDepth 100000
set_option maxHeartbeats 2000000
namespace W1
open PySem PySem.Spec PyProof.Rows L2 Fz
variable {fs : List (Str × Fn)} {N : List Str} {j0 j1 j2 j3 j4 j5 j6 j7 j8 j9 j10 j11 j12 j13 j14 j15 j16 j17 j18 j19 j20 j21 j22 j23 j24 j25 j26 j27 : Nat}
abbrev WW : Nat := 1048576
/-- the place of form_of in the table -/
theorem d_form_at {p : Int} {ns : List Int} (hp : 0 < p) (hl : ns.length ≤ 100000) : d_form_of [.int p, .list (I ns)] = some (false, .tuple (I (formOf p ns)), []) := by
  simp [d_form_of, seqD, hp, hl]
theorem call_form (hF : At fs j1 false 2 d_form_of) {p : Int} {l : List D} {ns : List Int} (hp : 0 < p) (hl : ns.length ≤ 100000) (e : l = I ns) : cAt fs j1 [.int p, .list l] = some (false, .tuple (I (formOf p ns))) := by
  subst e
  exact hF.c rfl (d_form_at hp hl)
/-- the last zeros are popped -/
theorem pop_loop (T : Tb) (a b : Sl) (bg : List D) (m : Nat) : ∀ (n : Nat) (ns : List Int), ns.length < n →
    whileL (evT T (m + 5) (.bop .And (.nm 2) (.cmp .Eq (.ixn 2 (.neg (.int 1))) (.int 0)))) (evSs T (m + 5) [.ex (.pop 2)]) n ⟨[a, b, .own (I ns), .no], bg⟩ = some (.nx ⟨[a, b, .own (I (trim ns)), .no], bg⟩)
  | 0, ns, h => absurd h (Nat.not_lt_zero _)
  | n + 1, ns, h => by
    rcases List.eq_nil_or_concat ns with rfl | ⟨l, y, rfl⟩
    · exact while_end (by rfl)
    · rw [List.concat_eq_append] at h ⊢
      have h2 : atI (I l ++ [.int y]) (-1) = some (.int y) := atI_last _ _
      by_cases e : y = 0
      · subst e
        have ih := pop_loop T a b bg m n l (by simp at h; omega)
        rw [trim_snoc0]
        refine while_step (e1 := ⟨[a, b, .own (I (l ++ [0])), .no], bg⟩) ?_ ?_ ih
        · simp (config := {implicitDefEqProofs := false}) (disch := omega) [h2, q_int, q_bl, q_non, q_nm, q_bin, q_neg, q_negI, q_not, q_bop, q_ife, q_cmp, q_ix, q_ixn, q_sl, q_sln, q_blt, q_lenn, q_isi, q_lst, q_tup, q_lc, q_push, q_pop, q_evc, q_to0, q_to1, q_o0, q_o1, q_intD, q_a0, q_a1, q_tnt, q_tbop, q_tcmp, q_chn, q_tchn, q_tval, q_tnm, q_iseq, q_irng, q_ienu, q_izip, q_iez, q_irev, q_sset, q_stgt, q_spro, q_spar, q_sput, q_sret, q_sretn, q_sife, q_swhl, q_sfor, q_sex, q_spass, q_sbrk, q_scnt, q_ss0, q_ss1, q_gonx, q_gort, q_gobk, q_goct, q_add, q_addl, q_addt, q_sub, q_mul, q_mull, q_mult, q_div, q_mod, q_pow, q_eq, q_ne, q_lt, q_le, q_gt, q_ge, q_is1, q_is2, q_is3, q_is4, q_is5, q_tr0, q_trb, q_tri, q_trl, q_trt, q_ixl, q_ixt, q_sll, q_slt, q_sls, q_lenl, q_lent, q_inti, q_absi, q_lisl, q_list, q_tupl, q_tupt, q_all, q_maxl, q_max, q_min, q_itl, q_itt, q_seql, q_seqt, q_rng1, q_rng2, q_enu1, q_enu2, q_end1, q_end2, q_own, q_val, q_st1, q_stt, q_stpr, q_sta0, q_sta1, q_re1, q_re0, q_appA, q_appioA, q_appkA, ↓bind_o, obind_some, List.getElem?_cons_zero, List.getElem?_cons_succ, List.set_cons_zero, List.set_cons_succ, lockS, slotL, Fz.atS, putL, runD, en0, vals, setS, opStop, wipeE, wipeS, restE, restS, plainS, szB_of, posB_of, b62_of, mulB_of, divB_of, powB_of, repB_one, timB_one, flat_one, I_rep, atI_0, atI_1, atI_2, atI_3, atI_4, ixN_of, cut_from, cut_to, eqv_int, eqv_none, shp_int, shp_bool, shp_none, zip_I]
        · have h3 : (I l ++ [PyData.int 0])[l.length]? = some (.int 0) := by rw [← I_len l]; simp
          simp (config := {implicitDefEqProofs := false}) (disch := omega) [h3, q_int, q_bl, q_non, q_nm, q_bin, q_neg, q_negI, q_not, q_bop, q_ife, q_cmp, q_ix, q_ixn, q_sl, q_sln, q_blt, q_lenn, q_isi, q_lst, q_tup, q_lc, q_push, q_pop, q_evc, q_to0, q_to1, q_o0, q_o1, q_intD, q_a0, q_a1, q_tnt, q_tbop, q_tcmp, q_chn, q_tchn, q_tval, q_tnm, q_iseq, q_irng, q_ienu, q_izip, q_iez, q_irev, q_sset, q_stgt, q_spro, q_spar, q_sput, q_sret, q_sretn, q_sife, q_swhl, q_sfor, q_sex, q_spass, q_sbrk, q_scnt, q_ss0, q_ss1, q_gonx, q_gort, q_gobk, q_goct, q_add, q_addl, q_addt, q_sub, q_mul, q_mull, q_mult, q_div, q_mod, q_pow, q_eq, q_ne, q_lt, q_le, q_gt, q_ge, q_is1, q_is2, q_is3, q_is4, q_is5, q_tr0, q_trb, q_tri, q_trl, q_trt, q_ixl, q_ixt, q_sll, q_slt, q_sls, q_lenl, q_lent, q_inti, q_absi, q_lisl, q_list, q_tupl, q_tupt, q_all, q_maxl, q_max, q_min, q_itl, q_itt, q_seql, q_seqt, q_rng1, q_rng2, q_enu1, q_enu2, q_end1, q_end2, q_own, q_val, q_st1, q_stt, q_stpr, q_sta0, q_sta1, q_re1, q_re0, q_appA, q_appioA, q_appkA, ↓bind_o, obind_some, List.getElem?_cons_zero, List.getElem?_cons_succ, List.set_cons_zero, List.set_cons_succ, lockS, slotL, Fz.atS, putL, runD, en0, vals, setS, opStop, wipeE, wipeS, restE, restS, plainS, szB_of, posB_of, b62_of, mulB_of, divB_of, powB_of, repB_one, timB_one, flat_one, I_rep, atI_0, atI_1, atI_2, atI_3, atI_4, ixN_of, cut_from, cut_to, eqv_int, eqv_none, shp_int, shp_bool, shp_none, zip_I]
      · rw [trim_snoc _ e]
        refine while_end ?_
        simp (config := {implicitDefEqProofs := false}) (disch := omega) [h2, e, q_int, q_bl, q_non, q_nm, q_bin, q_neg, q_negI, q_not, q_bop, q_ife, q_cmp, q_ix, q_ixn, q_sl, q_sln, q_blt, q_lenn, q_isi, q_lst, q_tup, q_lc, q_push, q_pop, q_evc, q_to0, q_to1, q_o0, q_o1, q_intD, q_a0, q_a1, q_tnt, q_tbop, q_tcmp, q_chn, q_tchn, q_tval, q_tnm, q_iseq, q_irng, q_ienu, q_izip, q_iez, q_irev, q_sset, q_stgt, q_spro, q_spar, q_sput, q_sret, q_sretn, q_sife, q_swhl, q_sfor, q_sex, q_spass, q_sbrk, q_scnt, q_ss0, q_ss1, q_gonx, q_gort, q_gobk, q_goct, q_add, q_addl, q_addt, q_sub, q_mul, q_mull, q_mult, q_div, q_mod, q_pow, q_eq, q_ne, q_lt, q_le, q_gt, q_ge, q_is1, q_is2, q_is3, q_is4, q_is5, q_tr0, q_trb, q_tri, q_trl, q_trt, q_ixl, q_ixt, q_sll, q_slt, q_sls, q_lenl, q_lent, q_inti, q_absi, q_lisl, q_list, q_tupl, q_tupt, q_all, q_maxl, q_max, q_min, q_itl, q_itt, q_seql, q_seqt, q_rng1, q_rng2, q_enu1, q_enu2, q_end1, q_end2, q_own, q_val, q_st1, q_stt, q_stpr, q_sta0, q_sta1, q_re1, q_re0, q_appA, q_appioA, q_appkA, ↓bind_o, obind_some, List.getElem?_cons_zero, List.getElem?_cons_succ, List.set_cons_zero, List.set_cons_succ, lockS, slotL, Fz.atS, putL, runD, en0, vals, setS, opStop, wipeE, wipeS, restE, restS, plainS, szB_of, posB_of, b62_of, mulB_of, divB_of, powB_of, repB_one, timB_one, flat_one, I_rep, atI_0, atI_1, atI_2, atI_3, atI_4, ixN_of, cut_from, cut_to, eqv_int, eqv_none, shp_int, shp_bool, shp_none, zip_I]
theorem run_form_of (hN : N.length = 4) {ds : List D} {z : Bool × D × List D} (h : d_form_of ds = some z) : runD ⟨N, fs, WW⟩ 60 false B_form_of ds = some z := by
  unfold d_form_of at h
  split at h
  · rename_i p d
    simp only [Option.bind_eq_some_iff] at h
    obtain ⟨q, hq, ns, hns, h⟩ := h
    split at h
    · rename_i hp
      cases h
      obtain ⟨hp, hl⟩ := hp
      have hi : itemsD d = some (I ns) := by rw [items_of hq, seqI hq hns]
      have hc : ∀ n, lcL (evC ⟨N, fs, WW⟩ (n + 5) (.one 3) [3] none (.bin .Mod (.nm 3) (.nm 0))) (I ns) ⟨[.val (.int p), .val d, .no, .no], []⟩ = some (I (ns.map (· % p)), ⟨[.val (.int p), .val d, .no, .no], []⟩) := by
        intro n
        rw [show I (ns.map (· % p)) = ns.map fun x => PyData.int (x % p) by simp [I]]
        refine lcL_pure _ _ fun x _ => ?_
        simp (config := {implicitDefEqProofs := false}) (disch := omega) [q_int, q_bl, q_non, q_nm, q_bin, q_neg, q_negI, q_not, q_bop, q_ife, q_cmp, q_ix, q_ixn, q_sl, q_sln, q_blt, q_lenn, q_isi, q_lst, q_tup, q_lc, q_push, q_pop, q_evc, q_to0, q_to1, q_o0, q_o1, q_intD, q_a0, q_a1, q_tnt, q_tbop, q_tcmp, q_chn, q_tchn, q_tval, q_tnm, q_iseq, q_irng, q_ienu, q_izip, q_iez, q_irev, q_sset, q_stgt, q_spro, q_spar, q_sput, q_sret, q_sretn, q_sife, q_swhl, q_sfor, q_sex, q_spass, q_sbrk, q_scnt, q_ss0, q_ss1, q_gonx, q_gort, q_gobk, q_goct, q_add, q_addl, q_addt, q_sub, q_mul, q_mull, q_mult, q_div, q_mod, q_pow, q_eq, q_ne, q_lt, q_le, q_gt, q_ge, q_is1, q_is2, q_is3, q_is4, q_is5, q_tr0, q_trb, q_tri, q_trl, q_trt, q_ixl, q_ixt, q_sll, q_slt, q_sls, q_lenl, q_lent, q_inti, q_absi, q_lisl, q_list, q_tupl, q_tupt, q_all, q_maxl, q_max, q_min, q_itl, q_itt, q_seql, q_seqt, q_rng1, q_rng2, q_enu1, q_enu2, q_end1, q_end2, q_own, q_val, q_st1, q_stt, q_stpr, q_sta0, q_sta1, q_re1, q_re0, q_appA, q_appioA, q_appkA, ↓bind_o, obind_some, List.getElem?_cons_zero, List.getElem?_cons_succ, List.set_cons_zero, List.set_cons_succ, lockS, slotL, Fz.atS, putL, runD, en0, vals, setS, opStop, wipeE, wipeS, restE, restS, plainS, szB_of, posB_of, b62_of, mulB_of, divB_of, powB_of, repB_one, timB_one, flat_one, I_rep, atI_0, atI_1, atI_2, atI_3, atI_4, ixN_of, cut_from, cut_to, eqv_int, eqv_none, shp_int, shp_bool, shp_none, zip_I]
      have hw := fun m => pop_loop ⟨N, fs, WW⟩ (.val (.int p)) (.val d) [] m WW (ns.map (· % p)) (by rw [List.length_map]; show ns.length < 1048576; omega)
      simp (config := {implicitDefEqProofs := false}) (disch := omega) [B_form_of, hN, hi, hc, hw, formOf, q_int, q_bl, q_non, q_nm, q_bin, q_neg, q_negI, q_not, q_bop, q_ife, q_cmp, q_ix, q_ixn, q_sl, q_sln, q_blt, q_lenn, q_isi, q_lst, q_tup, q_lc, q_push, q_pop, q_evc, q_to0, q_to1, q_o0, q_o1, q_intD, q_a0, q_a1, q_tnt, q_tbop, q_tcmp, q_chn, q_tchn, q_tval, q_tnm, q_iseq, q_irng, q_ienu, q_izip, q_iez, q_irev, q_sset, q_stgt, q_spro, q_spar, q_sput, q_sret, q_sretn, q_sife, q_swhl, q_sfor, q_sex, q_spass, q_sbrk, q_scnt, q_ss0, q_ss1, q_gonx, q_gort, q_gobk, q_goct, q_add, q_addl, q_addt, q_sub, q_mul, q_mull, q_mult, q_div, q_mod, q_pow, q_eq, q_ne, q_lt, q_le, q_gt, q_ge, q_is1, q_is2, q_is3, q_is4, q_is5, q_tr0, q_trb, q_tri, q_trl, q_trt, q_ixl, q_ixt, q_sll, q_slt, q_sls, q_lenl, q_lent, q_inti, q_absi, q_lisl, q_list, q_tupl, q_tupt, q_all, q_maxl, q_max, q_min, q_itl, q_itt, q_seql, q_seqt, q_rng1, q_rng2, q_enu1, q_enu2, q_end1, q_end2, q_own, q_val, q_st1, q_stt, q_stpr, q_sta0, q_sta1, q_re1, q_re0, q_appA, q_appioA, q_appkA, ↓bind_o, obind_some, List.getElem?_cons_zero, List.getElem?_cons_succ, List.set_cons_zero, List.set_cons_succ, lockS, slotL, Fz.atS, putL, runD, en0, vals, setS, opStop, wipeE, wipeS, restE, restS, plainS, szB_of, posB_of, b62_of, mulB_of, divB_of, powB_of, repB_one, timB_one, flat_one, I_rep, atI_0, atI_1, atI_2, atI_3, atI_4, ixN_of, cut_from, cut_to, eqv_int, eqv_none, shp_int, shp_bool, shp_none, zip_I]
    · cases h
  · cases h
theorem run_degree_of (hN : N.length = 1) {ds : List D} {z : Bool × D × List D} (h : d_degree_of ds = some z) : runD ⟨N, fs, WW⟩ 60 false B_degree_of ds = some z := by
  unfold d_degree_of at h
  split at h
  · rename_i l
    simp only [Option.bind_eq_some_iff, Option.some.injEq] at h
    obtain ⟨f, hf, rfl⟩ := h
    rw [allI_eq hf]
    cases f with
    | nil => rfl
    | cons x f => simp (config := {implicitDefEqProofs := false}) (disch := omega) [B_degree_of, hN, q_int, q_bl, q_non, q_nm, q_bin, q_neg, q_negI, q_not, q_bop, q_ife, q_cmp, q_ix, q_ixn, q_sl, q_sln, q_blt, q_lenn, q_isi, q_lst, q_tup, q_lc, q_push, q_pop, q_evc, q_to0, q_to1, q_o0, q_o1, q_intD, q_a0, q_a1, q_tnt, q_tbop, q_tcmp, q_chn, q_tchn, q_tval, q_tnm, q_iseq, q_irng, q_ienu, q_izip, q_iez, q_irev, q_sset, q_stgt, q_spro, q_spar, q_sput, q_sret, q_sretn, q_sife, q_swhl, q_sfor, q_sex, q_spass, q_sbrk, q_scnt, q_ss0, q_ss1, q_gonx, q_gort, q_gobk, q_goct, q_add, q_addl, q_addt, q_sub, q_mul, q_mull, q_mult, q_div, q_mod, q_pow, q_eq, q_ne, q_lt, q_le, q_gt, q_ge, q_is1, q_is2, q_is3, q_is4, q_is5, q_tr0, q_trb, q_tri, q_trl, q_trt, q_ixl, q_ixt, q_sll, q_slt, q_sls, q_lenl, q_lent, q_inti, q_absi, q_lisl, q_list, q_tupl, q_tupt, q_all, q_maxl, q_max, q_min, q_itl, q_itt, q_seql, q_seqt, q_rng1, q_rng2, q_enu1, q_enu2, q_end1, q_end2, q_own, q_val, q_st1, q_stt, q_stpr, q_sta0, q_sta1, q_re1, q_re0, q_appA, q_appioA, q_appkA, ↓bind_o, obind_some, List.getElem?_cons_zero, List.getElem?_cons_succ, List.set_cons_zero, List.set_cons_succ, lockS, slotL, Fz.atS, putL, runD, en0, vals, setS, opStop, wipeE, wipeS, restE, restS, plainS, szB_of, posB_of, b62_of, mulB_of, divB_of, powB_of, repB_one, timB_one, flat_one, I_rep, atI_0, atI_1, atI_2, atI_3, atI_4, ixN_of, cut_from, cut_to, eqv_int, eqv_none, shp_int, shp_bool, shp_none, zip_I]
  · cases h
theorem run_add (hN : N.length = 7) (hF : At fs j1 false 2 d_form_of) {ds : List D} {z : Bool × D × List D} (h : d_add ds = some z) : runD ⟨N, fs, WW⟩ 60 false (B_add j1) ds = some z := by
  unfold d_add two at h
  split at h
  · rename_i p a b
    simp only [Option.bind_eq_some_iff] at h
    obtain ⟨f, hf, g, hg, h⟩ := h
    split at h
    · rename_i hp
      simp only [Option.map_some, Option.some.injEq] at h
      cases h
      rw [allI_eq hf, allI_eq hg]
      obtain ⟨hp, h1, h2⟩ := hp
      have hc : ∀ n, lcL (evC ⟨N, fs, WW⟩ (n + 5) (.tup [4, 5]) [4, 5] none (.bin .Add (.nm 4) (.nm 5))) ((f.zip g).map fun q => PyData.tuple [.int q.1, .int q.2]) ⟨[.val (.int p), .val (.tuple (I f)), .val (.tuple (I g)), .no, .no, .no, .no], []⟩ = some (I ((f.zip g).map fun q => q.1 + q.2), ⟨[.val (.int p), .val (.tuple (I f)), .val (.tuple (I g)), .no, .no, .no, .no], []⟩) := by
        intro n
        rw [show I ((f.zip g).map fun q => q.1 + q.2) = (f.zip g).map fun q => PyData.int (q.1 + q.2) by simp [I]]
        refine lcL_pure _ _ fun x _ => ?_
        simp (config := {implicitDefEqProofs := false}) (disch := omega) [q_int, q_bl, q_non, q_nm, q_bin, q_neg, q_negI, q_not, q_bop, q_ife, q_cmp, q_ix, q_ixn, q_sl, q_sln, q_blt, q_lenn, q_isi, q_lst, q_tup, q_lc, q_push, q_pop, q_evc, q_to0, q_to1, q_o0, q_o1, q_intD, q_a0, q_a1, q_tnt, q_tbop, q_tcmp, q_chn, q_tchn, q_tval, q_tnm, q_iseq, q_irng, q_ienu, q_izip, q_iez, q_irev, q_sset, q_stgt, q_spro, q_spar, q_sput, q_sret, q_sretn, q_sife, q_swhl, q_sfor, q_sex, q_spass, q_sbrk, q_scnt, q_ss0, q_ss1, q_gonx, q_gort, q_gobk, q_goct, q_add, q_addl, q_addt, q_sub, q_mul, q_mull, q_mult, q_div, q_mod, q_pow, q_eq, q_ne, q_lt, q_le, q_gt, q_ge, q_is1, q_is2, q_is3, q_is4, q_is5, q_tr0, q_trb, q_tri, q_trl, q_trt, q_ixl, q_ixt, q_sll, q_slt, q_sls, q_lenl, q_lent, q_inti, q_absi, q_lisl, q_list, q_tupl, q_tupt, q_all, q_maxl, q_max, q_min, q_itl, q_itt, q_seql, q_seqt, q_rng1, q_rng2, q_enu1, q_enu2, q_end1, q_end2, q_own, q_val, q_st1, q_stt, q_stpr, q_sta0, q_sta1, q_re1, q_re0, q_appA, q_appioA, q_appkA, ↓bind_o, obind_some, List.getElem?_cons_zero, List.getElem?_cons_succ, List.set_cons_zero, List.set_cons_succ, lockS, slotL, Fz.atS, putL, runD, en0, vals, setS, opStop, wipeE, wipeS, restE, restS, plainS, szB_of, posB_of, b62_of, mulB_of, divB_of, powB_of, repB_one, timB_one, flat_one, I_rep, atI_0, atI_1, atI_2, atI_3, atI_4, ixN_of, cut_from, cut_to, eqv_int, eqv_none, shp_int, shp_bool, shp_none, zip_I]
      have hd := call_form hF (p := p) (l := I (List.map (fun q => q.1 + q.2) (f.zip g)) ++ (I (List.drop (min f.length g.length) f) ++ I (List.drop (min f.length g.length) g))) (ns := zadd f g) hp (by unfold zadd; simp; omega) (by simp [zadd])
      simp (config := {implicitDefEqProofs := false}) (disch := omega) [B_add, hN, hc, hF, hd, q_int, q_bl, q_non, q_nm, q_bin, q_neg, q_negI, q_not, q_bop, q_ife, q_cmp, q_ix, q_ixn, q_sl, q_sln, q_blt, q_lenn, q_isi, q_lst, q_tup, q_lc, q_push, q_pop, q_evc, q_to0, q_to1, q_o0, q_o1, q_intD, q_a0, q_a1, q_tnt, q_tbop, q_tcmp, q_chn, q_tchn, q_tval, q_tnm, q_iseq, q_irng, q_ienu, q_izip, q_iez, q_irev, q_sset, q_stgt, q_spro, q_spar, q_sput, q_sret, q_sretn, q_sife, q_swhl, q_sfor, q_sex, q_spass, q_sbrk, q_scnt, q_ss0, q_ss1, q_gonx, q_gort, q_gobk, q_goct, q_add, q_addl, q_addt, q_sub, q_mul, q_mull, q_mult, q_div, q_mod, q_pow, q_eq, q_ne, q_lt, q_le, q_gt, q_ge, q_is1, q_is2, q_is3, q_is4, q_is5, q_tr0, q_trb, q_tri, q_trl, q_trt, q_ixl, q_ixt, q_sll, q_slt, q_sls, q_lenl, q_lent, q_inti, q_absi, q_lisl, q_list, q_tupl, q_tupt, q_all, q_maxl, q_max, q_min, q_itl, q_itt, q_seql, q_seqt, q_rng1, q_rng2, q_enu1, q_enu2, q_end1, q_end2, q_own, q_val, q_st1, q_stt, q_stpr, q_sta0, q_sta1, q_re1, q_re0, q_appA, q_appioA, q_appkA, ↓bind_o, obind_some, List.getElem?_cons_zero, List.getElem?_cons_succ, List.set_cons_zero, List.set_cons_succ, lockS, slotL, Fz.atS, putL, runD, en0, vals, setS, opStop, wipeE, wipeS, restE, restS, plainS, szB_of, posB_of, b62_of, mulB_of, divB_of, powB_of, repB_one, timB_one, flat_one, I_rep, atI_0, atI_1, atI_2, atI_3, atI_4, ixN_of, cut_from, cut_to, eqv_int, eqv_none, shp_int, shp_bool, shp_none, zip_I]
    · cases h
  · cases h
theorem run_subtract (hN : N.length = 7) (hF : At fs j1 false 2 d_form_of) {ds : List D} {z : Bool × D × List D} (h : d_subtract ds = some z) : runD ⟨N, fs, WW⟩ 60 false (B_subtract j1) ds = some z := by
  unfold d_subtract two at h
  split at h
  · rename_i p a b
    simp only [Option.bind_eq_some_iff] at h
    obtain ⟨f, hf, g, hg, h⟩ := h
    split at h
    · rename_i hp
      simp only [Option.map_some, Option.some.injEq] at h
      cases h
      rw [allI_eq hf, allI_eq hg]
      obtain ⟨hp, h1, h2⟩ := hp
      have hc : ∀ n, lcL (evC ⟨N, fs, WW⟩ (n + 5) (.tup [4, 5]) [4, 5] none (.bin .Sub (.nm 4) (.nm 5))) ((f.zip g).map fun q => PyData.tuple [.int q.1, .int q.2]) ⟨[.val (.int p), .val (.tuple (I f)), .val (.tuple (I g)), .no, .no, .no, .no], []⟩ = some (I ((f.zip g).map fun q => q.1 - q.2), ⟨[.val (.int p), .val (.tuple (I f)), .val (.tuple (I g)), .no, .no, .no, .no], []⟩) := by
        intro n
        rw [show I ((f.zip g).map fun q => q.1 - q.2) = (f.zip g).map fun q => PyData.int (q.1 - q.2) by simp [I]]
        refine lcL_pure _ _ fun x _ => ?_
        simp (config := {implicitDefEqProofs := false}) (disch := omega) [q_int, q_bl, q_non, q_nm, q_bin, q_neg, q_negI, q_not, q_bop, q_ife, q_cmp, q_ix, q_ixn, q_sl, q_sln, q_blt, q_lenn, q_isi, q_lst, q_tup, q_lc, q_push, q_pop, q_evc, q_to0, q_to1, q_o0, q_o1, q_intD, q_a0, q_a1, q_tnt, q_tbop, q_tcmp, q_chn, q_tchn, q_tval, q_tnm, q_iseq, q_irng, q_ienu, q_izip, q_iez, q_irev, q_sset, q_stgt, q_spro, q_spar, q_sput, q_sret, q_sretn, q_sife, q_swhl, q_sfor, q_sex, q_spass, q_sbrk, q_scnt, q_ss0, q_ss1, q_gonx, q_gort, q_gobk, q_goct, q_add, q_addl, q_addt, q_sub, q_mul, q_mull, q_mult, q_div, q_mod, q_pow, q_eq, q_ne, q_lt, q_le, q_gt, q_ge, q_is1, q_is2, q_is3, q_is4, q_is5, q_tr0, q_trb, q_tri, q_trl, q_trt, q_ixl, q_ixt, q_sll, q_slt, q_sls, q_lenl, q_lent, q_inti, q_absi, q_lisl, q_list, q_tupl, q_tupt, q_all, q_maxl, q_max, q_min, q_itl, q_itt, q_seql, q_seqt, q_rng1, q_rng2, q_enu1, q_enu2, q_end1, q_end2, q_own, q_val, q_st1, q_stt, q_stpr, q_sta0, q_sta1, q_re1, q_re0, q_appA, q_appioA, q_appkA, ↓bind_o, obind_some, List.getElem?_cons_zero, List.getElem?_cons_succ, List.set_cons_zero, List.set_cons_succ, lockS, slotL, Fz.atS, putL, runD, en0, vals, setS, opStop, wipeE, wipeS, restE, restS, plainS, szB_of, posB_of, b62_of, mulB_of, divB_of, powB_of, repB_one, timB_one, flat_one, I_rep, atI_0, atI_1, atI_2, atI_3, atI_4, ixN_of, cut_from, cut_to, eqv_int, eqv_none, shp_int, shp_bool, shp_none, zip_I]
      have hc2 : ∀ n (s : Sl) (k : Sl) (xs : List Int), lcL (evC ⟨N, fs, WW⟩ (n + 5) (.one 5) [5] none (.neg (.nm 5))) (I xs) ⟨[.val (.int p), .val (.tuple (I f)), .val (.tuple (I g)), s, .no, .no, k], []⟩ = some (I (xs.map (- ·)), ⟨[.val (.int p), .val (.tuple (I f)), .val (.tuple (I g)), s, .no, .no, k], []⟩) := by
        intro n s k xs
        rw [show I (xs.map (- ·)) = xs.map fun x => PyData.int (- x) by simp [I]]
        refine lcL_pure _ _ fun x _ => ?_
        simp (config := {implicitDefEqProofs := false}) (disch := omega) [q_int, q_bl, q_non, q_nm, q_bin, q_neg, q_negI, q_not, q_bop, q_ife, q_cmp, q_ix, q_ixn, q_sl, q_sln, q_blt, q_lenn, q_isi, q_lst, q_tup, q_lc, q_push, q_pop, q_evc, q_to0, q_to1, q_o0, q_o1, q_intD, q_a0, q_a1, q_tnt, q_tbop, q_tcmp, q_chn, q_tchn, q_tval, q_tnm, q_iseq, q_irng, q_ienu, q_izip, q_iez, q_irev, q_sset, q_stgt, q_spro, q_spar, q_sput, q_sret, q_sretn, q_sife, q_swhl, q_sfor, q_sex, q_spass, q_sbrk, q_scnt, q_ss0, q_ss1, q_gonx, q_gort, q_gobk, q_goct, q_add, q_addl, q_addt, q_sub, q_mul, q_mull, q_mult, q_div, q_mod, q_pow, q_eq, q_ne, q_lt, q_le, q_gt, q_ge, q_is1, q_is2, q_is3, q_is4, q_is5, q_tr0, q_trb, q_tri, q_trl, q_trt, q_ixl, q_ixt, q_sll, q_slt, q_sls, q_lenl, q_lent, q_inti, q_absi, q_lisl, q_list, q_tupl, q_tupt, q_all, q_maxl, q_max, q_min, q_itl, q_itt, q_seql, q_seqt, q_rng1, q_rng2, q_enu1, q_enu2, q_end1, q_end2, q_own, q_val, q_st1, q_stt, q_stpr, q_sta0, q_sta1, q_re1, q_re0, q_appA, q_appioA, q_appkA, ↓bind_o, obind_some, List.getElem?_cons_zero, List.getElem?_cons_succ, List.set_cons_zero, List.set_cons_succ, lockS, slotL, Fz.atS, putL, runD, en0, vals, setS, opStop, wipeE, wipeS, restE, restS, plainS, szB_of, posB_of, b62_of, mulB_of, divB_of, powB_of, repB_one, timB_one, flat_one, I_rep, atI_0, atI_1, atI_2, atI_3, atI_4, ixN_of, cut_from, cut_to, eqv_int, eqv_none, shp_int, shp_bool, shp_none, zip_I]
      have hd := call_form hF (p := p) (l := I (List.map (fun q => q.1 - q.2) (f.zip g)) ++ (I (List.drop (min f.length g.length) f) ++ I (List.drop (min f.length g.length) (g.map (- ·))))) (ns := zsub f g) hp (by unfold zsub; simp; omega) (by simp [zsub])
      simp (config := {implicitDefEqProofs := false}) (disch := omega) [B_subtract, hN, hc, hc2, hF, hd, q_int, q_bl, q_non, q_nm, q_bin, q_neg, q_negI, q_not, q_bop, q_ife, q_cmp, q_ix, q_ixn, q_sl, q_sln, q_blt, q_lenn, q_isi, q_lst, q_tup, q_lc, q_push, q_pop, q_evc, q_to0, q_to1, q_o0, q_o1, q_intD, q_a0, q_a1, q_tnt, q_tbop, q_tcmp, q_chn, q_tchn, q_tval, q_tnm, q_iseq, q_irng, q_ienu, q_izip, q_iez, q_irev, q_sset, q_stgt, q_spro, q_spar, q_sput, q_sret, q_sretn, q_sife, q_swhl, q_sfor, q_sex, q_spass, q_sbrk, q_scnt, q_ss0, q_ss1, q_gonx, q_gort, q_gobk, q_goct, q_add, q_addl, q_addt, q_sub, q_mul, q_mull, q_mult, q_div, q_mod, q_pow, q_eq, q_ne, q_lt, q_le, q_gt, q_ge, q_is1, q_is2, q_is3, q_is4, q_is5, q_tr0, q_trb, q_tri, q_trl, q_trt, q_ixl, q_ixt, q_sll, q_slt, q_sls, q_lenl, q_lent, q_inti, q_absi, q_lisl, q_list, q_tupl, q_tupt, q_all, q_maxl, q_max, q_min, q_itl, q_itt, q_seql, q_seqt, q_rng1, q_rng2, q_enu1, q_enu2, q_end1, q_end2, q_own, q_val, q_st1, q_stt, q_stpr, q_sta0, q_sta1, q_re1, q_re0, q_appA, q_appioA, q_appkA, ↓bind_o, obind_some, List.getElem?_cons_zero, List.getElem?_cons_succ, List.set_cons_zero, List.set_cons_succ, lockS, slotL, Fz.atS, putL, runD, en0, vals, setS, opStop, wipeE, wipeS, restE, restS, plainS, szB_of, posB_of, b62_of, mulB_of, divB_of, powB_of, repB_one, timB_one, flat_one, I_rep, atI_0, atI_1, atI_2, atI_3, atI_4, ixN_of, cut_from, cut_to, eqv_int, eqv_none, shp_int, shp_bool, shp_none, zip_I]
    · cases h
  · cases h
theorem run_scaled (hN : N.length = 4) (hF : At fs j1 false 2 d_form_of) {ds : List D} {z : Bool × D × List D} (h : d_scaled ds = some z) : runD ⟨N, fs, WW⟩ 60 false (B_scaled j1) ds = some z := by
  unfold d_scaled at h
  split at h
  · rename_i p a m
    simp only [Option.bind_eq_some_iff] at h
    obtain ⟨f, hf, h⟩ := h
    split at h
    · rename_i hp
      cases h
      rw [allI_eq hf]
      obtain ⟨hp, h1, h2, h3⟩ := hp
      have hc : ∀ n, lcL (evC ⟨N, fs, WW⟩ (n + 5) (.one 3) [3] none (.bin .Mult (.nm 2) (.nm 3))) (I f) ⟨[.val (.int p), .val (.tuple (I f)), .val (.int m), .no], []⟩ = some (I (f.map (m * ·)), ⟨[.val (.int p), .val (.tuple (I f)), .val (.int m), .no], []⟩) := by
        intro n
        rw [show I (f.map (m * ·)) = f.map fun x => PyData.int (m * x) by simp [I]]
        refine lcL_pure _ _ fun x hx => ?_
        have hm := small_mul h2 (h3 x hx)
        simp (config := {implicitDefEqProofs := false}) (disch := omega) [hm, q_int, q_bl, q_non, q_nm, q_bin, q_neg, q_negI, q_not, q_bop, q_ife, q_cmp, q_ix, q_ixn, q_sl, q_sln, q_blt, q_lenn, q_isi, q_lst, q_tup, q_lc, q_push, q_pop, q_evc, q_to0, q_to1, q_o0, q_o1, q_intD, q_a0, q_a1, q_tnt, q_tbop, q_tcmp, q_chn, q_tchn, q_tval, q_tnm, q_iseq, q_irng, q_ienu, q_izip, q_iez, q_irev, q_sset, q_stgt, q_spro, q_spar, q_sput, q_sret, q_sretn, q_sife, q_swhl, q_sfor, q_sex, q_spass, q_sbrk, q_scnt, q_ss0, q_ss1, q_gonx, q_gort, q_gobk, q_goct, q_add, q_addl, q_addt, q_sub, q_mul, q_mull, q_mult, q_div, q_mod, q_pow, q_eq, q_ne, q_lt, q_le, q_gt, q_ge, q_is1, q_is2, q_is3, q_is4, q_is5, q_tr0, q_trb, q_tri, q_trl, q_trt, q_ixl, q_ixt, q_sll, q_slt, q_sls, q_lenl, q_lent, q_inti, q_absi, q_lisl, q_list, q_tupl, q_tupt, q_all, q_maxl, q_max, q_min, q_itl, q_itt, q_seql, q_seqt, q_rng1, q_rng2, q_enu1, q_enu2, q_end1, q_end2, q_own, q_val, q_st1, q_stt, q_stpr, q_sta0, q_sta1, q_re1, q_re0, q_appA, q_appioA, q_appkA, ↓bind_o, obind_some, List.getElem?_cons_zero, List.getElem?_cons_succ, List.set_cons_zero, List.set_cons_succ, lockS, slotL, Fz.atS, putL, runD, en0, vals, setS, opStop, wipeE, wipeS, restE, restS, plainS, szB_of, posB_of, b62_of, mulB_of, divB_of, powB_of, repB_one, timB_one, flat_one, I_rep, atI_0, atI_1, atI_2, atI_3, atI_4, ixN_of, cut_from, cut_to, eqv_int, eqv_none, shp_int, shp_bool, shp_none, zip_I]
      have hd := call_form hF (p := p) (ns := f.map (m * ·)) hp (by simp; omega) rfl
      simp (config := {implicitDefEqProofs := false}) (disch := omega) [B_scaled, hN, hc, hF, hd, q_int, q_bl, q_non, q_nm, q_bin, q_neg, q_negI, q_not, q_bop, q_ife, q_cmp, q_ix, q_ixn, q_sl, q_sln, q_blt, q_lenn, q_isi, q_lst, q_tup, q_lc, q_push, q_pop, q_evc, q_to0, q_to1, q_o0, q_o1, q_intD, q_a0, q_a1, q_tnt, q_tbop, q_tcmp, q_chn, q_tchn, q_tval, q_tnm, q_iseq, q_irng, q_ienu, q_izip, q_iez, q_irev, q_sset, q_stgt, q_spro, q_spar, q_sput, q_sret, q_sretn, q_sife, q_swhl, q_sfor, q_sex, q_spass, q_sbrk, q_scnt, q_ss0, q_ss1, q_gonx, q_gort, q_gobk, q_goct, q_add, q_addl, q_addt, q_sub, q_mul, q_mull, q_mult, q_div, q_mod, q_pow, q_eq, q_ne, q_lt, q_le, q_gt, q_ge, q_is1, q_is2, q_is3, q_is4, q_is5, q_tr0, q_trb, q_tri, q_trl, q_trt, q_ixl, q_ixt, q_sll, q_slt, q_sls, q_lenl, q_lent, q_inti, q_absi, q_lisl, q_list, q_tupl, q_tupt, q_all, q_maxl, q_max, q_min, q_itl, q_itt, q_seql, q_seqt, q_rng1, q_rng2, q_enu1, q_enu2, q_end1, q_end2, q_own, q_val, q_st1, q_stt, q_stpr, q_sta0, q_sta1, q_re1, q_re0, q_appA, q_appioA, q_appkA, ↓bind_o, obind_some, List.getElem?_cons_zero, List.getElem?_cons_succ, List.set_cons_zero, List.set_cons_succ, lockS, slotL, Fz.atS, putL, runD, en0, vals, setS, opStop, wipeE, wipeS, restE, restS, plainS, szB_of, posB_of, b62_of, mulB_of, divB_of, powB_of, repB_one, timB_one, flat_one, I_rep, atI_0, atI_1, atI_2, atI_3, atI_4, ixN_of, cut_from, cut_to, eqv_int, eqv_none, shp_int, shp_bool, shp_none, zip_I]
    · cases h
  · cases h
theorem run_raised (hN : N.length = 2) {ds : List D} {z : Bool × D × List D} (h : d_raised ds = some z) : runD ⟨N, fs, WW⟩ 60 false B_raised ds = some z := by
  unfold d_raised at h
  split at h
  · rename_i a m
    simp only [Option.bind_eq_some_iff] at h
    obtain ⟨f, hf, h⟩ := h
    split at h
    · rename_i hp
      cases h
      rw [allI_eq hf]
      obtain ⟨hp, h1, h2⟩ := hp
      cases f with
      | nil => rfl
      | cons x f =>
        have h3 : f.length + 1 ≤ 40000 := h2
        simp (config := {implicitDefEqProofs := false}) (disch := omega) [B_raised, hN, q_int, q_bl, q_non, q_nm, q_bin, q_neg, q_negI, q_not, q_bop, q_ife, q_cmp, q_ix, q_ixn, q_sl, q_sln, q_blt, q_lenn, q_isi, q_lst, q_tup, q_lc, q_push, q_pop, q_evc, q_to0, q_to1, q_o0, q_o1, q_intD, q_a0, q_a1, q_tnt, q_tbop, q_tcmp, q_chn, q_tchn, q_tval, q_tnm, q_iseq, q_irng, q_ienu, q_izip, q_iez, q_irev, q_sset, q_stgt, q_spro, q_spar, q_sput, q_sret, q_sretn, q_sife, q_swhl, q_sfor, q_sex, q_spass, q_sbrk, q_scnt, q_ss0, q_ss1, q_gonx, q_gort, q_gobk, q_goct, q_add, q_addl, q_addt, q_sub, q_mul, q_mull, q_mult, q_div, q_mod, q_pow, q_eq, q_ne, q_lt, q_le, q_gt, q_ge, q_is1, q_is2, q_is3, q_is4, q_is5, q_tr0, q_trb, q_tri, q_trl, q_trt, q_ixl, q_ixt, q_sll, q_slt, q_sls, q_lenl, q_lent, q_inti, q_absi, q_lisl, q_list, q_tupl, q_tupt, q_all, q_maxl, q_max, q_min, q_itl, q_itt, q_seql, q_seqt, q_rng1, q_rng2, q_enu1, q_enu2, q_end1, q_end2, q_own, q_val, q_st1, q_stt, q_stpr, q_sta0, q_sta1, q_re1, q_re0, q_appA, q_appioA, q_appkA, ↓bind_o, obind_some, List.getElem?_cons_zero, List.getElem?_cons_succ, List.set_cons_zero, List.set_cons_succ, lockS, slotL, Fz.atS, putL, runD, en0, vals, setS, opStop, wipeE, wipeS, restE, restS, plainS, szB_of, posB_of, b62_of, mulB_of, divB_of, powB_of, repB_one, timB_one, flat_one, I_rep, atI_0, atI_1, atI_2, atI_3, atI_4, ixN_of, cut_from, cut_to, eqv_int, eqv_none, shp_int, shp_bool, shp_none, zip_I]
    · cases h
  · cases h
theorem value_loop (T : Tb) {p c : Int} (F : Sl) (bg : List D) (hp : 0 < p) (hp2 : p < 4294967296) (h0 : 0 ≤ c) (h1 : c < 4294967296) (n : Nat) : ∀ (xs : List Int) (v : Int) (s : Sl), 0 ≤ v → v < 4294967296 →
    ∃ s', forL (bodyF T (n + 9) (.one 4) [.set 3 (.bin .Mod (.bin .Add (.bin .Mult (.nm 3) (.nm 2)) (.nm 4)) (.nm 0))]) (I xs) ⟨[.val (.int p), F, .val (.int c), .val (.int v), s], bg⟩ = some (.nx ⟨[.val (.int p), F, .val (.int c), .val (.int (xs.foldl (fun v r => (v * c + r) % p) v)), s'], bg⟩) := by
  intro xs
  induction xs with
  | nil => intro v s _ _; exact ⟨s, rfl⟩
  | cons x xs IH =>
    intro v s hv hv2
    have h2 := Int.emod_nonneg (v * c + x) (show p ≠ 0 by omega)
    have h3 := Int.emod_lt_of_pos (v * c + x) hp
    obtain ⟨s', ih⟩ := IH ((v * c + x) % p) (.val (.int x)) h2 (by omega)
    refine ⟨s', ?_⟩
    rw [I_cons, forL_nx (e2 := ⟨[.val (.int p), F, .val (.int c), .val (.int ((v * c + x) % p)), .val (.int x)], bg⟩) (by simp (config := {implicitDefEqProofs := false}) (disch := omega) [bodyF, q_int, q_bl, q_non, q_nm, q_bin, q_neg, q_negI, q_not, q_bop, q_ife, q_cmp, q_ix, q_ixn, q_sl, q_sln, q_blt, q_lenn, q_isi, q_lst, q_tup, q_lc, q_push, q_pop, q_evc, q_to0, q_to1, q_o0, q_o1, q_intD, q_a0, q_a1, q_tnt, q_tbop, q_tcmp, q_chn, q_tchn, q_tval, q_tnm, q_iseq, q_irng, q_ienu, q_izip, q_iez, q_irev, q_sset, q_stgt, q_spro, q_spar, q_sput, q_sret, q_sretn, q_sife, q_swhl, q_sfor, q_sex, q_spass, q_sbrk, q_scnt, q_ss0, q_ss1, q_gonx, q_gort, q_gobk, q_goct, q_add, q_addl, q_addt, q_sub, q_mul, q_mull, q_mult, q_div, q_mod, q_pow, q_eq, q_ne, q_lt, q_le, q_gt, q_ge, q_is1, q_is2, q_is3, q_is4, q_is5, q_tr0, q_trb, q_tri, q_trl, q_trt, q_ixl, q_ixt, q_sll, q_slt, q_sls, q_lenl, q_lent, q_inti, q_absi, q_lisl, q_list, q_tupl, q_tupt, q_all, q_maxl, q_max, q_min, q_itl, q_itt, q_seql, q_seqt, q_rng1, q_rng2, q_enu1, q_enu2, q_end1, q_end2, q_own, q_val, q_st1, q_stt, q_stpr, q_sta0, q_sta1, q_re1, q_re0, q_appA, q_appioA, q_appkA, ↓bind_o, obind_some, List.getElem?_cons_zero, List.getElem?_cons_succ, List.set_cons_zero, List.set_cons_succ, lockS, slotL, Fz.atS, putL, runD, en0, vals, setS, opStop, wipeE, wipeS, restE, restS, plainS, szB_of, posB_of, b62_of, mulB_of, divB_of, powB_of, repB_one, timB_one, flat_one, I_rep, atI_0, atI_1, atI_2, atI_3, atI_4, ixN_of, cut_from, cut_to, eqv_int, eqv_none, shp_int, shp_bool, shp_none, zip_I])]
    exact ih
theorem run_value_at (hN : N.length = 5) {ds : List D} {z : Bool × D × List D} (h : d_value_at ds = some z) : runD ⟨N, fs, WW⟩ 60 false B_value_at ds = some z := by
  unfold d_value_at at h
  split at h
  · rename_i p a c
    simp only [Option.bind_eq_some_iff] at h
    obtain ⟨f, hf, h⟩ := h
    split at h
    · rename_i hp
      cases h
      rw [allI_eq hf]
      obtain ⟨hp, h1, h2, h3⟩ := hp
      obtain ⟨s', hv⟩ := value_loop ⟨N, fs, WW⟩ (.val (.tuple (I f))) [] hp h1 h2 h3 48 f.reverse 0 .no (by decide) (by decide)
      have hh : horner p c f = f.reverse.foldl (fun v r => (v * c + r) % p) 0 := by unfold horner; rw [List.foldl_reverse]
      rw [hh]
      simp (config := {implicitDefEqProofs := false}) (disch := omega) [B_value_at, hN, I_rev, hv, q_int, q_bl, q_non, q_nm, q_bin, q_neg, q_negI, q_not, q_bop, q_ife, q_cmp, q_ix, q_ixn, q_sl, q_sln, q_blt, q_lenn, q_isi, q_lst, q_tup, q_lc, q_push, q_pop, q_evc, q_to0, q_to1, q_o0, q_o1, q_intD, q_a0, q_a1, q_tnt, q_tbop, q_tcmp, q_chn, q_tchn, q_tval, q_tnm, q_iseq, q_irng, q_ienu, q_izip, q_iez, q_irev, q_sset, q_stgt, q_spro, q_spar, q_sput, q_sret, q_sretn, q_sife, q_swhl, q_sfor, q_sex, q_spass, q_sbrk, q_scnt, q_ss0, q_ss1, q_gonx, q_gort, q_gobk, q_goct, q_add, q_addl, q_addt, q_sub, q_mul, q_mull, q_mult, q_div, q_mod, q_pow, q_eq, q_ne, q_lt, q_le, q_gt, q_ge, q_is1, q_is2, q_is3, q_is4, q_is5, q_tr0, q_trb, q_tri, q_trl, q_trt, q_ixl, q_ixt, q_sll, q_slt, q_sls, q_lenl, q_lent, q_inti, q_absi, q_lisl, q_list, q_tupl, q_tupt, q_all, q_maxl, q_max, q_min, q_itl, q_itt, q_seql, q_seqt, q_rng1, q_rng2, q_enu1, q_enu2, q_end1, q_end2, q_own, q_val, q_st1, q_stt, q_stpr, q_sta0, q_sta1, q_re1, q_re0, q_appA, q_appioA, q_appkA, ↓bind_o, obind_some, List.getElem?_cons_zero, List.getElem?_cons_succ, List.set_cons_zero, List.set_cons_succ, lockS, slotL, Fz.atS, putL, runD, en0, vals, setS, opStop, wipeE, wipeS, restE, restS, plainS, szB_of, posB_of, b62_of, mulB_of, divB_of, powB_of, repB_one, timB_one, flat_one, I_rep, atI_0, atI_1, atI_2, atI_3, atI_4, ixN_of, cut_from, cut_to, eqv_int, eqv_none, shp_int, shp_bool, shp_none, zip_I]
    · cases h
  · cases h
theorem enumD_cons (c : Int) (d : D) (l : List D) : enumD c (d :: l) = .tuple [.int c, d] :: enumD (c + 1) l := rfl
/-- a row of the product -/
theorem mul_inner (T : Tb) {p0 F G bg : _} {i0 x : Int} (hx : small x) (n : Nat) : ∀ (g s : List Int) (i : Nat) (a b : Sl), (∀ y ∈ g, small y) → i + g.length ≤ s.length → s.length ≤ 100000 →
    ∃ a' b', forL (bodyF T (n + 9) (.tup [6, 7]) [.put 3 (.nm 6) (.bin .Add (.ixn 3 (.nm 6)) (.bin .Mult (.nm 5) (.nm 7)))]) (enumD (i : Int) (I g)) ⟨[p0, F, G, .own (I s), .val (.int i0), .val (.int x), a, b], bg⟩ = some (.nx ⟨[p0, F, G, .own (I (addAt s i x g)), .val (.int i0), .val (.int x), a', b'], bg⟩) := by
  intro g
  induction g with
  | nil => intro s i a b _ _ _; exact ⟨a, b, rfl⟩
  | cons y g IH =>
    intro s i a b hy hl hs
    have hm := small_mul hx (hy y List.mem_cons_self)
    have hl' : i + (g.length + 1) ≤ s.length := hl
    obtain ⟨a', b', ih⟩ := IH (s.set i (gd s i + x * y)) (i + 1) (.val (.int i)) (.val (.int y)) (fun z hz => hy z (List.mem_cons_of_mem _ hz)) (by rw [List.length_set]; omega) (by rw [List.length_set]; exact hs)
    refine ⟨a', b', ?_⟩
    have hat : atI (I s) (i : Int) = some (.int (gd s i)) := by
      rw [atI_I (by omega) (by omega)]
      rfl
    have hix : ixN s.length (i : Int) = some i := by rw [ixN_of (by omega) (by omega)]; simp
    rw [I_cons, enumD_cons, forL_nx (e2 := ⟨[p0, F, G, .own (I (s.set i (gd s i + x * y))), .val (.int i0), .val (.int x), .val (.int i), .val (.int y)], bg⟩) (by simp (config := {implicitDefEqProofs := false}) (disch := omega) [bodyF, hm, hat, hix, I_set, q_int, q_bl, q_non, q_nm, q_bin, q_neg, q_negI, q_not, q_bop, q_ife, q_cmp, q_ix, q_ixn, q_sl, q_sln, q_blt, q_lenn, q_isi, q_lst, q_tup, q_lc, q_push, q_pop, q_evc, q_to0, q_to1, q_o0, q_o1, q_intD, q_a0, q_a1, q_tnt, q_tbop, q_tcmp, q_chn, q_tchn, q_tval, q_tnm, q_iseq, q_irng, q_ienu, q_izip, q_iez, q_irev, q_sset, q_stgt, q_spro, q_spar, q_sput, q_sret, q_sretn, q_sife, q_swhl, q_sfor, q_sex, q_spass, q_sbrk, q_scnt, q_ss0, q_ss1, q_gonx, q_gort, q_gobk, q_goct, q_add, q_addl, q_addt, q_sub, q_mul, q_mull, q_mult, q_div, q_mod, q_pow, q_eq, q_ne, q_lt, q_le, q_gt, q_ge, q_is1, q_is2, q_is3, q_is4, q_is5, q_tr0, q_trb, q_tri, q_trl, q_trt, q_ixl, q_ixt, q_sll, q_slt, q_sls, q_lenl, q_lent, q_inti, q_absi, q_lisl, q_list, q_tupl, q_tupt, q_all, q_maxl, q_max, q_min, q_itl, q_itt, q_seql, q_seqt, q_rng1, q_rng2, q_enu1, q_enu2, q_end1, q_end2, q_own, q_val, q_st1, q_stt, q_stpr, q_sta0, q_sta1, q_re1, q_re0, q_appA, q_appioA, q_appkA, ↓bind_o, obind_some, List.getElem?_cons_zero, List.getElem?_cons_succ, List.set_cons_zero, List.set_cons_succ, lockS, slotL, Fz.atS, putL, runD, en0, vals, setS, opStop, wipeE, wipeS, restE, restS, plainS, szB_of, posB_of, b62_of, mulB_of, divB_of, powB_of, repB_one, timB_one, flat_one, I_rep, atI_0, atI_1, atI_2, atI_3, atI_4, ixN_of, cut_from, cut_to, eqv_int, eqv_none, shp_int, shp_bool, shp_none, zip_I])]
    rw [show (i : Int) + 1 = ((i + 1 : Nat) : Int) by omega]
    exact ih
def mul_body : List RS := [.ife (.cmp .NotEq (.nm 5) (.int 0)) [.for (.tup [6, 7]) (.enu [(.nm 2), (.nm 4)]) [.put 3 (.nm 6) (.bin .Add (.ixn 3 (.nm 6)) (.bin .Mult (.nm 5) (.nm 7)))]] []]
theorem mul_step0 (T : Tb) {p0 F bg : _} {g s : List Int} (n : Nat) (i : Int) (a b c d : Sl) :
    bodyF T (n + 20) (.tup [4, 5]) mul_body (.tuple [.int i, .int 0]) ⟨[p0, F, .val (.tuple (I g)), .own (I s), a, b, c, d], bg⟩ = some (.nx ⟨[p0, F, .val (.tuple (I g)), .own (I s), .val (.int i), .val (.int 0), c, d], bg⟩) := by
  unfold mul_body
  simp (config := {implicitDefEqProofs := false}) (disch := omega) [bodyF, q_int, q_bl, q_non, q_nm, q_bin, q_neg, q_negI, q_not, q_bop, q_ife, q_cmp, q_ix, q_ixn, q_sl, q_sln, q_blt, q_lenn, q_isi, q_lst, q_tup, q_lc, q_push, q_pop, q_evc, q_to0, q_to1, q_o0, q_o1, q_intD, q_a0, q_a1, q_tnt, q_tbop, q_tcmp, q_chn, q_tchn, q_tval, q_tnm, q_iseq, q_irng, q_ienu, q_izip, q_iez, q_irev, q_sset, q_stgt, q_spro, q_spar, q_sput, q_sret, q_sretn, q_sife, q_swhl, q_sfor, q_sex, q_spass, q_sbrk, q_scnt, q_ss0, q_ss1, q_gonx, q_gort, q_gobk, q_goct, q_add, q_addl, q_addt, q_sub, q_mul, q_mull, q_mult, q_div, q_mod, q_pow, q_eq, q_ne, q_lt, q_le, q_gt, q_ge, q_is1, q_is2, q_is3, q_is4, q_is5, q_tr0, q_trb, q_tri, q_trl, q_trt, q_ixl, q_ixt, q_sll, q_slt, q_sls, q_lenl, q_lent, q_inti, q_absi, q_lisl, q_list, q_tupl, q_tupt, q_all, q_maxl, q_max, q_min, q_itl, q_itt, q_seql, q_seqt, q_rng1, q_rng2, q_enu1, q_enu2, q_end1, q_end2, q_own, q_val, q_st1, q_stt, q_stpr, q_sta0, q_sta1, q_re1, q_re0, q_appA, q_appioA, q_appkA, ↓bind_o, obind_some, List.getElem?_cons_zero, List.getElem?_cons_succ, List.set_cons_zero, List.set_cons_succ, lockS, slotL, Fz.atS, putL, runD, en0, vals, setS, opStop, wipeE, wipeS, restE, restS, plainS, szB_of, posB_of, b62_of, mulB_of, divB_of, powB_of, repB_one, timB_one, flat_one, I_rep, atI_0, atI_1, atI_2, atI_3, atI_4, ixN_of, cut_from, cut_to, eqv_int, eqv_none, shp_int, shp_bool, shp_none, zip_I]
theorem mul_step1 (T : Tb) {p0 F bg : _} {g s s' : List Int} (n : Nat) (i x : Int) (a b c d c2 d2 : Sl) (hx : x ≠ 0)
    (h2 : forL (bodyF T (n + 16) (.tup [6, 7]) [.put 3 (.nm 6) (.bin .Add (.ixn 3 (.nm 6)) (.bin .Mult (.nm 5) (.nm 7)))]) (enumD (i : Int) (I g)) ⟨[p0, F, .val (.tuple (I g)), .own (I s), .val (.int i), .val (.int x), c, d], bg⟩ = some (.nx ⟨[p0, F, .val (.tuple (I g)), .own (I s'), .val (.int i), .val (.int x), c2, d2], bg⟩)) (hi : -4611686018427387904 ≤ i) (hi2 : i < 4611686018427387904) :
    bodyF T (n + 20) (.tup [4, 5]) mul_body (.tuple [.int i, .int x]) ⟨[p0, F, .val (.tuple (I g)), .own (I s), a, b, c, d], bg⟩ = some (.nx ⟨[p0, F, .val (.tuple (I g)), .own (I s'), .val (.int i), .val (.int x), c2, d2], bg⟩) := by
  unfold mul_body
  simp (config := {implicitDefEqProofs := false}) (disch := omega) [bodyF, hx, h2, q_int, q_bl, q_non, q_nm, q_bin, q_neg, q_negI, q_not, q_bop, q_ife, q_cmp, q_ix, q_ixn, q_sl, q_sln, q_blt, q_lenn, q_isi, q_lst, q_tup, q_lc, q_push, q_pop, q_evc, q_to0, q_to1, q_o0, q_o1, q_intD, q_a0, q_a1, q_tnt, q_tbop, q_tcmp, q_chn, q_tchn, q_tval, q_tnm, q_iseq, q_irng, q_ienu, q_izip, q_iez, q_irev, q_sset, q_stgt, q_spro, q_spar, q_sput, q_sret, q_sretn, q_sife, q_swhl, q_sfor, q_sex, q_spass, q_sbrk, q_scnt, q_ss0, q_ss1, q_gonx, q_gort, q_gobk, q_goct, q_add, q_addl, q_addt, q_sub, q_mul, q_mull, q_mult, q_div, q_mod, q_pow, q_eq, q_ne, q_lt, q_le, q_gt, q_ge, q_is1, q_is2, q_is3, q_is4, q_is5, q_tr0, q_trb, q_tri, q_trl, q_trt, q_ixl, q_ixt, q_sll, q_slt, q_sls, q_lenl, q_lent, q_inti, q_absi, q_lisl, q_list, q_tupl, q_tupt, q_all, q_maxl, q_max, q_min, q_itl, q_itt, q_seql, q_seqt, q_rng1, q_rng2, q_enu1, q_enu2, q_end1, q_end2, q_own, q_val, q_st1, q_stt, q_stpr, q_sta0, q_sta1, q_re1, q_re0, q_appA, q_appioA, q_appkA, ↓bind_o, obind_some, List.getElem?_cons_zero, List.getElem?_cons_succ, List.set_cons_zero, List.set_cons_succ, lockS, slotL, Fz.atS, putL, runD, en0, vals, setS, opStop, wipeE, wipeS, restE, restS, plainS, szB_of, posB_of, b62_of, mulB_of, divB_of, powB_of, repB_one, timB_one, flat_one, I_rep, atI_0, atI_1, atI_2, atI_3, atI_4, ixN_of, cut_from, cut_to, eqv_int, eqv_none, shp_int, shp_bool, shp_none, zip_I]
theorem mul_outer (T : Tb) {p0 F bg : _} {g : List Int} (hg : ∀ y ∈ g, small y) (hgl : g.length ≤ 100000) (n : Nat) : ∀ (f s : List Int) (i : Nat) (a b c d : Sl), (∀ y ∈ f, small y) → i + (f.length + g.length) ≤ s.length + 1 → s.length ≤ 100000 →
    ∃ a' b' c' d', forL (bodyF T (n + 20) (.tup [4, 5]) mul_body) (enumD (i : Int) (I f)) ⟨[p0, F, .val (.tuple (I g)), .own (I s), a, b, c, d], bg⟩ = some (.nx ⟨[p0, F, .val (.tuple (I g)), .own (I (mulFrom g s i f)), a', b', c', d'], bg⟩) := by
  intro f
  induction f with
  | nil => intro s i a b c d _ _ _; exact ⟨a, b, c, d, rfl⟩
  | cons x f IH =>
    intro s i a b c d hf hl hs
    have hl' : i + (f.length + 1 + g.length) ≤ s.length + 1 := hl
    rw [I_cons, enumD_cons, show mulFrom g s i (x :: f) = mulFrom g (addAt s i x g) (i + 1) f from rfl]
    by_cases hx : x = 0
    · subst hx
      obtain ⟨a', b', c', d', ih⟩ := IH s (i + 1) (.val (.int i)) (.val (.int 0)) c d (fun z hz => hf z (List.mem_cons_of_mem _ hz)) (by omega) hs
      refine ⟨a', b', c', d', ?_⟩
      rw [forL_nx (mul_step0 T n i a b c d)]
      rw [show (i : Int) + 1 = ((i + 1 : Nat) : Int) by omega, addAt_zero]
      exact ih
    · obtain ⟨c2, d2, h2⟩ := mul_inner T (p0 := p0) (F := F) (G := .val (.tuple (I g))) (bg := bg) (i0 := i) (hf x List.mem_cons_self) (n + 7) g s i c d hg (by omega) hs
      obtain ⟨a', b', c', d', ih⟩ := IH (addAt s i x g) (i + 1) (.val (.int i)) (.val (.int x)) c2 d2 (fun z hz => hf z (List.mem_cons_of_mem _ hz)) (by rw [addAt_len]; omega) (by rw [addAt_len]; exact hs)
      refine ⟨a', b', c', d', ?_⟩
      rw [forL_nx (mul_step1 T n i x a b c d c2 d2 hx h2 (by omega) (by omega))]
      rw [show (i : Int) + 1 = ((i + 1 : Nat) : Int) by omega]
      exact ih
theorem run_multiply (hN : N.length = 8) (hF : At fs j1 false 2 d_form_of) {ds : List D} {z : Bool × D × List D} (h : d_multiply ds = some z) : runD ⟨N, fs, WW⟩ 60 false (B_multiply j1) ds = some z := by
  unfold d_multiply two at h
  split at h
  · rename_i p a b
    simp only [Option.bind_eq_some_iff] at h
    obtain ⟨f, hf, g, hg, h⟩ := h
    split at h
    · rename_i hp
      split at h
      · rename_i hs
        simp only [Option.map_some, Option.some.injEq] at h
        cases h
        rw [allI_eq hf, allI_eq hg]
        obtain ⟨hp, h1, h2⟩ := hp
        cases f with
        | nil => rfl
        | cons x f =>
          cases g with
          | nil => rfl
          | cons y g =>
            have h1' : f.length + 1 ≤ 40000 := h1
            have h2' : g.length + 1 ≤ 40000 := h2
            obtain ⟨a', b', c', d', hl⟩ := mul_outer ⟨N, fs, WW⟩ (p0 := .val (.int p)) (F := .val (.tuple (I (x :: f)))) (bg := []) hs.2 (by omega) 36 (x :: f) (List.replicate (f.length + 1 + g.length) 0) 0 .no .no .no .no hs.1 (by simp; omega) (by simp; omega)
            have hd := call_form hF (p := p) (ns := mulRaw (x :: f) (y :: g)) hp (by rw [mulRaw_len]; simp; omega) rfl
            have e1 : ((f.length : Int) + 1 + ((g.length : Int) + 1) - 1).toNat = f.length + 1 + g.length := by omega
            rw [show mulFrom (y :: g) (List.replicate (f.length + 1 + g.length) 0) 0 (x :: f) = mulRaw (x :: f) (y :: g) from rfl] at hl
            change forL (bodyF _ 56 _ _) (enumD 0 _) _ = _ at hl
            unfold mul_body at hl
            rw [show I (x :: f) = .int x :: I f from rfl, show I (y :: g) = .int y :: I g from rfl] at *
            simp (config := {implicitDefEqProofs := false}) (disch := omega) [B_multiply, hN, e1, hF, hl, hd, q_int, q_bl, q_non, q_nm, q_bin, q_neg, q_negI, q_not, q_bop, q_ife, q_cmp, q_ix, q_ixn, q_sl, q_sln, q_blt, q_lenn, q_isi, q_lst, q_tup, q_lc, q_push, q_pop, q_evc, q_to0, q_to1, q_o0, q_o1, q_intD, q_a0, q_a1, q_tnt, q_tbop, q_tcmp, q_chn, q_tchn, q_tval, q_tnm, q_iseq, q_irng, q_ienu, q_izip, q_iez, q_irev, q_sset, q_stgt, q_spro, q_spar, q_sput, q_sret, q_sretn, q_sife, q_swhl, q_sfor, q_sex, q_spass, q_sbrk, q_scnt, q_ss0, q_ss1, q_gonx, q_gort, q_gobk, q_goct, q_add, q_addl, q_addt, q_sub, q_mul, q_mull, q_mult, q_div, q_mod, q_pow, q_eq, q_ne, q_lt, q_le, q_gt, q_ge, q_is1, q_is2, q_is3, q_is4, q_is5, q_tr0, q_trb, q_tri, q_trl, q_trt, q_ixl, q_ixt, q_sll, q_slt, q_sls, q_lenl, q_lent, q_inti, q_absi, q_lisl, q_list, q_tupl, q_tupt, q_all, q_maxl, q_max, q_min, q_itl, q_itt, q_seql, q_seqt, q_rng1, q_rng2, q_enu1, q_enu2, q_end1, q_end2, q_own, q_val, q_st1, q_stt, q_stpr, q_sta0, q_sta1, q_re1, q_re0, q_appA, q_appioA, q_appkA, ↓bind_o, obind_some, List.getElem?_cons_zero, List.getElem?_cons_succ, List.set_cons_zero, List.set_cons_succ, lockS, slotL, Fz.atS, putL, runD, en0, vals, setS, opStop, wipeE, wipeS, restE, restS, plainS, szB_of, posB_of, b62_of, mulB_of, divB_of, powB_of, repB_one, timB_one, flat_one, I_rep, atI_0, atI_1, atI_2, atI_3, atI_4, ixN_of, cut_from, cut_to, eqv_int, eqv_none, shp_int, shp_bool, shp_none, zip_I]
      · cases h
    · cases h
  · cases h
end W1
set_option Elab.async false
set_option linter.all false
set_option maxRecDepth 100000
set_option maxHeartbeats 2000000
namespace W1
open PySem PySem.Spec PyProof.Rows L2 Fz
variable {fs : List (Str × Fn)} {N : List Str} {j0 j1 j2 j3 j4 j5 j6 j7 j8 j9 j10 j11 j12 j13 j14 j15 j16 j17 j18 j19 j20 j21 j22 j23 j24 j25 j26 j27 : Nat}
/-! ### the words of the small defs of the other side -/
noncomputable section
def d_trim : List D → Option (Bool × D × List D)
  | [.list a] => (allI a).bind fun f => if f.length ≤ 100000 then some (false, .tuple (I (trim f)), []) else none
  | _ => none
def ev (c : Int) (f : List Int) : Int := f.foldr (fun r v => r + c * v) 0
def d_val : List D → Option (Bool × D × List D)
  | [.int p, .tuple a, .int c] => (allI a).bind fun f => if 0 < p ∧ p < 4294967296 ∧ 0 ≤ c ∧ c < 4294967296 ∧ (∀ x ∈ f, 0 ≤ x ∧ x < p) then some (false, .int (ev c f % p), []) else none
  | _ => none
end
theorem atI_D {f : List Int} {k : Nat} (h : k < f.length) : atI (I f) (k : Int) = some (.int (gd f k)) := by
  rw [atI_I (by omega) (by omega)]
  rfl
theorem trim_loop (T : Tb) (f : List Int) (bg : List D) (n : Nat) : ∀ (m W : Nat), m ≤ f.length → m < W →
    ∃ m', m' ≤ m ∧ f.take m' = trim (f.take m) ∧ whileL (evT T (n + 9) (.bop .And (.cmp .Gt (.nm 1) (.int 0)) (.cmp .Eq (.ixn 0 (.bin .Sub (.nm 1) (.int 1))) (.int 0)))) (evSs T (n + 9) [.set 1 (.bin .Sub (.nm 1) (.int 1))]) W ⟨[.val (.list (I f)), .val (.int (m : Int))], bg⟩ = some (.nx ⟨[.val (.list (I f)), .val (.int (m' : Int))], bg⟩)
  | _, 0, _, h => absurd h (Nat.not_lt_zero _)
  | 0, W + 1, _, _ => by
    refine ⟨0, Nat.le_refl _, by simp [trim], while_end (e1 := ⟨[.val (.list (I f)), .val (.int (0 : Nat))], bg⟩) ?_⟩
    simp (config := {implicitDefEqProofs := false}) (disch := omega) [q_int, q_bl, q_non, q_nm, q_bin, q_neg, q_negI, q_not, q_bop, q_ife, q_cmp, q_ix, q_ixn, q_sl, q_sln, q_blt, q_lenn, q_isi, q_lst, q_tup, q_lc, q_push, q_pop, q_evc, q_to0, q_to1, q_o0, q_o1, q_intD, q_a0, q_a1, q_tnt, q_tbop, q_tcmp, q_chn, q_tchn, q_tval, q_tnm, q_iseq, q_irng, q_ienu, q_izip, q_iez, q_irev, q_sset, q_stgt, q_spro, q_spar, q_sput, q_sret, q_sretn, q_sife, q_swhl, q_sfor, q_sex, q_spass, q_sbrk, q_scnt, q_ss0, q_ss1, q_gonx, q_gort, q_gobk, q_goct, q_add, q_addl, q_addt, q_sub, q_mul, q_mull, q_mult, q_div, q_mod, q_pow, q_eq, q_ne, q_lt, q_le, q_gt, q_ge, q_is1, q_is2, q_is3, q_is4, q_is5, q_tr0, q_trb, q_tri, q_trl, q_trt, q_ixl, q_ixt, q_sll, q_slt, q_sls, q_lenl, q_lent, q_inti, q_absi, q_lisl, q_list, q_tupl, q_tupt, q_all, q_maxl, q_max, q_min, q_itl, q_itt, q_seql, q_seqt, q_rng1, q_rng2, q_enu1, q_enu2, q_end1, q_end2, q_own, q_val, q_st1, q_stt, q_stpr, q_sta0, q_sta1, q_re1, q_re0, q_appA, q_appioA, q_appkA, ↓bind_o, obind_some, List.getElem?_cons_zero, List.getElem?_cons_succ, List.set_cons_zero, List.set_cons_succ, lockS, slotL, Fz.atS, putL, runD, en0, vals, setS, opStop, wipeE, wipeS, restE, restS, plainS, szB_of, posB_of, b62_of, mulB_of, divB_of, powB_of, repB_one, timB_one, flat_one, I_rep, atI_0, atI_1, atI_2, atI_3, atI_4, ixN_of, cut_from, cut_to, eqv_int, eqv_none, shp_int, shp_bool, shp_none, zip_I]
  | m + 1, W + 1, hm, hW => by
    have ht : f.take (m + 1) = f.take m ++ [gd f m] := by
      rw [List.take_succ, List.getElem?_eq_getElem (by omega)]
      unfold gd
      rw [List.getD_eq_getElem?_getD, List.getElem?_eq_getElem (by omega)]
      rfl
    have hat := atI_D (f := f) (k := m) (by omega)
    have e1 : ((m + 1 : Nat) : Int) - 1 = (m : Int) := by omega
    have e2 : (0 : Int) < ((m + 1 : Nat) : Int) := by omega
    by_cases hz : gd f m = 0
    · obtain ⟨m', h1, h2, h3⟩ := trim_loop T f bg n m W (by omega) (by omega)
      refine ⟨m', by omega, ?_, ?_⟩
      · rw [ht, hz, trim_snoc0, h2]
      · rw [hz] at hat
        refine while_step (e1 := ⟨[.val (.list (I f)), .val (.int ((m + 1 : Nat) : Int))], bg⟩) ?_ ?_ h3
        · simp (config := {implicitDefEqProofs := false}) (disch := omega) [e1, e2, hat, -Int.natCast_add, q_int, q_bl, q_non, q_nm, q_bin, q_neg, q_negI, q_not, q_bop, q_ife, q_cmp, q_ix, q_ixn, q_sl, q_sln, q_blt, q_lenn, q_isi, q_lst, q_tup, q_lc, q_push, q_pop, q_evc, q_to0, q_to1, q_o0, q_o1, q_intD, q_a0, q_a1, q_tnt, q_tbop, q_tcmp, q_chn, q_tchn, q_tval, q_tnm, q_iseq, q_irng, q_ienu, q_izip, q_iez, q_irev, q_sset, q_stgt, q_spro, q_spar, q_sput, q_sret, q_sretn, q_sife, q_swhl, q_sfor, q_sex, q_spass, q_sbrk, q_scnt, q_ss0, q_ss1, q_gonx, q_gort, q_gobk, q_goct, q_add, q_addl, q_addt, q_sub, q_mul, q_mull, q_mult, q_div, q_mod, q_pow, q_eq, q_ne, q_lt, q_le, q_gt, q_ge, q_is1, q_is2, q_is3, q_is4, q_is5, q_tr0, q_trb, q_tri, q_trl, q_trt, q_ixl, q_ixt, q_sll, q_slt, q_sls, q_lenl, q_lent, q_inti, q_absi, q_lisl, q_list, q_tupl, q_tupt, q_all, q_maxl, q_max, q_min, q_itl, q_itt, q_seql, q_seqt, q_rng1, q_rng2, q_enu1, q_enu2, q_end1, q_end2, q_own, q_val, q_st1, q_stt, q_stpr, q_sta0, q_sta1, q_re1, q_re0, q_appA, q_appioA, q_appkA, ↓bind_o, obind_some, List.getElem?_cons_zero, List.getElem?_cons_succ, List.set_cons_zero, List.set_cons_succ, lockS, slotL, Fz.atS, putL, runD, en0, vals, setS, opStop, wipeE, wipeS, restE, restS, plainS, szB_of, posB_of, b62_of, mulB_of, divB_of, powB_of, repB_one, timB_one, flat_one, I_rep, atI_0, atI_1, atI_2, atI_3, atI_4, ixN_of, cut_from, cut_to, eqv_int, eqv_none, shp_int, shp_bool, shp_none, zip_I]
        · simp (config := {implicitDefEqProofs := false}) (disch := omega) [e1, -Int.natCast_add, q_int, q_bl, q_non, q_nm, q_bin, q_neg, q_negI, q_not, q_bop, q_ife, q_cmp, q_ix, q_ixn, q_sl, q_sln, q_blt, q_lenn, q_isi, q_lst, q_tup, q_lc, q_push, q_pop, q_evc, q_to0, q_to1, q_o0, q_o1, q_intD, q_a0, q_a1, q_tnt, q_tbop, q_tcmp, q_chn, q_tchn, q_tval, q_tnm, q_iseq, q_irng, q_ienu, q_izip, q_iez, q_irev, q_sset, q_stgt, q_spro, q_spar, q_sput, q_sret, q_sretn, q_sife, q_swhl, q_sfor, q_sex, q_spass, q_sbrk, q_scnt, q_ss0, q_ss1, q_gonx, q_gort, q_gobk, q_goct, q_add, q_addl, q_addt, q_sub, q_mul, q_mull, q_mult, q_div, q_mod, q_pow, q_eq, q_ne, q_lt, q_le, q_gt, q_ge, q_is1, q_is2, q_is3, q_is4, q_is5, q_tr0, q_trb, q_tri, q_trl, q_trt, q_ixl, q_ixt, q_sll, q_slt, q_sls, q_lenl, q_lent, q_inti, q_absi, q_lisl, q_list, q_tupl, q_tupt, q_all, q_maxl, q_max, q_min, q_itl, q_itt, q_seql, q_seqt, q_rng1, q_rng2, q_enu1, q_enu2, q_end1, q_end2, q_own, q_val, q_st1, q_stt, q_stpr, q_sta0, q_sta1, q_re1, q_re0, q_appA, q_appioA, q_appkA, ↓bind_o, obind_some, List.getElem?_cons_zero, List.getElem?_cons_succ, List.set_cons_zero, List.set_cons_succ, lockS, slotL, Fz.atS, putL, runD, en0, vals, setS, opStop, wipeE, wipeS, restE, restS, plainS, szB_of, posB_of, b62_of, mulB_of, divB_of, powB_of, repB_one, timB_one, flat_one, I_rep, atI_0, atI_1, atI_2, atI_3, atI_4, ixN_of, cut_from, cut_to, eqv_int, eqv_none, shp_int, shp_bool, shp_none, zip_I]
    · refine ⟨m + 1, Nat.le_refl _, ?_, while_end ?_⟩
      · rw [ht, trim_snoc _ hz]
      · simp (config := {implicitDefEqProofs := false}) (disch := omega) [e1, e2, hat, hz, -Int.natCast_add, q_int, q_bl, q_non, q_nm, q_bin, q_neg, q_negI, q_not, q_bop, q_ife, q_cmp, q_ix, q_ixn, q_sl, q_sln, q_blt, q_lenn, q_isi, q_lst, q_tup, q_lc, q_push, q_pop, q_evc, q_to0, q_to1, q_o0, q_o1, q_intD, q_a0, q_a1, q_tnt, q_tbop, q_tcmp, q_chn, q_tchn, q_tval, q_tnm, q_iseq, q_irng, q_ienu, q_izip, q_iez, q_irev, q_sset, q_stgt, q_spro, q_spar, q_sput, q_sret, q_sretn, q_sife, q_swhl, q_sfor, q_sex, q_spass, q_sbrk, q_scnt, q_ss0, q_ss1, q_gonx, q_gort, q_gobk, q_goct, q_add, q_addl, q_addt, q_sub, q_mul, q_mull, q_mult, q_div, q_mod, q_pow, q_eq, q_ne, q_lt, q_le, q_gt, q_ge, q_is1, q_is2, q_is3, q_is4, q_is5, q_tr0, q_trb, q_tri, q_trl, q_trt, q_ixl, q_ixt, q_sll, q_slt, q_sls, q_lenl, q_lent, q_inti, q_absi, q_lisl, q_list, q_tupl, q_tupt, q_all, q_maxl, q_max, q_min, q_itl, q_itt, q_seql, q_seqt, q_rng1, q_rng2, q_enu1, q_enu2, q_end1, q_end2, q_own, q_val, q_st1, q_stt, q_stpr, q_sta0, q_sta1, q_re1, q_re0, q_appA, q_appioA, q_appkA, ↓bind_o, obind_some, List.getElem?_cons_zero, List.getElem?_cons_succ, List.set_cons_zero, List.set_cons_succ, lockS, slotL, Fz.atS, putL, runD, en0, vals, setS, opStop, wipeE, wipeS, restE, restS, plainS, szB_of, posB_of, b62_of, mulB_of, divB_of, powB_of, repB_one, timB_one, flat_one, I_rep, atI_0, atI_1, atI_2, atI_3, atI_4, ixN_of, cut_from, cut_to, eqv_int, eqv_none, shp_int, shp_bool, shp_none, zip_I]
theorem run_trim (hN : N.length = 2) {ds : List D} {z : Bool × D × List D} (h : d_trim ds = some z) : runD ⟨N, fs, WW⟩ 60 false B_q_trim ds = some z := by
  unfold d_trim at h
  split at h
  · rename_i a
    simp only [Option.bind_eq_some_iff] at h
    obtain ⟨f, hf, h⟩ := h
    split at h
    · rename_i hp
      cases h
      rw [allI_eq hf]
      obtain ⟨m', h1, h2, h3⟩ := trim_loop ⟨N, fs, WW⟩ f [] 48 f.length WW (Nat.le_refl _) (by show f.length < 1048576; omega)
      rw [List.take_length] at h2
      change whileL (evT _ 57 _) (evSs _ 57 _) _ _ = _ at h3
      have h4 : Fz.cutD (I f) none (some (m' : Int)) = I (trim f) := by rw [cut_to (by omega), Int.toNat_natCast, h2]
      simp (config := {implicitDefEqProofs := false}) (disch := omega) [B_q_trim, hN, h3, h4, q_int, q_bl, q_non, q_nm, q_bin, q_neg, q_negI, q_not, q_bop, q_ife, q_cmp, q_ix, q_ixn, q_sl, q_sln, q_blt, q_lenn, q_isi, q_lst, q_tup, q_lc, q_push, q_pop, q_evc, q_to0, q_to1, q_o0, q_o1, q_intD, q_a0, q_a1, q_tnt, q_tbop, q_tcmp, q_chn, q_tchn, q_tval, q_tnm, q_iseq, q_irng, q_ienu, q_izip, q_iez, q_irev, q_sset, q_stgt, q_spro, q_spar, q_sput, q_sret, q_sretn, q_sife, q_swhl, q_sfor, q_sex, q_spass, q_sbrk, q_scnt, q_ss0, q_ss1, q_gonx, q_gort, q_gobk, q_goct, q_add, q_addl, q_addt, q_sub, q_mul, q_mull, q_mult, q_div, q_mod, q_pow, q_eq, q_ne, q_lt, q_le, q_gt, q_ge, q_is1, q_is2, q_is3, q_is4, q_is5, q_tr0, q_trb, q_tri, q_trl, q_trt, q_ixl, q_ixt, q_sll, q_slt, q_sls, q_lenl, q_lent, q_inti, q_absi, q_lisl, q_list, q_tupl, q_tupt, q_all, q_maxl, q_max, q_min, q_itl, q_itt, q_seql, q_seqt, q_rng1, q_rng2, q_enu1, q_enu2, q_end1, q_end2, q_own, q_val, q_st1, q_stt, q_stpr, q_sta0, q_sta1, q_re1, q_re0, q_appA, q_appioA, q_appkA, ↓bind_o, obind_some, List.getElem?_cons_zero, List.getElem?_cons_succ, List.set_cons_zero, List.set_cons_succ, lockS, slotL, Fz.atS, putL, runD, en0, vals, setS, opStop, wipeE, wipeS, restE, restS, plainS, szB_of, posB_of, b62_of, mulB_of, divB_of, powB_of, repB_one, timB_one, flat_one, I_rep, atI_0, atI_1, atI_2, atI_3, atI_4, ixN_of, cut_from, cut_to, eqv_int, eqv_none, shp_int, shp_bool, shp_none, zip_I]
    · cases h
  · cases h
theorem call_trim (hF : At fs j17 false 1 d_trim) {l : List D} {ns : List Int} (hl : ns.length ≤ 100000) (e : l = I ns) : cAt fs j17 [.list l] = some (false, .tuple (I (trim ns))) := by
  subst e
  refine hF.c (l := []) rfl ?_
  simp [d_trim, hl]
/-! ### sums, place by place -/
def za : List Int → List Int → List Int
  | [], g => g
  | x :: f, [] => x :: f
  | x :: f, y :: g => (x + y) :: za f g
def zs : List Int → List Int → List Int
  | [], g => g.map (- ·)
  | x :: f, [] => x :: f
  | x :: f, y :: g => (x - y) :: zs f g
theorem zadd_za : ∀ f g : List Int, zadd f g = za f g
  | [], g => by simp [zadd, za]
  | x :: f, [] => by simp [zadd, za]
  | x :: f, y :: g => by
    have ih := zadd_za f g
    unfold zadd at ih ⊢
    simp only [List.zip_cons_cons, List.map_cons, List.length_cons, List.drop_succ_cons, List.cons_append]
    rw [ih]
    rfl
theorem zsub_zs : ∀ f g : List Int, zsub f g = zs f g
  | [], g => by simp [zsub, zs]
  | x :: f, [] => by simp [zsub, zs]
  | x :: f, y :: g => by
    have ih := zsub_zs f g
    unfold zsub at ih ⊢
    simp only [List.zip_cons_cons, List.map_cons, List.length_cons, List.drop_succ_cons, List.cons_append]
    rw [ih]
    rfl
theorem range_getD : ∀ f : List Int, (List.range f.length).map (fun k => gd f k) = f
  | [] => rfl
  | x :: f => by
    rw [List.length_cons, List.range_succ_eq_map, List.map_cons, List.map_map]
    refine congr (congrArg List.cons (by rfl)) ?_
    exact (List.map_congr_left fun k _ => by rfl).trans (range_getD f)
def padAdd (f g : List Int) : List Int := (List.range (max f.length g.length)).map fun k => gd f k + gd g k
def padSub (f g : List Int) : List Int := (List.range (max f.length g.length)).map fun k => gd f k - gd g k
theorem padAdd_za : ∀ f g : List Int, padAdd f g = za f g
  | [], g => by
    unfold padAdd za
    refine Eq.trans ?_ (range_getD g)
    rw [show max ([] : List Int).length g.length = g.length from Nat.zero_max _]
    exact List.map_congr_left fun k _ => by simp [gd]
  | x :: f, [] => by
    unfold padAdd za
    refine Eq.trans ?_ (range_getD (x :: f))
    rw [show max (x :: f).length ([] : List Int).length = (x :: f).length from Nat.max_zero _]
    exact List.map_congr_left fun k _ => by simp [gd]
  | x :: f, y :: g => by
    have ih := padAdd_za f g
    unfold padAdd at ih ⊢
    rw [show max (x :: f).length (y :: g).length = max f.length g.length + 1 by simp only [List.length_cons]; omega, List.range_succ_eq_map, List.map_cons, List.map_map]
    unfold za
    rw [← ih]
    rfl
theorem padSub_zs : ∀ f g : List Int, padSub f g = zs f g
  | [], g => by
    unfold padSub zs
    refine Eq.trans ?_ (congrArg (List.map (- ·)) (range_getD g))
    rw [show max ([] : List Int).length g.length = g.length from Nat.zero_max _, List.map_map]
    exact List.map_congr_left fun k _ => by simp [gd]
  | x :: f, [] => by
    unfold padSub zs
    refine Eq.trans ?_ (range_getD (x :: f))
    rw [show max (x :: f).length ([] : List Int).length = (x :: f).length from Nat.max_zero _]
    exact List.map_congr_left fun k _ => by simp [gd]
  | x :: f, y :: g => by
    have ih := padSub_zs f g
    unfold padSub at ih ⊢
    rw [show max (x :: f).length (y :: g).length = max f.length g.length + 1 by simp only [List.length_cons]; omega, List.range_succ_eq_map, List.map_cons, List.map_map]
    unfold zs
    rw [← ih]
    rfl
theorem max_if (a b : Nat) : (if a < b then (b : Int) else (a : Int)) = ((max a b : Nat) : Int) := by
  split <;> omega
theorem getD_out {f : List Int} {k : Nat} (h : ¬ k < f.length) : gd f k = 0 := by
  unfold gd
  rw [List.getD_eq_getElem?_getD, List.getElem?_eq_none (by omega)]
  rfl
theorem run_plus (hN : N.length = 5) (hF : At fs j17 false 1 d_trim) {ds : List D} {z : Bool × D × List D} (h : d_add ds = some z) : runD ⟨N, fs, WW⟩ 60 false (B_q_plus j17) ds = some z := by
  unfold d_add two at h
  split at h
  · rename_i p a b
    simp only [Option.bind_eq_some_iff] at h
    obtain ⟨f, hf, g, hg, h⟩ := h
    split at h
    · rename_i hp
      simp only [Option.map_some, Option.some.injEq] at h
      cases h
      rw [allI_eq hf, allI_eq hg]
      obtain ⟨hp, h1, h2⟩ := hp
      have hmx := max_if f.length g.length
      have hc : ∀ n, lcL (evC ⟨N, fs, WW⟩ (n + 19) (.one 4) [4] none (.bin .Mod (.blt .int [(.bin .Add (.ife (.cmp .Lt (.nm 4) (.lenn 1)) (.ixn 1 (.nm 4)) (.int 0)) (.ife (.cmp .Lt (.nm 4) (.lenn 2)) (.ixn 2 (.nm 4)) (.int 0)))]) (.nm 0))) (rngD 0 (max f.length g.length)) ⟨[.val (.int p), .val (.tuple (I f)), .val (.tuple (I g)), .val (.int (max f.length g.length : Nat)), .no], []⟩ = some (I ((padAdd f g).map (· % p)), ⟨[.val (.int p), .val (.tuple (I f)), .val (.tuple (I g)), .val (.int (max f.length g.length : Nat)), .no], []⟩) := by
        intro n
        rw [show I ((padAdd f g).map (· % p)) = (List.range (max f.length g.length)).map fun k => PyData.int ((gd f k + gd g k) % p) by unfold padAdd I; rw [List.map_map, List.map_map]; rfl]
        unfold rngD
        refine lcL_pure _ _ fun k _ => ?_
        rw [Int.zero_add]
        by_cases hk : k < f.length <;> by_cases hk2 : k < g.length
        · simp (config := {implicitDefEqProofs := false}) (disch := omega) [hk, hk2, atI_D hk, atI_D hk2, q_int, q_bl, q_non, q_nm, q_bin, q_neg, q_negI, q_not, q_bop, q_ife, q_cmp, q_ix, q_ixn, q_sl, q_sln, q_blt, q_lenn, q_isi, q_lst, q_tup, q_lc, q_push, q_pop, q_evc, q_to0, q_to1, q_o0, q_o1, q_intD, q_a0, q_a1, q_tnt, q_tbop, q_tcmp, q_chn, q_tchn, q_tval, q_tnm, q_iseq, q_irng, q_ienu, q_izip, q_iez, q_irev, q_sset, q_stgt, q_spro, q_spar, q_sput, q_sret, q_sretn, q_sife, q_swhl, q_sfor, q_sex, q_spass, q_sbrk, q_scnt, q_ss0, q_ss1, q_gonx, q_gort, q_gobk, q_goct, q_add, q_addl, q_addt, q_sub, q_mul, q_mull, q_mult, q_div, q_mod, q_pow, q_eq, q_ne, q_lt, q_le, q_gt, q_ge, q_is1, q_is2, q_is3, q_is4, q_is5, q_tr0, q_trb, q_tri, q_trl, q_trt, q_ixl, q_ixt, q_sll, q_slt, q_sls, q_lenl, q_lent, q_inti, q_absi, q_lisl, q_list, q_tupl, q_tupt, q_all, q_maxl, q_max, q_min, q_itl, q_itt, q_seql, q_seqt, q_rng1, q_rng2, q_enu1, q_enu2, q_end1, q_end2, q_own, q_val, q_st1, q_stt, q_stpr, q_sta0, q_sta1, q_re1, q_re0, q_appA, q_appioA, q_appkA, ↓bind_o, obind_some, List.getElem?_cons_zero, List.getElem?_cons_succ, List.set_cons_zero, List.set_cons_succ, lockS, slotL, Fz.atS, putL, runD, en0, vals, setS, opStop, wipeE, wipeS, restE, restS, plainS, szB_of, posB_of, b62_of, mulB_of, divB_of, powB_of, repB_one, timB_one, flat_one, I_rep, atI_0, atI_1, atI_2, atI_3, atI_4, ixN_of, cut_from, cut_to, eqv_int, eqv_none, shp_int, shp_bool, shp_none, zip_I]
        · simp (config := {implicitDefEqProofs := false}) (disch := omega) [hk, hk2, atI_D hk, getD_out hk2, q_int, q_bl, q_non, q_nm, q_bin, q_neg, q_negI, q_not, q_bop, q_ife, q_cmp, q_ix, q_ixn, q_sl, q_sln, q_blt, q_lenn, q_isi, q_lst, q_tup, q_lc, q_push, q_pop, q_evc, q_to0, q_to1, q_o0, q_o1, q_intD, q_a0, q_a1, q_tnt, q_tbop, q_tcmp, q_chn, q_tchn, q_tval, q_tnm, q_iseq, q_irng, q_ienu, q_izip, q_iez, q_irev, q_sset, q_stgt, q_spro, q_spar, q_sput, q_sret, q_sretn, q_sife, q_swhl, q_sfor, q_sex, q_spass, q_sbrk, q_scnt, q_ss0, q_ss1, q_gonx, q_gort, q_gobk, q_goct, q_add, q_addl, q_addt, q_sub, q_mul, q_mull, q_mult, q_div, q_mod, q_pow, q_eq, q_ne, q_lt, q_le, q_gt, q_ge, q_is1, q_is2, q_is3, q_is4, q_is5, q_tr0, q_trb, q_tri, q_trl, q_trt, q_ixl, q_ixt, q_sll, q_slt, q_sls, q_lenl, q_lent, q_inti, q_absi, q_lisl, q_list, q_tupl, q_tupt, q_all, q_maxl, q_max, q_min, q_itl, q_itt, q_seql, q_seqt, q_rng1, q_rng2, q_enu1, q_enu2, q_end1, q_end2, q_own, q_val, q_st1, q_stt, q_stpr, q_sta0, q_sta1, q_re1, q_re0, q_appA, q_appioA, q_appkA, ↓bind_o, obind_some, List.getElem?_cons_zero, List.getElem?_cons_succ, List.set_cons_zero, List.set_cons_succ, lockS, slotL, Fz.atS, putL, runD, en0, vals, setS, opStop, wipeE, wipeS, restE, restS, plainS, szB_of, posB_of, b62_of, mulB_of, divB_of, powB_of, repB_one, timB_one, flat_one, I_rep, atI_0, atI_1, atI_2, atI_3, atI_4, ixN_of, cut_from, cut_to, eqv_int, eqv_none, shp_int, shp_bool, shp_none, zip_I]
        · simp (config := {implicitDefEqProofs := false}) (disch := omega) [hk, hk2, getD_out hk, atI_D hk2, q_int, q_bl, q_non, q_nm, q_bin, q_neg, q_negI, q_not, q_bop, q_ife, q_cmp, q_ix, q_ixn, q_sl, q_sln, q_blt, q_lenn, q_isi, q_lst, q_tup, q_lc, q_push, q_pop, q_evc, q_to0, q_to1, q_o0, q_o1, q_intD, q_a0, q_a1, q_tnt, q_tbop, q_tcmp, q_chn, q_tchn, q_tval, q_tnm, q_iseq, q_irng, q_ienu, q_izip, q_iez, q_irev, q_sset, q_stgt, q_spro, q_spar, q_sput, q_sret, q_sretn, q_sife, q_swhl, q_sfor, q_sex, q_spass, q_sbrk, q_scnt, q_ss0, q_ss1, q_gonx, q_gort, q_gobk, q_goct, q_add, q_addl, q_addt, q_sub, q_mul, q_mull, q_mult, q_div, q_mod, q_pow, q_eq, q_ne, q_lt, q_le, q_gt, q_ge, q_is1, q_is2, q_is3, q_is4, q_is5, q_tr0, q_trb, q_tri, q_trl, q_trt, q_ixl, q_ixt, q_sll, q_slt, q_sls, q_lenl, q_lent, q_inti, q_absi, q_lisl, q_list, q_tupl, q_tupt, q_all, q_maxl, q_max, q_min, q_itl, q_itt, q_seql, q_seqt, q_rng1, q_rng2, q_enu1, q_enu2, q_end1, q_end2, q_own, q_val, q_st1, q_stt, q_stpr, q_sta0, q_sta1, q_re1, q_re0, q_appA, q_appioA, q_appkA, ↓bind_o, obind_some, List.getElem?_cons_zero, List.getElem?_cons_succ, List.set_cons_zero, List.set_cons_succ, lockS, slotL, Fz.atS, putL, runD, en0, vals, setS, opStop, wipeE, wipeS, restE, restS, plainS, szB_of, posB_of, b62_of, mulB_of, divB_of, powB_of, repB_one, timB_one, flat_one, I_rep, atI_0, atI_1, atI_2, atI_3, atI_4, ixN_of, cut_from, cut_to, eqv_int, eqv_none, shp_int, shp_bool, shp_none, zip_I]
        · simp (config := {implicitDefEqProofs := false}) (disch := omega) [hk, hk2, getD_out hk, getD_out hk2, q_int, q_bl, q_non, q_nm, q_bin, q_neg, q_negI, q_not, q_bop, q_ife, q_cmp, q_ix, q_ixn, q_sl, q_sln, q_blt, q_lenn, q_isi, q_lst, q_tup, q_lc, q_push, q_pop, q_evc, q_to0, q_to1, q_o0, q_o1, q_intD, q_a0, q_a1, q_tnt, q_tbop, q_tcmp, q_chn, q_tchn, q_tval, q_tnm, q_iseq, q_irng, q_ienu, q_izip, q_iez, q_irev, q_sset, q_stgt, q_spro, q_spar, q_sput, q_sret, q_sretn, q_sife, q_swhl, q_sfor, q_sex, q_spass, q_sbrk, q_scnt, q_ss0, q_ss1, q_gonx, q_gort, q_gobk, q_goct, q_add, q_addl, q_addt, q_sub, q_mul, q_mull, q_mult, q_div, q_mod, q_pow, q_eq, q_ne, q_lt, q_le, q_gt, q_ge, q_is1, q_is2, q_is3, q_is4, q_is5, q_tr0, q_trb, q_tri, q_trl, q_trt, q_ixl, q_ixt, q_sll, q_slt, q_sls, q_lenl, q_lent, q_inti, q_absi, q_lisl, q_list, q_tupl, q_tupt, q_all, q_maxl, q_max, q_min, q_itl, q_itt, q_seql, q_seqt, q_rng1, q_rng2, q_enu1, q_enu2, q_end1, q_end2, q_own, q_val, q_st1, q_stt, q_stpr, q_sta0, q_sta1, q_re1, q_re0, q_appA, q_appioA, q_appkA, ↓bind_o, obind_some, List.getElem?_cons_zero, List.getElem?_cons_succ, List.set_cons_zero, List.set_cons_succ, lockS, slotL, Fz.atS, putL, runD, en0, vals, setS, opStop, wipeE, wipeS, restE, restS, plainS, szB_of, posB_of, b62_of, mulB_of, divB_of, powB_of, repB_one, timB_one, flat_one, I_rep, atI_0, atI_1, atI_2, atI_3, atI_4, ixN_of, cut_from, cut_to, eqv_int, eqv_none, shp_int, shp_bool, shp_none, zip_I]
      have hd := call_trim hF (l := I ((padAdd f g).map (· % p))) (by rw [List.length_map]; unfold padAdd; rw [List.length_map, List.length_range]; omega) rfl
      rw [show trim ((padAdd f g).map (· % p)) = formOf p (zadd f g) by rw [zadd_za, ← padAdd_za]; rfl] at hd
      simp (config := {implicitDefEqProofs := false}) (disch := omega) [B_q_plus, hN, hmx, rngD_len, hc, hF, hd, q_int, q_bl, q_non, q_nm, q_bin, q_neg, q_negI, q_not, q_bop, q_ife, q_cmp, q_ix, q_ixn, q_sl, q_sln, q_blt, q_lenn, q_isi, q_lst, q_tup, q_lc, q_push, q_pop, q_evc, q_to0, q_to1, q_o0, q_o1, q_intD, q_a0, q_a1, q_tnt, q_tbop, q_tcmp, q_chn, q_tchn, q_tval, q_tnm, q_iseq, q_irng, q_ienu, q_izip, q_iez, q_irev, q_sset, q_stgt, q_spro, q_spar, q_sput, q_sret, q_sretn, q_sife, q_swhl, q_sfor, q_sex, q_spass, q_sbrk, q_scnt, q_ss0, q_ss1, q_gonx, q_gort, q_gobk, q_goct, q_add, q_addl, q_addt, q_sub, q_mul, q_mull, q_mult, q_div, q_mod, q_pow, q_eq, q_ne, q_lt, q_le, q_gt, q_ge, q_is1, q_is2, q_is3, q_is4, q_is5, q_tr0, q_trb, q_tri, q_trl, q_trt, q_ixl, q_ixt, q_sll, q_slt, q_sls, q_lenl, q_lent, q_inti, q_absi, q_lisl, q_list, q_tupl, q_tupt, q_all, q_maxl, q_max, q_min, q_itl, q_itt, q_seql, q_seqt, q_rng1, q_rng2, q_enu1, q_enu2, q_end1, q_end2, q_own, q_val, q_st1, q_stt, q_stpr, q_sta0, q_sta1, q_re1, q_re0, q_appA, q_appioA, q_appkA, ↓bind_o, obind_some, List.getElem?_cons_zero, List.getElem?_cons_succ, List.set_cons_zero, List.set_cons_succ, lockS, slotL, Fz.atS, putL, runD, en0, vals, setS, opStop, wipeE, wipeS, restE, restS, plainS, szB_of, posB_of, b62_of, mulB_of, divB_of, powB_of, repB_one, timB_one, flat_one, I_rep, atI_0, atI_1, atI_2, atI_3, atI_4, ixN_of, cut_from, cut_to, eqv_int, eqv_none, shp_int, shp_bool, shp_none, zip_I]
    · cases h
  · cases h
theorem run_minus (hN : N.length = 5) (hF : At fs j17 false 1 d_trim) {ds : List D} {z : Bool × D × List D} (h : d_subtract ds = some z) : runD ⟨N, fs, WW⟩ 60 false (B_q_minus j17) ds = some z := by
  unfold d_subtract two at h
  split at h
  · rename_i p a b
    simp only [Option.bind_eq_some_iff] at h
    obtain ⟨f, hf, g, hg, h⟩ := h
    split at h
    · rename_i hp
      simp only [Option.map_some, Option.some.injEq] at h
      cases h
      rw [allI_eq hf, allI_eq hg]
      obtain ⟨hp, h1, h2⟩ := hp
      have hmx := max_if f.length g.length
      have hc : ∀ n, lcL (evC ⟨N, fs, WW⟩ (n + 19) (.one 4) [4] none (.bin .Mod (.blt .int [(.bin .Sub (.ife (.cmp .Lt (.nm 4) (.lenn 1)) (.ixn 1 (.nm 4)) (.int 0)) (.ife (.cmp .Lt (.nm 4) (.lenn 2)) (.ixn 2 (.nm 4)) (.int 0)))]) (.nm 0))) (rngD 0 (max f.length g.length)) ⟨[.val (.int p), .val (.tuple (I f)), .val (.tuple (I g)), .val (.int (max f.length g.length : Nat)), .no], []⟩ = some (I ((padSub f g).map (· % p)), ⟨[.val (.int p), .val (.tuple (I f)), .val (.tuple (I g)), .val (.int (max f.length g.length : Nat)), .no], []⟩) := by
        intro n
        rw [show I ((padSub f g).map (· % p)) = (List.range (max f.length g.length)).map fun k => PyData.int ((gd f k - gd g k) % p) by unfold padSub I; rw [List.map_map, List.map_map]; rfl]
        unfold rngD
        refine lcL_pure _ _ fun k _ => ?_
        rw [Int.zero_add]
        by_cases hk : k < f.length <;> by_cases hk2 : k < g.length
        · simp (config := {implicitDefEqProofs := false}) (disch := omega) [hk, hk2, atI_D hk, atI_D hk2, q_int, q_bl, q_non, q_nm, q_bin, q_neg, q_negI, q_not, q_bop, q_ife, q_cmp, q_ix, q_ixn, q_sl, q_sln, q_blt, q_lenn, q_isi, q_lst, q_tup, q_lc, q_push, q_pop, q_evc, q_to0, q_to1, q_o0, q_o1, q_intD, q_a0, q_a1, q_tnt, q_tbop, q_tcmp, q_chn, q_tchn, q_tval, q_tnm, q_iseq, q_irng, q_ienu, q_izip, q_iez, q_irev, q_sset, q_stgt, q_spro, q_spar, q_sput, q_sret, q_sretn, q_sife, q_swhl, q_sfor, q_sex, q_spass, q_sbrk, q_scnt, q_ss0, q_ss1, q_gonx, q_gort, q_gobk, q_goct, q_add, q_addl, q_addt, q_sub, q_mul, q_mull, q_mult, q_div, q_mod, q_pow, q_eq, q_ne, q_lt, q_le, q_gt, q_ge, q_is1, q_is2, q_is3, q_is4, q_is5, q_tr0, q_trb, q_tri, q_trl, q_trt, q_ixl, q_ixt, q_sll, q_slt, q_sls, q_lenl, q_lent, q_inti, q_absi, q_lisl, q_list, q_tupl, q_tupt, q_all, q_maxl, q_max, q_min, q_itl, q_itt, q_seql, q_seqt, q_rng1, q_rng2, q_enu1, q_enu2, q_end1, q_end2, q_own, q_val, q_st1, q_stt, q_stpr, q_sta0, q_sta1, q_re1, q_re0, q_appA, q_appioA, q_appkA, ↓bind_o, obind_some, List.getElem?_cons_zero, List.getElem?_cons_succ, List.set_cons_zero, List.set_cons_succ, lockS, slotL, Fz.atS, putL, runD, en0, vals, setS, opStop, wipeE, wipeS, restE, restS, plainS, szB_of, posB_of, b62_of, mulB_of, divB_of, powB_of, repB_one, timB_one, flat_one, I_rep, atI_0, atI_1, atI_2, atI_3, atI_4, ixN_of, cut_from, cut_to, eqv_int, eqv_none, shp_int, shp_bool, shp_none, zip_I]
        · simp (config := {implicitDefEqProofs := false}) (disch := omega) [hk, hk2, atI_D hk, getD_out hk2, q_int, q_bl, q_non, q_nm, q_bin, q_neg, q_negI, q_not, q_bop, q_ife, q_cmp, q_ix, q_ixn, q_sl, q_sln, q_blt, q_lenn, q_isi, q_lst, q_tup, q_lc, q_push, q_pop, q_evc, q_to0, q_to1, q_o0, q_o1, q_intD, q_a0, q_a1, q_tnt, q_tbop, q_tcmp, q_chn, q_tchn, q_tval, q_tnm, q_iseq, q_irng, q_ienu, q_izip, q_iez, q_irev, q_sset, q_stgt, q_spro, q_spar, q_sput, q_sret, q_sretn, q_sife, q_swhl, q_sfor, q_sex, q_spass, q_sbrk, q_scnt, q_ss0, q_ss1, q_gonx, q_gort, q_gobk, q_goct, q_add, q_addl, q_addt, q_sub, q_mul, q_mull, q_mult, q_div, q_mod, q_pow, q_eq, q_ne, q_lt, q_le, q_gt, q_ge, q_is1, q_is2, q_is3, q_is4, q_is5, q_tr0, q_trb, q_tri, q_trl, q_trt, q_ixl, q_ixt, q_sll, q_slt, q_sls, q_lenl, q_lent, q_inti, q_absi, q_lisl, q_list, q_tupl, q_tupt, q_all, q_maxl, q_max, q_min, q_itl, q_itt, q_seql, q_seqt, q_rng1, q_rng2, q_enu1, q_enu2, q_end1, q_end2, q_own, q_val, q_st1, q_stt, q_stpr, q_sta0, q_sta1, q_re1, q_re0, q_appA, q_appioA, q_appkA, ↓bind_o, obind_some, List.getElem?_cons_zero, List.getElem?_cons_succ, List.set_cons_zero, List.set_cons_succ, lockS, slotL, Fz.atS, putL, runD, en0, vals, setS, opStop, wipeE, wipeS, restE, restS, plainS, szB_of, posB_of, b62_of, mulB_of, divB_of, powB_of, repB_one, timB_one, flat_one, I_rep, atI_0, atI_1, atI_2, atI_3, atI_4, ixN_of, cut_from, cut_to, eqv_int, eqv_none, shp_int, shp_bool, shp_none, zip_I]
        · simp (config := {implicitDefEqProofs := false}) (disch := omega) [hk, hk2, getD_out hk, atI_D hk2, q_int, q_bl, q_non, q_nm, q_bin, q_neg, q_negI, q_not, q_bop, q_ife, q_cmp, q_ix, q_ixn, q_sl, q_sln, q_blt, q_lenn, q_isi, q_lst, q_tup, q_lc, q_push, q_pop, q_evc, q_to0, q_to1, q_o0, q_o1, q_intD, q_a0, q_a1, q_tnt, q_tbop, q_tcmp, q_chn, q_tchn, q_tval, q_tnm, q_iseq, q_irng, q_ienu, q_izip, q_iez, q_irev, q_sset, q_stgt, q_spro, q_spar, q_sput, q_sret, q_sretn, q_sife, q_swhl, q_sfor, q_sex, q_spass, q_sbrk, q_scnt, q_ss0, q_ss1, q_gonx, q_gort, q_gobk, q_goct, q_add, q_addl, q_addt, q_sub, q_mul, q_mull, q_mult, q_div, q_mod, q_pow, q_eq, q_ne, q_lt, q_le, q_gt, q_ge, q_is1, q_is2, q_is3, q_is4, q_is5, q_tr0, q_trb, q_tri, q_trl, q_trt, q_ixl, q_ixt, q_sll, q_slt, q_sls, q_lenl, q_lent, q_inti, q_absi, q_lisl, q_list, q_tupl, q_tupt, q_all, q_maxl, q_max, q_min, q_itl, q_itt, q_seql, q_seqt, q_rng1, q_rng2, q_enu1, q_enu2, q_end1, q_end2, q_own, q_val, q_st1, q_stt, q_stpr, q_sta0, q_sta1, q_re1, q_re0, q_appA, q_appioA, q_appkA, ↓bind_o, obind_some, List.getElem?_cons_zero, List.getElem?_cons_succ, List.set_cons_zero, List.set_cons_succ, lockS, slotL, Fz.atS, putL, runD, en0, vals, setS, opStop, wipeE, wipeS, restE, restS, plainS, szB_of, posB_of, b62_of, mulB_of, divB_of, powB_of, repB_one, timB_one, flat_one, I_rep, atI_0, atI_1, atI_2, atI_3, atI_4, ixN_of, cut_from, cut_to, eqv_int, eqv_none, shp_int, shp_bool, shp_none, zip_I]
        · simp (config := {implicitDefEqProofs := false}) (disch := omega) [hk, hk2, getD_out hk, getD_out hk2, q_int, q_bl, q_non, q_nm, q_bin, q_neg, q_negI, q_not, q_bop, q_ife, q_cmp, q_ix, q_ixn, q_sl, q_sln, q_blt, q_lenn, q_isi, q_lst, q_tup, q_lc, q_push, q_pop, q_evc, q_to0, q_to1, q_o0, q_o1, q_intD, q_a0, q_a1, q_tnt, q_tbop, q_tcmp, q_chn, q_tchn, q_tval, q_tnm, q_iseq, q_irng, q_ienu, q_izip, q_iez, q_irev, q_sset, q_stgt, q_spro, q_spar, q_sput, q_sret, q_sretn, q_sife, q_swhl, q_sfor, q_sex, q_spass, q_sbrk, q_scnt, q_ss0, q_ss1, q_gonx, q_gort, q_gobk, q_goct, q_add, q_addl, q_addt, q_sub, q_mul, q_mull, q_mult, q_div, q_mod, q_pow, q_eq, q_ne, q_lt, q_le, q_gt, q_ge, q_is1, q_is2, q_is3, q_is4, q_is5, q_tr0, q_trb, q_tri, q_trl, q_trt, q_ixl, q_ixt, q_sll, q_slt, q_sls, q_lenl, q_lent, q_inti, q_absi, q_lisl, q_list, q_tupl, q_tupt, q_all, q_maxl, q_max, q_min, q_itl, q_itt, q_seql, q_seqt, q_rng1, q_rng2, q_enu1, q_enu2, q_end1, q_end2, q_own, q_val, q_st1, q_stt, q_stpr, q_sta0, q_sta1, q_re1, q_re0, q_appA, q_appioA, q_appkA, ↓bind_o, obind_some, List.getElem?_cons_zero, List.getElem?_cons_succ, List.set_cons_zero, List.set_cons_succ, lockS, slotL, Fz.atS, putL, runD, en0, vals, setS, opStop, wipeE, wipeS, restE, restS, plainS, szB_of, posB_of, b62_of, mulB_of, divB_of, powB_of, repB_one, timB_one, flat_one, I_rep, atI_0, atI_1, atI_2, atI_3, atI_4, ixN_of, cut_from, cut_to, eqv_int, eqv_none, shp_int, shp_bool, shp_none, zip_I]
      have hd := call_trim hF (l := I ((padSub f g).map (· % p))) (by rw [List.length_map]; unfold padSub; rw [List.length_map, List.length_range]; omega) rfl
      rw [show trim ((padSub f g).map (· % p)) = formOf p (zsub f g) by rw [zsub_zs, ← padSub_zs]; rfl] at hd
      simp (config := {implicitDefEqProofs := false}) (disch := omega) [B_q_minus, hN, hmx, rngD_len, hc, hF, hd, q_int, q_bl, q_non, q_nm, q_bin, q_neg, q_negI, q_not, q_bop, q_ife, q_cmp, q_ix, q_ixn, q_sl, q_sln, q_blt, q_lenn, q_isi, q_lst, q_tup, q_lc, q_push, q_pop, q_evc, q_to0, q_to1, q_o0, q_o1, q_intD, q_a0, q_a1, q_tnt, q_tbop, q_tcmp, q_chn, q_tchn, q_tval, q_tnm, q_iseq, q_irng, q_ienu, q_izip, q_iez, q_irev, q_sset, q_stgt, q_spro, q_spar, q_sput, q_sret, q_sretn, q_sife, q_swhl, q_sfor, q_sex, q_spass, q_sbrk, q_scnt, q_ss0, q_ss1, q_gonx, q_gort, q_gobk, q_goct, q_add, q_addl, q_addt, q_sub, q_mul, q_mull, q_mult, q_div, q_mod, q_pow, q_eq, q_ne, q_lt, q_le, q_gt, q_ge, q_is1, q_is2, q_is3, q_is4, q_is5, q_tr0, q_trb, q_tri, q_trl, q_trt, q_ixl, q_ixt, q_sll, q_slt, q_sls, q_lenl, q_lent, q_inti, q_absi, q_lisl, q_list, q_tupl, q_tupt, q_all, q_maxl, q_max, q_min, q_itl, q_itt, q_seql, q_seqt, q_rng1, q_rng2, q_enu1, q_enu2, q_end1, q_end2, q_own, q_val, q_st1, q_stt, q_stpr, q_sta0, q_sta1, q_re1, q_re0, q_appA, q_appioA, q_appkA, ↓bind_o, obind_some, List.getElem?_cons_zero, List.getElem?_cons_succ, List.set_cons_zero, List.set_cons_succ, lockS, slotL, Fz.atS, putL, runD, en0, vals, setS, opStop, wipeE, wipeS, restE, restS, plainS, szB_of, posB_of, b62_of, mulB_of, divB_of, powB_of, repB_one, timB_one, flat_one, I_rep, atI_0, atI_1, atI_2, atI_3, atI_4, ixN_of, cut_from, cut_to, eqv_int, eqv_none, shp_int, shp_bool, shp_none, zip_I]
    · cases h
  · cases h
/-! ### products -/
theorem rngD_succ (a : Int) (n : Nat) : rngD a (n + 1) = .int a :: rngD (a + 1) n := by
  unfold rngD
  rw [List.range_succ_eq_map, List.map_cons, List.map_map]
  refine congr (congrArg List.cons (by simp)) ?_
  refine List.map_congr_left fun k _ => ?_
  simp only [Function.comp, Nat.succ_eq_add_one]
  congr 1
  omega
theorem drop_gd {g g2 : List Int} {y : Int} {j : Nat} (h : g.drop j = y :: g2) : j < g.length ∧ gd g j = y ∧ g.drop (j + 1) = g2 := by
  have hj : j < g.length := by
    apply Classical.byContradiction
    intro hn
    rw [List.drop_eq_nil_of_le (by omega)] at h
    cases h
  rw [List.drop_eq_getElem_cons hj] at h
  injection h with h1 h2
  refine ⟨hj, ?_, h2⟩
  unfold gd
  rw [List.getD_eq_getElem?_getD, List.getElem?_eq_getElem hj]
  exact h1
theorem qmul_inner (T : Tb) {p0 bg : _} {f g : List Int} {i : Nat} (hi : i < f.length) (hx : small (gd f i)) (hg : ∀ y ∈ g, small y) (n : Nat) : ∀ (g2 s : List Int) (j : Nat) (b z : Sl), g.drop j = g2 → i + j + g2.length ≤ s.length → s.length ≤ 100000 →
    ∃ b', forL (bodyF T (n + 19) (.one 5) [.put 3 (.bin .Add (.nm 4) (.nm 5)) (.bin .Add (.ixn 3 (.bin .Add (.nm 4) (.nm 5))) (.bin .Mult (.ixn 1 (.nm 4)) (.ixn 2 (.nm 5))))]) (rngD (j : Int) g2.length) ⟨[p0, .val (.tuple (I f)), .val (.tuple (I g)), .own (I s), .val (.int (i : Int)), b, z], bg⟩ = some (.nx ⟨[p0, .val (.tuple (I f)), .val (.tuple (I g)), .own (I (addAt s (i + j) (gd f i) g2)), .val (.int (i : Int)), b', z], bg⟩)
  | [], s, j, b, z, _, _, _ => ⟨b, rfl⟩
  | y :: g2, s, j, b, z, hd, hl, hs => by
    obtain ⟨hj, hy, hd2⟩ := drop_gd hd
    have hl' : i + j + (g2.length + 1) ≤ s.length := hl
    have hm : mulB (gd f i) (gd g j) = true := by
      refine small_mul hx (hg _ ?_)
      unfold gd
      rw [List.getD_eq_getElem?_getD, List.getElem?_eq_getElem hj]
      exact List.getElem_mem hj
    rw [hy] at hm
    obtain ⟨b', ih⟩ := qmul_inner T (p0 := p0) (bg := bg) hi hx hg n g2 (s.set (i + j) (gd s (i + j) + gd f i * y)) (j + 1) (.val (.int (j : Int))) z hd2 (by rw [List.length_set]; omega) (by rw [List.length_set]; exact hs)
    refine ⟨b', ?_⟩
    rw [List.length_cons, rngD_succ]
    unfold addAt
    have e0 : (i : Int) + (j : Int) = ((i + j : Nat) : Int) := by omega
    have hat := atI_D (f := s) (k := i + j) (by omega)
    have hix : ixN s.length ((i + j : Nat) : Int) = some (i + j) := by rw [ixN_of (by omega) (by omega), Int.toNat_natCast]
    rw [forL_nx (show bodyF T (n + 19) (.one 5) [.put 3 (.bin .Add (.nm 4) (.nm 5)) (.bin .Add (.ixn 3 (.bin .Add (.nm 4) (.nm 5))) (.bin .Mult (.ixn 1 (.nm 4)) (.ixn 2 (.nm 5))))] (.int (j : Int)) ⟨[p0, .val (.tuple (I f)), .val (.tuple (I g)), .own (I s), .val (.int (i : Int)), b, z], bg⟩ = some (.nx ⟨[p0, .val (.tuple (I f)), .val (.tuple (I g)), .own (I (s.set (i + j) (gd s (i + j) + gd f i * y))), .val (.int (i : Int)), .val (.int (j : Int)), z], bg⟩) by simp (config := {implicitDefEqProofs := false}) (disch := omega) [bodyF, hm, e0, hat, hix, atI_D hi, atI_D hj, hy, I_set, -Int.natCast_add, q_int, q_bl, q_non, q_nm, q_bin, q_neg, q_negI, q_not, q_bop, q_ife, q_cmp, q_ix, q_ixn, q_sl, q_sln, q_blt, q_lenn, q_isi, q_lst, q_tup, q_lc, q_push, q_pop, q_evc, q_to0, q_to1, q_o0, q_o1, q_intD, q_a0, q_a1, q_tnt, q_tbop, q_tcmp, q_chn, q_tchn, q_tval, q_tnm, q_iseq, q_irng, q_ienu, q_izip, q_iez, q_irev, q_sset, q_stgt, q_spro, q_spar, q_sput, q_sret, q_sretn, q_sife, q_swhl, q_sfor, q_sex, q_spass, q_sbrk, q_scnt, q_ss0, q_ss1, q_gonx, q_gort, q_gobk, q_goct, q_add, q_addl, q_addt, q_sub, q_mul, q_mull, q_mult, q_div, q_mod, q_pow, q_eq, q_ne, q_lt, q_le, q_gt, q_ge, q_is1, q_is2, q_is3, q_is4, q_is5, q_tr0, q_trb, q_tri, q_trl, q_trt, q_ixl, q_ixt, q_sll, q_slt, q_sls, q_lenl, q_lent, q_inti, q_absi, q_lisl, q_list, q_tupl, q_tupt, q_all, q_maxl, q_max, q_min, q_itl, q_itt, q_seql, q_seqt, q_rng1, q_rng2, q_enu1, q_enu2, q_end1, q_end2, q_own, q_val, q_st1, q_stt, q_stpr, q_sta0, q_sta1, q_re1, q_re0, q_appA, q_appioA, q_appkA, ↓bind_o, obind_some, List.getElem?_cons_zero, List.getElem?_cons_succ, List.set_cons_zero, List.set_cons_succ, lockS, slotL, Fz.atS, putL, runD, en0, vals, setS, opStop, wipeE, wipeS, restE, restS, plainS, szB_of, posB_of, b62_of, mulB_of, divB_of, powB_of, repB_one, timB_one, flat_one, I_rep, atI_0, atI_1, atI_2, atI_3, atI_4, ixN_of, cut_from, cut_to, eqv_int, eqv_none, shp_int, shp_bool, shp_none, zip_I])]
    rw [show (j : Int) + 1 = ((j + 1 : Nat) : Int) by omega]
    exact ih
theorem qmul_outer (T : Tb) {p0 bg : _} {f g : List Int} (hf : ∀ y ∈ f, small y) (hg : ∀ y ∈ g, small y) (hgl : g.length ≤ 100000) (n : Nat) : ∀ (f2 s : List Int) (i : Nat) (a b z : Sl), f.drop i = f2 → i + (f2.length + g.length) ≤ s.length + 1 → s.length ≤ 100000 →
    ∃ a' b', forL (bodyF T (n + 30) (.one 4) [.for (.one 5) (.rng [(.lenn 2)]) [.put 3 (.bin .Add (.nm 4) (.nm 5)) (.bin .Add (.ixn 3 (.bin .Add (.nm 4) (.nm 5))) (.bin .Mult (.ixn 1 (.nm 4)) (.ixn 2 (.nm 5))))]]) (rngD (i : Int) f2.length) ⟨[p0, .val (.tuple (I f)), .val (.tuple (I g)), .own (I s), a, b, z], bg⟩ = some (.nx ⟨[p0, .val (.tuple (I f)), .val (.tuple (I g)), .own (I (mulFrom g s i f2)), a', b', z], bg⟩)
  := by
  intro f2
  induction f2 with
  | nil => intro s i a b z _ _ _; exact ⟨a, b, rfl⟩
  | cons x f2 IH =>
    intro s i a b z hd hl hs
    obtain ⟨hi, hx, hd2⟩ := drop_gd hd
    have hl' : i + (f2.length + 1 + g.length) ≤ s.length + 1 := hl
    have hxs : small (gd f i) := by
      refine hf _ ?_
      unfold gd
      rw [List.getD_eq_getElem?_getD, List.getElem?_eq_getElem hi]
      exact List.getElem_mem hi
    obtain ⟨b2, h2⟩ := qmul_inner T (p0 := p0) (bg := bg) hi hxs hg (n + 9) g s 0 b z rfl (by omega) hs
    rw [show n + 9 + 19 = n + 28 from rfl, show ((0 : Nat) : Int) = 0 from rfl, hx, show i + 0 = i from rfl] at h2
    obtain ⟨a', b', ih⟩ := IH (addAt s i x g) (i + 1) (.val (.int (i : Int))) b2 z hd2 (by rw [addAt_len]; omega) (by rw [addAt_len]; exact hs)
    refine ⟨a', b', ?_⟩
    rw [List.length_cons, rngD_succ]
    unfold mulFrom
    rw [forL_nx (show bodyF T (n + 30) (.one 4) [.for (.one 5) (.rng [(.lenn 2)]) [.put 3 (.bin .Add (.nm 4) (.nm 5)) (.bin .Add (.ixn 3 (.bin .Add (.nm 4) (.nm 5))) (.bin .Mult (.ixn 1 (.nm 4)) (.ixn 2 (.nm 5))))]] (.int (i : Int)) ⟨[p0, .val (.tuple (I f)), .val (.tuple (I g)), .own (I s), a, b, z], bg⟩ = some (.nx ⟨[p0, .val (.tuple (I f)), .val (.tuple (I g)), .own (I (addAt s i x g)), .val (.int (i : Int)), b2, z], bg⟩) by simp (config := {implicitDefEqProofs := false}) (disch := omega) [bodyF, h2, q_int, q_bl, q_non, q_nm, q_bin, q_neg, q_negI, q_not, q_bop, q_ife, q_cmp, q_ix, q_ixn, q_sl, q_sln, q_blt, q_lenn, q_isi, q_lst, q_tup, q_lc, q_push, q_pop, q_evc, q_to0, q_to1, q_o0, q_o1, q_intD, q_a0, q_a1, q_tnt, q_tbop, q_tcmp, q_chn, q_tchn, q_tval, q_tnm, q_iseq, q_irng, q_ienu, q_izip, q_iez, q_irev, q_sset, q_stgt, q_spro, q_spar, q_sput, q_sret, q_sretn, q_sife, q_swhl, q_sfor, q_sex, q_spass, q_sbrk, q_scnt, q_ss0, q_ss1, q_gonx, q_gort, q_gobk, q_goct, q_add, q_addl, q_addt, q_sub, q_mul, q_mull, q_mult, q_div, q_mod, q_pow, q_eq, q_ne, q_lt, q_le, q_gt, q_ge, q_is1, q_is2, q_is3, q_is4, q_is5, q_tr0, q_trb, q_tri, q_trl, q_trt, q_ixl, q_ixt, q_sll, q_slt, q_sls, q_lenl, q_lent, q_inti, q_absi, q_lisl, q_list, q_tupl, q_tupt, q_all, q_maxl, q_max, q_min, q_itl, q_itt, q_seql, q_seqt, q_rng1, q_rng2, q_enu1, q_enu2, q_end1, q_end2, q_own, q_val, q_st1, q_stt, q_stpr, q_sta0, q_sta1, q_re1, q_re0, q_appA, q_appioA, q_appkA, ↓bind_o, obind_some, List.getElem?_cons_zero, List.getElem?_cons_succ, List.set_cons_zero, List.set_cons_succ, lockS, slotL, Fz.atS, putL, runD, en0, vals, setS, opStop, wipeE, wipeS, restE, restS, plainS, szB_of, posB_of, b62_of, mulB_of, divB_of, powB_of, repB_one, timB_one, flat_one, I_rep, atI_0, atI_1, atI_2, atI_3, atI_4, ixN_of, cut_from, cut_to, eqv_int, eqv_none, shp_int, shp_bool, shp_none, zip_I])]
    rw [show (i : Int) + 1 = ((i + 1 : Nat) : Int) by omega]
    exact ih
theorem run_mul (hN : N.length = 7) (hF : At fs j17 false 1 d_trim) {ds : List D} {z : Bool × D × List D} (h : d_multiply ds = some z) : runD ⟨N, fs, WW⟩ 60 false (B_q_mul j17) ds = some z := by
  unfold d_multiply two at h
  split at h
  · rename_i p a b
    simp only [Option.bind_eq_some_iff] at h
    obtain ⟨f, hf, g, hg, h⟩ := h
    split at h
    · rename_i hp
      split at h
      · rename_i hs
        simp only [Option.map_some, Option.some.injEq] at h
        cases h
        rw [allI_eq hf, allI_eq hg]
        obtain ⟨hp, h1, h2⟩ := hp
        cases f with
        | nil => rfl
        | cons x f =>
          cases g with
          | nil => rfl
          | cons y g =>
            have h1' : f.length + 1 ≤ 40000 := h1
            have h2' : g.length + 1 ≤ 40000 := h2
            obtain ⟨a', b', hl⟩ := qmul_outer ⟨N, fs, WW⟩ (p0 := .val (.int p)) (bg := []) hs.1 hs.2 (by omega) 26 (x :: f) (List.replicate (f.length + 1 + g.length) 0) 0 .no .no .no rfl (by simp; omega) (by simp; omega)
            have hc : ∀ n a b (xs : List Int), lcL (evC ⟨N, fs, WW⟩ (n + 9) (.one 6) [6] none (.bin .Mod (.blt .int [(.nm 6)]) (.nm 0))) (I xs) ⟨[.val (.int p), .val (.tuple (I (x :: f))), .val (.tuple (I (y :: g))), .val (.list (I xs)), a, b, .no], []⟩ = some (I (xs.map (· % p)), ⟨[.val (.int p), .val (.tuple (I (x :: f))), .val (.tuple (I (y :: g))), .val (.list (I xs)), a, b, .no], []⟩) := by
              intro n a b xs
              rw [show I (xs.map (· % p)) = xs.map fun x => PyData.int (x % p) by simp [I]]
              refine lcL_pure _ _ fun x _ => ?_
              simp (config := {implicitDefEqProofs := false}) (disch := omega) [q_int, q_bl, q_non, q_nm, q_bin, q_neg, q_negI, q_not, q_bop, q_ife, q_cmp, q_ix, q_ixn, q_sl, q_sln, q_blt, q_lenn, q_isi, q_lst, q_tup, q_lc, q_push, q_pop, q_evc, q_to0, q_to1, q_o0, q_o1, q_intD, q_a0, q_a1, q_tnt, q_tbop, q_tcmp, q_chn, q_tchn, q_tval, q_tnm, q_iseq, q_irng, q_ienu, q_izip, q_iez, q_irev, q_sset, q_stgt, q_spro, q_spar, q_sput, q_sret, q_sretn, q_sife, q_swhl, q_sfor, q_sex, q_spass, q_sbrk, q_scnt, q_ss0, q_ss1, q_gonx, q_gort, q_gobk, q_goct, q_add, q_addl, q_addt, q_sub, q_mul, q_mull, q_mult, q_div, q_mod, q_pow, q_eq, q_ne, q_lt, q_le, q_gt, q_ge, q_is1, q_is2, q_is3, q_is4, q_is5, q_tr0, q_trb, q_tri, q_trl, q_trt, q_ixl, q_ixt, q_sll, q_slt, q_sls, q_lenl, q_lent, q_inti, q_absi, q_lisl, q_list, q_tupl, q_tupt, q_all, q_maxl, q_max, q_min, q_itl, q_itt, q_seql, q_seqt, q_rng1, q_rng2, q_enu1, q_enu2, q_end1, q_end2, q_own, q_val, q_st1, q_stt, q_stpr, q_sta0, q_sta1, q_re1, q_re0, q_appA, q_appioA, q_appkA, ↓bind_o, obind_some, List.getElem?_cons_zero, List.getElem?_cons_succ, List.set_cons_zero, List.set_cons_succ, lockS, slotL, Fz.atS, putL, runD, en0, vals, setS, opStop, wipeE, wipeS, restE, restS, plainS, szB_of, posB_of, b62_of, mulB_of, divB_of, powB_of, repB_one, timB_one, flat_one, I_rep, atI_0, atI_1, atI_2, atI_3, atI_4, ixN_of, cut_from, cut_to, eqv_int, eqv_none, shp_int, shp_bool, shp_none, zip_I]
            have hd := call_trim hF (l := I ((mulRaw (x :: f) (y :: g)).map (· % p))) (by rw [List.length_map, mulRaw_len, List.length_cons, List.length_cons]; omega) rfl
            have e1 : ((f.length : Int) + 1 + ((g.length : Int) + 1) - 1).toNat = f.length + 1 + g.length := by omega
            have e2 : ((f.length : Int) + 1).toNat = f.length + 1 := by omega
            have e3 : ((f.length : Int) + 1 = 0) = False := eq_false (by omega)
            have e4 : ((g.length : Int) + 1 = 0) = False := eq_false (by omega)
            have e5 : ((f.length : Int) + 1 == 0) = false := beq_false_of_ne (by omega)
            have e6 : ((g.length : Int) + 1 == 0) = false := beq_false_of_ne (by omega)
            rw [show mulFrom (y :: g) (List.replicate (f.length + 1 + g.length) 0) 0 (x :: f) = mulRaw (x :: f) (y :: g) from rfl] at hl
            change forL (bodyF _ 56 _ _) (rngD 0 (f.length + 1)) _ = _ at hl
            rw [show trim ((mulRaw (x :: f) (y :: g)).map (· % p)) = formOf p (mulRaw (x :: f) (y :: g)) from rfl] at hd
            have hml : (mulRaw (x :: f) (y :: g)).length ≤ 100000 := by rw [mulRaw_len, List.length_cons, List.length_cons]; omega
            rw [show I (x :: f) = .int x :: I f from rfl, show I (y :: g) = .int y :: I g from rfl] at *
            simp (config := {implicitDefEqProofs := false}) (disch := omega) [B_q_mul, hN, e1, e2, e3, e4, e5, e6, hF, hl, hc, hd, q_int, q_bl, q_non, q_nm, q_bin, q_neg, q_negI, q_not, q_bop, q_ife, q_cmp, q_ix, q_ixn, q_sl, q_sln, q_blt, q_lenn, q_isi, q_lst, q_tup, q_lc, q_push, q_pop, q_evc, q_to0, q_to1, q_o0, q_o1, q_intD, q_a0, q_a1, q_tnt, q_tbop, q_tcmp, q_chn, q_tchn, q_tval, q_tnm, q_iseq, q_irng, q_ienu, q_izip, q_iez, q_irev, q_sset, q_stgt, q_spro, q_spar, q_sput, q_sret, q_sretn, q_sife, q_swhl, q_sfor, q_sex, q_spass, q_sbrk, q_scnt, q_ss0, q_ss1, q_gonx, q_gort, q_gobk, q_goct, q_add, q_addl, q_addt, q_sub, q_mul, q_mull, q_mult, q_div, q_mod, q_pow, q_eq, q_ne, q_lt, q_le, q_gt, q_ge, q_is1, q_is2, q_is3, q_is4, q_is5, q_tr0, q_trb, q_tri, q_trl, q_trt, q_ixl, q_ixt, q_sll, q_slt, q_sls, q_lenl, q_lent, q_inti, q_absi, q_lisl, q_list, q_tupl, q_tupt, q_all, q_maxl, q_max, q_min, q_itl, q_itt, q_seql, q_seqt, q_rng1, q_rng2, q_enu1, q_enu2, q_end1, q_end2, q_own, q_val, q_st1, q_stt, q_stpr, q_sta0, q_sta1, q_re1, q_re0, q_appA, q_appioA, q_appkA, ↓bind_o, obind_some, List.getElem?_cons_zero, List.getElem?_cons_succ, List.set_cons_zero, List.set_cons_succ, lockS, slotL, Fz.atS, putL, runD, en0, vals, setS, opStop, wipeE, wipeS, restE, restS, plainS, szB_of, posB_of, b62_of, mulB_of, divB_of, powB_of, repB_one, timB_one, flat_one, I_rep, atI_0, atI_1, atI_2, atI_3, atI_4, ixN_of, cut_from, cut_to, eqv_int, eqv_none, shp_int, shp_bool, shp_none, zip_I]
      · cases h
    · cases h
  · cases h
/-! ### values -/
theorem val_loop (T : Tb) {p c : Int} (F : Sl) (bg : List D) (hp : 0 < p) (hp2 : p < 4294967296) (h0 : 0 ≤ c) (h1 : c < 4294967296) (n : Nat) : ∀ (xs : List Int) (v w : Int) (s : Sl), (∀ x ∈ xs, 0 ≤ x ∧ x < p) → 0 ≤ v → v < p → 0 ≤ w → w < 4294967296 →
    ∃ v' w' s', forL (bodyF T (n + 9) (.one 5) [.set 3 (.bin .Mod (.blt .int [(.bin .Add (.nm 3) (.bin .Mult (.nm 5) (.nm 4)))]) (.nm 0)), .set 4 (.bin .Mod (.blt .int [(.bin .Mult (.nm 4) (.nm 2))]) (.nm 0))]) (I xs) ⟨[.val (.int p), F, .val (.int c), .val (.int v), .val (.int w), s], bg⟩ = some (.nx ⟨[.val (.int p), F, .val (.int c), .val (.int v'), .val (.int w'), s'], bg⟩)
      ∧ 0 ≤ v' ∧ v' < p ∧ v' % p = (v + w * ev c xs) % p
  | [], v, w, s, _, h2, h3, _, _ => ⟨v, w, s, rfl, h2, h3, by simp [ev]⟩
  | x :: xs, v, w, s, hx, h2, h3, h4, h5 => by
    have hx0 := hx x List.mem_cons_self
    have q2 := Int.emod_nonneg (v + x * w) (show p ≠ 0 by omega)
    have q3 := Int.emod_lt_of_pos (v + x * w) hp
    have q4 := Int.emod_nonneg (w * c) (show p ≠ 0 by omega)
    have q5 := Int.emod_lt_of_pos (w * c) hp
    obtain ⟨v', w', s', ih, r1, r2, r3⟩ := val_loop T F bg hp hp2 h0 h1 n xs ((v + x * w) % p) ((w * c) % p) (.val (.int x)) (fun y hy => hx y (List.mem_cons_of_mem _ hy)) q2 q3 q4 (by omega)
    refine ⟨v', w', s', ?_, r1, r2, ?_⟩
    · rw [I_cons, forL_nx (show bodyF T (n + 9) (.one 5) [.set 3 (.bin .Mod (.blt .int [(.bin .Add (.nm 3) (.bin .Mult (.nm 5) (.nm 4)))]) (.nm 0)), .set 4 (.bin .Mod (.blt .int [(.bin .Mult (.nm 4) (.nm 2))]) (.nm 0))] (.int x) ⟨[.val (.int p), F, .val (.int c), .val (.int v), .val (.int w), s], bg⟩ = some (.nx ⟨[.val (.int p), F, .val (.int c), .val (.int ((v + x * w) % p)), .val (.int ((w * c) % p)), .val (.int x)], bg⟩) by simp (config := {implicitDefEqProofs := false}) (disch := omega) [bodyF, q_int, q_bl, q_non, q_nm, q_bin, q_neg, q_negI, q_not, q_bop, q_ife, q_cmp, q_ix, q_ixn, q_sl, q_sln, q_blt, q_lenn, q_isi, q_lst, q_tup, q_lc, q_push, q_pop, q_evc, q_to0, q_to1, q_o0, q_o1, q_intD, q_a0, q_a1, q_tnt, q_tbop, q_tcmp, q_chn, q_tchn, q_tval, q_tnm, q_iseq, q_irng, q_ienu, q_izip, q_iez, q_irev, q_sset, q_stgt, q_spro, q_spar, q_sput, q_sret, q_sretn, q_sife, q_swhl, q_sfor, q_sex, q_spass, q_sbrk, q_scnt, q_ss0, q_ss1, q_gonx, q_gort, q_gobk, q_goct, q_add, q_addl, q_addt, q_sub, q_mul, q_mull, q_mult, q_div, q_mod, q_pow, q_eq, q_ne, q_lt, q_le, q_gt, q_ge, q_is1, q_is2, q_is3, q_is4, q_is5, q_tr0, q_trb, q_tri, q_trl, q_trt, q_ixl, q_ixt, q_sll, q_slt, q_sls, q_lenl, q_lent, q_inti, q_absi, q_lisl, q_list, q_tupl, q_tupt, q_all, q_maxl, q_max, q_min, q_itl, q_itt, q_seql, q_seqt, q_rng1, q_rng2, q_enu1, q_enu2, q_end1, q_end2, q_own, q_val, q_st1, q_stt, q_stpr, q_sta0, q_sta1, q_re1, q_re0, q_appA, q_appioA, q_appkA, ↓bind_o, obind_some, List.getElem?_cons_zero, List.getElem?_cons_succ, List.set_cons_zero, List.set_cons_succ, lockS, slotL, Fz.atS, putL, runD, en0, vals, setS, opStop, wipeE, wipeS, restE, restS, plainS, szB_of, posB_of, b62_of, mulB_of, divB_of, powB_of, repB_one, timB_one, flat_one, I_rep, atI_0, atI_1, atI_2, atI_3, atI_4, ixN_of, cut_from, cut_to, eqv_int, eqv_none, shp_int, shp_bool, shp_none, zip_I])]
      exact ih
    · rw [r3, show ev c (x :: xs) = x + c * ev c xs from rfl, Int.mul_add, ← Int.mul_assoc, ← Int.add_assoc, Int.mul_comm w x, Int.add_emod, Int.emod_emod_of_dvd _ (Int.dvd_refl p), Int.mul_emod, Int.emod_emod_of_dvd _ (Int.dvd_refl p), ← Int.mul_emod, ← Int.add_emod]
theorem run_val (hN : N.length = 6) {ds : List D} {z : Bool × D × List D} (h : d_val ds = some z) : runD ⟨N, fs, WW⟩ 60 false B_q_val ds = some z := by
  unfold d_val at h
  split at h
  · rename_i p a c
    simp only [Option.bind_eq_some_iff] at h
    obtain ⟨f, hf, h⟩ := h
    split at h
    · rename_i hp
      cases h
      rw [allI_eq hf]
      obtain ⟨hp, h1, h2, h3, h4⟩ := hp
      obtain ⟨v', w', s', hv, r1, r2, r3⟩ := val_loop ⟨N, fs, WW⟩ (.val (.tuple (I f))) [] hp h1 h2 h3 48 f 0 1 .no h4 (by decide) hp (by decide) (by decide)
      have hh : ev c f % p = v' := by rw [Int.zero_add, Int.one_mul, Int.emod_eq_of_lt r1 r2] at r3; exact r3.symm
      rw [hh]
      simp (config := {implicitDefEqProofs := false}) (disch := omega) [B_q_val, hN, hv, q_int, q_bl, q_non, q_nm, q_bin, q_neg, q_negI, q_not, q_bop, q_ife, q_cmp, q_ix, q_ixn, q_sl, q_sln, q_blt, q_lenn, q_isi, q_lst, q_tup, q_lc, q_push, q_pop, q_evc, q_to0, q_to1, q_o0, q_o1, q_intD, q_a0, q_a1, q_tnt, q_tbop, q_tcmp, q_chn, q_tchn, q_tval, q_tnm, q_iseq, q_irng, q_ienu, q_izip, q_iez, q_irev, q_sset, q_stgt, q_spro, q_spar, q_sput, q_sret, q_sretn, q_sife, q_swhl, q_sfor, q_sex, q_spass, q_sbrk, q_scnt, q_ss0, q_ss1, q_gonx, q_gort, q_gobk, q_goct, q_add, q_addl, q_addt, q_sub, q_mul, q_mull, q_mult, q_div, q_mod, q_pow, q_eq, q_ne, q_lt, q_le, q_gt, q_ge, q_is1, q_is2, q_is3, q_is4, q_is5, q_tr0, q_trb, q_tri, q_trl, q_trt, q_ixl, q_ixt, q_sll, q_slt, q_sls, q_lenl, q_lent, q_inti, q_absi, q_lisl, q_list, q_tupl, q_tupt, q_all, q_maxl, q_max, q_min, q_itl, q_itt, q_seql, q_seqt, q_rng1, q_rng2, q_enu1, q_enu2, q_end1, q_end2, q_own, q_val, q_st1, q_stt, q_stpr, q_sta0, q_sta1, q_re1, q_re0, q_appA, q_appioA, q_appkA, ↓bind_o, obind_some, List.getElem?_cons_zero, List.getElem?_cons_succ, List.set_cons_zero, List.set_cons_succ, lockS, slotL, Fz.atS, putL, runD, en0, vals, setS, opStop, wipeE, wipeS, restE, restS, plainS, szB_of, posB_of, b62_of, mulB_of, divB_of, powB_of, repB_one, timB_one, flat_one, I_rep, atI_0, atI_1, atI_2, atI_3, atI_4, ixN_of, cut_from, cut_to, eqv_int, eqv_none, shp_int, shp_bool, shp_none, zip_I]
    · cases h
  · cases h
theorem horner_ev (p c : Int) : ∀ f : List Int, horner p c f = ev c f % p
  | [] => by simp [horner, ev]
  | r :: f => by
    have ih := horner_ev p c f
    show (horner p c f * c + r) % p = (r + c * ev c f) % p
    rw [ih, Int.add_emod, Int.mul_emod, Int.emod_emod_of_dvd _ (Int.dvd_refl p), ← Int.mul_emod, ← Int.add_emod, Int.mul_comm, Int.add_comm]
/-! ### value of what is reckoned -/
theorem ev_trim (c : Int) : ∀ f : List Int, ev c (trim f) = ev c f
  | [] => rfl
  | x :: f => by
    have ih := ev_trim c f
    show ev c (trim (x :: f)) = x + c * ev c f
    unfold trim
    cases h : trim f with
    | nil =>
      rw [h] at ih
      have ih' : ev c f = 0 := ih.symm
      rw [ih', Int.mul_zero, Int.add_zero]
      by_cases hx : x = 0
      · simp [hx, ev]
      · simp [hx, ev]
    | cons y l =>
      rw [h] at ih
      show x + c * ev c (y :: l) = _
      rw [ih]
theorem ev_mod (c p : Int) : ∀ f : List Int, ev c (f.map (· % p)) % p = ev c f % p
  | [] => rfl
  | x :: f => by
    show (x % p + c * ev c (f.map (· % p))) % p = (x + c * ev c f) % p
    rw [Int.add_emod, Int.mul_emod, ev_mod c p f, ← Int.mul_emod, Int.emod_emod_of_dvd _ (Int.dvd_refl p), ← Int.add_emod]
theorem ev_formOf (c p : Int) (f : List Int) : ev c (formOf p f) % p = ev c f % p := by
  unfold formOf
  rw [ev_trim, ev_mod]
theorem ev_za (c : Int) : ∀ f g : List Int, ev c (za f g) = ev c f + ev c g
  | [], g => by simp [za, ev]
  | x :: f, [] => by simp [za, ev]
  | x :: f, y :: g => by
    show x + y + c * ev c (za f g) = x + c * ev c f + (y + c * ev c g)
    rw [ev_za c f g, Int.mul_add]
    omega
theorem ev_neg (c : Int) : ∀ f : List Int, ev c (f.map (- ·)) = - ev c f
  | [] => rfl
  | x :: f => by
    show - x + c * ev c (f.map (- ·)) = - (x + c * ev c f)
    rw [ev_neg c f, Int.mul_neg]
    omega
theorem ev_zs (c : Int) : ∀ f g : List Int, ev c (zs f g) = ev c f - ev c g
  | [], g => by
    show ev c (g.map (- ·)) = 0 - ev c g
    rw [ev_neg]
    omega
  | x :: f, [] => by simp [zs, ev]
  | x :: f, y :: g => by
    show x - y + c * ev c (zs f g) = x + c * ev c f - (y + c * ev c g)
    rw [ev_zs c f g, Int.mul_sub]
    omega
end W1
set_option Elab.async false
set_option linter.all false
set_option maxRecDepth 100000
set_option maxHeartbeats 2000000
namespace W1
open PySem PySem.Spec PyProof.Rows L2 Fz
variable {fs : List (Str × Fn)} {N : List Str} {j0 j1 j2 j3 j4 j5 j6 j7 j8 j9 j10 j11 j12 j13 j14 j15 j16 j17 j18 j19 j20 j21 j22 j23 j24 j25 j26 j27 : Nat}
/-! ### coefficients -/
theorem gd_nil (k : Nat) : gd [] k = 0 := by simp [gd]
theorem gd_z (x : Int) (f : List Int) : gd (x :: f) 0 = x := rfl
theorem gd_s (x : Int) (f : List Int) (k : Nat) : gd (x :: f) (k + 1) = gd f k := by simp [gd]
theorem gd_set : ∀ (s : List Int) (i k : Nat) (v : Int), i < s.length → gd (s.set i v) k = if k = i then v else gd s k
  | [], i, k, v, h => absurd h (Nat.not_lt_zero _)
  | x :: s, 0, 0, v, _ => by simp [gd]
  | x :: s, 0, k + 1, v, _ => by simp [gd]
  | x :: s, i + 1, 0, v, _ => by simp [gd]
  | x :: s, i + 1, k + 1, v, h => by
    rw [List.set_cons_succ, gd_s, gd_s, gd_set s i k v (by simpa using h)]
    simp
theorem gd_addAt (x : Int) : ∀ (g s : List Int) (i k : Nat), i + g.length ≤ s.length → gd (addAt s i x g) k = gd s k + (if i ≤ k then x * gd g (k - i) else 0)
  | [], s, i, k, _ => by simp [addAt, gd_nil]
  | y :: g, s, i, k, h => by
    have h' : i + (g.length + 1) ≤ s.length := h
    unfold addAt
    rw [gd_addAt x g _ (i + 1) k (by rw [List.length_set]; omega), gd_set _ _ _ _ (by omega)]
    by_cases e : k = i
    · subst e
      rw [if_pos rfl, if_neg (by omega), if_pos (Nat.le_refl _), Nat.sub_self, gd_z, Int.add_zero]
    · rw [if_neg e]
      by_cases e2 : i + 1 ≤ k
      · rw [if_pos e2, if_pos (by omega), show k - i = (k - (i + 1)) + 1 by omega, gd_s]
      · rw [if_neg e2, if_neg (by omega)]
def conv : List Int → List Int → Nat → Int
  | [], _, _ => 0
  | x :: f, g, 0 => x * gd g 0
  | x :: f, g, k + 1 => x * gd g (k + 1) + conv f g k
theorem conv_z (f g : List Int) : conv f g 0 = gd f 0 * gd g 0 := by
  cases f with
  | nil => simp [conv, gd_nil]
  | cons x f => rfl
theorem conv_r (x : Int) (f : List Int) : ∀ (g : List Int) (k : Nat), conv g (x :: f) (k + 1) = x * gd g (k + 1) + conv g f k
  | [], k => by simp [conv, gd_nil]
  | y :: g, 0 => by
    show y * gd (x :: f) 1 + conv g (x :: f) 0 = x * gd (y :: g) 1 + y * gd f 0
    rw [conv_z, gd_s, gd_s, gd_z, Int.mul_comm (gd g 0) x]
    omega
  | y :: g, k + 1 => by
    show y * gd (x :: f) (k + 2) + conv g (x :: f) (k + 1) = x * gd (y :: g) (k + 2) + (y * gd f (k + 1) + conv g f k)
    rw [conv_r x f g k, gd_s, gd_s]
    omega
theorem conv_nil : ∀ (g : List Int) (k : Nat), conv g [] k = 0
  | [], k => rfl
  | y :: g, 0 => by simp [conv, gd_nil]
  | y :: g, k + 1 => by
    show y * gd [] (k + 1) + conv g [] k = 0
    rw [conv_nil g k, gd_nil]
    simp
theorem conv_comm : ∀ (f g : List Int) (k : Nat), conv f g k = conv g f k
  | [], g, k => by rw [conv_nil]; rfl
  | x :: f, g, 0 => by rw [conv_z, conv_z, Int.mul_comm]
  | x :: f, g, k + 1 => by
    rw [conv_r, ← conv_comm f g k]
    rfl
theorem gd_mulFrom (g : List Int) : ∀ (f s : List Int) (i k : Nat), i + (f.length + g.length) ≤ s.length + 1 → gd (mulFrom g s i f) k = gd s k + (if i ≤ k then conv f g (k - i) else 0)
  | [], s, i, k, _ => by simp [mulFrom, conv]
  | x :: f, s, i, k, h => by
    have h' : i + (f.length + 1 + g.length) ≤ s.length + 1 := h
    unfold mulFrom
    rw [gd_mulFrom g f _ (i + 1) k (by rw [addAt_len]; omega), gd_addAt _ _ _ _ _ (by omega), Int.add_assoc]
    congr 1
    by_cases e : i ≤ k
    · rw [if_pos e, if_pos e]
      by_cases e2 : i + 1 ≤ k
      · rw [if_pos e2, show k - i = (k - (i + 1)) + 1 by omega]
        rfl
      · rw [if_neg e2, show k - i = 0 by omega, Int.add_zero]
        rfl
    · rw [if_neg e, if_neg e, if_neg (by omega), Int.add_zero]
theorem gd_rep (n k : Nat) : gd (List.replicate n 0) k = 0 := by
  unfold gd
  rw [List.getD_eq_getElem?_getD, List.getElem?_replicate]
  split <;> rfl
theorem gd_mulRaw {f g : List Int} (hf : f ≠ []) (hg : g ≠ []) (k : Nat) : gd (mulRaw f g) k = conv f g k := by
  unfold mulRaw
  have h1 := List.length_pos_iff.mpr hf
  have h2 := List.length_pos_iff.mpr hg
  rw [gd_mulFrom _ _ _ _ _ (by rw [List.length_replicate]; omega), gd_rep, if_pos (Nat.zero_le _), Int.zero_add, Nat.sub_zero]
theorem gd_ext {f g : List Int} (hl : f.length = g.length) (h : ∀ k, gd f k = gd g k) : f = g := by
  refine List.ext_getElem hl fun k h1 h2 => ?_
  have := h k
  unfold gd at this
  rw [List.getD_eq_getElem?_getD, List.getD_eq_getElem?_getD, List.getElem?_eq_getElem h1, List.getElem?_eq_getElem h2] at this
  exact this
theorem mulRaw_comm {f g : List Int} (hf : f ≠ []) (hg : g ≠ []) : mulRaw f g = mulRaw g f := by
  refine gd_ext ?_ fun k => ?_
  · rw [mulRaw_len, mulRaw_len, Nat.add_comm]
  · rw [gd_mulRaw hf hg, gd_mulRaw hg hf, conv_comm]
theorem gd_trim : ∀ (f : List Int) (k : Nat), gd (trim f) k = gd f k
  | [], k => rfl
  | x :: f, k => by
    unfold trim
    cases h : trim f with
    | nil =>
      have ih := fun k => gd_trim f k
      rw [h] at ih
      by_cases hx : x = 0
      · rw [hx]
        cases k with
        | zero => simp [gd]
        | succ k => rw [gd_s, ← ih k]; simp [gd]
      · simp only [if_neg hx]
        cases k with
        | zero => rfl
        | succ k => rw [gd_s, gd_s, ih]
    | cons y l =>
      have ih := fun k => gd_trim f k
      rw [h] at ih
      cases k with
      | zero => rfl
      | succ k => exact (gd_s _ _ _).trans ((ih k).trans (gd_s _ _ _).symm)
theorem gd_map {u : Int → Int} (hu : u 0 = 0) (f : List Int) (k : Nat) : gd (f.map u) k = u (gd f k) := by
  unfold gd
  rw [List.getD_eq_getElem?_getD, List.getD_eq_getElem?_getD, List.getElem?_map]
  cases f[k]? with
  | none => exact hu.symm
  | some x => rfl
theorem gd_formOf (p : Int) (f : List Int) (k : Nat) : gd (formOf p f) k = gd f k % p := by
  unfold formOf
  rw [gd_trim, gd_map (u := (· % p)) (Int.zero_emod p)]
theorem gd_za : ∀ (f g : List Int) (k : Nat), gd (za f g) k = gd f k + gd g k
  | [], g, k => by rw [gd_nil, Int.zero_add]; rfl
  | x :: f, [], k => by rw [gd_nil, Int.add_zero]; rfl
  | x :: f, y :: g, 0 => rfl
  | x :: f, y :: g, k + 1 => by
    show gd ((x + y) :: za f g) (k + 1) = _
    rw [gd_s, gd_s, gd_s, gd_za f g k]
theorem gd_zs : ∀ (f g : List Int) (k : Nat), gd (zs f g) k = gd f k - gd g k
  | [], g, k => by
    show gd (g.map (- ·)) k = _
    rw [gd_nil, gd_map (u := (- ·)) rfl]
    omega
  | x :: f, [], k => by rw [gd_nil, Int.sub_zero]; rfl
  | x :: f, y :: g, 0 => rfl
  | x :: f, y :: g, k + 1 => by
    show gd ((x - y) :: zs f g) (k + 1) = _
    rw [gd_s, gd_s, gd_s, gd_zs f g k]
/-- no last zero -/
def trimmed (f : List Int) : Prop := trim f = f
theorem trim_trim : ∀ f : List Int, trimmed (trim f)
  | [] => rfl
  | x :: f => by
    have ih := trim_trim f
    unfold trimmed at ih ⊢
    cases h : trim f with
    | nil =>
      by_cases hx : x = 0 <;> simp [trim, h, hx]
    | cons y l =>
      rw [h] at ih
      have e : trim (x :: f) = x :: y :: l := by simp [trim, h]
      rw [e]
      show (match trim (y :: l) with | [] => _ | z :: zs => _) = _
      rw [ih]
theorem trim_nil : ∀ {f : List Int}, (∀ k, gd f k = 0) → trim f = []
  | [], _ => rfl
  | x :: f, h => by
    have ih := trim_nil (f := f) fun k => by have := h (k + 1); rw [gd_s] at this; exact this
    have hx : x = 0 := h 0
    simp [trim, ih, hx]
theorem trim_ext : ∀ {f g : List Int}, trimmed f → trimmed g → (∀ k, gd f k = gd g k) → f = g
  | [], g, _, hg, h => by
    rw [← hg]
    exact (trim_nil fun k => by rw [← h k, gd_nil]).symm
  | x :: f, [], hf, _, h => by
    rw [← hf]
    exact trim_nil fun k => by rw [h k, gd_nil]
  | x :: f, y :: g, hf, hg, h => by
    have h0 : x = y := h 0
    have ht : ∀ {z : Int} {l : List Int}, trimmed (z :: l) → trimmed l := by
      intro z l hl
      unfold trimmed at hl ⊢
      unfold trim at hl
      cases e : trim l with
      | nil =>
        rw [e] at hl
        by_cases hz : z = 0
        · simp [hz] at hl
        · simp only [if_neg hz, List.cons.injEq, true_and] at hl
          exact hl
      | cons y l2 =>
        rw [e] at hl
        injection hl
    rw [h0, trim_ext (ht hf) (ht hg) fun k => by have := h (k + 1); rw [gd_s, gd_s] at this; exact this]
theorem formOf_trimmed (p : Int) (f : List Int) : trimmed (formOf p f) := trim_trim _
theorem formOf_ext {p : Int} {f g : List Int} (h : ∀ k, gd f k % p = gd g k % p) : formOf p f = formOf p g :=
  trim_ext (formOf_trimmed p f) (formOf_trimmed p g) fun k => by rw [gd_formOf, gd_formOf, h k]
end W1
set_option Elab.async false
set_option linter.all false
set_option maxRecDepth 100000
set_option maxHeartbeats 2000000
namespace W1
open PySem PySem.Spec PyProof.Rows L2 Fz
variable {fs : List (Str × Fn)} {N : List Str} {j0 j1 j2 j3 j4 j5 j6 j7 j8 j9 j10 j11 j12 j13 j14 j15 j16 j17 j18 j19 j20 j21 j22 j23 j24 j25 j26 j27 : Nat}
/-! ### inverses, one by one -/
def PR : List Nat := [2, 3, 5, 7, 11, 13, 17, 19, 23, 29, 31, 37, 41, 43, 47, 53, 59, 61, 67, 71, 73, 79, 83, 89, 97]
def invL : Nat → Int → Int → Int → Int → Option Int
  | 0, _, _, _, _ => none
  | n + 1, h, l, b, w => if 1 < l then (if -1000000 < h / l ∧ h / l < 1000000 ∧ l < 1000000 ∧ -1000000 < w ∧ w < 1000000 then invL n l (h - h / l * l) w (b - h / l * w) else none) else some w
theorem inv_loop (T : Tb) (a r : Sl) (n k : Nat) : ∀ (m : Nat) (h l b w v : Int) (s : Sl), invL m h l b w = some v →
    ∃ h' l' b' s', whileL (evT T (n + 9) (.cmp .Gt (.nm 3) (.int 1))) (evSs T (n + 9) [.set 6 (.bin .FloorDiv (.nm 2) (.nm 3)), .par [2, 3] [(.nm 3), (.bin .Sub (.nm 2) (.bin .Mult (.nm 6) (.nm 3)))], .par [4, 5] [(.nm 5), (.bin .Sub (.nm 4) (.bin .Mult (.nm 6) (.nm 5)))]]) (k + m) ⟨[a, r, .val (.int h), .val (.int l), .val (.int b), .val (.int w), s], []⟩ = some (.nx ⟨[a, r, h', l', b', .val (.int v), s'], []⟩)
  | 0, h, l, b, w, v, s, e => by cases e
  | m + 1, h, l, b, w, v, s, e => by
    unfold invL at e
    split at e
    · rename_i hl
      split at e
      · rename_i hb
        obtain ⟨b1, b2, b3, b4, b5⟩ := hb
        obtain ⟨h', l', b', s', ih⟩ := inv_loop T a r n k m _ _ _ _ v (.val (.int (h / l))) e
        refine ⟨h', l', b', s', while_step (e1 := ⟨[a, r, .val (.int h), .val (.int l), .val (.int b), .val (.int w), s], []⟩) ?_ ?_ ih⟩
        · simp (config := {implicitDefEqProofs := false}) (disch := omega) [hl, q_int, q_bl, q_non, q_nm, q_bin, q_neg, q_negI, q_not, q_bop, q_ife, q_cmp, q_ix, q_ixn, q_sl, q_sln, q_blt, q_lenn, q_isi, q_lst, q_tup, q_lc, q_push, q_pop, q_evc, q_to0, q_to1, q_o0, q_o1, q_intD, q_a0, q_a1, q_tnt, q_tbop, q_tcmp, q_chn, q_tchn, q_tval, q_tnm, q_iseq, q_irng, q_ienu, q_izip, q_iez, q_irev, q_sset, q_stgt, q_spro, q_spar, q_sput, q_sret, q_sretn, q_sife, q_swhl, q_sfor, q_sex, q_spass, q_sbrk, q_scnt, q_ss0, q_ss1, q_gonx, q_gort, q_gobk, q_goct, q_add, q_addl, q_addt, q_sub, q_mul, q_mull, q_mult, q_div, q_mod, q_pow, q_eq, q_ne, q_lt, q_le, q_gt, q_ge, q_is1, q_is2, q_is3, q_is4, q_is5, q_tr0, q_trb, q_tri, q_trl, q_trt, q_ixl, q_ixt, q_sll, q_slt, q_sls, q_lenl, q_lent, q_inti, q_absi, q_lisl, q_list, q_tupl, q_tupt, q_all, q_maxl, q_max, q_min, q_itl, q_itt, q_seql, q_seqt, q_rng1, q_rng2, q_enu1, q_enu2, q_end1, q_end2, q_own, q_val, q_st1, q_stt, q_stpr, q_sta0, q_sta1, q_re1, q_re0, q_appA, q_appioA, q_appkA, ↓bind_o, obind_some, List.getElem?_cons_zero, List.getElem?_cons_succ, List.set_cons_zero, List.set_cons_succ, lockS, slotL, Fz.atS, putL, runD, en0, vals, setS, opStop, wipeE, wipeS, restE, restS, plainS, szB_of, posB_of, b62_of, mulB_of, divB_of, powB_of, repB_one, timB_one, flat_one, I_rep, atI_0, atI_1, atI_2, atI_3, atI_4, ixN_of, cut_from, cut_to, eqv_int, eqv_none, shp_int, shp_bool, shp_none, zip_I]
        · generalize hq : h / l = q at *
          simp (config := {implicitDefEqProofs := false}) (disch := omega) [hq, q_int, q_bl, q_non, q_nm, q_bin, q_neg, q_negI, q_not, q_bop, q_ife, q_cmp, q_ix, q_ixn, q_sl, q_sln, q_blt, q_lenn, q_isi, q_lst, q_tup, q_lc, q_push, q_pop, q_evc, q_to0, q_to1, q_o0, q_o1, q_intD, q_a0, q_a1, q_tnt, q_tbop, q_tcmp, q_chn, q_tchn, q_tval, q_tnm, q_iseq, q_irng, q_ienu, q_izip, q_iez, q_irev, q_sset, q_stgt, q_spro, q_spar, q_sput, q_sret, q_sretn, q_sife, q_swhl, q_sfor, q_sex, q_spass, q_sbrk, q_scnt, q_ss0, q_ss1, q_gonx, q_gort, q_gobk, q_goct, q_add, q_addl, q_addt, q_sub, q_mul, q_mull, q_mult, q_div, q_mod, q_pow, q_eq, q_ne, q_lt, q_le, q_gt, q_ge, q_is1, q_is2, q_is3, q_is4, q_is5, q_tr0, q_trb, q_tri, q_trl, q_trt, q_ixl, q_ixt, q_sll, q_slt, q_sls, q_lenl, q_lent, q_inti, q_absi, q_lisl, q_list, q_tupl, q_tupt, q_all, q_maxl, q_max, q_min, q_itl, q_itt, q_seql, q_seqt, q_rng1, q_rng2, q_enu1, q_enu2, q_end1, q_end2, q_own, q_val, q_st1, q_stt, q_stpr, q_sta0, q_sta1, q_re1, q_re0, q_appA, q_appioA, q_appkA, ↓bind_o, obind_some, List.getElem?_cons_zero, List.getElem?_cons_succ, List.set_cons_zero, List.set_cons_succ, lockS, slotL, Fz.atS, putL, runD, en0, vals, setS, opStop, wipeE, wipeS, restE, restS, plainS, szB_of, posB_of, b62_of, mulB_of, divB_of, powB_of, repB_one, timB_one, flat_one, I_rep, atI_0, atI_1, atI_2, atI_3, atI_4, ixN_of, cut_from, cut_to, eqv_int, eqv_none, shp_int, shp_bool, shp_none, zip_I]
      · cases e
    · rename_i hl
      cases e
      refine ⟨_, _, _, _, while_end (e1 := ⟨[a, r, .val (.int h), .val (.int l), .val (.int b), .val (.int w), s], []⟩) ?_⟩
      simp (config := {implicitDefEqProofs := false}) (disch := omega) [hl, q_int, q_bl, q_non, q_nm, q_bin, q_neg, q_negI, q_not, q_bop, q_ife, q_cmp, q_ix, q_ixn, q_sl, q_sln, q_blt, q_lenn, q_isi, q_lst, q_tup, q_lc, q_push, q_pop, q_evc, q_to0, q_to1, q_o0, q_o1, q_intD, q_a0, q_a1, q_tnt, q_tbop, q_tcmp, q_chn, q_tchn, q_tval, q_tnm, q_iseq, q_irng, q_ienu, q_izip, q_iez, q_irev, q_sset, q_stgt, q_spro, q_spar, q_sput, q_sret, q_sretn, q_sife, q_swhl, q_sfor, q_sex, q_spass, q_sbrk, q_scnt, q_ss0, q_ss1, q_gonx, q_gort, q_gobk, q_goct, q_add, q_addl, q_addt, q_sub, q_mul, q_mull, q_mult, q_div, q_mod, q_pow, q_eq, q_ne, q_lt, q_le, q_gt, q_ge, q_is1, q_is2, q_is3, q_is4, q_is5, q_tr0, q_trb, q_tri, q_trl, q_trt, q_ixl, q_ixt, q_sll, q_slt, q_sls, q_lenl, q_lent, q_inti, q_absi, q_lisl, q_list, q_tupl, q_tupt, q_all, q_maxl, q_max, q_min, q_itl, q_itt, q_seql, q_seqt, q_rng1, q_rng2, q_enu1, q_enu2, q_end1, q_end2, q_own, q_val, q_st1, q_stt, q_stpr, q_sta0, q_sta1, q_re1, q_re0, q_appA, q_appioA, q_appkA, ↓bind_o, obind_some, List.getElem?_cons_zero, List.getElem?_cons_succ, List.set_cons_zero, List.set_cons_succ, lockS, slotL, Fz.atS, putL, runD, en0, vals, setS, opStop, wipeE, wipeS, restE, restS, plainS, szB_of, posB_of, b62_of, mulB_of, divB_of, powB_of, repB_one, timB_one, flat_one, I_rep, atI_0, atI_1, atI_2, atI_3, atI_4, ixN_of, cut_from, cut_to, eqv_int, eqv_none, shp_int, shp_bool, shp_none, zip_I]
def inv (p r : Int) : Int := ((invL 64 p (r % p) 0 1).getD 0) % p
def d_inverse : List D → Option (Bool × D × List D)
  | [.int p, .int r] => if 0 < p ∧ (invL 64 p (r % p) 0 1).isSome then some (false, .int (inv p r), []) else none
  | _ => none
theorem run_inverse (hN : N.length = 7) {ds : List D} {z : Bool × D × List D} (h : d_inverse ds = some z) : runD ⟨N, fs, WW⟩ 60 false B_inverse ds = some z := by
  unfold d_inverse at h
  split at h
  · rename_i p r
    split at h
    · rename_i hh
      cases h
      obtain ⟨hp, h1⟩ := hh
      obtain ⟨v, hv⟩ := Option.isSome_iff_exists.mp h1
      obtain ⟨h', l', b', s', hl⟩ := inv_loop ⟨N, fs, WW⟩ (.val (.int p)) (.val (.int r)) 45 1048512 64 p (r % p) 0 1 v .no hv
      have hi : inv p r = v % p := by unfold inv; rw [hv]; rfl
      rw [hi]
      simp (config := {implicitDefEqProofs := false}) (disch := omega) [B_inverse, hN, hl, q_int, q_bl, q_non, q_nm, q_bin, q_neg, q_negI, q_not, q_bop, q_ife, q_cmp, q_ix, q_ixn, q_sl, q_sln, q_blt, q_lenn, q_isi, q_lst, q_tup, q_lc, q_push, q_pop, q_evc, q_to0, q_to1, q_o0, q_o1, q_intD, q_a0, q_a1, q_tnt, q_tbop, q_tcmp, q_chn, q_tchn, q_tval, q_tnm, q_iseq, q_irng, q_ienu, q_izip, q_iez, q_irev, q_sset, q_stgt, q_spro, q_spar, q_sput, q_sret, q_sretn, q_sife, q_swhl, q_sfor, q_sex, q_spass, q_sbrk, q_scnt, q_ss0, q_ss1, q_gonx, q_gort, q_gobk, q_goct, q_add, q_addl, q_addt, q_sub, q_mul, q_mull, q_mult, q_div, q_mod, q_pow, q_eq, q_ne, q_lt, q_le, q_gt, q_ge, q_is1, q_is2, q_is3, q_is4, q_is5, q_tr0, q_trb, q_tri, q_trl, q_trt, q_ixl, q_ixt, q_sll, q_slt, q_sls, q_lenl, q_lent, q_inti, q_absi, q_lisl, q_list, q_tupl, q_tupt, q_all, q_maxl, q_max, q_min, q_itl, q_itt, q_seql, q_seqt, q_rng1, q_rng2, q_enu1, q_enu2, q_end1, q_end2, q_own, q_val, q_st1, q_stt, q_stpr, q_sta0, q_sta1, q_re1, q_re0, q_appA, q_appioA, q_appkA, ↓bind_o, obind_some, List.getElem?_cons_zero, List.getElem?_cons_succ, List.set_cons_zero, List.set_cons_succ, lockS, slotL, Fz.atS, putL, runD, en0, vals, setS, opStop, wipeE, wipeS, restE, restS, plainS, szB_of, posB_of, b62_of, mulB_of, divB_of, powB_of, repB_one, timB_one, flat_one, I_rep, atI_0, atI_1, atI_2, atI_3, atI_4, ixN_of, cut_from, cut_to, eqv_int, eqv_none, shp_int, shp_bool, shp_none, zip_I]
    · cases h
  · cases h
def invOk (p r : Int) : Bool := (invL 64 p (r % p) 0 1).isSome && decide (0 ≤ inv p r) && decide (inv p r < p) && decide (inv p r * r % p = 1)
theorem inv_all : (PR.all fun p => (List.range (p - 1)).all fun r => invOk (p : Int) ((r + 1 : Nat) : Int)) = true := by decide +kernel
theorem PR_le {p : Nat} (h : p ∈ PR) : 2 ≤ p ∧ p ≤ 97 := by
  have : (PR.all fun p => decide (2 ≤ p ∧ p ≤ 97)) = true := by decide
  exact of_decide_eq_true (List.all_eq_true.mp this p h)
theorem inv_ok {p : Nat} (hp : p ∈ PR) {r : Int} (h0 : 0 < r) (h1 : r < p) : d_inverse [.int p, .int r] = some (false, .int (inv p r), []) ∧ 0 ≤ inv p r ∧ inv p r < p ∧ inv p r * r % p = 1 := by
  have h := List.all_eq_true.mp inv_all p hp
  have h := List.all_eq_true.mp h (r.toNat - 1) (List.mem_range.mpr (by omega))
  rw [show r.toNat - 1 + 1 = r.toNat by omega, Int.toNat_of_nonneg (by omega)] at h
  unfold invOk at h
  rw [Bool.and_eq_true, Bool.and_eq_true, Bool.and_eq_true, decide_eq_true_eq, decide_eq_true_eq, decide_eq_true_eq] at h
  obtain ⟨⟨⟨h1, h2⟩, h3⟩, h4⟩ := h
  have := PR_le hp
  refine ⟨?_, h2, h3, h4⟩
  show (if 0 < (p : Int) ∧ (invL 64 p (r % p) 0 1).isSome then _ else none) = _
  rw [if_pos ⟨by omega, h1⟩]
def isForm (p : Int) (f : List Int) : Prop := (∀ x ∈ f, 0 ≤ x ∧ x < p) ∧ trimmed f
noncomputable section
open Classical in
def monic (p : Int) (f : List Int) : List Int := if f = [] then [] else formOf p (f.map (inv p (f.getLast?.getD 0) * ·))
open Classical in
def d_monic_of : List D → Option (Bool × D × List D)
  | [.int p, .tuple a] => (allI a).bind fun f => if (∃ q : Nat, q ∈ PR ∧ p = q) ∧ isForm p f ∧ f.length ≤ 40000 then some (false, .tuple (I (monic p f)), []) else none
  | _ => none
end
theorem last_form {p : Int} {f : List Int} (h : isForm p f) (hf : f ≠ []) : ∃ l y, f = l ++ [y] ∧ 0 < y ∧ y < p := by
  rcases List.eq_nil_or_concat f with rfl | ⟨l, y, rfl⟩
  · exact absurd rfl hf
  · rw [List.concat_eq_append] at h ⊢
    refine ⟨l, y, rfl, ?_, (h.1 y (by simp)).2⟩
    have h0 := (h.1 y (by simp)).1
    by_cases e : y = 0
    · subst e
      have ht := h.2
      unfold trimmed at ht
      rw [trim_snoc0] at ht
      have : (trim l).length ≤ l.length := by
        have key : ∀ g : List Int, (trim g).length ≤ g.length := by
          intro g
          induction g with
          | nil => exact Nat.le_refl _
          | cons x g ih =>
            unfold trim
            cases e : trim g with
            | nil => dsimp only; split <;> simp
            | cons y l => rw [e] at ih; simp at ih ⊢; omega
        exact key l
      rw [ht, List.length_append, List.length_singleton] at this
      omega
    · omega
theorem run_monic (hN : N.length = 2) (h0 : At fs j0 false 2 d_inverse) (h6 : At fs j6 false 3 d_scaled) {ds : List D} {z : Bool × D × List D} (h : d_monic_of ds = some z) : runD ⟨N, fs, WW⟩ 60 false (B_monic_of j0 j6) ds = some z := by
  unfold d_monic_of at h
  split at h
  · rename_i p a
    simp only [Option.bind_eq_some_iff] at h
    obtain ⟨f, hf, h⟩ := h
    split at h
    · rename_i hp
      cases h
      rw [allI_eq hf]
      obtain ⟨⟨q, hq, rfl⟩, hF, hl⟩ := hp
      by_cases e : f = []
      · subst e
        have : monic (q : Int) [] = [] := by simp [monic]
        rw [this]
        rfl
      · obtain ⟨l, y, rfl, y0, y1⟩ := last_form hF e
        obtain ⟨i1, i2, i3, i4⟩ := inv_ok hq y0 y1
        have hq2 := PR_le hq
        have hm : monic (q : Int) (l ++ [y]) = formOf q ((l ++ [y]).map (inv q y * ·)) := by
          unfold monic
          rw [if_neg e]
          simp
        rw [hm]
        have c1 : cAt fs j0 [.int q, .int y] = some (false, .int (inv q y)) := h0.c rfl i1
        have c2 : cAt fs j6 [.int q, .tuple (I (l ++ [y])), .int (inv q y)] = some (false, .tuple (I (formOf q ((l ++ [y]).map (inv q y * ·))))) := by
          refine h6.c (l := []) rfl ?_
          unfold d_scaled
          simp only [allI_I, Option.bind_some]
          rw [if_pos ⟨by omega, hl, small_of (by omega) (by omega), fun x hx => small_of (by have := (hF.1 x hx).1; omega) (by have := (hF.1 x hx).2; omega)⟩]
        have hat : atI (I (l ++ [y])) (-1) = some (.int y) := by
          rw [I_app]
          exact atI_last _ _
        have hem : (I (l ++ [y])).isEmpty = false := by simp
        generalize hL : I (l ++ [y]) = L at *
        simp (config := {implicitDefEqProofs := false}) (disch := omega) [B_monic_of, hN, h0, h6, c1, c2, hat, hem, q_int, q_bl, q_non, q_nm, q_bin, q_neg, q_negI, q_not, q_bop, q_ife, q_cmp, q_ix, q_ixn, q_sl, q_sln, q_blt, q_lenn, q_isi, q_lst, q_tup, q_lc, q_push, q_pop, q_evc, q_to0, q_to1, q_o0, q_o1, q_intD, q_a0, q_a1, q_tnt, q_tbop, q_tcmp, q_chn, q_tchn, q_tval, q_tnm, q_iseq, q_irng, q_ienu, q_izip, q_iez, q_irev, q_sset, q_stgt, q_spro, q_spar, q_sput, q_sret, q_sretn, q_sife, q_swhl, q_sfor, q_sex, q_spass, q_sbrk, q_scnt, q_ss0, q_ss1, q_gonx, q_gort, q_gobk, q_goct, q_add, q_addl, q_addt, q_sub, q_mul, q_mull, q_mult, q_div, q_mod, q_pow, q_eq, q_ne, q_lt, q_le, q_gt, q_ge, q_is1, q_is2, q_is3, q_is4, q_is5, q_tr0, q_trb, q_tri, q_trl, q_trt, q_ixl, q_ixt, q_sll, q_slt, q_sls, q_lenl, q_lent, q_inti, q_absi, q_lisl, q_list, q_tupl, q_tupt, q_all, q_maxl, q_max, q_min, q_itl, q_itt, q_seql, q_seqt, q_rng1, q_rng2, q_enu1, q_enu2, q_end1, q_end2, q_own, q_val, q_st1, q_stt, q_stpr, q_sta0, q_sta1, q_re1, q_re0, q_appA, q_appioA, q_appkA, ↓bind_o, obind_some, List.getElem?_cons_zero, List.getElem?_cons_succ, List.set_cons_zero, List.set_cons_succ, lockS, slotL, Fz.atS, putL, runD, en0, vals, setS, opStop, wipeE, wipeS, restE, restS, plainS, szB_of, posB_of, b62_of, mulB_of, divB_of, powB_of, repB_one, timB_one, flat_one, I_rep, atI_0, atI_1, atI_2, atI_3, atI_4, ixN_of, cut_from, cut_to, eqv_int, eqv_none, shp_int, shp_bool, shp_none, zip_I]
    · cases h
  · cases h
end W1
set_option Elab.async false
set_option linter.all false
set_option maxRecDepth 100000
set_option maxHeartbeats 2000000
namespace W1
open PySem PySem.Spec PyProof.Rows L2 Fz
variable {fs : List (Str × Fn)} {N : List Str} {j0 j1 j2 j3 j4 j5 j6 j7 j8 j9 j10 j11 j12 j13 j14 j15 j16 j17 j18 j19 j20 j21 j22 j23 j24 j25 j26 j27 : Nat}
/-! ### draws -/
structure Bag where
  cells : List Int
  k : Int
  left : Int
  mixed : Int
  count : Int
def bagD (b : Bag) : List D := [.list (I b.cells), .int b.k, .int b.left, .int b.mixed, .int b.count]
def ab (c : Int) : Int := if c < 0 then -c else c
def feed (b : Bag) : Bag :=
  if b.left = 0 ∧ b.k < b.cells.length then
    if 1000000000000000000 ≤ ab (gd b.cells b.k.toNat) then ⟨b.cells, b.k + 1, ab (gd b.cells b.k.toNat), b.mixed, b.count + 1⟩
    else ⟨b.cells, b.k + 1, b.left, (b.mixed * 16381 + gd b.cells b.k.toNat % 999983 * 1013 + 7) % 2147483587, b.count + 1⟩
  else ⟨b.cells, b.k, b.left, b.mixed, b.count + 1⟩
def take (b : Bag) (top : Int) : Int × Bag :=
  if 0 < b.left then (b.left % top, ⟨b.cells, b.k, b.left / top, b.mixed, b.count⟩)
  else (((b.mixed ^ 3 + b.mixed * 31337 + b.count * 104729 + 50021) % 2147483549 / 67 + (b.mixed ^ 3 + b.mixed * 31337 + b.count * 104729 + 50021) % 2147483549 % 7919 * 61) % top, ⟨b.cells, b.k, b.left, (b.mixed ^ 3 + b.mixed * 31337 + b.count * 104729 + 50021) % 2147483549, b.count⟩)
def draw (b : Bag) (top : Int) : Int × Bag := take (feed b) top
/-- what holds of a bag; so many draws were made at most -/
structure Inv (b : Bag) (n : Int) : Prop where
  k0 : 0 ≤ b.k
  l0 : 0 ≤ b.left
  m0 : 0 ≤ b.mixed
  m1 : b.mixed < 2147483648
  c0 : 0 ≤ b.count
  c1 : b.count ≤ n
theorem ab_pos (c : Int) : 0 ≤ ab c := by unfold ab; split <;> omega
theorem feed_inv {b : Bag} {n : Int} (h : Inv b n) : Inv (feed b) (n + 1) := by
  obtain ⟨h1, h2, h3, h4, h5, h6⟩ := h
  unfold feed
  split
  · split
    · exact ⟨by show 0 ≤ b.k + 1; omega, ab_pos _, h3, h4, by show 0 ≤ b.count + 1; omega, by show b.count + 1 ≤ n + 1; omega⟩
    · exact ⟨by show 0 ≤ b.k + 1; omega, h2, Int.emod_nonneg _ (by decide), by show _ % 2147483587 < _; omega, by show 0 ≤ b.count + 1; omega, by show b.count + 1 ≤ n + 1; omega⟩
  · exact ⟨h1, h2, h3, h4, by show 0 ≤ b.count + 1; omega, by show b.count + 1 ≤ n + 1; omega⟩
theorem take_inv {b : Bag} {n top : Int} (h : Inv b n) (ht : 0 < top) : Inv (take b top).2 n ∧ 0 ≤ (take b top).1 ∧ (take b top).1 < top := by
  obtain ⟨h1, h2, h3, h4, h5, h6⟩ := h
  unfold take
  split
  · exact ⟨⟨h1, Int.ediv_nonneg h2 (by omega), h3, h4, h5, h6⟩, Int.emod_nonneg _ (by omega), Int.emod_lt_of_pos _ ht⟩
  · exact ⟨⟨h1, h2, Int.emod_nonneg _ (by decide), by show _ % 2147483549 < _; omega, h5, h6⟩, Int.emod_nonneg _ (by omega), Int.emod_lt_of_pos _ ht⟩
theorem draw_inv {b : Bag} {n top : Int} (h : Inv b n) (ht : 0 < top) : Inv (draw b top).2 (n + 1) ∧ 0 ≤ (draw b top).1 ∧ (draw b top).1 < top := take_inv (feed_inv h) ht
/-- the second half of the text -/
theorem take_run (T : Tb) (n : Nat) {b : Bag} {top : Int} (h : Inv b 1000000000) (h0 : 0 < top) (h1 : top < 4294967296) (a c d : Sl) :
    ∃ a' c' d', evSs T (n + 20) [.ife (.cmp .Gt (.ixn 0 (.int 2)) (.int 0)) [.set 3 (.bin .Mod (.blt .int [(.ixn 0 (.int 2))]) (.nm 1)), .put 0 (.int 2) (.bin .FloorDiv (.ixn 0 (.int 2)) (.nm 1)), .ret (.nm 3)] [], .set 4 (.blt .int [(.ixn 0 (.int 3))]), .put 0 (.int 3) (.bin .Mod (.blt .int [(.bin .Add (.bin .Add (.bin .Add (.bin .Pow (.nm 4) (.int 3)) (.bin .Mult (.nm 4) (.int 31337))) (.bin .Mult (.ixn 0 (.int 4)) (.int 104729))) (.int 50021))]) (.int 2147483549)), .ret (.bin .Mod (.blt .int [(.bin .Add (.bin .FloorDiv (.ixn 0 (.int 3)) (.int 67)) (.bin .Mult (.bin .Mod (.blt .int [(.ixn 0 (.int 3))]) (.int 7919)) (.int 61)))]) (.nm 1))] ⟨[.bag, .val (.int top), a, c, d], bagD b⟩ = some (.rt false (.int (take b top).1) ⟨[.bag, .val (.int top), a', c', d'], bagD (take b top).2⟩) := by
  obtain ⟨cells, k, left, mixed, count⟩ := b
  obtain ⟨g1, g2, g3, g4, g5, g6⟩ := h
  dsimp only at g1 g2 g3 g4 g5 g6
  unfold take
  by_cases hl : 0 < left
  · refine ⟨a, .val (.int (left % top)), d, ?_⟩
    dsimp only
    rw [if_pos hl]
    simp (config := {implicitDefEqProofs := false}) (disch := omega) [bagD, hl, q_int, q_bl, q_non, q_nm, q_bin, q_neg, q_negI, q_not, q_bop, q_ife, q_cmp, q_ix, q_ixn, q_sl, q_sln, q_blt, q_lenn, q_isi, q_lst, q_tup, q_lc, q_push, q_pop, q_evc, q_to0, q_to1, q_o0, q_o1, q_intD, q_a0, q_a1, q_tnt, q_tbop, q_tcmp, q_chn, q_tchn, q_tval, q_tnm, q_iseq, q_irng, q_ienu, q_izip, q_iez, q_irev, q_sset, q_stgt, q_spro, q_spar, q_sput, q_sret, q_sretn, q_sife, q_swhl, q_sfor, q_sex, q_spass, q_sbrk, q_scnt, q_ss0, q_ss1, q_gonx, q_gort, q_gobk, q_goct, q_add, q_addl, q_addt, q_sub, q_mul, q_mull, q_mult, q_div, q_mod, q_pow, q_eq, q_ne, q_lt, q_le, q_gt, q_ge, q_is1, q_is2, q_is3, q_is4, q_is5, q_tr0, q_trb, q_tri, q_trl, q_trt, q_ixl, q_ixt, q_sll, q_slt, q_sls, q_lenl, q_lent, q_inti, q_absi, q_lisl, q_list, q_tupl, q_tupt, q_all, q_maxl, q_max, q_min, q_itl, q_itt, q_seql, q_seqt, q_rng1, q_rng2, q_enu1, q_enu2, q_end1, q_end2, q_own, q_val, q_st1, q_stt, q_stpr, q_sta0, q_sta1, q_re1, q_re0, q_appA, q_appioA, q_appkA, ↓bind_o, obind_some, List.getElem?_cons_zero, List.getElem?_cons_succ, List.set_cons_zero, List.set_cons_succ, lockS, slotL, Fz.atS, putL, runD, en0, vals, setS, opStop, wipeE, wipeS, restE, restS, plainS, szB_of, posB_of, b62_of, mulB_of, divB_of, powB_of, repB_one, timB_one, flat_one, I_rep, atI_0, atI_1, atI_2, atI_3, atI_4, ixN_of, cut_from, cut_to, eqv_int, eqv_none, shp_int, shp_bool, shp_none, zip_I]
  · refine ⟨a, c, .val (.int mixed), ?_⟩
    dsimp only
    rw [if_neg hl]
    have hm : -4294967296 < mixed ∧ mixed < 4294967296 := ⟨by omega, by omega⟩
    generalize hM : (mixed ^ 3 + mixed * 31337 + count * 104729 + 50021) % 2147483549 = M
    have m0 : 0 ≤ M := by rw [← hM]; exact Int.emod_nonneg _ (by decide)
    have m1 : M < 2147483549 := by rw [← hM]; exact Int.emod_lt_of_pos _ (by decide)
    simp (config := {implicitDefEqProofs := false}) (disch := omega) [bagD, hl, hM, q_int, q_bl, q_non, q_nm, q_bin, q_neg, q_negI, q_not, q_bop, q_ife, q_cmp, q_ix, q_ixn, q_sl, q_sln, q_blt, q_lenn, q_isi, q_lst, q_tup, q_lc, q_push, q_pop, q_evc, q_to0, q_to1, q_o0, q_o1, q_intD, q_a0, q_a1, q_tnt, q_tbop, q_tcmp, q_chn, q_tchn, q_tval, q_tnm, q_iseq, q_irng, q_ienu, q_izip, q_iez, q_irev, q_sset, q_stgt, q_spro, q_spar, q_sput, q_sret, q_sretn, q_sife, q_swhl, q_sfor, q_sex, q_spass, q_sbrk, q_scnt, q_ss0, q_ss1, q_gonx, q_gort, q_gobk, q_goct, q_add, q_addl, q_addt, q_sub, q_mul, q_mull, q_mult, q_div, q_mod, q_pow, q_eq, q_ne, q_lt, q_le, q_gt, q_ge, q_is1, q_is2, q_is3, q_is4, q_is5, q_tr0, q_trb, q_tri, q_trl, q_trt, q_ixl, q_ixt, q_sll, q_slt, q_sls, q_lenl, q_lent, q_inti, q_absi, q_lisl, q_list, q_tupl, q_tupt, q_all, q_maxl, q_max, q_min, q_itl, q_itt, q_seql, q_seqt, q_rng1, q_rng2, q_enu1, q_enu2, q_end1, q_end2, q_own, q_val, q_st1, q_stt, q_stpr, q_sta0, q_sta1, q_re1, q_re0, q_appA, q_appioA, q_appkA, ↓bind_o, obind_some, List.getElem?_cons_zero, List.getElem?_cons_succ, List.set_cons_zero, List.set_cons_succ, lockS, slotL, Fz.atS, putL, runD, en0, vals, setS, opStop, wipeE, wipeS, restE, restS, plainS, szB_of, posB_of, b62_of, mulB_of, divB_of, powB_of, repB_one, timB_one, flat_one, I_rep, atI_0, atI_1, atI_2, atI_3, atI_4, ixN_of, cut_from, cut_to, eqv_int, eqv_none, shp_int, shp_bool, shp_none, zip_I]
abbrev drawTail : List RS := [.ife (.cmp .Gt (.ixn 0 (.int 2)) (.int 0)) [.set 3 (.bin .Mod (.blt .int [(.ixn 0 (.int 2))]) (.nm 1)), .put 0 (.int 2) (.bin .FloorDiv (.ixn 0 (.int 2)) (.nm 1)), .ret (.nm 3)] [], .set 4 (.blt .int [(.ixn 0 (.int 3))]), .put 0 (.int 3) (.bin .Mod (.blt .int [(.bin .Add (.bin .Add (.bin .Add (.bin .Pow (.nm 4) (.int 3)) (.bin .Mult (.nm 4) (.int 31337))) (.bin .Mult (.ixn 0 (.int 4)) (.int 104729))) (.int 50021))]) (.int 2147483549)), .ret (.bin .Mod (.blt .int [(.bin .Add (.bin .FloorDiv (.ixn 0 (.int 3)) (.int 67)) (.bin .Mult (.bin .Mod (.blt .int [(.ixn 0 (.int 3))]) (.int 7919)) (.int 61)))]) (.nm 1))]
/-- the whole text -/
theorem draw_run (T : Tb) (n : Nat) {b : Bag} {top : Int} (h : Inv b 999999999) (h0 : 0 < top) (h1 : top < 4294967296) :
    ∃ a' c' d', evSs T (n + 40) B_q_draw ⟨[.bag, .val (.int top), .no, .no, .no], bagD b⟩ = some (.rt false (.int (draw b top).1) ⟨[.bag, .val (.int top), a', c', d'], bagD (draw b top).2⟩) := by
  have hi := feed_inv h
  have key : ∃ a, ∀ r, evSs T (n + 38) drawTail ⟨[.bag, .val (.int top), a, .no, .no], bagD (feed b)⟩ = some r → evSs T (n + 40) B_q_draw ⟨[.bag, .val (.int top), .no, .no, .no], bagD b⟩ = some r := by
    obtain ⟨cells, k, left, mixed, count⟩ := b
    obtain ⟨g1, g2, g3, g4, g5, g6⟩ := h
    dsimp only at g1 g2 g3 g4 g5 g6
    unfold feed
    dsimp only
    by_cases hf : left = 0 ∧ k < cells.length
    · rw [if_pos hf]
      obtain ⟨rfl, hk⟩ := hf
      have hat : atI (I cells) k = some (.int (gd cells k.toNat)) := by
        obtain ⟨m, rfl⟩ := Int.eq_ofNat_of_zero_le g1
        exact atI_D (by omega)
      generalize hC : gd cells k.toNat = C at *
      refine ⟨.val (.int C), fun r hr => ?_⟩
      by_cases hb : 1000000000000000000 ≤ ab C
      · rw [if_pos hb] at hr
        unfold ab at hb hr
        unfold bagD at hr ⊢
        dsimp only at hr ⊢
        unfold B_q_draw
        simp (config := {implicitDefEqProofs := false}) (disch := omega) [hk, hat, hb, hr, q_int, q_bl, q_non, q_nm, q_bin, q_neg, q_negI, q_not, q_bop, q_ife, q_cmp, q_ix, q_ixn, q_sl, q_sln, q_blt, q_lenn, q_isi, q_lst, q_tup, q_lc, q_push, q_pop, q_evc, q_to0, q_to1, q_o0, q_o1, q_intD, q_a0, q_a1, q_tnt, q_tbop, q_tcmp, q_chn, q_tchn, q_tval, q_tnm, q_iseq, q_irng, q_ienu, q_izip, q_iez, q_irev, q_sset, q_stgt, q_spro, q_spar, q_sput, q_sret, q_sretn, q_sife, q_swhl, q_sfor, q_sex, q_spass, q_sbrk, q_scnt, q_ss0, q_ss1, q_gonx, q_gort, q_gobk, q_goct, q_add, q_addl, q_addt, q_sub, q_mul, q_mull, q_mult, q_div, q_mod, q_pow, q_eq, q_ne, q_lt, q_le, q_gt, q_ge, q_is1, q_is2, q_is3, q_is4, q_is5, q_tr0, q_trb, q_tri, q_trl, q_trt, q_ixl, q_ixt, q_sll, q_slt, q_sls, q_lenl, q_lent, q_inti, q_absi, q_lisl, q_list, q_tupl, q_tupt, q_all, q_maxl, q_max, q_min, q_itl, q_itt, q_seql, q_seqt, q_rng1, q_rng2, q_enu1, q_enu2, q_end1, q_end2, q_own, q_val, q_st1, q_stt, q_stpr, q_sta0, q_sta1, q_re1, q_re0, q_appA, q_appioA, q_appkA, ↓bind_o, obind_some, List.getElem?_cons_zero, List.getElem?_cons_succ, List.set_cons_zero, List.set_cons_succ, lockS, slotL, Fz.atS, putL, runD, en0, vals, setS, opStop, wipeE, wipeS, restE, restS, plainS, szB_of, posB_of, b62_of, mulB_of, divB_of, powB_of, repB_one, timB_one, flat_one, I_rep, atI_0, atI_1, atI_2, atI_3, atI_4, ixN_of, cut_from, cut_to, eqv_int, eqv_none, shp_int, shp_bool, shp_none, zip_I]
      · rw [if_neg hb] at hr
        unfold ab at hb
        unfold bagD at hr ⊢
        dsimp only at hr ⊢
        unfold B_q_draw
        simp (config := {implicitDefEqProofs := false}) (disch := omega) [hk, hat, hb, hr, q_int, q_bl, q_non, q_nm, q_bin, q_neg, q_negI, q_not, q_bop, q_ife, q_cmp, q_ix, q_ixn, q_sl, q_sln, q_blt, q_lenn, q_isi, q_lst, q_tup, q_lc, q_push, q_pop, q_evc, q_to0, q_to1, q_o0, q_o1, q_intD, q_a0, q_a1, q_tnt, q_tbop, q_tcmp, q_chn, q_tchn, q_tval, q_tnm, q_iseq, q_irng, q_ienu, q_izip, q_iez, q_irev, q_sset, q_stgt, q_spro, q_spar, q_sput, q_sret, q_sretn, q_sife, q_swhl, q_sfor, q_sex, q_spass, q_sbrk, q_scnt, q_ss0, q_ss1, q_gonx, q_gort, q_gobk, q_goct, q_add, q_addl, q_addt, q_sub, q_mul, q_mull, q_mult, q_div, q_mod, q_pow, q_eq, q_ne, q_lt, q_le, q_gt, q_ge, q_is1, q_is2, q_is3, q_is4, q_is5, q_tr0, q_trb, q_tri, q_trl, q_trt, q_ixl, q_ixt, q_sll, q_slt, q_sls, q_lenl, q_lent, q_inti, q_absi, q_lisl, q_list, q_tupl, q_tupt, q_all, q_maxl, q_max, q_min, q_itl, q_itt, q_seql, q_seqt, q_rng1, q_rng2, q_enu1, q_enu2, q_end1, q_end2, q_own, q_val, q_st1, q_stt, q_stpr, q_sta0, q_sta1, q_re1, q_re0, q_appA, q_appioA, q_appkA, ↓bind_o, obind_some, List.getElem?_cons_zero, List.getElem?_cons_succ, List.set_cons_zero, List.set_cons_succ, lockS, slotL, Fz.atS, putL, runD, en0, vals, setS, opStop, wipeE, wipeS, restE, restS, plainS, szB_of, posB_of, b62_of, mulB_of, divB_of, powB_of, repB_one, timB_one, flat_one, I_rep, atI_0, atI_1, atI_2, atI_3, atI_4, ixN_of, cut_from, cut_to, eqv_int, eqv_none, shp_int, shp_bool, shp_none, zip_I]
    · refine ⟨.no, fun r hr => ?_⟩
      rw [if_neg hf] at hr
      unfold bagD at hr ⊢
      dsimp only at hr ⊢
      unfold B_q_draw
      by_cases hl : left = 0
      · have hk : ¬ k < cells.length := fun hk => hf ⟨hl, hk⟩
        subst hl
        simp (config := {implicitDefEqProofs := false}) (disch := omega) [hk, hr, q_int, q_bl, q_non, q_nm, q_bin, q_neg, q_negI, q_not, q_bop, q_ife, q_cmp, q_ix, q_ixn, q_sl, q_sln, q_blt, q_lenn, q_isi, q_lst, q_tup, q_lc, q_push, q_pop, q_evc, q_to0, q_to1, q_o0, q_o1, q_intD, q_a0, q_a1, q_tnt, q_tbop, q_tcmp, q_chn, q_tchn, q_tval, q_tnm, q_iseq, q_irng, q_ienu, q_izip, q_iez, q_irev, q_sset, q_stgt, q_spro, q_spar, q_sput, q_sret, q_sretn, q_sife, q_swhl, q_sfor, q_sex, q_spass, q_sbrk, q_scnt, q_ss0, q_ss1, q_gonx, q_gort, q_gobk, q_goct, q_add, q_addl, q_addt, q_sub, q_mul, q_mull, q_mult, q_div, q_mod, q_pow, q_eq, q_ne, q_lt, q_le, q_gt, q_ge, q_is1, q_is2, q_is3, q_is4, q_is5, q_tr0, q_trb, q_tri, q_trl, q_trt, q_ixl, q_ixt, q_sll, q_slt, q_sls, q_lenl, q_lent, q_inti, q_absi, q_lisl, q_list, q_tupl, q_tupt, q_all, q_maxl, q_max, q_min, q_itl, q_itt, q_seql, q_seqt, q_rng1, q_rng2, q_enu1, q_enu2, q_end1, q_end2, q_own, q_val, q_st1, q_stt, q_stpr, q_sta0, q_sta1, q_re1, q_re0, q_appA, q_appioA, q_appkA, ↓bind_o, obind_some, List.getElem?_cons_zero, List.getElem?_cons_succ, List.set_cons_zero, List.set_cons_succ, lockS, slotL, Fz.atS, putL, runD, en0, vals, setS, opStop, wipeE, wipeS, restE, restS, plainS, szB_of, posB_of, b62_of, mulB_of, divB_of, powB_of, repB_one, timB_one, flat_one, I_rep, atI_0, atI_1, atI_2, atI_3, atI_4, ixN_of, cut_from, cut_to, eqv_int, eqv_none, shp_int, shp_bool, shp_none, zip_I]
      · simp (config := {implicitDefEqProofs := false}) (disch := omega) [hl, hr, q_int, q_bl, q_non, q_nm, q_bin, q_neg, q_negI, q_not, q_bop, q_ife, q_cmp, q_ix, q_ixn, q_sl, q_sln, q_blt, q_lenn, q_isi, q_lst, q_tup, q_lc, q_push, q_pop, q_evc, q_to0, q_to1, q_o0, q_o1, q_intD, q_a0, q_a1, q_tnt, q_tbop, q_tcmp, q_chn, q_tchn, q_tval, q_tnm, q_iseq, q_irng, q_ienu, q_izip, q_iez, q_irev, q_sset, q_stgt, q_spro, q_spar, q_sput, q_sret, q_sretn, q_sife, q_swhl, q_sfor, q_sex, q_spass, q_sbrk, q_scnt, q_ss0, q_ss1, q_gonx, q_gort, q_gobk, q_goct, q_add, q_addl, q_addt, q_sub, q_mul, q_mull, q_mult, q_div, q_mod, q_pow, q_eq, q_ne, q_lt, q_le, q_gt, q_ge, q_is1, q_is2, q_is3, q_is4, q_is5, q_tr0, q_trb, q_tri, q_trl, q_trt, q_ixl, q_ixt, q_sll, q_slt, q_sls, q_lenl, q_lent, q_inti, q_absi, q_lisl, q_list, q_tupl, q_tupt, q_all, q_maxl, q_max, q_min, q_itl, q_itt, q_seql, q_seqt, q_rng1, q_rng2, q_enu1, q_enu2, q_end1, q_end2, q_own, q_val, q_st1, q_stt, q_stpr, q_sta0, q_sta1, q_re1, q_re0, q_appA, q_appioA, q_appkA, ↓bind_o, obind_some, List.getElem?_cons_zero, List.getElem?_cons_succ, List.set_cons_zero, List.set_cons_succ, lockS, slotL, Fz.atS, putL, runD, en0, vals, setS, opStop, wipeE, wipeS, restE, restS, plainS, szB_of, posB_of, b62_of, mulB_of, divB_of, powB_of, repB_one, timB_one, flat_one, I_rep, atI_0, atI_1, atI_2, atI_3, atI_4, ixN_of, cut_from, cut_to, eqv_int, eqv_none, shp_int, shp_bool, shp_none, zip_I]
  obtain ⟨a, key⟩ := key
  obtain ⟨a', c', d', ht⟩ := take_run T (n + 18) hi h0 h1 a .no .no
  exact ⟨a', c', d', key _ ht⟩
/-! ### the words of the draws -/
def bagOf : List D → Option Bag
  | [.list c, .int k, .int l, .int m, .int n] => (allI c).map fun cs => ⟨cs, k, l, m, n⟩
  | _ => none
theorem bagOf_D (b : Bag) : bagOf (bagD b) = some b := by
  unfold bagD bagOf
  dsimp only
  rw [allI_I]
  rfl
theorem bagOf_eq {l : List D} {b : Bag} (h : bagOf l = some b) : l = bagD b := by
  unfold bagOf at h
  split at h
  · rw [Option.map_eq_some_iff] at h
    obtain ⟨cs, h1, rfl⟩ := h
    rw [allI_eq h1]
    rfl
  · cases h

noncomputable section
open Classical in
def withBag (m : Int) (l : List D) (k : Bag → Option (D × Bag)) : Option (Bool × D × List D) := (bagOf l).bind fun b => if Inv b m then (k b).bind fun z => some (false, z.1, bagD z.2) else none
def d_draw : List D → Option (Bool × D × List D)
  | [.list l, .int top] => withBag 999999999 l fun b => if 0 < top ∧ top < 4294967296 then some (.int (draw b top).1, (draw b top).2) else none
  | _ => none
def ofL (b : Bag) (xs : List D) : D × Bag := (xs.getD (draw b xs.length).1.toNat .none, (draw b xs.length).2)
def d_of : List D → Option (Bool × D × List D)
  | [.list l, .list xs] => withBag 999999999 l fun b => if xs ≠ [] ∧ xs.length < 1000 then some (ofL b xs) else none
  | _ => none
end
theorem run_draw (hN : N.length = 5) {ds : List D} {z : Bool × D × List D} (h : d_draw ds = some z) : runD ⟨N, fs, WW⟩ 60 true B_q_draw ds = some z := by
  unfold d_draw withBag at h
  split at h
  · simp only [Option.bind_eq_some_iff] at h
    obtain ⟨b, hb, h⟩ := h
    rw [bagOf_eq hb]
    split at h
    · rename_i hi
      simp only [Option.bind_eq_some_iff] at h
      obtain ⟨y, h1, h⟩ := h
      split at h1
      · rename_i ht
        cases h1
        cases h
        obtain ⟨a', c', d', hr⟩ := draw_run ⟨N, fs, WW⟩ 20 hi ht.1 ht.2
        unfold runD
        show (evSs _ 60 _ (en0 N.length true _)).bind endD = _
        rw [hN]
        show (evSs _ 60 _ ⟨[.bag, .val (.int _), .no, .no, .no], bagD b⟩).bind endD = _
        rw [hr]
        rfl
      · cases h1
    · cases h
  · cases h
theorem call_draw (hD : At fs j11 true 2 d_draw) {b : Bag} {top : Int} (h : Inv b 999999999) (h0 : 0 < top) (h1 : top < 4294967296) : bAt fs j11 (bagD b) [.int top] = some (false, .int (draw b top).1, bagD (draw b top).2) := by
  refine hD.b rfl ?_
  unfold d_draw withBag
  dsimp only
  rw [bagOf_D]
  simp only [Option.bind_some]
  rw [if_pos h, if_pos ⟨h0, h1⟩]
  rfl
theorem run_of' (hN : N.length = 2) (hF : At fs j11 true 2 d_draw) {ds : List D} {z : Bool × D × List D} (h : d_of ds = some z) : runD ⟨N, fs, WW⟩ 60 true (B_q_of j11) ds = some z := by
  unfold d_of withBag at h
  split at h
  · rename_i l xs
    simp only [Option.bind_eq_some_iff] at h
    obtain ⟨b, hb, h⟩ := h
    rw [bagOf_eq hb]
    split at h
    · rename_i hi
      simp only [Option.bind_eq_some_iff] at h
      obtain ⟨y, h1, h⟩ := h
      split at h1
      · rename_i ht
        cases h1
        cases h
        have hl : 0 < xs.length := List.length_pos_iff.mpr ht.1
        have hc := call_draw hF (top := xs.length) hi (by omega) (by omega)
        obtain ⟨v1, v2, v3⟩ := draw_inv (top := xs.length) hi (by omega)
        have hat : atI xs (draw b xs.length).1 = some (ofL b xs).1 := by
          obtain ⟨m, hm⟩ := Int.eq_ofNat_of_zero_le v2
          have hm2 : m < xs.length := by omega
          unfold ofL
          rw [hm, atI_k, List.getElem?_eq_getElem hm2, List.getD_eq_getElem?_getD, Int.toNat_natCast, List.getElem?_eq_getElem hm2]
          rfl
        have hb2 : (ofL b xs).2 = (draw b xs.length).2 := rfl
        rw [hb2]
        generalize hB : bagD b = B at *
        generalize hB2 : bagD (draw b xs.length).2 = B2 at *
        simp (config := {implicitDefEqProofs := false}) (disch := omega) [B_q_of, hN, hF, hc, hat, q_int, q_bl, q_non, q_nm, q_bin, q_neg, q_negI, q_not, q_bop, q_ife, q_cmp, q_ix, q_ixn, q_sl, q_sln, q_blt, q_lenn, q_isi, q_lst, q_tup, q_lc, q_push, q_pop, q_evc, q_to0, q_to1, q_o0, q_o1, q_intD, q_a0, q_a1, q_tnt, q_tbop, q_tcmp, q_chn, q_tchn, q_tval, q_tnm, q_iseq, q_irng, q_ienu, q_izip, q_iez, q_irev, q_sset, q_stgt, q_spro, q_spar, q_sput, q_sret, q_sretn, q_sife, q_swhl, q_sfor, q_sex, q_spass, q_sbrk, q_scnt, q_ss0, q_ss1, q_gonx, q_gort, q_gobk, q_goct, q_add, q_addl, q_addt, q_sub, q_mul, q_mull, q_mult, q_div, q_mod, q_pow, q_eq, q_ne, q_lt, q_le, q_gt, q_ge, q_is1, q_is2, q_is3, q_is4, q_is5, q_tr0, q_trb, q_tri, q_trl, q_trt, q_ixl, q_ixt, q_sll, q_slt, q_sls, q_lenl, q_lent, q_inti, q_absi, q_lisl, q_list, q_tupl, q_tupt, q_all, q_maxl, q_max, q_min, q_itl, q_itt, q_seql, q_seqt, q_rng1, q_rng2, q_enu1, q_enu2, q_end1, q_end2, q_own, q_val, q_st1, q_stt, q_stpr, q_sta0, q_sta1, q_re1, q_re0, q_appA, q_appioA, q_appkA, ↓bind_o, obind_some, List.getElem?_cons_zero, List.getElem?_cons_succ, List.set_cons_zero, List.set_cons_succ, lockS, slotL, Fz.atS, putL, runD, en0, vals, setS, opStop, wipeE, wipeS, restE, restS, plainS, szB_of, posB_of, b62_of, mulB_of, divB_of, powB_of, repB_one, timB_one, flat_one, I_rep, atI_0, atI_1, atI_2, atI_3, atI_4, ixN_of, cut_from, cut_to, eqv_int, eqv_none, shp_int, shp_bool, shp_none, zip_I]
      · cases h1
    · cases h
  · cases h
theorem call_of (hD : At fs j12 true 2 d_of) {b : Bag} {xs : List D} (h : Inv b 999999999) (h0 : xs ≠ []) (h1 : xs.length < 1000) : bAt fs j12 (bagD b) [.list xs] = some (false, (ofL b xs).1, bagD (ofL b xs).2) := by
  refine hD.b rfl ?_
  unfold d_of withBag
  dsimp only
  rw [bagOf_D]
  simp only [Option.bind_some]
  rw [if_pos h, if_pos ⟨h0, h1⟩]
  rfl
theorem of_inv {b : Bag} {xs : List D} {n : Int} (h : Inv b n) (h0 : xs ≠ []) : Inv (ofL b xs).2 (n + 1) ∧ (ofL b xs).1 ∈ xs := by
  have hl : 0 < xs.length := List.length_pos_iff.mpr h0
  obtain ⟨v1, v2, v3⟩ := draw_inv (top := xs.length) h (by omega)
  refine ⟨v1, ?_⟩
  unfold ofL
  have hm2 : (draw b xs.length).1.toNat < xs.length := by omega
  rw [List.getD_eq_getElem?_getD, List.getElem?_eq_getElem hm2]
  exact List.getElem_mem hm2
end W1
set_option Elab.async false
set_option linter.all false
set_option maxRecDepth 100000
set_option maxHeartbeats 2000000
namespace W1
open PySem PySem.Spec PyProof.Rows L2 Fz
variable {fs : List (Str × Fn)} {N : List Str} {j0 j1 j2 j3 j4 j5 j6 j7 j8 j9 j10 j11 j12 j13 j14 j15 j16 j17 j18 j19 j20 j21 j22 j23 j24 j25 j26 j27 : Nat}
/-! ### primes -/
def PRI : List Int := PR.map fun (p : Nat) => (p : Int)
def d_primes : List D → Option (Bool × D × List D)
  | [] => some (true, .list (I PRI), [])
  | _ => none
theorem lcL_filter {α : Type} {F : D → En → Option (Option D × En)} {e : En} (g : α → D) (c : α → Bool) (h : α → D) : ∀ {xs : List α}, (∀ x ∈ xs, F (g x) e = some (if c x then some (h x) else none, e)) → lcL F (xs.map g) e = some ((xs.filter c).map h, e)
  | [], _ => rfl
  | x :: xs, H => by
    show lcL F (g x :: xs.map g) e = _
    unfold lcL
    rw [H x List.mem_cons_self]
    simp only
    rw [lcL_filter g c h fun y hy => H y (List.mem_cons_of_mem _ hy)]
    cases hc : c x <;> simp [hc]
def divs (a : Int) : List Nat := (List.range (a - 2).toNat).filter fun k => a / (2 + k) * (2 + k) == a
theorem primes_eq : ((List.range 96).filter fun k => (divs (2 + (k : Nat))).isEmpty).map (fun k => (2 : Int) + (k : Nat)) = PRI := by decide +kernel
theorem run_primes (hN : N.length = 2) {ds : List D} {z : Bool × D × List D} (h : d_primes ds = some z) : runD ⟨N, fs, WW⟩ 60 false B_q_primes ds = some z := by
  unfold d_primes at h
  split at h
  · cases h
    have inner : ∀ n (a : Nat) (_ : a < 96), lcL (evC ⟨N, fs, WW⟩ (n + 12) (.one 1) [1] (some (.cmp .Eq (.bin .Mult (.bin .FloorDiv (.nm 0) (.nm 1)) (.nm 1)) (.nm 0))) (.nm 1)) (rngD 2 a) ⟨[.val (.int (2 + (a : Int))), .no], []⟩ = some ((divs (2 + (a : Int))).map fun k => .int (2 + (k : Int)), ⟨[.val (.int (2 + (a : Int))), .no], []⟩) := by
      intro n a ha
      unfold rngD divs
      rw [show ((2 : Int) + (a : Int) - 2).toNat = a by omega]
      refine lcL_filter _ _ _ fun k hk => ?_
      have hk := List.mem_range.mp hk
      generalize hq : ((2 : Int) + (a : Int)) / (2 + (k : Int)) = q
      have hd : divB (2 + (k : Int)) = true := divB_of (by omega) (by omega)
      have hm : mulB q (2 + (k : Int)) = true := by
        have h0 : 0 ≤ q := by rw [← hq]; exact Int.ediv_nonneg (by omega) (by omega)
        have h1 : q ≤ 2 + (a : Int) := by rw [← hq]; exact Int.ediv_le_self _ (by omega)
        exact mulB_of (by omega) (by omega) (by omega) (by omega)
      by_cases hc : q * (2 + (k : Int)) = 2 + (a : Int)
      · simp (config := {implicitDefEqProofs := false}) (disch := omega) [hd, hm, hq, hc, q_int, q_bl, q_non, q_nm, q_bin, q_neg, q_negI, q_not, q_bop, q_ife, q_cmp, q_ix, q_ixn, q_sl, q_sln, q_blt, q_lenn, q_isi, q_lst, q_tup, q_lc, q_push, q_pop, q_evc, q_to0, q_to1, q_o0, q_o1, q_intD, q_a0, q_a1, q_tnt, q_tbop, q_tcmp, q_chn, q_tchn, q_tval, q_tnm, q_iseq, q_irng, q_ienu, q_izip, q_iez, q_irev, q_sset, q_stgt, q_spro, q_spar, q_sput, q_sret, q_sretn, q_sife, q_swhl, q_sfor, q_sex, q_spass, q_sbrk, q_scnt, q_ss0, q_ss1, q_gonx, q_gort, q_gobk, q_goct, q_add, q_addl, q_addt, q_sub, q_mul, q_mull, q_mult, q_div, q_mod, q_pow, q_eq, q_ne, q_lt, q_le, q_gt, q_ge, q_is1, q_is2, q_is3, q_is4, q_is5, q_tr0, q_trb, q_tri, q_trl, q_trt, q_ixl, q_ixt, q_sll, q_slt, q_sls, q_lenl, q_lent, q_inti, q_absi, q_lisl, q_list, q_tupl, q_tupt, q_all, q_maxl, q_max, q_min, q_itl, q_itt, q_seql, q_seqt, q_rng1, q_rng2, q_enu1, q_enu2, q_end1, q_end2, q_own, q_val, q_st1, q_stt, q_stpr, q_sta0, q_sta1, q_re1, q_re0, q_appA, q_appioA, q_appkA, ↓bind_o, obind_some, List.getElem?_cons_zero, List.getElem?_cons_succ, List.set_cons_zero, List.set_cons_succ, lockS, slotL, Fz.atS, putL, runD, en0, vals, setS, opStop, wipeE, wipeS, restE, restS, plainS, szB_of, posB_of, b62_of, mulB_of, divB_of, powB_of, repB_one, timB_one, flat_one, I_rep, atI_0, atI_1, atI_2, atI_3, atI_4, ixN_of, cut_from, cut_to, eqv_int, eqv_none, shp_int, shp_bool, shp_none, zip_I]
      · simp (config := {implicitDefEqProofs := false}) (disch := omega) [hd, hm, hq, hc, q_int, q_bl, q_non, q_nm, q_bin, q_neg, q_negI, q_not, q_bop, q_ife, q_cmp, q_ix, q_ixn, q_sl, q_sln, q_blt, q_lenn, q_isi, q_lst, q_tup, q_lc, q_push, q_pop, q_evc, q_to0, q_to1, q_o0, q_o1, q_intD, q_a0, q_a1, q_tnt, q_tbop, q_tcmp, q_chn, q_tchn, q_tval, q_tnm, q_iseq, q_irng, q_ienu, q_izip, q_iez, q_irev, q_sset, q_stgt, q_spro, q_spar, q_sput, q_sret, q_sretn, q_sife, q_swhl, q_sfor, q_sex, q_spass, q_sbrk, q_scnt, q_ss0, q_ss1, q_gonx, q_gort, q_gobk, q_goct, q_add, q_addl, q_addt, q_sub, q_mul, q_mull, q_mult, q_div, q_mod, q_pow, q_eq, q_ne, q_lt, q_le, q_gt, q_ge, q_is1, q_is2, q_is3, q_is4, q_is5, q_tr0, q_trb, q_tri, q_trl, q_trt, q_ixl, q_ixt, q_sll, q_slt, q_sls, q_lenl, q_lent, q_inti, q_absi, q_lisl, q_list, q_tupl, q_tupt, q_all, q_maxl, q_max, q_min, q_itl, q_itt, q_seql, q_seqt, q_rng1, q_rng2, q_enu1, q_enu2, q_end1, q_end2, q_own, q_val, q_st1, q_stt, q_stpr, q_sta0, q_sta1, q_re1, q_re0, q_appA, q_appioA, q_appkA, ↓bind_o, obind_some, List.getElem?_cons_zero, List.getElem?_cons_succ, List.set_cons_zero, List.set_cons_succ, lockS, slotL, Fz.atS, putL, runD, en0, vals, setS, opStop, wipeE, wipeS, restE, restS, plainS, szB_of, posB_of, b62_of, mulB_of, divB_of, powB_of, repB_one, timB_one, flat_one, I_rep, atI_0, atI_1, atI_2, atI_3, atI_4, ixN_of, cut_from, cut_to, eqv_int, eqv_none, shp_int, shp_bool, shp_none, zip_I]
    have shpL : ∀ l : List Nat, shp (.list (l.map fun (k : Nat) => .int (2 + (k : Int)))) = true := by
      intro l
      have := shp_list (l.map fun (k : Nat) => (2 : Int) + (k : Int))
      unfold I at this
      rw [List.map_map] at this
      exact this
    have eqvL : ∀ l : List Nat, PyData.eqv (.list (l.map fun (k : Nat) => .int (2 + (k : Int)))) (.list []) = l.isEmpty := by
      intro l
      cases l <;> rfl
    have shp0 : shp (.list []) = true := shp_list []
    have outer : ∀ n, lcL (evC ⟨N, fs, WW⟩ (n + 20) (.one 0) [0] (some (.cmp .Eq (.lc (.one 1) [1] (.rng [(.int 2), (.nm 0)]) (some (.cmp .Eq (.bin .Mult (.bin .FloorDiv (.nm 0) (.nm 1)) (.nm 1)) (.nm 0))) (.nm 1)) (.lst []))) (.nm 0)) (rngD 2 96) ⟨[.no, .no], []⟩ = some (I PRI, ⟨[.no, .no], []⟩) := by
      intro n
      rw [show I PRI = ((List.range 96).filter fun k => (divs (2 + (k : Nat))).isEmpty).map (fun k => .int ((2 : Int) + (k : Nat))) by rw [← primes_eq]; unfold I; rw [List.map_map]; rfl]
      unfold rngD
      refine lcL_filter _ _ _ fun k hk => ?_
      have hk := List.mem_range.mp hk
      have e0 : (2 + (k : Int) - 2).toNat = k := by omega
      cases hc : (divs (2 + (k : Int))).isEmpty
      · simp (config := {implicitDefEqProofs := false}) (disch := omega) [e0, inner _ k hk, shp0, shpL, eqvL, hc, rngD_len, q_int, q_bl, q_non, q_nm, q_bin, q_neg, q_negI, q_not, q_bop, q_ife, q_cmp, q_ix, q_ixn, q_sl, q_sln, q_blt, q_lenn, q_isi, q_lst, q_tup, q_lc, q_push, q_pop, q_evc, q_to0, q_to1, q_o0, q_o1, q_intD, q_a0, q_a1, q_tnt, q_tbop, q_tcmp, q_chn, q_tchn, q_tval, q_tnm, q_iseq, q_irng, q_ienu, q_izip, q_iez, q_irev, q_sset, q_stgt, q_spro, q_spar, q_sput, q_sret, q_sretn, q_sife, q_swhl, q_sfor, q_sex, q_spass, q_sbrk, q_scnt, q_ss0, q_ss1, q_gonx, q_gort, q_gobk, q_goct, q_add, q_addl, q_addt, q_sub, q_mul, q_mull, q_mult, q_div, q_mod, q_pow, q_eq, q_ne, q_lt, q_le, q_gt, q_ge, q_is1, q_is2, q_is3, q_is4, q_is5, q_tr0, q_trb, q_tri, q_trl, q_trt, q_ixl, q_ixt, q_sll, q_slt, q_sls, q_lenl, q_lent, q_inti, q_absi, q_lisl, q_list, q_tupl, q_tupt, q_all, q_maxl, q_max, q_min, q_itl, q_itt, q_seql, q_seqt, q_rng1, q_rng2, q_enu1, q_enu2, q_end1, q_end2, q_own, q_val, q_st1, q_stt, q_stpr, q_sta0, q_sta1, q_re1, q_re0, q_appA, q_appioA, q_appkA, ↓bind_o, obind_some, List.getElem?_cons_zero, List.getElem?_cons_succ, List.set_cons_zero, List.set_cons_succ, lockS, slotL, Fz.atS, putL, runD, en0, vals, setS, opStop, wipeE, wipeS, restE, restS, plainS, szB_of, posB_of, b62_of, mulB_of, divB_of, powB_of, repB_one, timB_one, flat_one, I_rep, atI_0, atI_1, atI_2, atI_3, atI_4, ixN_of, cut_from, cut_to, eqv_int, eqv_none, shp_int, shp_bool, shp_none, zip_I]
      · simp (config := {implicitDefEqProofs := false}) (disch := omega) [e0, inner _ k hk, shp0, shpL, eqvL, hc, rngD_len, q_int, q_bl, q_non, q_nm, q_bin, q_neg, q_negI, q_not, q_bop, q_ife, q_cmp, q_ix, q_ixn, q_sl, q_sln, q_blt, q_lenn, q_isi, q_lst, q_tup, q_lc, q_push, q_pop, q_evc, q_to0, q_to1, q_o0, q_o1, q_intD, q_a0, q_a1, q_tnt, q_tbop, q_tcmp, q_chn, q_tchn, q_tval, q_tnm, q_iseq, q_irng, q_ienu, q_izip, q_iez, q_irev, q_sset, q_stgt, q_spro, q_spar, q_sput, q_sret, q_sretn, q_sife, q_swhl, q_sfor, q_sex, q_spass, q_sbrk, q_scnt, q_ss0, q_ss1, q_gonx, q_gort, q_gobk, q_goct, q_add, q_addl, q_addt, q_sub, q_mul, q_mull, q_mult, q_div, q_mod, q_pow, q_eq, q_ne, q_lt, q_le, q_gt, q_ge, q_is1, q_is2, q_is3, q_is4, q_is5, q_tr0, q_trb, q_tri, q_trl, q_trt, q_ixl, q_ixt, q_sll, q_slt, q_sls, q_lenl, q_lent, q_inti, q_absi, q_lisl, q_list, q_tupl, q_tupt, q_all, q_maxl, q_max, q_min, q_itl, q_itt, q_seql, q_seqt, q_rng1, q_rng2, q_enu1, q_enu2, q_end1, q_end2, q_own, q_val, q_st1, q_stt, q_stpr, q_sta0, q_sta1, q_re1, q_re0, q_appA, q_appioA, q_appkA, ↓bind_o, obind_some, List.getElem?_cons_zero, List.getElem?_cons_succ, List.set_cons_zero, List.set_cons_succ, lockS, slotL, Fz.atS, putL, runD, en0, vals, setS, opStop, wipeE, wipeS, restE, restS, plainS, szB_of, posB_of, b62_of, mulB_of, divB_of, powB_of, repB_one, timB_one, flat_one, I_rep, atI_0, atI_1, atI_2, atI_3, atI_4, ixN_of, cut_from, cut_to, eqv_int, eqv_none, shp_int, shp_bool, shp_none, zip_I]
    simp (config := {implicitDefEqProofs := false}) (disch := omega) [B_q_primes, hN, outer, rngD_len, q_int, q_bl, q_non, q_nm, q_bin, q_neg, q_negI, q_not, q_bop, q_ife, q_cmp, q_ix, q_ixn, q_sl, q_sln, q_blt, q_lenn, q_isi, q_lst, q_tup, q_lc, q_push, q_pop, q_evc, q_to0, q_to1, q_o0, q_o1, q_intD, q_a0, q_a1, q_tnt, q_tbop, q_tcmp, q_chn, q_tchn, q_tval, q_tnm, q_iseq, q_irng, q_ienu, q_izip, q_iez, q_irev, q_sset, q_stgt, q_spro, q_spar, q_sput, q_sret, q_sretn, q_sife, q_swhl, q_sfor, q_sex, q_spass, q_sbrk, q_scnt, q_ss0, q_ss1, q_gonx, q_gort, q_gobk, q_goct, q_add, q_addl, q_addt, q_sub, q_mul, q_mull, q_mult, q_div, q_mod, q_pow, q_eq, q_ne, q_lt, q_le, q_gt, q_ge, q_is1, q_is2, q_is3, q_is4, q_is5, q_tr0, q_trb, q_tri, q_trl, q_trt, q_ixl, q_ixt, q_sll, q_slt, q_sls, q_lenl, q_lent, q_inti, q_absi, q_lisl, q_list, q_tupl, q_tupt, q_all, q_maxl, q_max, q_min, q_itl, q_itt, q_seql, q_seqt, q_rng1, q_rng2, q_enu1, q_enu2, q_end1, q_end2, q_own, q_val, q_st1, q_stt, q_stpr, q_sta0, q_sta1, q_re1, q_re0, q_appA, q_appioA, q_appkA, ↓bind_o, obind_some, List.getElem?_cons_zero, List.getElem?_cons_succ, List.set_cons_zero, List.set_cons_succ, lockS, slotL, Fz.atS, putL, runD, en0, vals, setS, opStop, wipeE, wipeS, restE, restS, plainS, szB_of, posB_of, b62_of, mulB_of, divB_of, powB_of, repB_one, timB_one, flat_one, I_rep, atI_0, atI_1, atI_2, atI_3, atI_4, ixN_of, cut_from, cut_to, eqv_int, eqv_none, shp_int, shp_bool, shp_none, zip_I]
  · cases h
theorem call_primes (h : At fs j15 false 0 d_primes) : cAt fs j15 [] = some (true, .list (I PRI)) := h.c (l := []) rfl rfl
def SMALL : List D := [.int 2, .int 3, .int 5, .int 7, .int 2, .int 3, .int 5, .int 11, .int 13]
noncomputable section
def primeB (b : Bag) : D × Bag := if (draw b 6).1 = 0 then ofL (draw b 6).2 (I PRI) else ofL (draw b 6).2 SMALL
def d_prime : List D → Option (Bool × D × List D)
  | [.list l] => withBag 999999990 l fun b => some (primeB b)
  | _ => none
end
theorem Inv.up {b : Bag} {n m : Int} (h : Inv b n) (hm : n ≤ m) : Inv b m := ⟨h.k0, h.l0, h.m0, h.m1, h.c0, by have := h.c1; omega⟩
theorem small_pr : ∀ x ∈ SMALL, ∃ p, p ∈ PR ∧ x = .int ((p : Nat) : Int) := by
  intro x hx
  simp only [SMALL, List.mem_cons, List.not_mem_nil, or_false] at hx
  rcases hx with rfl | rfl | rfl | rfl | rfl | rfl | rfl | rfl | rfl
  · exact ⟨2, by decide, rfl⟩
  · exact ⟨3, by decide, rfl⟩
  · exact ⟨5, by decide, rfl⟩
  · exact ⟨7, by decide, rfl⟩
  · exact ⟨2, by decide, rfl⟩
  · exact ⟨3, by decide, rfl⟩
  · exact ⟨5, by decide, rfl⟩
  · exact ⟨11, by decide, rfl⟩
  · exact ⟨13, by decide, rfl⟩
theorem PRI_len : (I PRI).length = 25 := by rw [I_len]; rfl
theorem PRI_ne : I PRI ≠ [] := by
  intro h
  have := PRI_len
  rw [h] at this
  cases this
theorem SMALL_ne : SMALL ≠ [] := by intro h; cases h
theorem prime_inv {b : Bag} {n : Int} (h : Inv b n) : Inv (primeB b).2 (n + 2) ∧ ∃ p, p ∈ PR ∧ (primeB b).1 = .int ((p : Nat) : Int) := by
  obtain ⟨v1, _, _⟩ := draw_inv (top := 6) h (by decide)
  unfold primeB
  split
  · obtain ⟨w1, w2⟩ := of_inv v1 (xs := I PRI) PRI_ne
    refine ⟨w1.up (by omega), ?_⟩
    unfold I PRI at w2
    rw [List.map_map, List.mem_map] at w2
    obtain ⟨p, hp, e⟩ := w2
    exact ⟨p, hp, e.symm⟩
  · obtain ⟨w1, w2⟩ := of_inv v1 (xs := SMALL) SMALL_ne
    exact ⟨w1.up (by omega), small_pr _ w2⟩
theorem run_prime (hN : N.length = 1) (h11 : At fs j11 true 2 d_draw) (h12 : At fs j12 true 2 d_of) (h15 : At fs j15 false 0 d_primes) {ds : List D} {z : Bool × D × List D} (h : d_prime ds = some z) : runD ⟨N, fs, WW⟩ 60 true (B_q_prime j11 j12 j15) ds = some z := by
  unfold d_prime withBag at h
  split at h
  · rename_i l
    simp only [Option.bind_eq_some_iff] at h
    obtain ⟨b, hb, h⟩ := h
    rw [bagOf_eq hb]
    split at h
    · rename_i hi
      simp only [Option.bind_some, Option.some.injEq] at h
      cases h
      have hc := call_draw h11 (top := 6) (hi.up (by decide)) (by decide) (by decide)
      obtain ⟨v1, v2, v3⟩ := draw_inv (top := 6) hi (by decide)
      have v1' : Inv (draw b 6).2 999999999 := v1.up (by decide)
      unfold primeB
      by_cases e : (draw b 6).1 = 0
      · rw [if_pos e]
        have hc2 := call_of h12 (xs := I PRI) v1' PRI_ne (by rw [PRI_len]; decide)
        generalize hB : bagD b = B at *
        generalize hB2 : bagD (draw b 6).2 = B2 at *
        generalize hB3 : ofL (draw b 6).2 (I PRI) = B3 at *
        generalize hB4 : bagD B3.2 = B4 at *
        generalize hL : I PRI = L at *
        have hpr := call_primes h15
        rw [hL] at hpr
        simp (config := {implicitDefEqProofs := false}) (disch := omega) [B_q_prime, hN, h11, h12, h15, hc, hc2, e, hpr, q_int, q_bl, q_non, q_nm, q_bin, q_neg, q_negI, q_not, q_bop, q_ife, q_cmp, q_ix, q_ixn, q_sl, q_sln, q_blt, q_lenn, q_isi, q_lst, q_tup, q_lc, q_push, q_pop, q_evc, q_to0, q_to1, q_o0, q_o1, q_intD, q_a0, q_a1, q_tnt, q_tbop, q_tcmp, q_chn, q_tchn, q_tval, q_tnm, q_iseq, q_irng, q_ienu, q_izip, q_iez, q_irev, q_sset, q_stgt, q_spro, q_spar, q_sput, q_sret, q_sretn, q_sife, q_swhl, q_sfor, q_sex, q_spass, q_sbrk, q_scnt, q_ss0, q_ss1, q_gonx, q_gort, q_gobk, q_goct, q_add, q_addl, q_addt, q_sub, q_mul, q_mull, q_mult, q_div, q_mod, q_pow, q_eq, q_ne, q_lt, q_le, q_gt, q_ge, q_is1, q_is2, q_is3, q_is4, q_is5, q_tr0, q_trb, q_tri, q_trl, q_trt, q_ixl, q_ixt, q_sll, q_slt, q_sls, q_lenl, q_lent, q_inti, q_absi, q_lisl, q_list, q_tupl, q_tupt, q_all, q_maxl, q_max, q_min, q_itl, q_itt, q_seql, q_seqt, q_rng1, q_rng2, q_enu1, q_enu2, q_end1, q_end2, q_own, q_val, q_st1, q_stt, q_stpr, q_sta0, q_sta1, q_re1, q_re0, q_appA, q_appioA, q_appkA, ↓bind_o, obind_some, List.getElem?_cons_zero, List.getElem?_cons_succ, List.set_cons_zero, List.set_cons_succ, lockS, slotL, Fz.atS, putL, runD, en0, vals, setS, opStop, wipeE, wipeS, restE, restS, plainS, szB_of, posB_of, b62_of, mulB_of, divB_of, powB_of, repB_one, timB_one, flat_one, I_rep, atI_0, atI_1, atI_2, atI_3, atI_4, ixN_of, cut_from, cut_to, eqv_int, eqv_none, shp_int, shp_bool, shp_none, zip_I]
      · rw [if_neg e]
        have hc2 := call_of h12 (xs := SMALL) v1' SMALL_ne (by decide)
        generalize hB : bagD b = B at *
        generalize hB2 : bagD (draw b 6).2 = B2 at *
        generalize hB3 : ofL (draw b 6).2 SMALL = B3 at *
        generalize hB4 : bagD B3.2 = B4 at *
        unfold SMALL at hc2
        simp (config := {implicitDefEqProofs := false}) (disch := omega) [B_q_prime, hN, h11, h12, h15, hc, hc2, e, q_int, q_bl, q_non, q_nm, q_bin, q_neg, q_negI, q_not, q_bop, q_ife, q_cmp, q_ix, q_ixn, q_sl, q_sln, q_blt, q_lenn, q_isi, q_lst, q_tup, q_lc, q_push, q_pop, q_evc, q_to0, q_to1, q_o0, q_o1, q_intD, q_a0, q_a1, q_tnt, q_tbop, q_tcmp, q_chn, q_tchn, q_tval, q_tnm, q_iseq, q_irng, q_ienu, q_izip, q_iez, q_irev, q_sset, q_stgt, q_spro, q_spar, q_sput, q_sret, q_sretn, q_sife, q_swhl, q_sfor, q_sex, q_spass, q_sbrk, q_scnt, q_ss0, q_ss1, q_gonx, q_gort, q_gobk, q_goct, q_add, q_addl, q_addt, q_sub, q_mul, q_mull, q_mult, q_div, q_mod, q_pow, q_eq, q_ne, q_lt, q_le, q_gt, q_ge, q_is1, q_is2, q_is3, q_is4, q_is5, q_tr0, q_trb, q_tri, q_trl, q_trt, q_ixl, q_ixt, q_sll, q_slt, q_sls, q_lenl, q_lent, q_inti, q_absi, q_lisl, q_list, q_tupl, q_tupt, q_all, q_maxl, q_max, q_min, q_itl, q_itt, q_seql, q_seqt, q_rng1, q_rng2, q_enu1, q_enu2, q_end1, q_end2, q_own, q_val, q_st1, q_stt, q_stpr, q_sta0, q_sta1, q_re1, q_re0, q_appA, q_appioA, q_appkA, ↓bind_o, obind_some, List.getElem?_cons_zero, List.getElem?_cons_succ, List.set_cons_zero, List.set_cons_succ, lockS, slotL, Fz.atS, putL, runD, en0, vals, setS, opStop, wipeE, wipeS, restE, restS, plainS, szB_of, posB_of, b62_of, mulB_of, divB_of, powB_of, repB_one, timB_one, flat_one, I_rep, atI_0, atI_1, atI_2, atI_3, atI_4, ixN_of, cut_from, cut_to, eqv_int, eqv_none, shp_int, shp_bool, shp_none, zip_I]
    · cases h
  · cases h
theorem call_prime (hD : At fs j16 true 1 d_prime) {b : Bag} (h : Inv b 999999990) : bAt fs j16 (bagD b) [] = some (false, (primeB b).1, bagD (primeB b).2) := by
  refine hD.b rfl ?_
  unfold d_prime withBag
  dsimp only
  rw [bagOf_D]
  simp only [Option.bind_some]
  rw [if_pos h]
/-! ### a list of draws, one after another -/
def drawN (top : Int) : Nat → Bag → List Int × Bag
  | 0, b => ([], b)
  | n + 1, b => let r := draw b top; let s := drawN top n r.2; (r.1 :: s.1, s.2)
theorem drawN_inv {top : Int} (ht : 0 < top) : ∀ (k : Nat) {b : Bag} {n : Int}, Inv b n → Inv (drawN top k b).2 (n + k) ∧ (drawN top k b).1.length = k ∧ ∀ x ∈ (drawN top k b).1, 0 ≤ x ∧ x < top
  | 0, b, n, h => ⟨h.up (by omega), rfl, by intro x hx; cases hx⟩
  | k + 1, b, n, h => by
    obtain ⟨v1, v2, v3⟩ := draw_inv h ht
    obtain ⟨w1, w2, w3⟩ := drawN_inv ht k v1
    unfold drawN
    refine ⟨w1.up (by omega), by simp [w2], ?_⟩
    intro x hx
    rcases List.mem_cons.mp hx with rfl | hx
    · exact ⟨v2, v3⟩
    · exact w3 x hx
/-- a list told by draws: what one turn does -/
theorem lcL_draws {F : D → En → Option (Option D × En)} {top : Int} (ht : 0 < top) (st : Bag → En) (m : Int) (hF : ∀ d b, Inv b m → F d (st b) = some (some (.int (draw b top).1), st (draw b top).2)) : ∀ (xs : List D) {b : Bag} {n : Int}, Inv b n → n + xs.length ≤ m + 1 →
    lcL F xs (st b) = some (I (drawN top xs.length b).1, st (drawN top xs.length b).2)
  | [], b, n, h, _ => rfl
  | d :: xs, b, n, h, hn => by
    have hn' : n + (xs.length + 1 : Nat) ≤ m + 1 := hn
    obtain ⟨v1, _, _⟩ := draw_inv h ht
    unfold lcL
    rw [hF d b (h.up (by omega))]
    dsimp only
    rw [lcL_draws ht st m hF xs v1 (by omega)]
    rfl
noncomputable section
def formB (b : Bag) (p deg : Int) : List Int × Bag := let r := draw b (deg + 2); let s := drawN p r.1.toNat r.2; (trim s.1, s.2)
def d_form : List D → Option (Bool × D × List D)
  | [.list l, .int p, .int deg] => withBag 999999000 l fun b => if 0 < p ∧ p < 100 ∧ 0 ≤ deg ∧ deg ≤ 40 then some (.tuple (I (formB b p deg).1), (formB b p deg).2) else none
  | _ => none
end
theorem trim_mem {P : Int → Prop} : ∀ {f : List Int}, (∀ x ∈ f, P x) → ∀ x ∈ trim f, P x
  | [], _, x, hx => by cases hx
  | y :: f, h, x, hx => by
    have ih := trim_mem (f := f) fun z hz => h z (List.mem_cons_of_mem _ hz)
    unfold trim at hx
    cases e : trim f with
    | nil =>
      rw [e] at hx
      by_cases hy : y = 0
      · simp [hy] at hx
      · simp only [if_neg hy, List.mem_singleton] at hx
        rw [hx]
        exact h y List.mem_cons_self
    | cons z l =>
      rw [e] at hx ih
      rcases List.mem_cons.mp hx with rfl | hx
      · exact h _ List.mem_cons_self
      · exact ih x hx
theorem trim_le : ∀ g : List Int, (trim g).length ≤ g.length := by
  intro g
  induction g with
  | nil => exact Nat.le_refl _
  | cons x g ih =>
    unfold trim
    cases e : trim g with
    | nil => dsimp only; split <;> simp
    | cons y l => rw [e] at ih; simp at ih ⊢; omega
theorem form_inv {b : Bag} {n p deg : Int} (h : Inv b n) (hp : 0 < p) (hd : 0 ≤ deg) (hd2 : deg ≤ 40) : Inv (formB b p deg).2 (n + 43) ∧ isForm p (formB b p deg).1 ∧ (formB b p deg).1.length ≤ 41 := by
  obtain ⟨v1, v2, v3⟩ := draw_inv (top := deg + 2) h (by omega)
  obtain ⟨w1, w2, w3⟩ := drawN_inv hp (draw b (deg + 2)).1.toNat v1
  unfold formB
  refine ⟨w1.up (by omega), ⟨?_, trim_trim _⟩, ?_⟩
  · exact trim_mem w3
  · refine Nat.le_trans (trim_le _) ?_
    rw [w2]
    omega
theorem run_form (hN : N.length = 4) (h11 : At fs j11 true 2 d_draw) (h17 : At fs j17 false 1 d_trim) {ds : List D} {z : Bool × D × List D} (h : d_form ds = some z) : runD ⟨N, fs, WW⟩ 60 true (B_q_form j11 j17) ds = some z := by
  unfold d_form withBag at h
  split at h
  · rename_i l p deg
    simp only [Option.bind_eq_some_iff] at h
    obtain ⟨b, hb, h⟩ := h
    rw [bagOf_eq hb]
    split at h
    · rename_i hi
      simp only [Option.bind_eq_some_iff] at h
      obtain ⟨y, h1, h⟩ := h
      split at h1
      · rename_i ht
        cases h1
        cases h
        obtain ⟨hp, hp2, hd, hd2⟩ := ht
        have hc := call_draw h11 (top := deg + 2) (hi.up (by decide)) (by omega) (by omega)
        obtain ⟨v1, v2, v3⟩ := draw_inv (top := deg + 2) hi (by omega)
        have hb62 : b62 (draw b (deg + 2)).1 = true := b62_of (by omega) (by omega)
        obtain ⟨w1, w2, w3⟩ := drawN_inv hp (draw b (deg + 2)).1.toNat v1
        have hlen : (rngD 0 (draw b (deg + 2)).1.toNat).length = (draw b (deg + 2)).1.toNat := rngD_len _ _
        have hz : szB (draw b (deg + 2)).1.toNat = true := szB_of (by omega)
        have hl : ∀ n, lcL (evC ⟨N, fs, WW⟩ (n + 9) (.one 3) [3] none (.appio j11 0 [(.nm 1)])) (rngD 0 (draw b (deg + 2)).1.toNat) ⟨[.bag, .val (.int p), .val (.int deg), .no], bagD (draw b (deg + 2)).2⟩ = some (I (drawN p (draw b (deg + 2)).1.toNat (draw b (deg + 2)).2).1, ⟨[.bag, .val (.int p), .val (.int deg), .no], bagD (drawN p (draw b (deg + 2)).1.toNat (draw b (deg + 2)).2).2⟩) := by
          intro n
          have := lcL_draws (F := evC ⟨N, fs, WW⟩ (n + 9) (.one 3) [3] none (.appio j11 0 [(.nm 1)])) hp (fun b => ⟨[.bag, .val (.int p), .val (.int deg), .no], bagD b⟩) 999999999 (fun d b hb => by
            have hc := call_draw h11 (top := p) hb hp (by omega)
            generalize hB : bagD b = B at *
            generalize hB2 : bagD (draw b p).2 = B2 at *
            simp (config := {implicitDefEqProofs := false}) (disch := omega) [h11, hc, q_int, q_bl, q_non, q_nm, q_bin, q_neg, q_negI, q_not, q_bop, q_ife, q_cmp, q_ix, q_ixn, q_sl, q_sln, q_blt, q_lenn, q_isi, q_lst, q_tup, q_lc, q_push, q_pop, q_evc, q_to0, q_to1, q_o0, q_o1, q_intD, q_a0, q_a1, q_tnt, q_tbop, q_tcmp, q_chn, q_tchn, q_tval, q_tnm, q_iseq, q_irng, q_ienu, q_izip, q_iez, q_irev, q_sset, q_stgt, q_spro, q_spar, q_sput, q_sret, q_sretn, q_sife, q_swhl, q_sfor, q_sex, q_spass, q_sbrk, q_scnt, q_ss0, q_ss1, q_gonx, q_gort, q_gobk, q_goct, q_add, q_addl, q_addt, q_sub, q_mul, q_mull, q_mult, q_div, q_mod, q_pow, q_eq, q_ne, q_lt, q_le, q_gt, q_ge, q_is1, q_is2, q_is3, q_is4, q_is5, q_tr0, q_trb, q_tri, q_trl, q_trt, q_ixl, q_ixt, q_sll, q_slt, q_sls, q_lenl, q_lent, q_inti, q_absi, q_lisl, q_list, q_tupl, q_tupt, q_all, q_maxl, q_max, q_min, q_itl, q_itt, q_seql, q_seqt, q_rng1, q_rng2, q_enu1, q_enu2, q_end1, q_end2, q_own, q_val, q_st1, q_stt, q_stpr, q_sta0, q_sta1, q_re1, q_re0, q_appA, q_appioA, q_appkA, ↓bind_o, obind_some, List.getElem?_cons_zero, List.getElem?_cons_succ, List.set_cons_zero, List.set_cons_succ, lockS, slotL, Fz.atS, putL, runD, en0, vals, setS, opStop, wipeE, wipeS, restE, restS, plainS, szB_of, posB_of, b62_of, mulB_of, divB_of, powB_of, repB_one, timB_one, flat_one, I_rep, atI_0, atI_1, atI_2, atI_3, atI_4, ixN_of, cut_from, cut_to, eqv_int, eqv_none, shp_int, shp_bool, shp_none, zip_I]) (rngD 0 (draw b (deg + 2)).1.toNat) v1 (by rw [hlen]; omega)
          rw [hlen] at this
          exact this
        have ht := call_trim h17 (l := I (drawN p (draw b (deg + 2)).1.toNat (draw b (deg + 2)).2).1) (by rw [w2]; omega) rfl
        show _ = some (false, PyData.tuple (I (trim (drawN p (draw b (deg + 2)).1.toNat (draw b (deg + 2)).2).1)), bagD (drawN p (draw b (deg + 2)).1.toNat (draw b (deg + 2)).2).2)
        generalize hB2 : drawN p (draw b (deg + 2)).1.toNat (draw b (deg + 2)).2 = Z at *
        generalize hB3 : draw b (deg + 2) = Y at *
        generalize hB : bagD b = B at *
        generalize hB4 : bagD Z.2 = B4 at *
        generalize hB5 : bagD Y.2 = B5 at *
        simp (config := {implicitDefEqProofs := false}) (disch := omega) [B_q_form, hN, h11, h17, hc, hb62, hlen, hz, hl, ht, q_int, q_bl, q_non, q_nm, q_bin, q_neg, q_negI, q_not, q_bop, q_ife, q_cmp, q_ix, q_ixn, q_sl, q_sln, q_blt, q_lenn, q_isi, q_lst, q_tup, q_lc, q_push, q_pop, q_evc, q_to0, q_to1, q_o0, q_o1, q_intD, q_a0, q_a1, q_tnt, q_tbop, q_tcmp, q_chn, q_tchn, q_tval, q_tnm, q_iseq, q_irng, q_ienu, q_izip, q_iez, q_irev, q_sset, q_stgt, q_spro, q_spar, q_sput, q_sret, q_sretn, q_sife, q_swhl, q_sfor, q_sex, q_spass, q_sbrk, q_scnt, q_ss0, q_ss1, q_gonx, q_gort, q_gobk, q_goct, q_add, q_addl, q_addt, q_sub, q_mul, q_mull, q_mult, q_div, q_mod, q_pow, q_eq, q_ne, q_lt, q_le, q_gt, q_ge, q_is1, q_is2, q_is3, q_is4, q_is5, q_tr0, q_trb, q_tri, q_trl, q_trt, q_ixl, q_ixt, q_sll, q_slt, q_sls, q_lenl, q_lent, q_inti, q_absi, q_lisl, q_list, q_tupl, q_tupt, q_all, q_maxl, q_max, q_min, q_itl, q_itt, q_seql, q_seqt, q_rng1, q_rng2, q_enu1, q_enu2, q_end1, q_end2, q_own, q_val, q_st1, q_stt, q_stpr, q_sta0, q_sta1, q_re1, q_re0, q_appA, q_appioA, q_appkA, ↓bind_o, obind_some, List.getElem?_cons_zero, List.getElem?_cons_succ, List.set_cons_zero, List.set_cons_succ, lockS, slotL, Fz.atS, putL, runD, en0, vals, setS, opStop, wipeE, wipeS, restE, restS, plainS, szB_of, posB_of, b62_of, mulB_of, divB_of, powB_of, repB_one, timB_one, flat_one, I_rep, atI_0, atI_1, atI_2, atI_3, atI_4, ixN_of, cut_from, cut_to, eqv_int, eqv_none, shp_int, shp_bool, shp_none, zip_I]
      · cases h1
    · cases h
  · cases h
theorem call_lform (hD : At fs j23 true 3 d_form) {b : Bag} {p deg : Int} (h : Inv b 999999000) (hp : 0 < p) (hp2 : p < 100) (hd : 0 ≤ deg) (hd2 : deg ≤ 40) : bAt fs j23 (bagD b) [.int p, .int deg] = some (false, .tuple (I (formB b p deg).1), bagD (formB b p deg).2) := by
  refine hD.b rfl ?_
  unfold d_form withBag
  dsimp only
  rw [bagOf_D]
  simp only [Option.bind_some]
  rw [if_pos h, if_pos ⟨hp, hp2, hd, hd2⟩]
  rfl
end W1
set_option Elab.async false
set_option linter.all false
set_option maxRecDepth 100000
set_option maxHeartbeats 2000000
namespace W1
open PySem PySem.Spec PyProof.Rows L2 Fz
variable {fs : List (Str × Fn)} {N : List Str} {j0 j1 j2 j3 j4 j5 j6 j7 j8 j9 j10 j11 j12 j13 j14 j15 j16 j17 j18 j19 j20 j21 j22 j23 j24 j25 j26 j27 : Nat}
/-! ### forms judged -/
def d_is_num : List D → Option (Bool × D × List D)
  | [.int _] => some (false, .bool true, [])
  | _ => none
theorem run_is_num (hN : N.length = 1) {ds : List D} {z : Bool × D × List D} (h : d_is_num ds = some z) : runD ⟨N, fs, WW⟩ 60 false B_q_is_num ds = some z := by
  unfold d_is_num at h
  split at h
  · cases h
    rfl
  · cases h
theorem call_is_num (h : At fs j14 false 1 d_is_num) (i : Int) : cAt fs j14 [.int i] = some (false, .bool true) := h.c (l := []) rfl rfl
noncomputable section
open Classical in
def d_is_form : List D → Option (Bool × D × List D)
  | [.int p, .tuple a] => (allI a).bind fun f => if isForm p f then some (false, .bool true, []) else none
  | _ => none
end
theorem is_form_loop (T : Tb) (hF : At T.fs j14 false 1 d_is_num) {p : Int} (F : Sl) (bg : List D) (n : Nat) : ∀ (xs : List Int) (s : Sl), (∀ x ∈ xs, 0 ≤ x ∧ x < p) →
    ∃ s', forL (bodyF T (n + 12) (.one 2) [.ife (.bop .Or (.nt (.val (.app j14 [(.nm 2)]))) (.bop .Or (.cmp .Lt (.nm 2) (.int 0)) (.cmp .GtE (.nm 2) (.nm 0)))) [.ret (.bl false)] []]) (I xs) ⟨[.val (.int p), F, s], bg⟩ = some (.nx ⟨[.val (.int p), F, s'], bg⟩)
  | [], s, _ => ⟨s, rfl⟩
  | x :: xs, s, hx => by
    obtain ⟨x0, x1⟩ := hx x List.mem_cons_self
    obtain ⟨s', ih⟩ := is_form_loop T hF F bg n xs (.val (.int x)) fun y hy => hx y (List.mem_cons_of_mem _ hy)
    refine ⟨s', ?_⟩
    have hc := call_is_num hF x
    have e1 : ¬ x < 0 := by omega
    have e2 : ¬ p ≤ x := by omega
    rw [I_cons, forL_nx (show bodyF T (n + 12) (.one 2) [.ife (.bop .Or (.nt (.val (.app j14 [(.nm 2)]))) (.bop .Or (.cmp .Lt (.nm 2) (.int 0)) (.cmp .GtE (.nm 2) (.nm 0)))) [.ret (.bl false)] []] (.int x) ⟨[.val (.int p), F, s], bg⟩ = some (.nx ⟨[.val (.int p), F, .val (.int x)], bg⟩) by simp (config := {implicitDefEqProofs := false}) (disch := omega) [bodyF, hF, hc, e1, e2, q_int, q_bl, q_non, q_nm, q_bin, q_neg, q_negI, q_not, q_bop, q_ife, q_cmp, q_ix, q_ixn, q_sl, q_sln, q_blt, q_lenn, q_isi, q_lst, q_tup, q_lc, q_push, q_pop, q_evc, q_to0, q_to1, q_o0, q_o1, q_intD, q_a0, q_a1, q_tnt, q_tbop, q_tcmp, q_chn, q_tchn, q_tval, q_tnm, q_iseq, q_irng, q_ienu, q_izip, q_iez, q_irev, q_sset, q_stgt, q_spro, q_spar, q_sput, q_sret, q_sretn, q_sife, q_swhl, q_sfor, q_sex, q_spass, q_sbrk, q_scnt, q_ss0, q_ss1, q_gonx, q_gort, q_gobk, q_goct, q_add, q_addl, q_addt, q_sub, q_mul, q_mull, q_mult, q_div, q_mod, q_pow, q_eq, q_ne, q_lt, q_le, q_gt, q_ge, q_is1, q_is2, q_is3, q_is4, q_is5, q_tr0, q_trb, q_tri, q_trl, q_trt, q_ixl, q_ixt, q_sll, q_slt, q_sls, q_lenl, q_lent, q_inti, q_absi, q_lisl, q_list, q_tupl, q_tupt, q_all, q_maxl, q_max, q_min, q_itl, q_itt, q_seql, q_seqt, q_rng1, q_rng2, q_enu1, q_enu2, q_end1, q_end2, q_own, q_val, q_st1, q_stt, q_stpr, q_sta0, q_sta1, q_re1, q_re0, q_appA, q_appioA, q_appkA, ↓bind_o, obind_some, List.getElem?_cons_zero, List.getElem?_cons_succ, List.set_cons_zero, List.set_cons_succ, lockS, slotL, Fz.atS, putL, runD, en0, vals, setS, opStop, wipeE, wipeS, restE, restS, plainS, szB_of, posB_of, b62_of, mulB_of, divB_of, powB_of, repB_one, timB_one, flat_one, I_rep, atI_0, atI_1, atI_2, atI_3, atI_4, ixN_of, cut_from, cut_to, eqv_int, eqv_none, shp_int, shp_bool, shp_none, zip_I])]
    exact ih
theorem run_is_form (hN : N.length = 3) (hF : At fs j14 false 1 d_is_num) {ds : List D} {z : Bool × D × List D} (h : d_is_form ds = some z) : runD ⟨N, fs, WW⟩ 60 false (B_q_is_form j14) ds = some z := by
  unfold d_is_form at h
  split at h
  · rename_i p a
    simp only [Option.bind_eq_some_iff] at h
    obtain ⟨f, hf, h⟩ := h
    split at h
    · rename_i hp
      cases h
      rw [allI_eq hf]
      obtain ⟨s', hl⟩ := is_form_loop ⟨N, fs, WW⟩ hF (.val (.tuple (I f))) [] 45 f .no hp.1
      change forL (bodyF _ 57 _ _) _ _ = _ at hl
      by_cases e : f = []
      · subst e
        rw [I_nil] at hl
        simp (config := {implicitDefEqProofs := false}) (disch := omega) [B_q_is_form, hN, hl, noTag, isiD, tyD, isTy, q_int, q_bl, q_non, q_nm, q_bin, q_neg, q_negI, q_not, q_bop, q_ife, q_cmp, q_ix, q_ixn, q_sl, q_sln, q_blt, q_lenn, q_isi, q_lst, q_tup, q_lc, q_push, q_pop, q_evc, q_to0, q_to1, q_o0, q_o1, q_intD, q_a0, q_a1, q_tnt, q_tbop, q_tcmp, q_chn, q_tchn, q_tval, q_tnm, q_iseq, q_irng, q_ienu, q_izip, q_iez, q_irev, q_sset, q_stgt, q_spro, q_spar, q_sput, q_sret, q_sretn, q_sife, q_swhl, q_sfor, q_sex, q_spass, q_sbrk, q_scnt, q_ss0, q_ss1, q_gonx, q_gort, q_gobk, q_goct, q_add, q_addl, q_addt, q_sub, q_mul, q_mull, q_mult, q_div, q_mod, q_pow, q_eq, q_ne, q_lt, q_le, q_gt, q_ge, q_is1, q_is2, q_is3, q_is4, q_is5, q_tr0, q_trb, q_tri, q_trl, q_trt, q_ixl, q_ixt, q_sll, q_slt, q_sls, q_lenl, q_lent, q_inti, q_absi, q_lisl, q_list, q_tupl, q_tupt, q_all, q_maxl, q_max, q_min, q_itl, q_itt, q_seql, q_seqt, q_rng1, q_rng2, q_enu1, q_enu2, q_end1, q_end2, q_own, q_val, q_st1, q_stt, q_stpr, q_sta0, q_sta1, q_re1, q_re0, q_appA, q_appioA, q_appkA, ↓bind_o, obind_some, List.getElem?_cons_zero, List.getElem?_cons_succ, List.set_cons_zero, List.set_cons_succ, lockS, slotL, Fz.atS, putL, runD, en0, vals, setS, opStop, wipeE, wipeS, restE, restS, plainS, szB_of, posB_of, b62_of, mulB_of, divB_of, powB_of, repB_one, timB_one, flat_one, I_rep, atI_0, atI_1, atI_2, atI_3, atI_4, ixN_of, cut_from, cut_to, eqv_int, eqv_none, shp_int, shp_bool, shp_none, zip_I]
      · obtain ⟨l, y, rfl, y0, y1⟩ := last_form hp e
        have hat : atI (I (l ++ [y])) (-1) = some (.int y) := by
          rw [I_app]
          exact atI_last _ _
        have hn : ¬ (l ++ [y]).length = 0 := by rw [List.length_append, List.length_singleton]; omega
        have hy : (y == 0) = false := beq_false_of_ne (by omega)
        have hlen : (I (l ++ [y])).length = (l ++ [y]).length := I_len _
        generalize hL : I (l ++ [y]) = L at *
        generalize hM : (l ++ [y]).length = M at *
        simp (config := {implicitDefEqProofs := false}) (disch := omega) [B_q_is_form, hN, hl, hat, hn, hy, hlen, noTag, isiD, tyD, isTy, q_int, q_bl, q_non, q_nm, q_bin, q_neg, q_negI, q_not, q_bop, q_ife, q_cmp, q_ix, q_ixn, q_sl, q_sln, q_blt, q_lenn, q_isi, q_lst, q_tup, q_lc, q_push, q_pop, q_evc, q_to0, q_to1, q_o0, q_o1, q_intD, q_a0, q_a1, q_tnt, q_tbop, q_tcmp, q_chn, q_tchn, q_tval, q_tnm, q_iseq, q_irng, q_ienu, q_izip, q_iez, q_irev, q_sset, q_stgt, q_spro, q_spar, q_sput, q_sret, q_sretn, q_sife, q_swhl, q_sfor, q_sex, q_spass, q_sbrk, q_scnt, q_ss0, q_ss1, q_gonx, q_gort, q_gobk, q_goct, q_add, q_addl, q_addt, q_sub, q_mul, q_mull, q_mult, q_div, q_mod, q_pow, q_eq, q_ne, q_lt, q_le, q_gt, q_ge, q_is1, q_is2, q_is3, q_is4, q_is5, q_tr0, q_trb, q_tri, q_trl, q_trt, q_ixl, q_ixt, q_sll, q_slt, q_sls, q_lenl, q_lent, q_inti, q_absi, q_lisl, q_list, q_tupl, q_tupt, q_all, q_maxl, q_max, q_min, q_itl, q_itt, q_seql, q_seqt, q_rng1, q_rng2, q_enu1, q_enu2, q_end1, q_end2, q_own, q_val, q_st1, q_stt, q_stpr, q_sta0, q_sta1, q_re1, q_re0, q_appA, q_appioA, q_appkA, ↓bind_o, obind_some, List.getElem?_cons_zero, List.getElem?_cons_succ, List.set_cons_zero, List.set_cons_succ, lockS, slotL, Fz.atS, putL, runD, en0, vals, setS, opStop, wipeE, wipeS, restE, restS, plainS, szB_of, posB_of, b62_of, mulB_of, divB_of, powB_of, repB_one, timB_one, flat_one, I_rep, atI_0, atI_1, atI_2, atI_3, atI_4, ixN_of, cut_from, cut_to, eqv_int, eqv_none, shp_int, shp_bool, shp_none, zip_I]
    · cases h
  · cases h
/-! ### the bag of a script -/
def mix (m : Int) : List Int → Int
  | [] => m
  | c :: cs => mix ((m * 69621 + c % 999983 * 733 + 17) % 2147483629) cs
theorem mix_ok : ∀ (cs : List Int) {m : Int}, 0 ≤ m → m < 2147483648 → 0 ≤ mix m cs ∧ mix m cs < 2147483648
  | [], m, h0, h1 => ⟨h0, h1⟩
  | c :: cs, m, h0, h1 => mix_ok cs (Int.emod_nonneg _ (by decide)) (by have := Int.emod_lt_of_pos (m * 69621 + c % 999983 * 733 + 17) (show (0 : Int) < 2147483629 by decide); omega)
def bag0 (cs : List Int) : Bag := ⟨cs.take 63, 0, 0, mix 4201 (cs.take 63), 0⟩
theorem bag0_inv (cs : List Int) : Inv (bag0 cs) 0 := by
  obtain ⟨h0, h1⟩ := mix_ok (cs.take 63) (m := 4201) (by decide) (by decide)
  exact ⟨Int.le_refl _, Int.le_refl _, h0, h1, Int.le_refl _, Int.le_refl _⟩
def d_bag : List D → Option (Bool × D × List D)
  | [.dict [(.none, .list l)]] => (allI l).map fun cs => (true, .list (bagD (bag0 cs)), [])
  | _ => none
theorem bag_loop (T : Tb) (F : Sl) (bg : List D) (n : Nat) : ∀ (cs : List Int) (m : Int) (s : Sl), 0 ≤ m → m < 2147483648 →
    ∃ s', forL (bodyF T (n + 16) (.one 2) [.set 1 (.bin .Mod (.blt .int [(.bin .Add (.bin .Add (.bin .Mult (.nm 1) (.int 69621)) (.bin .Mult (.bin .Mod (.blt .int [(.nm 2)]) (.int 999983)) (.int 733))) (.int 17))]) (.int 2147483629))]) (I cs) ⟨[F, .val (.int m), s], bg⟩ = some (.nx ⟨[F, .val (.int (mix m cs)), s'], bg⟩)
  | [], m, s, _, _ => ⟨s, rfl⟩
  | c :: cs, m, s, h0, h1 => by
    have q0 := Int.emod_nonneg (m * 69621 + c % 999983 * 733 + 17) (show (2147483629 : Int) ≠ 0 by decide)
    have q1 := Int.emod_lt_of_pos (m * 69621 + c % 999983 * 733 + 17) (show (0 : Int) < 2147483629 by decide)
    obtain ⟨s', ih⟩ := bag_loop T F bg n cs ((m * 69621 + c % 999983 * 733 + 17) % 2147483629) (.val (.int c)) q0 (by omega)
    refine ⟨s', ?_⟩
    rw [I_cons, forL_nx (show bodyF T (n + 16) (.one 2) [.set 1 (.bin .Mod (.blt .int [(.bin .Add (.bin .Add (.bin .Mult (.nm 1) (.int 69621)) (.bin .Mult (.bin .Mod (.blt .int [(.nm 2)]) (.int 999983)) (.int 733))) (.int 17))]) (.int 2147483629))] (.int c) ⟨[F, .val (.int m), s], bg⟩ = some (.nx ⟨[F, .val (.int ((m * 69621 + c % 999983 * 733 + 17) % 2147483629)), .val (.int c)], bg⟩) by simp (config := {implicitDefEqProofs := false}) (disch := omega) [bodyF, q_int, q_bl, q_non, q_nm, q_bin, q_neg, q_negI, q_not, q_bop, q_ife, q_cmp, q_ix, q_ixn, q_sl, q_sln, q_blt, q_lenn, q_isi, q_lst, q_tup, q_lc, q_push, q_pop, q_evc, q_to0, q_to1, q_o0, q_o1, q_intD, q_a0, q_a1, q_tnt, q_tbop, q_tcmp, q_chn, q_tchn, q_tval, q_tnm, q_iseq, q_irng, q_ienu, q_izip, q_iez, q_irev, q_sset, q_stgt, q_spro, q_spar, q_sput, q_sret, q_sretn, q_sife, q_swhl, q_sfor, q_sex, q_spass, q_sbrk, q_scnt, q_ss0, q_ss1, q_gonx, q_gort, q_gobk, q_goct, q_add, q_addl, q_addt, q_sub, q_mul, q_mull, q_mult, q_div, q_mod, q_pow, q_eq, q_ne, q_lt, q_le, q_gt, q_ge, q_is1, q_is2, q_is3, q_is4, q_is5, q_tr0, q_trb, q_tri, q_trl, q_trt, q_ixl, q_ixt, q_sll, q_slt, q_sls, q_lenl, q_lent, q_inti, q_absi, q_lisl, q_list, q_tupl, q_tupt, q_all, q_maxl, q_max, q_min, q_itl, q_itt, q_seql, q_seqt, q_rng1, q_rng2, q_enu1, q_enu2, q_end1, q_end2, q_own, q_val, q_st1, q_stt, q_stpr, q_sta0, q_sta1, q_re1, q_re0, q_appA, q_appioA, q_appkA, ↓bind_o, obind_some, List.getElem?_cons_zero, List.getElem?_cons_succ, List.set_cons_zero, List.set_cons_succ, lockS, slotL, Fz.atS, putL, runD, en0, vals, setS, opStop, wipeE, wipeS, restE, restS, plainS, szB_of, posB_of, b62_of, mulB_of, divB_of, powB_of, repB_one, timB_one, flat_one, I_rep, atI_0, atI_1, atI_2, atI_3, atI_4, ixN_of, cut_from, cut_to, eqv_int, eqv_none, shp_int, shp_bool, shp_none, zip_I])]
    exact ih
theorem run_bag (hN : N.length = 3) {ds : List D} {z : Bool × D × List D} (h : d_bag ds = some z) : runD ⟨N, fs, WW⟩ 60 false B_q_bag ds = some z := by
  unfold d_bag at h
  split at h
  · rename_i l
    rw [Option.map_eq_some_iff] at h
    obtain ⟨cs, h1, rfl⟩ := h
    rw [allI_eq h1]
    obtain ⟨s', hl⟩ := bag_loop ⟨N, fs, WW⟩ (.val (.dict [(.none, .list (I cs))])) [] 41 (cs.take 63) 4201 .no (by decide) (by decide)
    change forL (bodyF _ 57 _ _) _ _ = _ at hl
    simp (config := {implicitDefEqProofs := false}) (disch := omega) [B_q_bag, hN, hl, bagD, bag0, q_int, q_bl, q_non, q_nm, q_bin, q_neg, q_negI, q_not, q_bop, q_ife, q_cmp, q_ix, q_ixn, q_sl, q_sln, q_blt, q_lenn, q_isi, q_lst, q_tup, q_lc, q_push, q_pop, q_evc, q_to0, q_to1, q_o0, q_o1, q_intD, q_a0, q_a1, q_tnt, q_tbop, q_tcmp, q_chn, q_tchn, q_tval, q_tnm, q_iseq, q_irng, q_ienu, q_izip, q_iez, q_irev, q_sset, q_stgt, q_spro, q_spar, q_sput, q_sret, q_sretn, q_sife, q_swhl, q_sfor, q_sex, q_spass, q_sbrk, q_scnt, q_ss0, q_ss1, q_gonx, q_gort, q_gobk, q_goct, q_add, q_addl, q_addt, q_sub, q_mul, q_mull, q_mult, q_div, q_mod, q_pow, q_eq, q_ne, q_lt, q_le, q_gt, q_ge, q_is1, q_is2, q_is3, q_is4, q_is5, q_tr0, q_trb, q_tri, q_trl, q_trt, q_ixl, q_ixt, q_sll, q_slt, q_sls, q_lenl, q_lent, q_inti, q_absi, q_lisl, q_list, q_tupl, q_tupt, q_all, q_maxl, q_max, q_min, q_itl, q_itt, q_seql, q_seqt, q_rng1, q_rng2, q_enu1, q_enu2, q_end1, q_end2, q_own, q_val, q_st1, q_stt, q_stpr, q_sta0, q_sta1, q_re1, q_re0, q_appA, q_appioA, q_appkA, ↓bind_o, obind_some, List.getElem?_cons_zero, List.getElem?_cons_succ, List.set_cons_zero, List.set_cons_succ, lockS, slotL, Fz.atS, putL, runD, en0, vals, setS, opStop, wipeE, wipeS, restE, restS, plainS, szB_of, posB_of, b62_of, mulB_of, divB_of, powB_of, repB_one, timB_one, flat_one, I_rep, atI_0, atI_1, atI_2, atI_3, atI_4, ixN_of, cut_from, cut_to, eqv_int, eqv_none, shp_int, shp_bool, shp_none, zip_I]
  · cases h
end W1
set_option Elab.async false
set_option linter.all false
set_option maxRecDepth 100000
set_option maxHeartbeats 2000000
namespace W1
open PySem PySem.Spec PyProof.Rows L2 Fz
variable {fs : List (Str × Fn)} {N : List Str} {j0 j1 j2 j3 j4 j5 j6 j7 j8 j9 j10 j11 j12 j13 j14 j15 j16 j17 j18 j19 j20 j21 j22 j23 j24 j25 j26 j27 : Nat}
/-! ### equal values are the same -/
def leaf : D → Bool
  | .none => true
  | .int _ => true
  | _ => false
def sd : Nat → D → Bool
  | 0, d => leaf d
  | n + 1, .list l => decide (l.length ≤ 100000) && l.all (sd n)
  | n + 1, .tuple l => decide (l.length ≤ 100000) && l.all (sd n)
  | _ + 1, d => leaf d
noncomputable section
open Classical in
def d_same (n : Nat) : List D → Option (Bool × D × List D)
  | [a, b] => if a = b ∧ sd n b = true then some (false, .bool true, []) else none
  | _ => none
end
theorem call_same {n : Nat} (hS : At fs j13 false 2 (d_same n)) {d : D} (h : sd n d = true) : cAt fs j13 [d, d] = some (false, .bool true) := by
  refine hS.c (l := []) rfl ?_
  unfold d_same
  dsimp only
  rw [if_pos ⟨rfl, h⟩]
theorem zip_self : ∀ l : List D, zipD l l = l.map fun x => .tuple [x, x]
  | [] => rfl
  | x :: l => by
    unfold zipD
    rw [zip_self l]
    rfl
theorem allB_tt : ∀ l : List D, allB (l.map fun _ => PyData.bool true) = some (l.map fun _ => true)
  | [] => rfl
  | x :: l => by
    show (allB (l.map fun _ => PyData.bool true)).map _ = _
    rw [allB_tt l]
    rfl
theorem all_tt (l : List D) : (l.map fun _ => true).all id = true := by simp
theorem eqv_bool (a b : Bool) : PyData.eqv (.bool a) (.bool b) = (a == b) := by cases a <;> cases b <;> rfl
theorem run_same (hN : N.length = 4) {n : Nat} (hF : n ≠ 0 → At fs j13 false 2 (d_same (n - 1))) {ds : List D} {z : Bool × D × List D} (h : d_same n ds = some z) : runD ⟨N, fs, WW⟩ 60 false (B_q_same j13) ds = some z := by
  unfold d_same at h
  split at h
  · rename_i a d
    split at h
    · rename_i hp
      cases h
      obtain ⟨rfl, hs⟩ := hp
      have hleaf : ∀ d, leaf d = true → runD ⟨N, fs, WW⟩ 60 false (B_q_same j13) [d, d] = some (false, .bool true, []) := by
        intro d hd
        cases d with
        | none => simp (config := {implicitDefEqProofs := false}) (disch := omega) [B_q_same, hN, noTag, isiD, tyD, isTy, q_int, q_bl, q_non, q_nm, q_bin, q_neg, q_negI, q_not, q_bop, q_ife, q_cmp, q_ix, q_ixn, q_sl, q_sln, q_blt, q_lenn, q_isi, q_lst, q_tup, q_lc, q_push, q_pop, q_evc, q_to0, q_to1, q_o0, q_o1, q_intD, q_a0, q_a1, q_tnt, q_tbop, q_tcmp, q_chn, q_tchn, q_tval, q_tnm, q_iseq, q_irng, q_ienu, q_izip, q_iez, q_irev, q_sset, q_stgt, q_spro, q_spar, q_sput, q_sret, q_sretn, q_sife, q_swhl, q_sfor, q_sex, q_spass, q_sbrk, q_scnt, q_ss0, q_ss1, q_gonx, q_gort, q_gobk, q_goct, q_add, q_addl, q_addt, q_sub, q_mul, q_mull, q_mult, q_div, q_mod, q_pow, q_eq, q_ne, q_lt, q_le, q_gt, q_ge, q_is1, q_is2, q_is3, q_is4, q_is5, q_tr0, q_trb, q_tri, q_trl, q_trt, q_ixl, q_ixt, q_sll, q_slt, q_sls, q_lenl, q_lent, q_inti, q_absi, q_lisl, q_list, q_tupl, q_tupt, q_all, q_maxl, q_max, q_min, q_itl, q_itt, q_seql, q_seqt, q_rng1, q_rng2, q_enu1, q_enu2, q_end1, q_end2, q_own, q_val, q_st1, q_stt, q_stpr, q_sta0, q_sta1, q_re1, q_re0, q_appA, q_appioA, q_appkA, ↓bind_o, obind_some, List.getElem?_cons_zero, List.getElem?_cons_succ, List.set_cons_zero, List.set_cons_succ, lockS, slotL, Fz.atS, putL, runD, en0, vals, setS, opStop, wipeE, wipeS, restE, restS, plainS, szB_of, posB_of, b62_of, mulB_of, divB_of, powB_of, repB_one, timB_one, flat_one, I_rep, atI_0, atI_1, atI_2, atI_3, atI_4, ixN_of, cut_from, cut_to, eqv_int, eqv_none, shp_int, shp_bool, shp_none, zip_I]
        | int i => simp (config := {implicitDefEqProofs := false}) (disch := omega) [B_q_same, hN, noTag, isiD, tyD, isTy, q_int, q_bl, q_non, q_nm, q_bin, q_neg, q_negI, q_not, q_bop, q_ife, q_cmp, q_ix, q_ixn, q_sl, q_sln, q_blt, q_lenn, q_isi, q_lst, q_tup, q_lc, q_push, q_pop, q_evc, q_to0, q_to1, q_o0, q_o1, q_intD, q_a0, q_a1, q_tnt, q_tbop, q_tcmp, q_chn, q_tchn, q_tval, q_tnm, q_iseq, q_irng, q_ienu, q_izip, q_iez, q_irev, q_sset, q_stgt, q_spro, q_spar, q_sput, q_sret, q_sretn, q_sife, q_swhl, q_sfor, q_sex, q_spass, q_sbrk, q_scnt, q_ss0, q_ss1, q_gonx, q_gort, q_gobk, q_goct, q_add, q_addl, q_addt, q_sub, q_mul, q_mull, q_mult, q_div, q_mod, q_pow, q_eq, q_ne, q_lt, q_le, q_gt, q_ge, q_is1, q_is2, q_is3, q_is4, q_is5, q_tr0, q_trb, q_tri, q_trl, q_trt, q_ixl, q_ixt, q_sll, q_slt, q_sls, q_lenl, q_lent, q_inti, q_absi, q_lisl, q_list, q_tupl, q_tupt, q_all, q_maxl, q_max, q_min, q_itl, q_itt, q_seql, q_seqt, q_rng1, q_rng2, q_enu1, q_enu2, q_end1, q_end2, q_own, q_val, q_st1, q_stt, q_stpr, q_sta0, q_sta1, q_re1, q_re0, q_appA, q_appioA, q_appkA, ↓bind_o, obind_some, List.getElem?_cons_zero, List.getElem?_cons_succ, List.set_cons_zero, List.set_cons_succ, lockS, slotL, Fz.atS, putL, runD, en0, vals, setS, opStop, wipeE, wipeS, restE, restS, plainS, szB_of, posB_of, b62_of, mulB_of, divB_of, powB_of, repB_one, timB_one, flat_one, I_rep, atI_0, atI_1, atI_2, atI_3, atI_4, ixN_of, cut_from, cut_to, eqv_int, eqv_none, shp_int, shp_bool, shp_none, zip_I]
        | _ => cases hd
      cases n with
      | zero => exact hleaf _ hs
      | succ n =>
        have h13 := hF (Nat.succ_ne_zero n)
        rw [Nat.add_sub_cancel] at h13
        have key : ∀ (l : List D), l.all (sd n) = true → ∀ m (a b : Sl), lcL (evC ⟨N, fs, WW⟩ (m + 9) (.tup [2, 3]) [2, 3] none (.app j13 [(.nm 2), (.nm 3)])) (l.map fun x => .tuple [x, x]) ⟨[a, b, .no, .no], []⟩ = some (l.map fun _ => .bool true, ⟨[a, b, .no, .no], []⟩) := by
          intro l hl m a b
          refine lcL_pure _ _ fun x hx => ?_
          have hc := call_same h13 (List.all_eq_true.mp hl x hx)
          simp (config := {implicitDefEqProofs := false}) (disch := omega) [h13, hc, q_int, q_bl, q_non, q_nm, q_bin, q_neg, q_negI, q_not, q_bop, q_ife, q_cmp, q_ix, q_ixn, q_sl, q_sln, q_blt, q_lenn, q_isi, q_lst, q_tup, q_lc, q_push, q_pop, q_evc, q_to0, q_to1, q_o0, q_o1, q_intD, q_a0, q_a1, q_tnt, q_tbop, q_tcmp, q_chn, q_tchn, q_tval, q_tnm, q_iseq, q_irng, q_ienu, q_izip, q_iez, q_irev, q_sset, q_stgt, q_spro, q_spar, q_sput, q_sret, q_sretn, q_sife, q_swhl, q_sfor, q_sex, q_spass, q_sbrk, q_scnt, q_ss0, q_ss1, q_gonx, q_gort, q_gobk, q_goct, q_add, q_addl, q_addt, q_sub, q_mul, q_mull, q_mult, q_div, q_mod, q_pow, q_eq, q_ne, q_lt, q_le, q_gt, q_ge, q_is1, q_is2, q_is3, q_is4, q_is5, q_tr0, q_trb, q_tri, q_trl, q_trt, q_ixl, q_ixt, q_sll, q_slt, q_sls, q_lenl, q_lent, q_inti, q_absi, q_lisl, q_list, q_tupl, q_tupt, q_all, q_maxl, q_max, q_min, q_itl, q_itt, q_seql, q_seqt, q_rng1, q_rng2, q_enu1, q_enu2, q_end1, q_end2, q_own, q_val, q_st1, q_stt, q_stpr, q_sta0, q_sta1, q_re1, q_re0, q_appA, q_appioA, q_appkA, ↓bind_o, obind_some, List.getElem?_cons_zero, List.getElem?_cons_succ, List.set_cons_zero, List.set_cons_succ, lockS, slotL, Fz.atS, putL, runD, en0, vals, setS, opStop, wipeE, wipeS, restE, restS, plainS, szB_of, posB_of, b62_of, mulB_of, divB_of, powB_of, repB_one, timB_one, flat_one, I_rep, atI_0, atI_1, atI_2, atI_3, atI_4, ixN_of, cut_from, cut_to, eqv_int, eqv_none, shp_int, shp_bool, shp_none, zip_I]
        cases a with
        | list l =>
          unfold sd at hs
          rw [Bool.and_eq_true, decide_eq_true_eq] at hs
          have hk := key l hs.2
          have hl := hs.1
          have hz := zip_self l
          have ha := allB_tt l
          have ht := all_tt l
          simp (config := {implicitDefEqProofs := false}) (disch := omega) [B_q_same, hN, noTag, isiD, tyD, isTy, eqv_bool, hz, hk, ha, ht, q_int, q_bl, q_non, q_nm, q_bin, q_neg, q_negI, q_not, q_bop, q_ife, q_cmp, q_ix, q_ixn, q_sl, q_sln, q_blt, q_lenn, q_isi, q_lst, q_tup, q_lc, q_push, q_pop, q_evc, q_to0, q_to1, q_o0, q_o1, q_intD, q_a0, q_a1, q_tnt, q_tbop, q_tcmp, q_chn, q_tchn, q_tval, q_tnm, q_iseq, q_irng, q_ienu, q_izip, q_iez, q_irev, q_sset, q_stgt, q_spro, q_spar, q_sput, q_sret, q_sretn, q_sife, q_swhl, q_sfor, q_sex, q_spass, q_sbrk, q_scnt, q_ss0, q_ss1, q_gonx, q_gort, q_gobk, q_goct, q_add, q_addl, q_addt, q_sub, q_mul, q_mull, q_mult, q_div, q_mod, q_pow, q_eq, q_ne, q_lt, q_le, q_gt, q_ge, q_is1, q_is2, q_is3, q_is4, q_is5, q_tr0, q_trb, q_tri, q_trl, q_trt, q_ixl, q_ixt, q_sll, q_slt, q_sls, q_lenl, q_lent, q_inti, q_absi, q_lisl, q_list, q_tupl, q_tupt, q_all, q_maxl, q_max, q_min, q_itl, q_itt, q_seql, q_seqt, q_rng1, q_rng2, q_enu1, q_enu2, q_end1, q_end2, q_own, q_val, q_st1, q_stt, q_stpr, q_sta0, q_sta1, q_re1, q_re0, q_appA, q_appioA, q_appkA, ↓bind_o, obind_some, List.getElem?_cons_zero, List.getElem?_cons_succ, List.set_cons_zero, List.set_cons_succ, lockS, slotL, Fz.atS, putL, runD, en0, vals, setS, opStop, wipeE, wipeS, restE, restS, plainS, szB_of, posB_of, b62_of, mulB_of, divB_of, powB_of, repB_one, timB_one, flat_one, I_rep, atI_0, atI_1, atI_2, atI_3, atI_4, ixN_of, cut_from, cut_to, eqv_int, eqv_none, shp_int, shp_bool, shp_none, zip_I]
        | tuple l =>
          unfold sd at hs
          rw [Bool.and_eq_true, decide_eq_true_eq] at hs
          have hk := key l hs.2
          have hl := hs.1
          have hz := zip_self l
          have ha := allB_tt l
          have ht := all_tt l
          simp (config := {implicitDefEqProofs := false}) (disch := omega) [B_q_same, hN, noTag, isiD, tyD, isTy, eqv_bool, hz, hk, ha, ht, q_int, q_bl, q_non, q_nm, q_bin, q_neg, q_negI, q_not, q_bop, q_ife, q_cmp, q_ix, q_ixn, q_sl, q_sln, q_blt, q_lenn, q_isi, q_lst, q_tup, q_lc, q_push, q_pop, q_evc, q_to0, q_to1, q_o0, q_o1, q_intD, q_a0, q_a1, q_tnt, q_tbop, q_tcmp, q_chn, q_tchn, q_tval, q_tnm, q_iseq, q_irng, q_ienu, q_izip, q_iez, q_irev, q_sset, q_stgt, q_spro, q_spar, q_sput, q_sret, q_sretn, q_sife, q_swhl, q_sfor, q_sex, q_spass, q_sbrk, q_scnt, q_ss0, q_ss1, q_gonx, q_gort, q_gobk, q_goct, q_add, q_addl, q_addt, q_sub, q_mul, q_mull, q_mult, q_div, q_mod, q_pow, q_eq, q_ne, q_lt, q_le, q_gt, q_ge, q_is1, q_is2, q_is3, q_is4, q_is5, q_tr0, q_trb, q_tri, q_trl, q_trt, q_ixl, q_ixt, q_sll, q_slt, q_sls, q_lenl, q_lent, q_inti, q_absi, q_lisl, q_list, q_tupl, q_tupt, q_all, q_maxl, q_max, q_min, q_itl, q_itt, q_seql, q_seqt, q_rng1, q_rng2, q_enu1, q_enu2, q_end1, q_end2, q_own, q_val, q_st1, q_stt, q_stpr, q_sta0, q_sta1, q_re1, q_re0, q_appA, q_appioA, q_appkA, ↓bind_o, obind_some, List.getElem?_cons_zero, List.getElem?_cons_succ, List.set_cons_zero, List.set_cons_succ, lockS, slotL, Fz.atS, putL, runD, en0, vals, setS, opStop, wipeE, wipeS, restE, restS, plainS, szB_of, posB_of, b62_of, mulB_of, divB_of, powB_of, repB_one, timB_one, flat_one, I_rep, atI_0, atI_1, atI_2, atI_3, atI_4, ixN_of, cut_from, cut_to, eqv_int, eqv_none, shp_int, shp_bool, shp_none, zip_I]
        | _ => exact hleaf _ hs
    · cases h
  · cases h
end W1
set_option Elab.async false
set_option linter.all false
set_option maxRecDepth 100000
set_option maxHeartbeats 2000000
namespace W1
open PySem PySem.Spec PyProof.Rows L2 Fz
variable {fs : List (Str × Fn)} {N : List Str} {j0 j1 j2 j3 j4 j5 j6 j7 j8 j9 j10 j11 j12 j13 j14 j15 j16 j17 j18 j19 j20 j21 j22 j23 j24 j25 j26 j27 : Nat}
/-! ### the value of a product -/
theorem ev_set (c : Int) : ∀ (s : List Int) (i : Nat) (v : Int), i < s.length → ev c (s.set i (gd s i + v)) = ev c s + c ^ i * v
  | [], i, v, h => absurd h (Nat.not_lt_zero _)
  | x :: s, 0, v, _ => by
    show x + v + c * ev c s = x + c * ev c s + c ^ 0 * v
    rw [Int.pow_zero, Int.one_mul]
    omega
  | x :: s, i + 1, v, h => by
    rw [List.set_cons_succ, gd_s]
    show x + c * ev c (s.set i (gd s i + v)) = x + c * ev c s + c ^ (i + 1) * v
    rw [ev_set c s i v (by simpa using h), Int.mul_add, Int.pow_succ, Int.mul_comm (c ^ i) c, Int.mul_assoc]
    omega
theorem ev_addAt (c x : Int) : ∀ (g s : List Int) (i : Nat), i + g.length ≤ s.length → ev c (addAt s i x g) = ev c s + c ^ i * (x * ev c g)
  | [], s, i, _ => by
    show ev c s = ev c s + c ^ i * (x * 0)
    simp
  | y :: g, s, i, h => by
    have h' : i + (g.length + 1) ≤ s.length := h
    unfold addAt
    rw [ev_addAt c x g _ (i + 1) (by rw [List.length_set]; omega), ev_set c s i _ (by omega)]
    show _ = ev c s + c ^ i * (x * (y + c * ev c g))
    rw [Int.mul_add x, Int.mul_add (c ^ i), Int.pow_succ, Int.mul_assoc (c ^ i) c, show c * (x * ev c g) = x * (c * ev c g) by rw [← Int.mul_assoc, Int.mul_comm c x, Int.mul_assoc]]
    omega
theorem ev_mulFrom (c : Int) (g : List Int) : ∀ (f s : List Int) (i : Nat), i + (f.length + g.length) ≤ s.length + 1 → ev c (mulFrom g s i f) = ev c s + c ^ i * (ev c f * ev c g)
  | [], s, i, _ => by
    show ev c s = ev c s + c ^ i * (0 * ev c g)
    simp
  | x :: f, s, i, h => by
    have h' : i + (f.length + 1 + g.length) ≤ s.length + 1 := h
    unfold mulFrom
    rw [ev_mulFrom c g f _ (i + 1) (by rw [addAt_len]; omega), ev_addAt _ _ _ _ _ (by omega)]
    show _ = ev c s + c ^ i * ((x + c * ev c f) * ev c g)
    rw [Int.add_mul x, Int.mul_add (c ^ i), Int.pow_succ, Int.mul_assoc (c ^ i) c, Int.mul_assoc c]
    omega
theorem ev_rep (c : Int) : ∀ n : Nat, ev c (List.replicate n 0) = 0
  | 0 => rfl
  | n + 1 => by
    show 0 + c * ev c (List.replicate n 0) = 0
    rw [ev_rep c n]
    simp
theorem ev_mulRaw (c : Int) {f g : List Int} (hf : f ≠ []) (hg : g ≠ []) : ev c (mulRaw f g) = ev c f * ev c g := by
  have h1 := List.length_pos_iff.mpr hf
  have h2 := List.length_pos_iff.mpr hg
  unfold mulRaw
  rw [ev_mulFrom _ _ _ _ _ (by rw [List.length_replicate]; omega), ev_rep, Int.pow_zero, Int.one_mul, Int.zero_add]
/-! ### monic forms -/
theorem trim_len_last {l : List Int} {y : Int} (hy : y ≠ 0) : trim (l ++ [y]) = l ++ [y] := trim_snoc l hy
theorem monic_ok {p : Nat} (hp : p ∈ PR) {f : List Int} (hf : isForm p f) : isForm p (monic p f) ∧ (monic p f).length = f.length ∧ (f ≠ [] → (monic p f).getLast? = some 1) ∧ (∀ k, gd (monic p f) k * (f.getLast?.getD 0) % p = gd f k) := by
  have hp2 := PR_le hp
  by_cases e : f = []
  · subst e
    have : monic (p : Int) [] = [] := by simp [monic]
    rw [this]
    exact ⟨⟨(by intro x hx; cases hx), rfl⟩, rfl, fun h => absurd rfl h, fun k => by rw [gd_nil]; simp⟩
  · obtain ⟨l, y, rfl, y0, y1⟩ := last_form hf e
    obtain ⟨i1, i2, i3, i4⟩ := inv_ok hp y0 y1
    have hl : ((l ++ [y]).getLast?).getD 0 = y := by simp
    have hm : monic (p : Int) (l ++ [y]) = formOf p ((l ++ [y]).map (inv p y * ·)) := by
      unfold monic
      rw [if_neg e, hl]
    have hm2 : monic (p : Int) (l ++ [y]) = (l.map (inv p y * ·)).map (· % (p : Int)) ++ [1] := by
      rw [hm]
      unfold formOf
      rw [List.map_append, List.map_append, List.map_singleton, List.map_singleton, i4]
      exact trim_snoc _ (by decide)
    refine ⟨?_, ?_, fun _ => ?_, fun k => ?_⟩
    · rw [hm]
      refine ⟨trim_mem fun x hx => ?_, formOf_trimmed _ _⟩
      obtain ⟨a, _, rfl⟩ := List.mem_map.mp hx
      exact ⟨Int.emod_nonneg _ (by omega), Int.emod_lt_of_pos _ (by omega)⟩
    · rw [hm2]
      simp
    · rw [hm2]
      simp
    · have hg : 0 ≤ gd (l ++ [y]) k ∧ gd (l ++ [y]) k < p := by
        by_cases hk : k < (l ++ [y]).length
        · have : gd (l ++ [y]) k ∈ l ++ [y] := by
            unfold gd
            rw [List.getD_eq_getElem?_getD, List.getElem?_eq_getElem hk]
            exact List.getElem_mem hk
          exact hf.1 _ this
        · rw [getD_out hk]
          exact ⟨Int.le_refl _, by omega⟩
      rw [hl, hm, gd_formOf, gd_map (u := (inv p y * ·)) (Int.mul_zero _)]
      generalize gd (l ++ [y]) k = a at *
      rw [Int.mul_emod, Int.emod_emod_of_dvd _ (Int.dvd_refl _), ← Int.mul_emod, show inv p y * a * y = a * (inv p y * y) by rw [Int.mul_comm (inv p y) a, Int.mul_assoc], Int.mul_emod, i4, Int.mul_one, Int.emod_emod_of_dvd _ (Int.dvd_refl _)]
      exact Int.emod_eq_of_lt hg.1 hg.2
end W1
set_option Elab.async false
set_option linter.all false
set_option maxRecDepth 100000
set_option maxHeartbeats 2000000
namespace W1
open PySem PySem.Spec PyProof.Rows L2 Fz
variable {j : Nat} {fs : List (Str × Fn)} {N : List Str} {j0 j1 j2 j3 j4 j5 j6 j7 j8 j9 j10 j11 j12 j13 j14 j15 j16 j17 j18 j19 j20 j21 j22 j23 j24 j25 j26 j27 : Nat}
/-- the product, as both sides tell it -/
def pm (p : Int) (f g : List Int) : List Int := if f.isEmpty || g.isEmpty then [] else formOf p (mulRaw f g)
theorem ev_pm (c p : Int) (f g : List Int) : ev c (pm p f g) % p = ev c f * ev c g % p := by
  unfold pm
  cases f with
  | nil => simp [ev]
  | cons x f =>
    cases g with
    | nil => simp [ev]
    | cons y g =>
      simp only [List.isEmpty_cons, Bool.or_false, Bool.false_eq_true, if_false]
      rw [ev_formOf, ev_mulRaw c (by simp) (by simp)]
theorem formOf_form {p : Int} (hp : 0 < p) (f : List Int) : isForm p (formOf p f) := by
  refine ⟨trim_mem fun x hx => ?_, formOf_trimmed _ _⟩
  obtain ⟨a, _, rfl⟩ := List.mem_map.mp hx
  exact ⟨Int.emod_nonneg _ (by omega), Int.emod_lt_of_pos _ hp⟩
theorem pm_form {p : Int} (hp : 0 < p) (f g : List Int) : isForm p (pm p f g) := by
  unfold pm
  split
  · exact ⟨(by intro x hx; cases hx), rfl⟩
  · exact formOf_form hp _
/-! ### the calls -/
theorem call_val (h : At fs j false 3 d_val) {p c : Int} {f : List Int} (hp : 0 < p) (hp2 : p < 100) (h0 : 0 ≤ c) (h1 : c < 100) (hf : ∀ x ∈ f, 0 ≤ x ∧ x < p) : cAt fs j [.int p, .tuple (I f), .int c] = some (false, .int (ev c f % p)) := by
  refine h.c (l := []) rfl ?_
  unfold d_val
  simp only [allI_I, Option.bind_some]
  rw [if_pos ⟨hp, by omega, h0, by omega, hf⟩]
theorem call_value_at (h : At fs j false 3 d_value_at) {p c : Int} {f : List Int} (hp : 0 < p) (hp2 : p < 100) (h0 : 0 ≤ c) (h1 : c < 100) : cAt fs j [.int p, .tuple (I f), .int c] = some (false, .int (ev c f % p)) := by
  refine h.c (l := []) rfl ?_
  unfold d_value_at
  simp only [allI_I, Option.bind_some]
  rw [if_pos ⟨hp, by omega, h0, by omega⟩, horner_ev]
theorem call_add (h : At fs j false 3 d_add) {p : Int} {f g : List Int} (hp : 0 < p) (hf : f.length ≤ 40000) (hg : g.length ≤ 40000) : cAt fs j [.int p, .tuple (I f), .tuple (I g)] = some (false, .tuple (I (formOf p (zadd f g)))) := by
  refine h.c (l := []) rfl ?_
  unfold d_add two
  simp only [allI_I, Option.bind_some]
  rw [if_pos ⟨hp, hf, hg⟩]
  rfl
theorem call_sub (h : At fs j false 3 d_subtract) {p : Int} {f g : List Int} (hp : 0 < p) (hf : f.length ≤ 40000) (hg : g.length ≤ 40000) : cAt fs j [.int p, .tuple (I f), .tuple (I g)] = some (false, .tuple (I (formOf p (zsub f g)))) := by
  refine h.c (l := []) rfl ?_
  unfold d_subtract two
  simp only [allI_I, Option.bind_some]
  rw [if_pos ⟨hp, hf, hg⟩]
  rfl
theorem small_form {p : Int} {f : List Int} (hp : p < 100) (hf : ∀ x ∈ f, 0 ≤ x ∧ x < p) : ∀ x ∈ f, small x := fun x hx => small_of (by have := hf x hx; omega) (by have := hf x hx; omega)
theorem call_mul (h : At fs j false 3 d_multiply) {p : Int} {f g : List Int} (hp : 0 < p) (hf : f.length ≤ 40000) (hg : g.length ≤ 40000) (h1 : ∀ x ∈ f, small x) (h2 : ∀ x ∈ g, small x) : cAt fs j [.int p, .tuple (I f), .tuple (I g)] = some (false, .tuple (I (pm p f g))) := by
  refine h.c (l := []) rfl ?_
  unfold d_multiply two
  simp only [allI_I, Option.bind_some]
  rw [if_pos ⟨hp, hf, hg⟩, if_pos ⟨h1, h2⟩]
  unfold pm
  cases f with
  | nil => rfl
  | cons x f => cases g <;> rfl
theorem call_scaled (h : At fs j false 3 d_scaled) {p n : Int} {f : List Int} (hp : 0 < p) (hf : f.length ≤ 40000) (hn : small n) (h1 : ∀ x ∈ f, small x) : cAt fs j [.int p, .tuple (I f), .int n] = some (false, .tuple (I (formOf p (f.map (n * ·))))) := by
  refine h.c (l := []) rfl ?_
  unfold d_scaled
  simp only [allI_I, Option.bind_some]
  rw [if_pos ⟨hp, hf, hn, h1⟩]
def up (f : List Int) (n : Nat) : List Int := if f.isEmpty then [] else List.replicate n 0 ++ f
theorem call_raised (h : At fs j false 2 d_raised) {n : Int} {f : List Int} (h0 : 0 ≤ n) (h1 : n ≤ 1000) (hf : f.length ≤ 40000) : cAt fs j [.tuple (I f), .int n] = some (false, .tuple (I (up f n.toNat))) := by
  refine h.c (l := []) rfl ?_
  unfold d_raised
  simp only [allI_I, Option.bind_some]
  rw [if_pos ⟨h0, h1, hf⟩]
  unfold up
  cases f <;> rfl
theorem call_monic (h : At fs j false 2 d_monic_of) {p : Nat} {f : List Int} (hp : p ∈ PR) (hf : isForm p f) (hl : f.length ≤ 40000) : cAt fs j [.int p, .tuple (I f)] = some (false, .tuple (I (monic p f))) := by
  refine h.c (l := []) rfl ?_
  unfold d_monic_of
  simp only [allI_I, Option.bind_some]
  rw [if_pos ⟨⟨p, hp, rfl⟩, hf, hl⟩]
theorem call_degree (h : At fs j false 1 d_degree_of) {f : List Int} : cAt fs j [.tuple (I f)] = some (false, if f.isEmpty then .none else .int (f.length - 1)) := by
  refine h.c (l := []) rfl ?_
  unfold d_degree_of
  simp only [allI_I, Option.bind_some]
theorem call_is_form (h : At fs j false 2 d_is_form) {p : Int} {f : List Int} (hf : isForm p f) (hl : f.length ≤ 1000) : cAt fs j [.int p, .tuple (I f)] = some (false, .bool true) := by
  refine h.c (l := []) rfl ?_
  unfold d_is_form
  simp only [allI_I, Option.bind_some]
  rw [if_pos hf]
theorem call_bag (h : At fs j false 1 d_bag) (cs : List Int) : cAt fs j [.dict [(.none, .list (I cs))]] = some (true, .list (bagD (bag0 cs))) := by
  refine h.c (l := []) rfl ?_
  unfold d_bag
  dsimp only
  rw [allI_I]
  rfl
end W1
set_option Elab.async false
set_option linter.all false
set_option maxRecDepth 100000
set_option maxHeartbeats 2000000
namespace W1
open PySem PySem.Spec PyProof.Rows L2 Fz
/-! ### words by what they are called with -/
noncomputable section
open Classical in
def wordOf {α : Type} (enc : α → List D) (ok : α → Prop) (res : α → Bool × D × List D) : List D → Option (Bool × D × List D) := fun ds => if h : ∃ x, ok x ∧ ds = enc x then some (res h.choose) else none
end
theorem wordOf_some {α : Type} {enc : α → List D} {ok : α → Prop} {res : α → Bool × D × List D} {ds : List D} {z : Bool × D × List D} (h : wordOf enc ok res ds = some z) : ∃ x, ok x ∧ ds = enc x ∧ z = res x := by
  unfold wordOf at h
  split at h
  · rename_i hx
    cases h
    exact ⟨_, hx.choose_spec.1, hx.choose_spec.2, rfl⟩
  · cases h
theorem wordOf_at {α : Type} {enc : α → List D} {ok : α → Prop} {res : α → Bool × D × List D} (inj : ∀ x y, enc x = enc y → x = y) {x : α} (hx : ok x) : wordOf enc ok res (enc x) = some (res x) := by
  unfold wordOf
  have h : ∃ y, ok y ∧ enc x = enc y := ⟨x, hx, rfl⟩
  rw [dif_pos h, ← inj _ _ h.choose_spec.2]
/-- the same where several tellings give one result -/
theorem wordOf_at' {α : Type} {enc : α → List D} {ok : α → Prop} {res : α → Bool × D × List D} {x : α} (inj : ∀ y, ok y → enc x = enc y → res y = res x) (hx : ok x) : wordOf enc ok res (enc x) = some (res x) := by
  unfold wordOf
  have h : ∃ y, ok y ∧ enc x = enc y := ⟨x, hx, rfl⟩
  rw [dif_pos h, inj _ h.choose_spec.1 h.choose_spec.2]
/-! ### rows as data -/
def Rw (v : List (List Int)) : List D := v.map fun f => .tuple (I f)
@[simp] theorem Rw_nil : Rw [] = [] := rfl
@[simp] theorem Rw_cons (f : List Int) (v : List (List Int)) : Rw (f :: v) = .tuple (I f) :: Rw v := rfl
@[simp] theorem Rw_len (v : List (List Int)) : (Rw v).length = v.length := by simp [Rw]
theorem I_inj {f g : List Int} (h : I f = I g) : f = g := by
  have := congrArg allI h
  rw [allI_I, allI_I] at this
  exact Option.some.inj this
theorem Rw_inj : ∀ {v w : List (List Int)}, Rw v = Rw w → v = w
  | [], [], _ => rfl
  | [], _ :: _, h => by cases h
  | _ :: _, [], h => by cases h
  | f :: v, g :: w, h => by
    simp only [Rw_cons, List.cons.injEq, PyData.tuple.injEq] at h
    rw [I_inj h.1, Rw_inj h.2]
@[simp] theorem I_eq {f g : List Int} : (I f = I g) = (f = g) := propext ⟨I_inj, fun h => by rw [h]⟩
@[simp] theorem Rw_eq {v w : List (List Int)} : (Rw v = Rw w) = (v = w) := propext ⟨Rw_inj, fun h => by rw [h]⟩
theorem zip_Rw : ∀ v w : List (List Int), zipD (Rw v) (Rw w) = (v.zip w).map fun q => .tuple [.tuple (I q.1), .tuple (I q.2)]
  | [], _ => rfl
  | _ :: _, [] => rfl
  | x :: v, y :: w => by
    show PyData.tuple [.tuple (I x), .tuple (I y)] :: zipD (Rw v) (Rw w) = PyData.tuple [.tuple (I x), .tuple (I y)] :: ((v.zip w).map fun q => PyData.tuple [.tuple (I q.1), .tuple (I q.2)])
    rw [zip_Rw v w]
theorem zip_RwI : ∀ (v : List (List Int)) (s : List Int), zipD (Rw v) (I s) = (v.zip s).map fun q => .tuple [.tuple (I q.1), .int q.2]
  | [], _ => rfl
  | _ :: _, [] => rfl
  | x :: v, y :: s => by
    show PyData.tuple [.tuple (I x), .int y] :: zipD (Rw v) (I s) = PyData.tuple [.tuple (I x), .int y] :: ((v.zip s).map fun q => PyData.tuple [.tuple (I q.1), .int q.2])
    rw [zip_RwI v s]
theorem Rw_get (v : List (List Int)) (i : Nat) : (Rw v)[i]? = (v[i]?).map fun f => .tuple (I f) := by simp [Rw]
theorem Rw_map {α : Type} (u : α → List Int) (xs : List α) : Rw (xs.map u) = xs.map fun x => PyData.tuple (I (u x)) := by unfold Rw; rw [List.map_map]; rfl
/-- a row, of bounded forms -/
def isRow (p : Int) (n : Nat) (v : List (List Int)) : Prop := v.length ≤ 100 ∧ ∀ f ∈ v, isForm p f ∧ f.length ≤ n
theorem isRow.up {p : Int} {n m : Nat} {v : List (List Int)} (h : isRow p n v) (hm : n ≤ m) : isRow p m v := ⟨h.1, fun f hf => ⟨(h.2 f hf).1, Nat.le_trans (h.2 f hf).2 hm⟩⟩
def zeroR (n : Nat) : List (List Int) := List.replicate n []
def unitR (n : Nat) (k : Int) : List (List Int) := (List.range n).map fun (i : Nat) => if (i : Int) = k then [1] else []
def addR (p : Int) (v w : List (List Int)) : List (List Int) := (v.zip w).map fun q => formOf p (zadd q.1 q.2)
def subR (p : Int) (v w : List (List Int)) : List (List Int) := (v.zip w).map fun q => formOf p (zsub q.1 q.2)
def mulR (p : Int) (v : List (List Int)) (f : List Int) : List (List Int) := v.map fun g => pm p f g
def dotR (p : Int) (v w : List (List Int)) : List Int := (v.zip w).foldl (fun t q => formOf p (zadd t (pm p q.1 q.2))) []
def combR (p : Int) (n : Nat) (fs : List (List Int)) (vs : List (List (List Int))) : List (List Int) := (fs.zip vs).foldl (fun t q => addR p t (mulR p q.2 q.1)) (zeroR n)
theorem zeroR_row (p : Int) {n : Nat} (hn : n ≤ 100) : isRow p 0 (zeroR n) := ⟨by unfold zeroR; rw [List.length_replicate]; exact hn, fun f hf => by
  have := List.eq_of_mem_replicate hf
  subst this
  exact ⟨⟨(by intro x hx; cases hx), rfl⟩, Nat.le_refl _⟩⟩
theorem formOf_len (p : Int) (f : List Int) : (formOf p f).length ≤ f.length := by
  unfold formOf
  exact Nat.le_trans (trim_le _) (by rw [List.length_map]; exact Nat.le_refl _)
theorem zadd_len (f g : List Int) : (zadd f g).length ≤ max f.length g.length := by
  unfold zadd
  simp
  omega
theorem zsub_len (f g : List Int) : (zsub f g).length ≤ max f.length g.length := by
  unfold zsub
  simp
  omega
theorem pm_len (p : Int) (f g : List Int) : (pm p f g).length ≤ f.length + g.length := by
  unfold pm
  split
  · simp
  · refine Nat.le_trans (formOf_len _ _) ?_
    rw [mulRaw_len]
    omega
theorem addR_row {p : Int} (hp : 0 < p) {n m : Nat} {v w : List (List Int)} (hv : isRow p n v) (hw : isRow p m w) : isRow p (max n m) (addR p v w) := by
  refine ⟨by unfold addR; rw [List.length_map, List.length_zip]; have := hv.1; omega, fun f hf => ?_⟩
  obtain ⟨q, hq, rfl⟩ := List.mem_map.mp hf
  obtain ⟨h1, h2⟩ := List.of_mem_zip hq
  have l1 := (hv.2 _ h1).2
  have l2 := (hw.2 _ h2).2
  exact ⟨formOf_form hp _, Nat.le_trans (formOf_len _ _) (Nat.le_trans (zadd_len _ _) (by omega))⟩
theorem subR_row {p : Int} (hp : 0 < p) {n m : Nat} {v w : List (List Int)} (hv : isRow p n v) (hw : isRow p m w) : isRow p (max n m) (subR p v w) := by
  refine ⟨by unfold subR; rw [List.length_map, List.length_zip]; have := hv.1; omega, fun f hf => ?_⟩
  obtain ⟨q, hq, rfl⟩ := List.mem_map.mp hf
  obtain ⟨h1, h2⟩ := List.of_mem_zip hq
  have l1 := (hv.2 _ h1).2
  have l2 := (hw.2 _ h2).2
  exact ⟨formOf_form hp _, Nat.le_trans (formOf_len _ _) (Nat.le_trans (zsub_len _ _) (by omega))⟩
theorem mulR_row {p : Int} (hp : 0 < p) {n m : Nat} {v : List (List Int)} {f : List Int} (hv : isRow p n v) (hf : f.length ≤ m) : isRow p (m + n) (mulR p v f) := by
  refine ⟨by unfold mulR; rw [List.length_map]; exact hv.1, fun g hg => ?_⟩
  obtain ⟨q, hq, rfl⟩ := List.mem_map.mp hg
  exact ⟨pm_form hp _ _, Nat.le_trans (pm_len _ _ _) (by have := (hv.2 _ hq).2; omega)⟩
theorem addR_len (p : Int) (v w : List (List Int)) : (addR p v w).length = min v.length w.length := by unfold addR; rw [List.length_map, List.length_zip]
theorem mulR_len (p : Int) (v : List (List Int)) (f : List Int) : (mulR p v f).length = v.length := by unfold mulR; rw [List.length_map]
theorem fold_row {p : Int} (hp : 0 < p) : ∀ (l : List (List Int × List (List Int))) {a : Nat} {t : List (List Int)} (n m k : Nat), isRow p a t → a ≤ n → m + k ≤ n → (∀ q ∈ l, q.1.length ≤ m ∧ isRow p k q.2) → isRow p n (l.foldl (fun t q => addR p t (mulR p q.2 q.1)) t)
  | [], a, t, n, m, k, ht, ha, _, _ => ht.up ha
  | q :: l, a, t, n, m, k, ht, ha, hn, hl => by
    have h1 := hl q List.mem_cons_self
    have h2 := addR_row hp ht (mulR_row hp h1.2 h1.1)
    exact fold_row hp l n m k h2 (by omega) hn fun r hr => hl r (List.mem_cons_of_mem _ hr)
theorem dot_fold_form {p : Int} (hp : 0 < p) : ∀ (l : List (List Int × List Int)) {t : List Int} (n : Nat), isForm p t → t.length ≤ n → (∀ q ∈ l, q.1.length + q.2.length ≤ n) → isForm p (l.foldl (fun t q => formOf p (zadd t (pm p q.1 q.2))) t) ∧ (l.foldl (fun t q => formOf p (zadd t (pm p q.1 q.2))) t).length ≤ n
  | [], t, n, ht, hl, _ => ⟨ht, hl⟩
  | q :: l, t, n, ht, hl, hq => by
    have h1 := hq q List.mem_cons_self
    exact dot_fold_form hp l n (formOf_form hp _) (Nat.le_trans (formOf_len _ _) (Nat.le_trans (zadd_len _ _) (by have := pm_len p q.1 q.2; omega))) fun r hr => hq r (List.mem_cons_of_mem _ hr)
/-! ### heights -/
def lvD : Option (Int × Int) → D
  | none => .none
  | some (h, j) => .tuple [.int h, .int j]
def lvStep (l : Option (Int × Int)) (j : Int) (f : List Int) (s : Int) : Option (Int × Int) :=
  if f ≠ [] ∧ (∀ q, l = some q → q.1 ≤ (f.length : Int) - 1 + s) then some ((f.length : Int) - 1 + s, j) else l
def lvFrom : Option (Int × Int) → Int → List (List Int × Int) → Option (Int × Int)
  | l, _, [] => l
  | l, j, q :: r => lvFrom (lvStep l j q.1 q.2) (j + 1) r
def levelR (v : List (List Int)) (s : List Int) : Option (Int × Int) := lvFrom none 0 (v.zip s)
def topAt (h : Int) (f : List Int) (s : Int) : Int := if f ≠ [] ∧ (f.length : Int) - 1 = h - s then f.getLast?.getD 0 else 0
def topR (h : Int) (v : List (List Int)) (s : List Int) : List Int := (v.zip s).map fun q => topAt h q.1 q.2
end W1
set_option Elab.async false
set_option linter.all false
set_option maxRecDepth 100000
set_option maxHeartbeats 2000000
namespace W1
open PySem PySem.Spec PyProof.Rows L2 Fz
variable {fs : List (Str × Fn)} {N : List Str} {j j' j'' : Nat}
/-! ### the words of rows: the program's -/
def B_zero_row : List RS := [.ret (.blt .tuple [(.lc (.one 1) [1] (.rng [(.nm 0)]) none (.tup []))])]
def B_unit_row : List RS := [.ret (.blt .tuple [(.lc (.one 2) [2] (.rng [(.nm 0)]) none (.ife (.cmp .Eq (.nm 2) (.nm 1)) (.tup [(.int 1)]) (.tup [])))])]
def B_zip_rows (j : Nat) : List RS := [.ret (.blt .tuple [(.lc (.tup [3, 4]) [3, 4] (.zip (.nm 1) (.nm 2)) none (.app j [(.nm 0), (.nm 3), (.nm 4)]))])]
def B_row_times (j : Nat) : List RS := [.ret (.blt .tuple [(.lc (.one 3) [3] (.seq (.nm 1)) none (.app j [(.nm 0), (.nm 2), (.nm 3)]))])]
def B_q_rtimes (j : Nat) : List RS := [.ret (.blt .tuple [(.lc (.one 3) [3] (.seq (.nm 1)) none (.app j [(.nm 0), (.nm 3), (.nm 2)]))])]
def B_product_of (j j' : Nat) : List RS := [.set 3 (.tup []), .for (.tup [4, 5]) (.zip (.nm 1) (.nm 2)) [.set 3 (.app j [(.nm 0), (.nm 3), (.app j' [(.nm 0), (.nm 4), (.nm 5)])])], .ret (.nm 3)]
noncomputable section
def d_zero_row := wordOf (α := Nat) (fun n => [.int n]) (· ≤ 100) (fun n => (false, .tuple (Rw (zeroR n)), []))
def d_unit_row := wordOf (α := Nat × Int) (fun x => [.int x.1, .int x.2]) (fun x => x.1 ≤ 100) (fun x => (false, .tuple (Rw (unitR x.1 x.2)), []))
structure RR2 where
  p : Int
  v : List (List Int)
  w : List (List Int)
def RR2.enc (x : RR2) : List D := [.int x.p, .tuple (Rw x.v), .tuple (Rw x.w)]
def RR2.ok (x : RR2) : Prop := 0 < x.p ∧ x.p < 100 ∧ isRow x.p 10000 x.v ∧ isRow x.p 10000 x.w
def d_add_rows := wordOf RR2.enc RR2.ok fun x => (false, .tuple (Rw (addR x.p x.v x.w)), [])
def d_sub_rows := wordOf RR2.enc RR2.ok fun x => (false, .tuple (Rw (subR x.p x.v x.w)), [])
def d_product := wordOf RR2.enc RR2.ok fun x => (false, .tuple (I (dotR x.p x.v x.w)), [])
structure RF where
  p : Int
  v : List (List Int)
  f : List Int
def RF.enc (x : RF) : List D := [.int x.p, .tuple (Rw x.v), .tuple (I x.f)]
def RF.ok (x : RF) : Prop := 0 < x.p ∧ x.p < 100 ∧ isRow x.p 10000 x.v ∧ isForm x.p x.f ∧ x.f.length ≤ 10000
def d_row_times := wordOf RF.enc RF.ok fun x => (false, .tuple (Rw (mulR x.p x.v x.f)), [])
end
theorem RR2.inj : ∀ x y : RR2, RR2.enc x = RR2.enc y → x = y := by
  rintro ⟨p, v, w⟩ ⟨p', v', w'⟩ h
  simp only [RR2.enc, List.cons.injEq, PyData.int.injEq, PyData.tuple.injEq, Rw_eq, and_true] at h
  obtain ⟨rfl, rfl, rfl⟩ := h
  rfl
theorem RF.inj : ∀ x y : RF, RF.enc x = RF.enc y → x = y := by
  rintro ⟨p, v, w⟩ ⟨p', v', w'⟩ h
  simp only [RF.enc, List.cons.injEq, PyData.int.injEq, PyData.tuple.injEq, Rw_eq, I_eq, and_true] at h
  obtain ⟨rfl, rfl, rfl⟩ := h
  rfl
theorem rows_small {p : Int} {n : Nat} {v : List (List Int)} (hp : p < 100) (h : isRow p n v) {f : List Int} (hf : f ∈ v) : ∀ x ∈ f, small x := small_form hp (h.2 f hf).1.1
theorem run_zero_row (hN : N.length = 2) {ds : List D} {z : Bool × D × List D} (h : d_zero_row ds = some z) : runD ⟨N, fs, WW⟩ 60 false B_zero_row ds = some z := by
  obtain ⟨n, hn, rfl, rfl⟩ := wordOf_some h
  have hc : ∀ m, lcL (evC ⟨N, fs, WW⟩ (m + 9) (.one 1) [1] none (.tup [])) (rngD 0 n) ⟨[.val (.int n), .no], []⟩ = some (Rw (zeroR n), ⟨[.val (.int n), .no], []⟩) := by
    intro m
    rw [show Rw (zeroR n) = (List.range n).map fun _ => PyData.tuple [] by
      unfold Rw zeroR
      rw [List.map_const', List.length_range, List.map_replicate]
      rfl]
    unfold rngD
    refine lcL_pure _ _ fun x hx => ?_
    simp (config := {implicitDefEqProofs := false}) (disch := omega) [q_int, q_bl, q_non, q_nm, q_bin, q_neg, q_negI, q_not, q_bop, q_ife, q_cmp, q_ix, q_ixn, q_sl, q_sln, q_blt, q_lenn, q_isi, q_lst, q_tup, q_lc, q_push, q_pop, q_evc, q_to0, q_to1, q_o0, q_o1, q_intD, q_a0, q_a1, q_tnt, q_tbop, q_tcmp, q_chn, q_tchn, q_tval, q_tnm, q_iseq, q_irng, q_ienu, q_izip, q_iez, q_irev, q_sset, q_stgt, q_spro, q_spar, q_sput, q_sret, q_sretn, q_sife, q_swhl, q_sfor, q_sex, q_spass, q_sbrk, q_scnt, q_ss0, q_ss1, q_gonx, q_gort, q_gobk, q_goct, q_add, q_addl, q_addt, q_sub, q_mul, q_mull, q_mult, q_div, q_mod, q_pow, q_eq, q_ne, q_lt, q_le, q_gt, q_ge, q_is1, q_is2, q_is3, q_is4, q_is5, q_tr0, q_trb, q_tri, q_trl, q_trt, q_ixl, q_ixt, q_sll, q_slt, q_sls, q_lenl, q_lent, q_inti, q_absi, q_lisl, q_list, q_tupl, q_tupt, q_all, q_maxl, q_max, q_min, q_itl, q_itt, q_seql, q_seqt, q_rng1, q_rng2, q_enu1, q_enu2, q_end1, q_end2, q_own, q_val, q_st1, q_stt, q_stpr, q_sta0, q_sta1, q_re1, q_re0, q_appA, q_appioA, q_appkA, ↓bind_o, obind_some, List.getElem?_cons_zero, List.getElem?_cons_succ, List.set_cons_zero, List.set_cons_succ, lockS, slotL, Fz.atS, putL, runD, en0, vals, setS, opStop, wipeE, wipeS, restE, restS, plainS, szB_of, posB_of, b62_of, mulB_of, divB_of, powB_of, repB_one, timB_one, flat_one, I_rep, atI_0, atI_1, atI_2, atI_3, atI_4, ixN_of, cut_from, cut_to, eqv_int, eqv_none, shp_int, shp_bool, shp_none, zip_I]
  simp (config := {implicitDefEqProofs := false}) (disch := omega) [B_zero_row, hN, hc, rngD_len, q_int, q_bl, q_non, q_nm, q_bin, q_neg, q_negI, q_not, q_bop, q_ife, q_cmp, q_ix, q_ixn, q_sl, q_sln, q_blt, q_lenn, q_isi, q_lst, q_tup, q_lc, q_push, q_pop, q_evc, q_to0, q_to1, q_o0, q_o1, q_intD, q_a0, q_a1, q_tnt, q_tbop, q_tcmp, q_chn, q_tchn, q_tval, q_tnm, q_iseq, q_irng, q_ienu, q_izip, q_iez, q_irev, q_sset, q_stgt, q_spro, q_spar, q_sput, q_sret, q_sretn, q_sife, q_swhl, q_sfor, q_sex, q_spass, q_sbrk, q_scnt, q_ss0, q_ss1, q_gonx, q_gort, q_gobk, q_goct, q_add, q_addl, q_addt, q_sub, q_mul, q_mull, q_mult, q_div, q_mod, q_pow, q_eq, q_ne, q_lt, q_le, q_gt, q_ge, q_is1, q_is2, q_is3, q_is4, q_is5, q_tr0, q_trb, q_tri, q_trl, q_trt, q_ixl, q_ixt, q_sll, q_slt, q_sls, q_lenl, q_lent, q_inti, q_absi, q_lisl, q_list, q_tupl, q_tupt, q_all, q_maxl, q_max, q_min, q_itl, q_itt, q_seql, q_seqt, q_rng1, q_rng2, q_enu1, q_enu2, q_end1, q_end2, q_own, q_val, q_st1, q_stt, q_stpr, q_sta0, q_sta1, q_re1, q_re0, q_appA, q_appioA, q_appkA, ↓bind_o, obind_some, List.getElem?_cons_zero, List.getElem?_cons_succ, List.set_cons_zero, List.set_cons_succ, lockS, slotL, Fz.atS, putL, runD, en0, vals, setS, opStop, wipeE, wipeS, restE, restS, plainS, szB_of, posB_of, b62_of, mulB_of, divB_of, powB_of, repB_one, timB_one, flat_one, I_rep, atI_0, atI_1, atI_2, atI_3, atI_4, ixN_of, cut_from, cut_to, eqv_int, eqv_none, shp_int, shp_bool, shp_none, zip_I]
theorem run_unit_row (hN : N.length = 3) {ds : List D} {z : Bool × D × List D} (h : d_unit_row ds = some z) : runD ⟨N, fs, WW⟩ 60 false B_unit_row ds = some z := by
  obtain ⟨⟨n, k⟩, hn, rfl, rfl⟩ := wordOf_some h
  have hn' : n ≤ 100 := hn
  have hc : ∀ m, lcL (evC ⟨N, fs, WW⟩ (m + 9) (.one 2) [2] none (.ife (.cmp .Eq (.nm 2) (.nm 1)) (.tup [(.int 1)]) (.tup []))) (rngD 0 n) ⟨[.val (.int n), .val (.int k), .no], []⟩ = some (Rw (unitR n k), ⟨[.val (.int n), .val (.int k), .no], []⟩) := by
    intro m
    rw [show Rw (unitR n k) = (List.range n).map fun (i : Nat) => PyData.tuple (if (i : Int) = k then [.int 1] else []) by
      unfold unitR
      rw [Rw_map]
      refine List.map_congr_left fun i _ => ?_
      split <;> rfl]
    unfold rngD
    refine lcL_pure _ _ fun x hx => ?_
    by_cases e : (x : Int) = k
    · simp (config := {implicitDefEqProofs := false}) (disch := omega) [e, q_int, q_bl, q_non, q_nm, q_bin, q_neg, q_negI, q_not, q_bop, q_ife, q_cmp, q_ix, q_ixn, q_sl, q_sln, q_blt, q_lenn, q_isi, q_lst, q_tup, q_lc, q_push, q_pop, q_evc, q_to0, q_to1, q_o0, q_o1, q_intD, q_a0, q_a1, q_tnt, q_tbop, q_tcmp, q_chn, q_tchn, q_tval, q_tnm, q_iseq, q_irng, q_ienu, q_izip, q_iez, q_irev, q_sset, q_stgt, q_spro, q_spar, q_sput, q_sret, q_sretn, q_sife, q_swhl, q_sfor, q_sex, q_spass, q_sbrk, q_scnt, q_ss0, q_ss1, q_gonx, q_gort, q_gobk, q_goct, q_add, q_addl, q_addt, q_sub, q_mul, q_mull, q_mult, q_div, q_mod, q_pow, q_eq, q_ne, q_lt, q_le, q_gt, q_ge, q_is1, q_is2, q_is3, q_is4, q_is5, q_tr0, q_trb, q_tri, q_trl, q_trt, q_ixl, q_ixt, q_sll, q_slt, q_sls, q_lenl, q_lent, q_inti, q_absi, q_lisl, q_list, q_tupl, q_tupt, q_all, q_maxl, q_max, q_min, q_itl, q_itt, q_seql, q_seqt, q_rng1, q_rng2, q_enu1, q_enu2, q_end1, q_end2, q_own, q_val, q_st1, q_stt, q_stpr, q_sta0, q_sta1, q_re1, q_re0, q_appA, q_appioA, q_appkA, ↓bind_o, obind_some, List.getElem?_cons_zero, List.getElem?_cons_succ, List.set_cons_zero, List.set_cons_succ, lockS, slotL, Fz.atS, putL, runD, en0, vals, setS, opStop, wipeE, wipeS, restE, restS, plainS, szB_of, posB_of, b62_of, mulB_of, divB_of, powB_of, repB_one, timB_one, flat_one, I_rep, atI_0, atI_1, atI_2, atI_3, atI_4, ixN_of, cut_from, cut_to, eqv_int, eqv_none, shp_int, shp_bool, shp_none, zip_I]
    · simp (config := {implicitDefEqProofs := false}) (disch := omega) [e, q_int, q_bl, q_non, q_nm, q_bin, q_neg, q_negI, q_not, q_bop, q_ife, q_cmp, q_ix, q_ixn, q_sl, q_sln, q_blt, q_lenn, q_isi, q_lst, q_tup, q_lc, q_push, q_pop, q_evc, q_to0, q_to1, q_o0, q_o1, q_intD, q_a0, q_a1, q_tnt, q_tbop, q_tcmp, q_chn, q_tchn, q_tval, q_tnm, q_iseq, q_irng, q_ienu, q_izip, q_iez, q_irev, q_sset, q_stgt, q_spro, q_spar, q_sput, q_sret, q_sretn, q_sife, q_swhl, q_sfor, q_sex, q_spass, q_sbrk, q_scnt, q_ss0, q_ss1, q_gonx, q_gort, q_gobk, q_goct, q_add, q_addl, q_addt, q_sub, q_mul, q_mull, q_mult, q_div, q_mod, q_pow, q_eq, q_ne, q_lt, q_le, q_gt, q_ge, q_is1, q_is2, q_is3, q_is4, q_is5, q_tr0, q_trb, q_tri, q_trl, q_trt, q_ixl, q_ixt, q_sll, q_slt, q_sls, q_lenl, q_lent, q_inti, q_absi, q_lisl, q_list, q_tupl, q_tupt, q_all, q_maxl, q_max, q_min, q_itl, q_itt, q_seql, q_seqt, q_rng1, q_rng2, q_enu1, q_enu2, q_end1, q_end2, q_own, q_val, q_st1, q_stt, q_stpr, q_sta0, q_sta1, q_re1, q_re0, q_appA, q_appioA, q_appkA, ↓bind_o, obind_some, List.getElem?_cons_zero, List.getElem?_cons_succ, List.set_cons_zero, List.set_cons_succ, lockS, slotL, Fz.atS, putL, runD, en0, vals, setS, opStop, wipeE, wipeS, restE, restS, plainS, szB_of, posB_of, b62_of, mulB_of, divB_of, powB_of, repB_one, timB_one, flat_one, I_rep, atI_0, atI_1, atI_2, atI_3, atI_4, ixN_of, cut_from, cut_to, eqv_int, eqv_none, shp_int, shp_bool, shp_none, zip_I]
  simp (config := {implicitDefEqProofs := false}) (disch := omega) [B_unit_row, hN, hc, rngD_len, q_int, q_bl, q_non, q_nm, q_bin, q_neg, q_negI, q_not, q_bop, q_ife, q_cmp, q_ix, q_ixn, q_sl, q_sln, q_blt, q_lenn, q_isi, q_lst, q_tup, q_lc, q_push, q_pop, q_evc, q_to0, q_to1, q_o0, q_o1, q_intD, q_a0, q_a1, q_tnt, q_tbop, q_tcmp, q_chn, q_tchn, q_tval, q_tnm, q_iseq, q_irng, q_ienu, q_izip, q_iez, q_irev, q_sset, q_stgt, q_spro, q_spar, q_sput, q_sret, q_sretn, q_sife, q_swhl, q_sfor, q_sex, q_spass, q_sbrk, q_scnt, q_ss0, q_ss1, q_gonx, q_gort, q_gobk, q_goct, q_add, q_addl, q_addt, q_sub, q_mul, q_mull, q_mult, q_div, q_mod, q_pow, q_eq, q_ne, q_lt, q_le, q_gt, q_ge, q_is1, q_is2, q_is3, q_is4, q_is5, q_tr0, q_trb, q_tri, q_trl, q_trt, q_ixl, q_ixt, q_sll, q_slt, q_sls, q_lenl, q_lent, q_inti, q_absi, q_lisl, q_list, q_tupl, q_tupt, q_all, q_maxl, q_max, q_min, q_itl, q_itt, q_seql, q_seqt, q_rng1, q_rng2, q_enu1, q_enu2, q_end1, q_end2, q_own, q_val, q_st1, q_stt, q_stpr, q_sta0, q_sta1, q_re1, q_re0, q_appA, q_appioA, q_appkA, ↓bind_o, obind_some, List.getElem?_cons_zero, List.getElem?_cons_succ, List.set_cons_zero, List.set_cons_succ, lockS, slotL, Fz.atS, putL, runD, en0, vals, setS, opStop, wipeE, wipeS, restE, restS, plainS, szB_of, posB_of, b62_of, mulB_of, divB_of, powB_of, repB_one, timB_one, flat_one, I_rep, atI_0, atI_1, atI_2, atI_3, atI_4, ixN_of, cut_from, cut_to, eqv_int, eqv_none, shp_int, shp_bool, shp_none, zip_I]
/-- rows that are zipped through a word of two forms -/
theorem zip_rows (hN : N.length = 5) {p : Int} {v w : List (List Int)} {u : List Int → List Int → List Int} (hv : v.length ≤ 100) (hc : ∀ q ∈ v.zip w, cAt fs j [.int p, .tuple (I q.1), .tuple (I q.2)] = some (false, .tuple (I (u q.1 q.2)))) :
    runD ⟨N, fs, WW⟩ 60 false (B_zip_rows j) [.int p, .tuple (Rw v), .tuple (Rw w)] = some (false, .tuple (Rw ((v.zip w).map fun q => u q.1 q.2)), []) := by
  have hl : ∀ m, lcL (evC ⟨N, fs, WW⟩ (m + 9) (.tup [3, 4]) [3, 4] none (.app j [(.nm 0), (.nm 3), (.nm 4)])) ((v.zip w).map fun q => PyData.tuple [.tuple (I q.1), .tuple (I q.2)]) ⟨[.val (.int p), .val (.tuple (Rw v)), .val (.tuple (Rw w)), .no, .no], []⟩ = some (Rw ((v.zip w).map fun q => u q.1 q.2), ⟨[.val (.int p), .val (.tuple (Rw v)), .val (.tuple (Rw w)), .no, .no], []⟩) := by
    intro m
    rw [Rw_map]
    refine lcL_pure _ _ fun q hq => ?_
    have := hc q hq
    simp (config := {implicitDefEqProofs := false}) (disch := omega) [this, q_int, q_bl, q_non, q_nm, q_bin, q_neg, q_negI, q_not, q_bop, q_ife, q_cmp, q_ix, q_ixn, q_sl, q_sln, q_blt, q_lenn, q_isi, q_lst, q_tup, q_lc, q_push, q_pop, q_evc, q_to0, q_to1, q_o0, q_o1, q_intD, q_a0, q_a1, q_tnt, q_tbop, q_tcmp, q_chn, q_tchn, q_tval, q_tnm, q_iseq, q_irng, q_ienu, q_izip, q_iez, q_irev, q_sset, q_stgt, q_spro, q_spar, q_sput, q_sret, q_sretn, q_sife, q_swhl, q_sfor, q_sex, q_spass, q_sbrk, q_scnt, q_ss0, q_ss1, q_gonx, q_gort, q_gobk, q_goct, q_add, q_addl, q_addt, q_sub, q_mul, q_mull, q_mult, q_div, q_mod, q_pow, q_eq, q_ne, q_lt, q_le, q_gt, q_ge, q_is1, q_is2, q_is3, q_is4, q_is5, q_tr0, q_trb, q_tri, q_trl, q_trt, q_ixl, q_ixt, q_sll, q_slt, q_sls, q_lenl, q_lent, q_inti, q_absi, q_lisl, q_list, q_tupl, q_tupt, q_all, q_maxl, q_max, q_min, q_itl, q_itt, q_seql, q_seqt, q_rng1, q_rng2, q_enu1, q_enu2, q_end1, q_end2, q_own, q_val, q_st1, q_stt, q_stpr, q_sta0, q_sta1, q_re1, q_re0, q_appA, q_appioA, q_appkA, ↓bind_o, obind_some, List.getElem?_cons_zero, List.getElem?_cons_succ, List.set_cons_zero, List.set_cons_succ, lockS, slotL, Fz.atS, putL, runD, en0, vals, setS, opStop, wipeE, wipeS, restE, restS, plainS, szB_of, posB_of, b62_of, mulB_of, divB_of, powB_of, repB_one, timB_one, flat_one, I_rep, atI_0, atI_1, atI_2, atI_3, atI_4, ixN_of, cut_from, cut_to, eqv_int, eqv_none, shp_int, shp_bool, shp_none, zip_I]
  have hz : (v.zip w).length ≤ 100 := by rw [List.length_zip]; omega
  have hz2 : min v.length w.length ≤ 100 := by omega
  simp (config := {implicitDefEqProofs := false}) (disch := omega) [B_zip_rows, hN, hl, zip_Rw, hz, hz2, q_int, q_bl, q_non, q_nm, q_bin, q_neg, q_negI, q_not, q_bop, q_ife, q_cmp, q_ix, q_ixn, q_sl, q_sln, q_blt, q_lenn, q_isi, q_lst, q_tup, q_lc, q_push, q_pop, q_evc, q_to0, q_to1, q_o0, q_o1, q_intD, q_a0, q_a1, q_tnt, q_tbop, q_tcmp, q_chn, q_tchn, q_tval, q_tnm, q_iseq, q_irng, q_ienu, q_izip, q_iez, q_irev, q_sset, q_stgt, q_spro, q_spar, q_sput, q_sret, q_sretn, q_sife, q_swhl, q_sfor, q_sex, q_spass, q_sbrk, q_scnt, q_ss0, q_ss1, q_gonx, q_gort, q_gobk, q_goct, q_add, q_addl, q_addt, q_sub, q_mul, q_mull, q_mult, q_div, q_mod, q_pow, q_eq, q_ne, q_lt, q_le, q_gt, q_ge, q_is1, q_is2, q_is3, q_is4, q_is5, q_tr0, q_trb, q_tri, q_trl, q_trt, q_ixl, q_ixt, q_sll, q_slt, q_sls, q_lenl, q_lent, q_inti, q_absi, q_lisl, q_list, q_tupl, q_tupt, q_all, q_maxl, q_max, q_min, q_itl, q_itt, q_seql, q_seqt, q_rng1, q_rng2, q_enu1, q_enu2, q_end1, q_end2, q_own, q_val, q_st1, q_stt, q_stpr, q_sta0, q_sta1, q_re1, q_re0, q_appA, q_appioA, q_appkA, ↓bind_o, obind_some, List.getElem?_cons_zero, List.getElem?_cons_succ, List.set_cons_zero, List.set_cons_succ, lockS, slotL, Fz.atS, putL, runD, en0, vals, setS, opStop, wipeE, wipeS, restE, restS, plainS, szB_of, posB_of, b62_of, mulB_of, divB_of, powB_of, repB_one, timB_one, flat_one, I_rep, atI_0, atI_1, atI_2, atI_3, atI_4, ixN_of, cut_from, cut_to, eqv_int, eqv_none, shp_int, shp_bool, shp_none, zip_I]
theorem run_add_rows (hN : N.length = 5) (hA : At fs j false 3 d_add) {ds : List D} {z : Bool × D × List D} (h : d_add_rows ds = some z) : runD ⟨N, fs, WW⟩ 60 false (B_zip_rows j) ds = some z := by
  obtain ⟨⟨p, v, w⟩, ⟨h0, h1, hv, hw⟩, rfl, rfl⟩ := wordOf_some h
  exact zip_rows (p := p) (u := fun f g => formOf p (zadd f g)) hN hv.1 fun q hq => call_add (f := q.1) (g := q.2) hA h0 (by have := (hv.2 _ (List.of_mem_zip hq).1).2; omega) (by have := (hw.2 _ (List.of_mem_zip hq).2).2; omega)
theorem run_sub_rows (hN : N.length = 5) (hA : At fs j false 3 d_subtract) {ds : List D} {z : Bool × D × List D} (h : d_sub_rows ds = some z) : runD ⟨N, fs, WW⟩ 60 false (B_zip_rows j) ds = some z := by
  obtain ⟨⟨p, v, w⟩, ⟨h0, h1, hv, hw⟩, rfl, rfl⟩ := wordOf_some h
  exact zip_rows (p := p) (u := fun f g => formOf p (zsub f g)) hN hv.1 fun q hq => call_sub (f := q.1) (g := q.2) hA h0 (by have := (hv.2 _ (List.of_mem_zip hq).1).2; omega) (by have := (hw.2 _ (List.of_mem_zip hq).2).2; omega)
theorem pm_comm (p : Int) (f g : List Int) : pm p f g = pm p g f := by
  unfold pm
  cases f with
  | nil => cases g <;> rfl
  | cons x f =>
    cases g with
    | nil => rfl
    | cons y g =>
      simp only [List.isEmpty_cons, Bool.or_false, Bool.false_eq_true, if_false]
      rw [mulRaw_comm (by simp) (by simp)]
theorem run_row_times (hN : N.length = 4) (hM : At fs j false 3 d_multiply) {ds : List D} {z : Bool × D × List D} (h : d_row_times ds = some z) : runD ⟨N, fs, WW⟩ 60 false (B_row_times j) ds = some z := by
  obtain ⟨⟨p, v, f⟩, ⟨h0, h1, hv, hf, lf⟩, rfl, rfl⟩ := wordOf_some h
  dsimp only at h0 h1 hv hf lf
  have hl : ∀ m, lcL (evC ⟨N, fs, WW⟩ (m + 9) (.one 3) [3] none (.app j [(.nm 0), (.nm 2), (.nm 3)])) (v.map fun g => PyData.tuple (I g)) ⟨[.val (.int p), .val (.tuple (Rw v)), .val (.tuple (I f)), .no], []⟩ = some (Rw (mulR p v f), ⟨[.val (.int p), .val (.tuple (Rw v)), .val (.tuple (I f)), .no], []⟩) := by
    intro m
    unfold mulR
    rw [Rw_map]
    refine lcL_pure _ _ fun g hg => ?_
    have := call_mul hM (p := p) (f := f) (g := g) h0 (by omega) (by have := (hv.2 _ hg).2; omega) (small_form h1 hf.1) (rows_small h1 hv hg)
    simp (config := {implicitDefEqProofs := false}) (disch := omega) [this, q_int, q_bl, q_non, q_nm, q_bin, q_neg, q_negI, q_not, q_bop, q_ife, q_cmp, q_ix, q_ixn, q_sl, q_sln, q_blt, q_lenn, q_isi, q_lst, q_tup, q_lc, q_push, q_pop, q_evc, q_to0, q_to1, q_o0, q_o1, q_intD, q_a0, q_a1, q_tnt, q_tbop, q_tcmp, q_chn, q_tchn, q_tval, q_tnm, q_iseq, q_irng, q_ienu, q_izip, q_iez, q_irev, q_sset, q_stgt, q_spro, q_spar, q_sput, q_sret, q_sretn, q_sife, q_swhl, q_sfor, q_sex, q_spass, q_sbrk, q_scnt, q_ss0, q_ss1, q_gonx, q_gort, q_gobk, q_goct, q_add, q_addl, q_addt, q_sub, q_mul, q_mull, q_mult, q_div, q_mod, q_pow, q_eq, q_ne, q_lt, q_le, q_gt, q_ge, q_is1, q_is2, q_is3, q_is4, q_is5, q_tr0, q_trb, q_tri, q_trl, q_trt, q_ixl, q_ixt, q_sll, q_slt, q_sls, q_lenl, q_lent, q_inti, q_absi, q_lisl, q_list, q_tupl, q_tupt, q_all, q_maxl, q_max, q_min, q_itl, q_itt, q_seql, q_seqt, q_rng1, q_rng2, q_enu1, q_enu2, q_end1, q_end2, q_own, q_val, q_st1, q_stt, q_stpr, q_sta0, q_sta1, q_re1, q_re0, q_appA, q_appioA, q_appkA, ↓bind_o, obind_some, List.getElem?_cons_zero, List.getElem?_cons_succ, List.set_cons_zero, List.set_cons_succ, lockS, slotL, Fz.atS, putL, runD, en0, vals, setS, opStop, wipeE, wipeS, restE, restS, plainS, szB_of, posB_of, b62_of, mulB_of, divB_of, powB_of, repB_one, timB_one, flat_one, I_rep, atI_0, atI_1, atI_2, atI_3, atI_4, ixN_of, cut_from, cut_to, eqv_int, eqv_none, shp_int, shp_bool, shp_none, zip_I]
  have hv1 := hv.1
  have hl' := fun m => hl m
  rw [show (v.map fun g => PyData.tuple (I g)) = Rw v from rfl] at hl'
  have he : RF.enc ⟨p, v, f⟩ = [.int p, .tuple (Rw v), .tuple (I f)] := rfl
  have hz : (Rw v).length ≤ 100 := by rw [Rw_len]; exact hv1
  rw [he]
  generalize Rw v = V at *
  simp (config := {implicitDefEqProofs := false}) (disch := omega) [B_row_times, hN, hl', hz, itemsD, q_int, q_bl, q_non, q_nm, q_bin, q_neg, q_negI, q_not, q_bop, q_ife, q_cmp, q_ix, q_ixn, q_sl, q_sln, q_blt, q_lenn, q_isi, q_lst, q_tup, q_lc, q_push, q_pop, q_evc, q_to0, q_to1, q_o0, q_o1, q_intD, q_a0, q_a1, q_tnt, q_tbop, q_tcmp, q_chn, q_tchn, q_tval, q_tnm, q_iseq, q_irng, q_ienu, q_izip, q_iez, q_irev, q_sset, q_stgt, q_spro, q_spar, q_sput, q_sret, q_sretn, q_sife, q_swhl, q_sfor, q_sex, q_spass, q_sbrk, q_scnt, q_ss0, q_ss1, q_gonx, q_gort, q_gobk, q_goct, q_add, q_addl, q_addt, q_sub, q_mul, q_mull, q_mult, q_div, q_mod, q_pow, q_eq, q_ne, q_lt, q_le, q_gt, q_ge, q_is1, q_is2, q_is3, q_is4, q_is5, q_tr0, q_trb, q_tri, q_trl, q_trt, q_ixl, q_ixt, q_sll, q_slt, q_sls, q_lenl, q_lent, q_inti, q_absi, q_lisl, q_list, q_tupl, q_tupt, q_all, q_maxl, q_max, q_min, q_itl, q_itt, q_seql, q_seqt, q_rng1, q_rng2, q_enu1, q_enu2, q_end1, q_end2, q_own, q_val, q_st1, q_stt, q_stpr, q_sta0, q_sta1, q_re1, q_re0, q_appA, q_appioA, q_appkA, ↓bind_o, obind_some, List.getElem?_cons_zero, List.getElem?_cons_succ, List.set_cons_zero, List.set_cons_succ, lockS, slotL, Fz.atS, putL, runD, en0, vals, setS, opStop, wipeE, wipeS, restE, restS, plainS, szB_of, posB_of, b62_of, mulB_of, divB_of, powB_of, repB_one, timB_one, flat_one, I_rep, atI_0, atI_1, atI_2, atI_3, atI_4, ixN_of, cut_from, cut_to, eqv_int, eqv_none, shp_int, shp_bool, shp_none, zip_I]
theorem run_rtimes (hN : N.length = 4) (hM : At fs j false 3 d_multiply) {ds : List D} {z : Bool × D × List D} (h : d_row_times ds = some z) : runD ⟨N, fs, WW⟩ 60 false (B_q_rtimes j) ds = some z := by
  obtain ⟨⟨p, v, f⟩, ⟨h0, h1, hv, hf, lf⟩, rfl, rfl⟩ := wordOf_some h
  dsimp only at h0 h1 hv hf lf
  have hl : ∀ m, lcL (evC ⟨N, fs, WW⟩ (m + 9) (.one 3) [3] none (.app j [(.nm 0), (.nm 3), (.nm 2)])) (v.map fun g => PyData.tuple (I g)) ⟨[.val (.int p), .val (.tuple (Rw v)), .val (.tuple (I f)), .no], []⟩ = some (Rw (mulR p v f), ⟨[.val (.int p), .val (.tuple (Rw v)), .val (.tuple (I f)), .no], []⟩) := by
    intro m
    unfold mulR
    rw [Rw_map]
    refine lcL_pure _ _ fun g hg => ?_
    have := call_mul hM (p := p) (f := g) (g := f) h0 (by have := (hv.2 _ hg).2; omega) (by omega) (rows_small h1 hv hg) (small_form h1 hf.1)
    rw [pm_comm] at this
    simp (config := {implicitDefEqProofs := false}) (disch := omega) [this, q_int, q_bl, q_non, q_nm, q_bin, q_neg, q_negI, q_not, q_bop, q_ife, q_cmp, q_ix, q_ixn, q_sl, q_sln, q_blt, q_lenn, q_isi, q_lst, q_tup, q_lc, q_push, q_pop, q_evc, q_to0, q_to1, q_o0, q_o1, q_intD, q_a0, q_a1, q_tnt, q_tbop, q_tcmp, q_chn, q_tchn, q_tval, q_tnm, q_iseq, q_irng, q_ienu, q_izip, q_iez, q_irev, q_sset, q_stgt, q_spro, q_spar, q_sput, q_sret, q_sretn, q_sife, q_swhl, q_sfor, q_sex, q_spass, q_sbrk, q_scnt, q_ss0, q_ss1, q_gonx, q_gort, q_gobk, q_goct, q_add, q_addl, q_addt, q_sub, q_mul, q_mull, q_mult, q_div, q_mod, q_pow, q_eq, q_ne, q_lt, q_le, q_gt, q_ge, q_is1, q_is2, q_is3, q_is4, q_is5, q_tr0, q_trb, q_tri, q_trl, q_trt, q_ixl, q_ixt, q_sll, q_slt, q_sls, q_lenl, q_lent, q_inti, q_absi, q_lisl, q_list, q_tupl, q_tupt, q_all, q_maxl, q_max, q_min, q_itl, q_itt, q_seql, q_seqt, q_rng1, q_rng2, q_enu1, q_enu2, q_end1, q_end2, q_own, q_val, q_st1, q_stt, q_stpr, q_sta0, q_sta1, q_re1, q_re0, q_appA, q_appioA, q_appkA, ↓bind_o, obind_some, List.getElem?_cons_zero, List.getElem?_cons_succ, List.set_cons_zero, List.set_cons_succ, lockS, slotL, Fz.atS, putL, runD, en0, vals, setS, opStop, wipeE, wipeS, restE, restS, plainS, szB_of, posB_of, b62_of, mulB_of, divB_of, powB_of, repB_one, timB_one, flat_one, I_rep, atI_0, atI_1, atI_2, atI_3, atI_4, ixN_of, cut_from, cut_to, eqv_int, eqv_none, shp_int, shp_bool, shp_none, zip_I]
  have hv1 := hv.1
  have hl' := fun m => hl m
  rw [show (v.map fun g => PyData.tuple (I g)) = Rw v from rfl] at hl'
  have he : RF.enc ⟨p, v, f⟩ = [.int p, .tuple (Rw v), .tuple (I f)] := rfl
  have hz : (Rw v).length ≤ 100 := by rw [Rw_len]; exact hv1
  rw [he]
  generalize Rw v = V at *
  simp (config := {implicitDefEqProofs := false}) (disch := omega) [B_q_rtimes, hN, hl', hz, itemsD, q_int, q_bl, q_non, q_nm, q_bin, q_neg, q_negI, q_not, q_bop, q_ife, q_cmp, q_ix, q_ixn, q_sl, q_sln, q_blt, q_lenn, q_isi, q_lst, q_tup, q_lc, q_push, q_pop, q_evc, q_to0, q_to1, q_o0, q_o1, q_intD, q_a0, q_a1, q_tnt, q_tbop, q_tcmp, q_chn, q_tchn, q_tval, q_tnm, q_iseq, q_irng, q_ienu, q_izip, q_iez, q_irev, q_sset, q_stgt, q_spro, q_spar, q_sput, q_sret, q_sretn, q_sife, q_swhl, q_sfor, q_sex, q_spass, q_sbrk, q_scnt, q_ss0, q_ss1, q_gonx, q_gort, q_gobk, q_goct, q_add, q_addl, q_addt, q_sub, q_mul, q_mull, q_mult, q_div, q_mod, q_pow, q_eq, q_ne, q_lt, q_le, q_gt, q_ge, q_is1, q_is2, q_is3, q_is4, q_is5, q_tr0, q_trb, q_tri, q_trl, q_trt, q_ixl, q_ixt, q_sll, q_slt, q_sls, q_lenl, q_lent, q_inti, q_absi, q_lisl, q_list, q_tupl, q_tupt, q_all, q_maxl, q_max, q_min, q_itl, q_itt, q_seql, q_seqt, q_rng1, q_rng2, q_enu1, q_enu2, q_end1, q_end2, q_own, q_val, q_st1, q_stt, q_stpr, q_sta0, q_sta1, q_re1, q_re0, q_appA, q_appioA, q_appkA, ↓bind_o, obind_some, List.getElem?_cons_zero, List.getElem?_cons_succ, List.set_cons_zero, List.set_cons_succ, lockS, slotL, Fz.atS, putL, runD, en0, vals, setS, opStop, wipeE, wipeS, restE, restS, plainS, szB_of, posB_of, b62_of, mulB_of, divB_of, powB_of, repB_one, timB_one, flat_one, I_rep, atI_0, atI_1, atI_2, atI_3, atI_4, ixN_of, cut_from, cut_to, eqv_int, eqv_none, shp_int, shp_bool, shp_none, zip_I]
def dot_body (j j' : Nat) : List RS := [.set 3 (.app j [(.nm 0), (.nm 3), (.app j' [(.nm 0), (.nm 4), (.nm 5)])])]
theorem dot_step (hA : At fs j false 3 d_add) (hM : At fs j' false 3 d_multiply) (n : Nat) {p : Int} {t f g : List Int} {V W a b : Sl} (h0 : 0 < p) (h1 : p < 100) (ht : t.length ≤ 30000) (hf : isForm p f) (hg : isForm p g) (lf : f.length ≤ 10000) (lg : g.length ≤ 10000) :
    bodyF ⟨N, fs, WW⟩ (n + 20) (.tup [4, 5]) (dot_body j j') (.tuple [.tuple (I f), .tuple (I g)]) ⟨[.val (.int p), V, W, .val (.tuple (I t)), a, b], []⟩ = some (.nx ⟨[.val (.int p), V, W, .val (.tuple (I (formOf p (zadd t (pm p f g))))), .val (.tuple (I f)), .val (.tuple (I g))], []⟩) := by
  have c1 := call_mul hM (p := p) (f := f) (g := g) h0 (by omega) (by omega) (small_form h1 hf.1) (small_form h1 hg.1)
  have c2 := call_add hA (p := p) (f := t) (g := pm p f g) h0 (by omega) (Nat.le_trans (pm_len _ _ _) (by omega))
  unfold dot_body
  simp (config := {implicitDefEqProofs := false}) (disch := omega) [bodyF, c1, c2, q_int, q_bl, q_non, q_nm, q_bin, q_neg, q_negI, q_not, q_bop, q_ife, q_cmp, q_ix, q_ixn, q_sl, q_sln, q_blt, q_lenn, q_isi, q_lst, q_tup, q_lc, q_push, q_pop, q_evc, q_to0, q_to1, q_o0, q_o1, q_intD, q_a0, q_a1, q_tnt, q_tbop, q_tcmp, q_chn, q_tchn, q_tval, q_tnm, q_iseq, q_irng, q_ienu, q_izip, q_iez, q_irev, q_sset, q_stgt, q_spro, q_spar, q_sput, q_sret, q_sretn, q_sife, q_swhl, q_sfor, q_sex, q_spass, q_sbrk, q_scnt, q_ss0, q_ss1, q_gonx, q_gort, q_gobk, q_goct, q_add, q_addl, q_addt, q_sub, q_mul, q_mull, q_mult, q_div, q_mod, q_pow, q_eq, q_ne, q_lt, q_le, q_gt, q_ge, q_is1, q_is2, q_is3, q_is4, q_is5, q_tr0, q_trb, q_tri, q_trl, q_trt, q_ixl, q_ixt, q_sll, q_slt, q_sls, q_lenl, q_lent, q_inti, q_absi, q_lisl, q_list, q_tupl, q_tupt, q_all, q_maxl, q_max, q_min, q_itl, q_itt, q_seql, q_seqt, q_rng1, q_rng2, q_enu1, q_enu2, q_end1, q_end2, q_own, q_val, q_st1, q_stt, q_stpr, q_sta0, q_sta1, q_re1, q_re0, q_appA, q_appioA, q_appkA, ↓bind_o, obind_some, List.getElem?_cons_zero, List.getElem?_cons_succ, List.set_cons_zero, List.set_cons_succ, lockS, slotL, Fz.atS, putL, runD, en0, vals, setS, opStop, wipeE, wipeS, restE, restS, plainS, szB_of, posB_of, b62_of, mulB_of, divB_of, powB_of, repB_one, timB_one, flat_one, I_rep, atI_0, atI_1, atI_2, atI_3, atI_4, ixN_of, cut_from, cut_to, eqv_int, eqv_none, shp_int, shp_bool, shp_none, zip_I]
theorem dot_loop (hA : At fs j false 3 d_add) (hM : At fs j' false 3 d_multiply) (n : Nat) {p : Int} {V W : Sl} (h0 : 0 < p) (h1 : p < 100) : ∀ (l : List (List Int × List Int)) (t : List Int) (a b : Sl), t.length ≤ 20000 → (∀ q ∈ l, isForm p q.1 ∧ isForm p q.2 ∧ q.1.length ≤ 10000 ∧ q.2.length ≤ 10000) →
    ∃ a' b', forL (bodyF ⟨N, fs, WW⟩ (n + 20) (.tup [4, 5]) (dot_body j j')) (l.map fun q => PyData.tuple [.tuple (I q.1), .tuple (I q.2)]) ⟨[.val (.int p), V, W, .val (.tuple (I t)), a, b], []⟩ = some (.nx ⟨[.val (.int p), V, W, .val (.tuple (I (l.foldl (fun t q => formOf p (zadd t (pm p q.1 q.2))) t))), a', b'], []⟩) := by
  intro l
  induction l with
  | nil => intro t a b _ _; exact ⟨a, b, rfl⟩
  | cons q l IH =>
    intro t a b ht hl
    obtain ⟨q1, q2, q3, q4⟩ := hl q List.mem_cons_self
    obtain ⟨a', b', ih⟩ := IH (formOf p (zadd t (pm p q.1 q.2))) (.val (.tuple (I q.1))) (.val (.tuple (I q.2))) (Nat.le_trans (formOf_len _ _) (Nat.le_trans (zadd_len _ _) (by have := pm_len p q.1 q.2; omega))) fun r hr => hl r (List.mem_cons_of_mem _ hr)
    refine ⟨a', b', ?_⟩
    rw [List.map_cons, forL_nx (dot_step hA hM n h0 h1 (by omega) q1 q2 q3 q4)]
    exact ih
theorem run_product (hN : N.length = 6) (hA : At fs j false 3 d_add) (hM : At fs j' false 3 d_multiply) {ds : List D} {z : Bool × D × List D} (h : d_product ds = some z) : runD ⟨N, fs, WW⟩ 60 false (B_product_of j j') ds = some z := by
  obtain ⟨⟨p, v, w⟩, ⟨h0, h1, hv, hw⟩, rfl, rfl⟩ := wordOf_some h
  dsimp only at h0 h1 hv hw
  obtain ⟨a', b', hl⟩ := dot_loop (N := N) hA hM 37 (V := .val (.tuple (Rw v))) (W := .val (.tuple (Rw w))) h0 h1 (v.zip w) [] .no .no (by simp) fun q hq => by
    obtain ⟨m1, m2⟩ := List.of_mem_zip hq
    exact ⟨(hv.2 _ m1).1, (hw.2 _ m2).1, (hv.2 _ m1).2, (hw.2 _ m2).2⟩
  change forL (bodyF _ 57 _ _) _ _ = _ at hl
  unfold dot_body at hl
  have he : RR2.enc ⟨p, v, w⟩ = [.int p, .tuple (Rw v), .tuple (Rw w)] := rfl
  rw [he]
  rw [show ((v.zip w).foldl (fun t q => formOf p (zadd t (pm p q.1 q.2))) []) = dotR p v w from rfl] at hl
  rw [← zip_Rw] at hl
  rw [I_nil] at hl
  generalize Rw v = V at *
  generalize Rw w = W at *
  simp (config := {implicitDefEqProofs := false}) (disch := omega) [B_product_of, hN, hl, q_int, q_bl, q_non, q_nm, q_bin, q_neg, q_negI, q_not, q_bop, q_ife, q_cmp, q_ix, q_ixn, q_sl, q_sln, q_blt, q_lenn, q_isi, q_lst, q_tup, q_lc, q_push, q_pop, q_evc, q_to0, q_to1, q_o0, q_o1, q_intD, q_a0, q_a1, q_tnt, q_tbop, q_tcmp, q_chn, q_tchn, q_tval, q_tnm, q_iseq, q_irng, q_ienu, q_izip, q_iez, q_irev, q_sset, q_stgt, q_spro, q_spar, q_sput, q_sret, q_sretn, q_sife, q_swhl, q_sfor, q_sex, q_spass, q_sbrk, q_scnt, q_ss0, q_ss1, q_gonx, q_gort, q_gobk, q_goct, q_add, q_addl, q_addt, q_sub, q_mul, q_mull, q_mult, q_div, q_mod, q_pow, q_eq, q_ne, q_lt, q_le, q_gt, q_ge, q_is1, q_is2, q_is3, q_is4, q_is5, q_tr0, q_trb, q_tri, q_trl, q_trt, q_ixl, q_ixt, q_sll, q_slt, q_sls, q_lenl, q_lent, q_inti, q_absi, q_lisl, q_list, q_tupl, q_tupt, q_all, q_maxl, q_max, q_min, q_itl, q_itt, q_seql, q_seqt, q_rng1, q_rng2, q_enu1, q_enu2, q_end1, q_end2, q_own, q_val, q_st1, q_stt, q_stpr, q_sta0, q_sta1, q_re1, q_re0, q_appA, q_appioA, q_appkA, ↓bind_o, obind_some, List.getElem?_cons_zero, List.getElem?_cons_succ, List.set_cons_zero, List.set_cons_succ, lockS, slotL, Fz.atS, putL, runD, en0, vals, setS, opStop, wipeE, wipeS, restE, restS, plainS, szB_of, posB_of, b62_of, mulB_of, divB_of, powB_of, repB_one, timB_one, flat_one, I_rep, atI_0, atI_1, atI_2, atI_3, atI_4, ixN_of, cut_from, cut_to, eqv_int, eqv_none, shp_int, shp_bool, shp_none, zip_I]
end W1
set_option Elab.async false
set_option linter.all false
set_option maxRecDepth 100000
set_option maxHeartbeats 2000000
namespace W1
open PySem PySem.Spec PyProof.Rows L2 Fz
variable {fs : List (Str × Fn)} {N : List Str} {j j' j'' : Nat}
/-! ### heights -/
def lv_body : List RS := [.set 6 (.bin .Add (.bin .Sub (.lenn 4) (.int 1)) (.nm 5)), .ife (.bop .And (.nm 4) (.bop .Or (.cmp .Is (.nm 2) .non) (.cmp .GtE (.nm 6) (.ixn 2 (.int 0))))) [.set 2 (.tup [(.nm 6), (.nm 3)])] []]
def B_level_of : List RS := [.set 2 .non, .for (.pr 3 [4, 5]) (.ez (.nm 0) (.nm 1)) lv_body, .ret (.nm 2)]
def B_height_of (j : Nat) : List RS := [.set 2 (.app j [(.nm 0), (.nm 1)]), .ife (.cmp .Is (.nm 2) .non) [.ret .non] [], .ret (.ixn 2 (.int 0))]
def B_lead_of (j : Nat) : List RS := [.set 2 (.app j [(.nm 0), (.nm 1)]), .ife (.cmp .Is (.nm 2) .non) [.ret .non] [], .ret (.ixn 2 (.int 1))]
def B_last_at : List RS := [.ife (.bop .And (.nm 0) (.cmp .Eq (.bin .Sub (.lenn 0) (.int 1)) (.nm 1))) [.ret (.ixn 0 (.neg (.int 1)))] [], .ret (.int 0)]
def B_top_of (j j' : Nat) : List RS := [.set 2 (.app j [(.nm 0), (.nm 1)]), .ife (.cmp .Is (.nm 2) .non) [.ret .non] [], .ret (.blt .tuple [(.lc (.tup [3, 4]) [3, 4] (.zip (.nm 0) (.nm 1)) none (.app j' [(.nm 3), (.bin .Sub (.nm 2) (.nm 4))]))])]
/-- lifts come as a tuple or as a list -/
def seqOf (k : Bool) (s : List Int) : D := if k then .list (I s) else .tuple (I s)
theorem seqOf_seq (k : Bool) (s : List Int) : seqD (seqOf k s) = some (k, I s) := by cases k <;> rfl
noncomputable section
structure RL where
  v : List (List Int)
  k : Bool
  s : List Int
def RL.enc (x : RL) : List D := [.tuple (Rw x.v), seqOf x.k x.s]
def RL.ok (x : RL) : Prop := x.v.length ≤ 100 ∧ x.s.length ≤ 100
def d_level_of := wordOf RL.enc RL.ok fun x => (false, lvD (levelR x.v x.s), [])
def d_height_of := wordOf RL.enc RL.ok fun x => (false, match levelR x.v x.s with | none => .none | some q => .int q.1, [])
def d_lead_of := wordOf RL.enc RL.ok fun x => (false, match levelR x.v x.s with | none => .none | some q => .int q.2, [])
def d_top_of := wordOf RL.enc RL.ok fun x => (false, match levelR x.v x.s with | none => .none | some q => .tuple (I (topR q.1 x.v x.s)), [])
def d_last_at := wordOf (α := List Int × Int) (fun x => [.tuple (I x.1), .int x.2]) (fun _ => True) (fun x => (false, .int (if x.1 ≠ [] ∧ (x.1.length : Int) - 1 = x.2 then x.1.getLast?.getD 0 else 0), []))
end
theorem RL.inj : ∀ x y : RL, RL.enc x = RL.enc y → x = y := by
  rintro ⟨v, k, s⟩ ⟨v', k', s'⟩ h
  cases k <;> cases k' <;> simp only [RL.enc, seqOf, List.cons.injEq, PyData.list.injEq, PyData.tuple.injEq, Rw_eq, I_eq, and_true, if_true, if_false, Bool.false_eq_true, reduceCtorEq, and_false] at h
  · obtain ⟨rfl, rfl⟩ := h; rfl
  · obtain ⟨rfl, rfl⟩ := h; rfl
theorem lv_step (n : Nat) {V W x3 x4 x5 x6 : Sl} {l : Option (Int × Int)} {i s : Int} {f : List Int} :
    bodyF ⟨N, fs, WW⟩ (n + 20) (.pr 3 [4, 5]) lv_body (.tuple [.int i, .tuple [.tuple (I f), .int s]]) ⟨[V, W, .val (lvD l), x3, x4, x5, x6], []⟩ = some (.nx ⟨[V, W, .val (lvD (lvStep l i f s)), .val (.int i), .val (.tuple (I f)), .val (.int s), .val (.int ((f.length : Int) - 1 + s))], []⟩) := by
  unfold lv_body lvStep
  cases f with
  | nil =>
    cases l with
    | none => simp (config := {implicitDefEqProofs := false}) (disch := omega) [bodyF, lvD, q_int, q_bl, q_non, q_nm, q_bin, q_neg, q_negI, q_not, q_bop, q_ife, q_cmp, q_ix, q_ixn, q_sl, q_sln, q_blt, q_lenn, q_isi, q_lst, q_tup, q_lc, q_push, q_pop, q_evc, q_to0, q_to1, q_o0, q_o1, q_intD, q_a0, q_a1, q_tnt, q_tbop, q_tcmp, q_chn, q_tchn, q_tval, q_tnm, q_iseq, q_irng, q_ienu, q_izip, q_iez, q_irev, q_sset, q_stgt, q_spro, q_spar, q_sput, q_sret, q_sretn, q_sife, q_swhl, q_sfor, q_sex, q_spass, q_sbrk, q_scnt, q_ss0, q_ss1, q_gonx, q_gort, q_gobk, q_goct, q_add, q_addl, q_addt, q_sub, q_mul, q_mull, q_mult, q_div, q_mod, q_pow, q_eq, q_ne, q_lt, q_le, q_gt, q_ge, q_is1, q_is2, q_is3, q_is4, q_is5, q_tr0, q_trb, q_tri, q_trl, q_trt, q_ixl, q_ixt, q_sll, q_slt, q_sls, q_lenl, q_lent, q_inti, q_absi, q_lisl, q_list, q_tupl, q_tupt, q_all, q_maxl, q_max, q_min, q_itl, q_itt, q_seql, q_seqt, q_rng1, q_rng2, q_enu1, q_enu2, q_end1, q_end2, q_own, q_val, q_st1, q_stt, q_stpr, q_sta0, q_sta1, q_re1, q_re0, q_appA, q_appioA, q_appkA, ↓bind_o, obind_some, List.getElem?_cons_zero, List.getElem?_cons_succ, List.set_cons_zero, List.set_cons_succ, lockS, slotL, Fz.atS, putL, runD, en0, vals, setS, opStop, wipeE, wipeS, restE, restS, plainS, szB_of, posB_of, b62_of, mulB_of, divB_of, powB_of, repB_one, timB_one, flat_one, I_rep, atI_0, atI_1, atI_2, atI_3, atI_4, ixN_of, cut_from, cut_to, eqv_int, eqv_none, shp_int, shp_bool, shp_none, zip_I]
    | some q => simp (config := {implicitDefEqProofs := false}) (disch := omega) [bodyF, lvD, q_int, q_bl, q_non, q_nm, q_bin, q_neg, q_negI, q_not, q_bop, q_ife, q_cmp, q_ix, q_ixn, q_sl, q_sln, q_blt, q_lenn, q_isi, q_lst, q_tup, q_lc, q_push, q_pop, q_evc, q_to0, q_to1, q_o0, q_o1, q_intD, q_a0, q_a1, q_tnt, q_tbop, q_tcmp, q_chn, q_tchn, q_tval, q_tnm, q_iseq, q_irng, q_ienu, q_izip, q_iez, q_irev, q_sset, q_stgt, q_spro, q_spar, q_sput, q_sret, q_sretn, q_sife, q_swhl, q_sfor, q_sex, q_spass, q_sbrk, q_scnt, q_ss0, q_ss1, q_gonx, q_gort, q_gobk, q_goct, q_add, q_addl, q_addt, q_sub, q_mul, q_mull, q_mult, q_div, q_mod, q_pow, q_eq, q_ne, q_lt, q_le, q_gt, q_ge, q_is1, q_is2, q_is3, q_is4, q_is5, q_tr0, q_trb, q_tri, q_trl, q_trt, q_ixl, q_ixt, q_sll, q_slt, q_sls, q_lenl, q_lent, q_inti, q_absi, q_lisl, q_list, q_tupl, q_tupt, q_all, q_maxl, q_max, q_min, q_itl, q_itt, q_seql, q_seqt, q_rng1, q_rng2, q_enu1, q_enu2, q_end1, q_end2, q_own, q_val, q_st1, q_stt, q_stpr, q_sta0, q_sta1, q_re1, q_re0, q_appA, q_appioA, q_appkA, ↓bind_o, obind_some, List.getElem?_cons_zero, List.getElem?_cons_succ, List.set_cons_zero, List.set_cons_succ, lockS, slotL, Fz.atS, putL, runD, en0, vals, setS, opStop, wipeE, wipeS, restE, restS, plainS, szB_of, posB_of, b62_of, mulB_of, divB_of, powB_of, repB_one, timB_one, flat_one, I_rep, atI_0, atI_1, atI_2, atI_3, atI_4, ixN_of, cut_from, cut_to, eqv_int, eqv_none, shp_int, shp_bool, shp_none, zip_I]
  | cons a f =>
    cases l with
    | none => simp (config := {implicitDefEqProofs := false}) (disch := omega) [bodyF, lvD, q_int, q_bl, q_non, q_nm, q_bin, q_neg, q_negI, q_not, q_bop, q_ife, q_cmp, q_ix, q_ixn, q_sl, q_sln, q_blt, q_lenn, q_isi, q_lst, q_tup, q_lc, q_push, q_pop, q_evc, q_to0, q_to1, q_o0, q_o1, q_intD, q_a0, q_a1, q_tnt, q_tbop, q_tcmp, q_chn, q_tchn, q_tval, q_tnm, q_iseq, q_irng, q_ienu, q_izip, q_iez, q_irev, q_sset, q_stgt, q_spro, q_spar, q_sput, q_sret, q_sretn, q_sife, q_swhl, q_sfor, q_sex, q_spass, q_sbrk, q_scnt, q_ss0, q_ss1, q_gonx, q_gort, q_gobk, q_goct, q_add, q_addl, q_addt, q_sub, q_mul, q_mull, q_mult, q_div, q_mod, q_pow, q_eq, q_ne, q_lt, q_le, q_gt, q_ge, q_is1, q_is2, q_is3, q_is4, q_is5, q_tr0, q_trb, q_tri, q_trl, q_trt, q_ixl, q_ixt, q_sll, q_slt, q_sls, q_lenl, q_lent, q_inti, q_absi, q_lisl, q_list, q_tupl, q_tupt, q_all, q_maxl, q_max, q_min, q_itl, q_itt, q_seql, q_seqt, q_rng1, q_rng2, q_enu1, q_enu2, q_end1, q_end2, q_own, q_val, q_st1, q_stt, q_stpr, q_sta0, q_sta1, q_re1, q_re0, q_appA, q_appioA, q_appkA, ↓bind_o, obind_some, List.getElem?_cons_zero, List.getElem?_cons_succ, List.set_cons_zero, List.set_cons_succ, lockS, slotL, Fz.atS, putL, runD, en0, vals, setS, opStop, wipeE, wipeS, restE, restS, plainS, szB_of, posB_of, b62_of, mulB_of, divB_of, powB_of, repB_one, timB_one, flat_one, I_rep, atI_0, atI_1, atI_2, atI_3, atI_4, ixN_of, cut_from, cut_to, eqv_int, eqv_none, shp_int, shp_bool, shp_none, zip_I]
    | some q =>
      obtain ⟨h, k⟩ := q
      by_cases e : h ≤ (f.length : Int) + s
      · simp (config := {implicitDefEqProofs := false}) (disch := omega) [bodyF, lvD, e, q_int, q_bl, q_non, q_nm, q_bin, q_neg, q_negI, q_not, q_bop, q_ife, q_cmp, q_ix, q_ixn, q_sl, q_sln, q_blt, q_lenn, q_isi, q_lst, q_tup, q_lc, q_push, q_pop, q_evc, q_to0, q_to1, q_o0, q_o1, q_intD, q_a0, q_a1, q_tnt, q_tbop, q_tcmp, q_chn, q_tchn, q_tval, q_tnm, q_iseq, q_irng, q_ienu, q_izip, q_iez, q_irev, q_sset, q_stgt, q_spro, q_spar, q_sput, q_sret, q_sretn, q_sife, q_swhl, q_sfor, q_sex, q_spass, q_sbrk, q_scnt, q_ss0, q_ss1, q_gonx, q_gort, q_gobk, q_goct, q_add, q_addl, q_addt, q_sub, q_mul, q_mull, q_mult, q_div, q_mod, q_pow, q_eq, q_ne, q_lt, q_le, q_gt, q_ge, q_is1, q_is2, q_is3, q_is4, q_is5, q_tr0, q_trb, q_tri, q_trl, q_trt, q_ixl, q_ixt, q_sll, q_slt, q_sls, q_lenl, q_lent, q_inti, q_absi, q_lisl, q_list, q_tupl, q_tupt, q_all, q_maxl, q_max, q_min, q_itl, q_itt, q_seql, q_seqt, q_rng1, q_rng2, q_enu1, q_enu2, q_end1, q_end2, q_own, q_val, q_st1, q_stt, q_stpr, q_sta0, q_sta1, q_re1, q_re0, q_appA, q_appioA, q_appkA, ↓bind_o, obind_some, List.getElem?_cons_zero, List.getElem?_cons_succ, List.set_cons_zero, List.set_cons_succ, lockS, slotL, Fz.atS, putL, runD, en0, vals, setS, opStop, wipeE, wipeS, restE, restS, plainS, szB_of, posB_of, b62_of, mulB_of, divB_of, powB_of, repB_one, timB_one, flat_one, I_rep, atI_0, atI_1, atI_2, atI_3, atI_4, ixN_of, cut_from, cut_to, eqv_int, eqv_none, shp_int, shp_bool, shp_none, zip_I]
      · simp (config := {implicitDefEqProofs := false}) (disch := omega) [bodyF, lvD, e, q_int, q_bl, q_non, q_nm, q_bin, q_neg, q_negI, q_not, q_bop, q_ife, q_cmp, q_ix, q_ixn, q_sl, q_sln, q_blt, q_lenn, q_isi, q_lst, q_tup, q_lc, q_push, q_pop, q_evc, q_to0, q_to1, q_o0, q_o1, q_intD, q_a0, q_a1, q_tnt, q_tbop, q_tcmp, q_chn, q_tchn, q_tval, q_tnm, q_iseq, q_irng, q_ienu, q_izip, q_iez, q_irev, q_sset, q_stgt, q_spro, q_spar, q_sput, q_sret, q_sretn, q_sife, q_swhl, q_sfor, q_sex, q_spass, q_sbrk, q_scnt, q_ss0, q_ss1, q_gonx, q_gort, q_gobk, q_goct, q_add, q_addl, q_addt, q_sub, q_mul, q_mull, q_mult, q_div, q_mod, q_pow, q_eq, q_ne, q_lt, q_le, q_gt, q_ge, q_is1, q_is2, q_is3, q_is4, q_is5, q_tr0, q_trb, q_tri, q_trl, q_trt, q_ixl, q_ixt, q_sll, q_slt, q_sls, q_lenl, q_lent, q_inti, q_absi, q_lisl, q_list, q_tupl, q_tupt, q_all, q_maxl, q_max, q_min, q_itl, q_itt, q_seql, q_seqt, q_rng1, q_rng2, q_enu1, q_enu2, q_end1, q_end2, q_own, q_val, q_st1, q_stt, q_stpr, q_sta0, q_sta1, q_re1, q_re0, q_appA, q_appioA, q_appkA, ↓bind_o, obind_some, List.getElem?_cons_zero, List.getElem?_cons_succ, List.set_cons_zero, List.set_cons_succ, lockS, slotL, Fz.atS, putL, runD, en0, vals, setS, opStop, wipeE, wipeS, restE, restS, plainS, szB_of, posB_of, b62_of, mulB_of, divB_of, powB_of, repB_one, timB_one, flat_one, I_rep, atI_0, atI_1, atI_2, atI_3, atI_4, ixN_of, cut_from, cut_to, eqv_int, eqv_none, shp_int, shp_bool, shp_none, zip_I]
theorem lv_loop (n : Nat) {V W : Sl} : ∀ (r : List (List Int × Int)) (i : Int) (l : Option (Int × Int)) (x3 x4 x5 x6 : Sl),
    ∃ y3 y4 y5 y6, forL (bodyF ⟨N, fs, WW⟩ (n + 20) (.pr 3 [4, 5]) lv_body) (enumD i (r.map fun q => .tuple [.tuple (I q.1), .int q.2])) ⟨[V, W, .val (lvD l), x3, x4, x5, x6], []⟩ = some (.nx ⟨[V, W, .val (lvD (lvFrom l i r)), y3, y4, y5, y6], []⟩) := by
  intro r
  induction r with
  | nil => intro i l x3 x4 x5 x6; exact ⟨x3, x4, x5, x6, rfl⟩
  | cons q r IH =>
    intro i l x3 x4 x5 x6
    obtain ⟨y3, y4, y5, y6, ih⟩ := IH (i + 1) (lvStep l i q.1 q.2) (.val (.int i)) (.val (.tuple (I q.1))) (.val (.int q.2)) (.val (.int ((q.1.length : Int) - 1 + q.2)))
    refine ⟨y3, y4, y5, y6, ?_⟩
    rw [List.map_cons, enumD_cons, forL_nx (lv_step n)]
    exact ih
theorem run_level (hN : N.length = 7) {ds : List D} {z : Bool × D × List D} (h : d_level_of ds = some z) : runD ⟨N, fs, WW⟩ 60 false B_level_of ds = some z := by
  obtain ⟨⟨v, k, s⟩, ⟨h0, h1⟩, rfl, rfl⟩ := wordOf_some h
  dsimp only at h0 h1
  obtain ⟨y3, y4, y5, y6, hl⟩ := lv_loop (fs := fs) (N := N) 37 (V := .val (.tuple (Rw v))) (W := .val (seqOf k s)) (v.zip s) 0 none .no .no .no .no
  change forL (bodyF _ 57 _ _) _ _ = _ at hl
  rw [← zip_RwI, show lvFrom none 0 (v.zip s) = levelR v s from rfl] at hl
  have he : RL.enc ⟨v, k, s⟩ = [.tuple (Rw v), seqOf k s] := rfl
  have hs := seqOf_seq k s
  rw [he]
  generalize seqOf k s = S at *
  generalize Rw v = V at *
  unfold lv_body at hl
  rw [show lvD none = .none from rfl] at hl
  simp (config := {implicitDefEqProofs := false}) (disch := omega) [B_level_of, lv_body, hN, hs, hl, q_int, q_bl, q_non, q_nm, q_bin, q_neg, q_negI, q_not, q_bop, q_ife, q_cmp, q_ix, q_ixn, q_sl, q_sln, q_blt, q_lenn, q_isi, q_lst, q_tup, q_lc, q_push, q_pop, q_evc, q_to0, q_to1, q_o0, q_o1, q_intD, q_a0, q_a1, q_tnt, q_tbop, q_tcmp, q_chn, q_tchn, q_tval, q_tnm, q_iseq, q_irng, q_ienu, q_izip, q_iez, q_irev, q_sset, q_stgt, q_spro, q_spar, q_sput, q_sret, q_sretn, q_sife, q_swhl, q_sfor, q_sex, q_spass, q_sbrk, q_scnt, q_ss0, q_ss1, q_gonx, q_gort, q_gobk, q_goct, q_add, q_addl, q_addt, q_sub, q_mul, q_mull, q_mult, q_div, q_mod, q_pow, q_eq, q_ne, q_lt, q_le, q_gt, q_ge, q_is1, q_is2, q_is3, q_is4, q_is5, q_tr0, q_trb, q_tri, q_trl, q_trt, q_ixl, q_ixt, q_sll, q_slt, q_sls, q_lenl, q_lent, q_inti, q_absi, q_lisl, q_list, q_tupl, q_tupt, q_all, q_maxl, q_max, q_min, q_itl, q_itt, q_seql, q_seqt, q_rng1, q_rng2, q_enu1, q_enu2, q_end1, q_end2, q_own, q_val, q_st1, q_stt, q_stpr, q_sta0, q_sta1, q_re1, q_re0, q_appA, q_appioA, q_appkA, ↓bind_o, obind_some, List.getElem?_cons_zero, List.getElem?_cons_succ, List.set_cons_zero, List.set_cons_succ, lockS, slotL, Fz.atS, putL, runD, en0, vals, setS, opStop, wipeE, wipeS, restE, restS, plainS, szB_of, posB_of, b62_of, mulB_of, divB_of, powB_of, repB_one, timB_one, flat_one, I_rep, atI_0, atI_1, atI_2, atI_3, atI_4, ixN_of, cut_from, cut_to, eqv_int, eqv_none, shp_int, shp_bool, shp_none, zip_I]
theorem call_level (hL : At fs j false 2 d_level_of) {v : List (List Int)} {k : Bool} {s : List Int} (h0 : v.length ≤ 100) (h1 : s.length ≤ 100) : cAt fs j [.tuple (Rw v), seqOf k s] = some (false, lvD (levelR v s)) :=
  hL.c rfl (wordOf_at RL.inj (x := ⟨v, k, s⟩) ⟨h0, h1⟩)
theorem call_height (hL : At fs j false 2 d_height_of) {v : List (List Int)} {k : Bool} {s : List Int} (h0 : v.length ≤ 100) (h1 : s.length ≤ 100) : cAt fs j [.tuple (Rw v), seqOf k s] = some (false, match levelR v s with | none => .none | some q => .int q.1) :=
  hL.c rfl (wordOf_at RL.inj (x := ⟨v, k, s⟩) ⟨h0, h1⟩)
theorem call_lead (hL : At fs j false 2 d_lead_of) {v : List (List Int)} {k : Bool} {s : List Int} (h0 : v.length ≤ 100) (h1 : s.length ≤ 100) : cAt fs j [.tuple (Rw v), seqOf k s] = some (false, match levelR v s with | none => .none | some q => .int q.2) :=
  hL.c rfl (wordOf_at RL.inj (x := ⟨v, k, s⟩) ⟨h0, h1⟩)
theorem call_top (hL : At fs j false 2 d_top_of) {v : List (List Int)} {k : Bool} {s : List Int} (h0 : v.length ≤ 100) (h1 : s.length ≤ 100) : cAt fs j [.tuple (Rw v), seqOf k s] = some (false, match levelR v s with | none => .none | some q => .tuple (I (topR q.1 v s))) :=
  hL.c rfl (wordOf_at RL.inj (x := ⟨v, k, s⟩) ⟨h0, h1⟩)
theorem run_height (hN : N.length = 3) (hL : At fs j false 2 d_level_of) {ds : List D} {z : Bool × D × List D} (h : d_height_of ds = some z) : runD ⟨N, fs, WW⟩ 60 false (B_height_of j) ds = some z := by
  obtain ⟨⟨v, k, s⟩, ⟨h0, h1⟩, rfl, rfl⟩ := wordOf_some h
  have c := call_level hL (k := k) h0 h1
  have he : RL.enc ⟨v, k, s⟩ = [.tuple (Rw v), seqOf k s] := rfl
  rw [he]
  dsimp only at c ⊢
  generalize seqOf k s = S at *
  generalize Rw v = V at *
  cases hl : levelR v s with
  | none =>
    rw [hl] at c
    simp (config := {implicitDefEqProofs := false}) (disch := omega) [B_height_of, hN, c, lvD, q_int, q_bl, q_non, q_nm, q_bin, q_neg, q_negI, q_not, q_bop, q_ife, q_cmp, q_ix, q_ixn, q_sl, q_sln, q_blt, q_lenn, q_isi, q_lst, q_tup, q_lc, q_push, q_pop, q_evc, q_to0, q_to1, q_o0, q_o1, q_intD, q_a0, q_a1, q_tnt, q_tbop, q_tcmp, q_chn, q_tchn, q_tval, q_tnm, q_iseq, q_irng, q_ienu, q_izip, q_iez, q_irev, q_sset, q_stgt, q_spro, q_spar, q_sput, q_sret, q_sretn, q_sife, q_swhl, q_sfor, q_sex, q_spass, q_sbrk, q_scnt, q_ss0, q_ss1, q_gonx, q_gort, q_gobk, q_goct, q_add, q_addl, q_addt, q_sub, q_mul, q_mull, q_mult, q_div, q_mod, q_pow, q_eq, q_ne, q_lt, q_le, q_gt, q_ge, q_is1, q_is2, q_is3, q_is4, q_is5, q_tr0, q_trb, q_tri, q_trl, q_trt, q_ixl, q_ixt, q_sll, q_slt, q_sls, q_lenl, q_lent, q_inti, q_absi, q_lisl, q_list, q_tupl, q_tupt, q_all, q_maxl, q_max, q_min, q_itl, q_itt, q_seql, q_seqt, q_rng1, q_rng2, q_enu1, q_enu2, q_end1, q_end2, q_own, q_val, q_st1, q_stt, q_stpr, q_sta0, q_sta1, q_re1, q_re0, q_appA, q_appioA, q_appkA, ↓bind_o, obind_some, List.getElem?_cons_zero, List.getElem?_cons_succ, List.set_cons_zero, List.set_cons_succ, lockS, slotL, Fz.atS, putL, runD, en0, vals, setS, opStop, wipeE, wipeS, restE, restS, plainS, szB_of, posB_of, b62_of, mulB_of, divB_of, powB_of, repB_one, timB_one, flat_one, I_rep, atI_0, atI_1, atI_2, atI_3, atI_4, ixN_of, cut_from, cut_to, eqv_int, eqv_none, shp_int, shp_bool, shp_none, zip_I]
  | some q =>
    obtain ⟨a, b⟩ := q
    rw [hl] at c
    simp (config := {implicitDefEqProofs := false}) (disch := omega) [B_height_of, hN, c, lvD, q_int, q_bl, q_non, q_nm, q_bin, q_neg, q_negI, q_not, q_bop, q_ife, q_cmp, q_ix, q_ixn, q_sl, q_sln, q_blt, q_lenn, q_isi, q_lst, q_tup, q_lc, q_push, q_pop, q_evc, q_to0, q_to1, q_o0, q_o1, q_intD, q_a0, q_a1, q_tnt, q_tbop, q_tcmp, q_chn, q_tchn, q_tval, q_tnm, q_iseq, q_irng, q_ienu, q_izip, q_iez, q_irev, q_sset, q_stgt, q_spro, q_spar, q_sput, q_sret, q_sretn, q_sife, q_swhl, q_sfor, q_sex, q_spass, q_sbrk, q_scnt, q_ss0, q_ss1, q_gonx, q_gort, q_gobk, q_goct, q_add, q_addl, q_addt, q_sub, q_mul, q_mull, q_mult, q_div, q_mod, q_pow, q_eq, q_ne, q_lt, q_le, q_gt, q_ge, q_is1, q_is2, q_is3, q_is4, q_is5, q_tr0, q_trb, q_tri, q_trl, q_trt, q_ixl, q_ixt, q_sll, q_slt, q_sls, q_lenl, q_lent, q_inti, q_absi, q_lisl, q_list, q_tupl, q_tupt, q_all, q_maxl, q_max, q_min, q_itl, q_itt, q_seql, q_seqt, q_rng1, q_rng2, q_enu1, q_enu2, q_end1, q_end2, q_own, q_val, q_st1, q_stt, q_stpr, q_sta0, q_sta1, q_re1, q_re0, q_appA, q_appioA, q_appkA, ↓bind_o, obind_some, List.getElem?_cons_zero, List.getElem?_cons_succ, List.set_cons_zero, List.set_cons_succ, lockS, slotL, Fz.atS, putL, runD, en0, vals, setS, opStop, wipeE, wipeS, restE, restS, plainS, szB_of, posB_of, b62_of, mulB_of, divB_of, powB_of, repB_one, timB_one, flat_one, I_rep, atI_0, atI_1, atI_2, atI_3, atI_4, ixN_of, cut_from, cut_to, eqv_int, eqv_none, shp_int, shp_bool, shp_none, zip_I]
theorem run_lead (hN : N.length = 3) (hL : At fs j false 2 d_level_of) {ds : List D} {z : Bool × D × List D} (h : d_lead_of ds = some z) : runD ⟨N, fs, WW⟩ 60 false (B_lead_of j) ds = some z := by
  obtain ⟨⟨v, k, s⟩, ⟨h0, h1⟩, rfl, rfl⟩ := wordOf_some h
  have c := call_level hL (k := k) h0 h1
  have he : RL.enc ⟨v, k, s⟩ = [.tuple (Rw v), seqOf k s] := rfl
  rw [he]
  dsimp only at c ⊢
  generalize seqOf k s = S at *
  generalize Rw v = V at *
  cases hl : levelR v s with
  | none =>
    rw [hl] at c
    simp (config := {implicitDefEqProofs := false}) (disch := omega) [B_lead_of, hN, c, lvD, q_int, q_bl, q_non, q_nm, q_bin, q_neg, q_negI, q_not, q_bop, q_ife, q_cmp, q_ix, q_ixn, q_sl, q_sln, q_blt, q_lenn, q_isi, q_lst, q_tup, q_lc, q_push, q_pop, q_evc, q_to0, q_to1, q_o0, q_o1, q_intD, q_a0, q_a1, q_tnt, q_tbop, q_tcmp, q_chn, q_tchn, q_tval, q_tnm, q_iseq, q_irng, q_ienu, q_izip, q_iez, q_irev, q_sset, q_stgt, q_spro, q_spar, q_sput, q_sret, q_sretn, q_sife, q_swhl, q_sfor, q_sex, q_spass, q_sbrk, q_scnt, q_ss0, q_ss1, q_gonx, q_gort, q_gobk, q_goct, q_add, q_addl, q_addt, q_sub, q_mul, q_mull, q_mult, q_div, q_mod, q_pow, q_eq, q_ne, q_lt, q_le, q_gt, q_ge, q_is1, q_is2, q_is3, q_is4, q_is5, q_tr0, q_trb, q_tri, q_trl, q_trt, q_ixl, q_ixt, q_sll, q_slt, q_sls, q_lenl, q_lent, q_inti, q_absi, q_lisl, q_list, q_tupl, q_tupt, q_all, q_maxl, q_max, q_min, q_itl, q_itt, q_seql, q_seqt, q_rng1, q_rng2, q_enu1, q_enu2, q_end1, q_end2, q_own, q_val, q_st1, q_stt, q_stpr, q_sta0, q_sta1, q_re1, q_re0, q_appA, q_appioA, q_appkA, ↓bind_o, obind_some, List.getElem?_cons_zero, List.getElem?_cons_succ, List.set_cons_zero, List.set_cons_succ, lockS, slotL, Fz.atS, putL, runD, en0, vals, setS, opStop, wipeE, wipeS, restE, restS, plainS, szB_of, posB_of, b62_of, mulB_of, divB_of, powB_of, repB_one, timB_one, flat_one, I_rep, atI_0, atI_1, atI_2, atI_3, atI_4, ixN_of, cut_from, cut_to, eqv_int, eqv_none, shp_int, shp_bool, shp_none, zip_I]
  | some q =>
    obtain ⟨a, b⟩ := q
    rw [hl] at c
    simp (config := {implicitDefEqProofs := false}) (disch := omega) [B_lead_of, hN, c, lvD, q_int, q_bl, q_non, q_nm, q_bin, q_neg, q_negI, q_not, q_bop, q_ife, q_cmp, q_ix, q_ixn, q_sl, q_sln, q_blt, q_lenn, q_isi, q_lst, q_tup, q_lc, q_push, q_pop, q_evc, q_to0, q_to1, q_o0, q_o1, q_intD, q_a0, q_a1, q_tnt, q_tbop, q_tcmp, q_chn, q_tchn, q_tval, q_tnm, q_iseq, q_irng, q_ienu, q_izip, q_iez, q_irev, q_sset, q_stgt, q_spro, q_spar, q_sput, q_sret, q_sretn, q_sife, q_swhl, q_sfor, q_sex, q_spass, q_sbrk, q_scnt, q_ss0, q_ss1, q_gonx, q_gort, q_gobk, q_goct, q_add, q_addl, q_addt, q_sub, q_mul, q_mull, q_mult, q_div, q_mod, q_pow, q_eq, q_ne, q_lt, q_le, q_gt, q_ge, q_is1, q_is2, q_is3, q_is4, q_is5, q_tr0, q_trb, q_tri, q_trl, q_trt, q_ixl, q_ixt, q_sll, q_slt, q_sls, q_lenl, q_lent, q_inti, q_absi, q_lisl, q_list, q_tupl, q_tupt, q_all, q_maxl, q_max, q_min, q_itl, q_itt, q_seql, q_seqt, q_rng1, q_rng2, q_enu1, q_enu2, q_end1, q_end2, q_own, q_val, q_st1, q_stt, q_stpr, q_sta0, q_sta1, q_re1, q_re0, q_appA, q_appioA, q_appkA, ↓bind_o, obind_some, List.getElem?_cons_zero, List.getElem?_cons_succ, List.set_cons_zero, List.set_cons_succ, lockS, slotL, Fz.atS, putL, runD, en0, vals, setS, opStop, wipeE, wipeS, restE, restS, plainS, szB_of, posB_of, b62_of, mulB_of, divB_of, powB_of, repB_one, timB_one, flat_one, I_rep, atI_0, atI_1, atI_2, atI_3, atI_4, ixN_of, cut_from, cut_to, eqv_int, eqv_none, shp_int, shp_bool, shp_none, zip_I]
theorem run_last_at (hN : N.length = 2) {ds : List D} {z : Bool × D × List D} (h : d_last_at ds = some z) : runD ⟨N, fs, WW⟩ 60 false B_last_at ds = some z := by
  obtain ⟨⟨f, d⟩, _, rfl, rfl⟩ := wordOf_some h
  dsimp only
  cases f with
  | nil => simp (config := {implicitDefEqProofs := false}) (disch := omega) [B_last_at, hN, q_int, q_bl, q_non, q_nm, q_bin, q_neg, q_negI, q_not, q_bop, q_ife, q_cmp, q_ix, q_ixn, q_sl, q_sln, q_blt, q_lenn, q_isi, q_lst, q_tup, q_lc, q_push, q_pop, q_evc, q_to0, q_to1, q_o0, q_o1, q_intD, q_a0, q_a1, q_tnt, q_tbop, q_tcmp, q_chn, q_tchn, q_tval, q_tnm, q_iseq, q_irng, q_ienu, q_izip, q_iez, q_irev, q_sset, q_stgt, q_spro, q_spar, q_sput, q_sret, q_sretn, q_sife, q_swhl, q_sfor, q_sex, q_spass, q_sbrk, q_scnt, q_ss0, q_ss1, q_gonx, q_gort, q_gobk, q_goct, q_add, q_addl, q_addt, q_sub, q_mul, q_mull, q_mult, q_div, q_mod, q_pow, q_eq, q_ne, q_lt, q_le, q_gt, q_ge, q_is1, q_is2, q_is3, q_is4, q_is5, q_tr0, q_trb, q_tri, q_trl, q_trt, q_ixl, q_ixt, q_sll, q_slt, q_sls, q_lenl, q_lent, q_inti, q_absi, q_lisl, q_list, q_tupl, q_tupt, q_all, q_maxl, q_max, q_min, q_itl, q_itt, q_seql, q_seqt, q_rng1, q_rng2, q_enu1, q_enu2, q_end1, q_end2, q_own, q_val, q_st1, q_stt, q_stpr, q_sta0, q_sta1, q_re1, q_re0, q_appA, q_appioA, q_appkA, ↓bind_o, obind_some, List.getElem?_cons_zero, List.getElem?_cons_succ, List.set_cons_zero, List.set_cons_succ, lockS, slotL, Fz.atS, putL, runD, en0, vals, setS, opStop, wipeE, wipeS, restE, restS, plainS, szB_of, posB_of, b62_of, mulB_of, divB_of, powB_of, repB_one, timB_one, flat_one, I_rep, atI_0, atI_1, atI_2, atI_3, atI_4, ixN_of, cut_from, cut_to, eqv_int, eqv_none, shp_int, shp_bool, shp_none, zip_I]
  | cons x f =>
    by_cases e : (((x :: f).length : Nat) : Int) - 1 = d
    · have hat : atI (I (x :: f)) (-1) = some (.int ((x :: f).getLast?.getD 0)) := by
        rw [atI_last1, I_last]
        cases h : (x :: f).getLast? with
        | none => simp at h
        | some y => rfl
      have hlen : ((I (x :: f)).length : Int) - 1 = d := by rw [I_len]; exact e
      have hemp : (I (x :: f)).isEmpty = false := rfl
      rw [if_pos ⟨by simp, e⟩]
      generalize (x :: f).getLast?.getD 0 = y at *
      generalize I (x :: f) = L at *
      simp (config := {implicitDefEqProofs := false}) (disch := omega) [B_last_at, hN, hat, hlen, hemp, q_int, q_bl, q_non, q_nm, q_bin, q_neg, q_negI, q_not, q_bop, q_ife, q_cmp, q_ix, q_ixn, q_sl, q_sln, q_blt, q_lenn, q_isi, q_lst, q_tup, q_lc, q_push, q_pop, q_evc, q_to0, q_to1, q_o0, q_o1, q_intD, q_a0, q_a1, q_tnt, q_tbop, q_tcmp, q_chn, q_tchn, q_tval, q_tnm, q_iseq, q_irng, q_ienu, q_izip, q_iez, q_irev, q_sset, q_stgt, q_spro, q_spar, q_sput, q_sret, q_sretn, q_sife, q_swhl, q_sfor, q_sex, q_spass, q_sbrk, q_scnt, q_ss0, q_ss1, q_gonx, q_gort, q_gobk, q_goct, q_add, q_addl, q_addt, q_sub, q_mul, q_mull, q_mult, q_div, q_mod, q_pow, q_eq, q_ne, q_lt, q_le, q_gt, q_ge, q_is1, q_is2, q_is3, q_is4, q_is5, q_tr0, q_trb, q_tri, q_trl, q_trt, q_ixl, q_ixt, q_sll, q_slt, q_sls, q_lenl, q_lent, q_inti, q_absi, q_lisl, q_list, q_tupl, q_tupt, q_all, q_maxl, q_max, q_min, q_itl, q_itt, q_seql, q_seqt, q_rng1, q_rng2, q_enu1, q_enu2, q_end1, q_end2, q_own, q_val, q_st1, q_stt, q_stpr, q_sta0, q_sta1, q_re1, q_re0, q_appA, q_appioA, q_appkA, ↓bind_o, obind_some, List.getElem?_cons_zero, List.getElem?_cons_succ, List.set_cons_zero, List.set_cons_succ, lockS, slotL, Fz.atS, putL, runD, en0, vals, setS, opStop, wipeE, wipeS, restE, restS, plainS, szB_of, posB_of, b62_of, mulB_of, divB_of, powB_of, repB_one, timB_one, flat_one, I_rep, atI_0, atI_1, atI_2, atI_3, atI_4, ixN_of, cut_from, cut_to, eqv_int, eqv_none, shp_int, shp_bool, shp_none, zip_I]
    · have hlen : ¬ ((I (x :: f)).length : Int) - 1 = d := by rw [I_len]; exact e
      have hlen2 : (((I (x :: f)).length : Int) - 1 == d) = false := beq_false_of_ne hlen
      have hemp : (I (x :: f)).isEmpty = false := rfl
      rw [if_neg (fun q => e q.2)]
      generalize I (x :: f) = L at *
      simp (config := {implicitDefEqProofs := false}) (disch := omega) [B_last_at, hN, hlen, hlen2, hemp, q_int, q_bl, q_non, q_nm, q_bin, q_neg, q_negI, q_not, q_bop, q_ife, q_cmp, q_ix, q_ixn, q_sl, q_sln, q_blt, q_lenn, q_isi, q_lst, q_tup, q_lc, q_push, q_pop, q_evc, q_to0, q_to1, q_o0, q_o1, q_intD, q_a0, q_a1, q_tnt, q_tbop, q_tcmp, q_chn, q_tchn, q_tval, q_tnm, q_iseq, q_irng, q_ienu, q_izip, q_iez, q_irev, q_sset, q_stgt, q_spro, q_spar, q_sput, q_sret, q_sretn, q_sife, q_swhl, q_sfor, q_sex, q_spass, q_sbrk, q_scnt, q_ss0, q_ss1, q_gonx, q_gort, q_gobk, q_goct, q_add, q_addl, q_addt, q_sub, q_mul, q_mull, q_mult, q_div, q_mod, q_pow, q_eq, q_ne, q_lt, q_le, q_gt, q_ge, q_is1, q_is2, q_is3, q_is4, q_is5, q_tr0, q_trb, q_tri, q_trl, q_trt, q_ixl, q_ixt, q_sll, q_slt, q_sls, q_lenl, q_lent, q_inti, q_absi, q_lisl, q_list, q_tupl, q_tupt, q_all, q_maxl, q_max, q_min, q_itl, q_itt, q_seql, q_seqt, q_rng1, q_rng2, q_enu1, q_enu2, q_end1, q_end2, q_own, q_val, q_st1, q_stt, q_stpr, q_sta0, q_sta1, q_re1, q_re0, q_appA, q_appioA, q_appkA, ↓bind_o, obind_some, List.getElem?_cons_zero, List.getElem?_cons_succ, List.set_cons_zero, List.set_cons_succ, lockS, slotL, Fz.atS, putL, runD, en0, vals, setS, opStop, wipeE, wipeS, restE, restS, plainS, szB_of, posB_of, b62_of, mulB_of, divB_of, powB_of, repB_one, timB_one, flat_one, I_rep, atI_0, atI_1, atI_2, atI_3, atI_4, ixN_of, cut_from, cut_to, eqv_int, eqv_none, shp_int, shp_bool, shp_none, zip_I]
theorem call_last (hL : At fs j false 2 d_last_at) {f : List Int} {d : Int} : cAt fs j [.tuple (I f), .int d] = some (false, .int (if f ≠ [] ∧ (f.length : Int) - 1 = d then f.getLast?.getD 0 else 0)) :=
  hL.c rfl (wordOf_at (α := List Int × Int) (fun x y h => by
    obtain ⟨f, d⟩ := x
    obtain ⟨f', d'⟩ := y
    simp only [List.cons.injEq, PyData.int.injEq, PyData.tuple.injEq, I_eq, and_true] at h
    obtain ⟨rfl, rfl⟩ := h
    rfl) (x := (f, d)) trivial)
theorem run_top (hN : N.length = 5) (hH : At fs j false 2 d_height_of) (hL : At fs j' false 2 d_last_at) {ds : List D} {z : Bool × D × List D} (h : d_top_of ds = some z) : runD ⟨N, fs, WW⟩ 60 false (B_top_of j j') ds = some z := by
  obtain ⟨⟨v, k, s⟩, ⟨h0, h1⟩, rfl, rfl⟩ := wordOf_some h
  dsimp only at h0 h1 ⊢
  have c := call_height hH (k := k) h0 h1
  have he : RL.enc ⟨v, k, s⟩ = [.tuple (Rw v), seqOf k s] := rfl
  rw [he]
  have hs := seqOf_seq k s
  cases hl : levelR v s with
  | none =>
    rw [hl] at c
    dsimp only at c
    generalize seqOf k s = S at *
    generalize Rw v = V at *
    simp (config := {implicitDefEqProofs := false}) (disch := omega) [B_top_of, hN, c, q_int, q_bl, q_non, q_nm, q_bin, q_neg, q_negI, q_not, q_bop, q_ife, q_cmp, q_ix, q_ixn, q_sl, q_sln, q_blt, q_lenn, q_isi, q_lst, q_tup, q_lc, q_push, q_pop, q_evc, q_to0, q_to1, q_o0, q_o1, q_intD, q_a0, q_a1, q_tnt, q_tbop, q_tcmp, q_chn, q_tchn, q_tval, q_tnm, q_iseq, q_irng, q_ienu, q_izip, q_iez, q_irev, q_sset, q_stgt, q_spro, q_spar, q_sput, q_sret, q_sretn, q_sife, q_swhl, q_sfor, q_sex, q_spass, q_sbrk, q_scnt, q_ss0, q_ss1, q_gonx, q_gort, q_gobk, q_goct, q_add, q_addl, q_addt, q_sub, q_mul, q_mull, q_mult, q_div, q_mod, q_pow, q_eq, q_ne, q_lt, q_le, q_gt, q_ge, q_is1, q_is2, q_is3, q_is4, q_is5, q_tr0, q_trb, q_tri, q_trl, q_trt, q_ixl, q_ixt, q_sll, q_slt, q_sls, q_lenl, q_lent, q_inti, q_absi, q_lisl, q_list, q_tupl, q_tupt, q_all, q_maxl, q_max, q_min, q_itl, q_itt, q_seql, q_seqt, q_rng1, q_rng2, q_enu1, q_enu2, q_end1, q_end2, q_own, q_val, q_st1, q_stt, q_stpr, q_sta0, q_sta1, q_re1, q_re0, q_appA, q_appioA, q_appkA, ↓bind_o, obind_some, List.getElem?_cons_zero, List.getElem?_cons_succ, List.set_cons_zero, List.set_cons_succ, lockS, slotL, Fz.atS, putL, runD, en0, vals, setS, opStop, wipeE, wipeS, restE, restS, plainS, szB_of, posB_of, b62_of, mulB_of, divB_of, powB_of, repB_one, timB_one, flat_one, I_rep, atI_0, atI_1, atI_2, atI_3, atI_4, ixN_of, cut_from, cut_to, eqv_int, eqv_none, shp_int, shp_bool, shp_none, zip_I]
  | some q =>
    obtain ⟨a, b⟩ := q
    rw [hl] at c
    dsimp only at c
    have hc : ∀ m, lcL (evC ⟨N, fs, WW⟩ (m + 9) (.tup [3, 4]) [3, 4] none (.app j' [(.nm 3), (.bin .Sub (.nm 2) (.nm 4))])) ((v.zip s).map fun q => PyData.tuple [.tuple (I q.1), .int q.2]) ⟨[.val (.tuple (Rw v)), .val (seqOf k s), .val (.int a), .no, .no], []⟩ = some (I (topR a v s), ⟨[.val (.tuple (Rw v)), .val (seqOf k s), .val (.int a), .no, .no], []⟩) := by
      intro m
      rw [show I (topR a v s) = (v.zip s).map fun q => PyData.int (topAt a q.1 q.2) by unfold topR I; rw [List.map_map]; rfl]
      refine lcL_pure _ _ fun q hq => ?_
      have c2 := call_last hL (f := q.1) (d := a - q.2)
      rw [show (if q.1 ≠ [] ∧ (q.1.length : Int) - 1 = a - q.2 then q.1.getLast?.getD 0 else 0) = topAt a q.1 q.2 from rfl] at c2
      generalize topAt a q.1 q.2 = y at *
      simp (config := {implicitDefEqProofs := false}) (disch := omega) [c2, q_int, q_bl, q_non, q_nm, q_bin, q_neg, q_negI, q_not, q_bop, q_ife, q_cmp, q_ix, q_ixn, q_sl, q_sln, q_blt, q_lenn, q_isi, q_lst, q_tup, q_lc, q_push, q_pop, q_evc, q_to0, q_to1, q_o0, q_o1, q_intD, q_a0, q_a1, q_tnt, q_tbop, q_tcmp, q_chn, q_tchn, q_tval, q_tnm, q_iseq, q_irng, q_ienu, q_izip, q_iez, q_irev, q_sset, q_stgt, q_spro, q_spar, q_sput, q_sret, q_sretn, q_sife, q_swhl, q_sfor, q_sex, q_spass, q_sbrk, q_scnt, q_ss0, q_ss1, q_gonx, q_gort, q_gobk, q_goct, q_add, q_addl, q_addt, q_sub, q_mul, q_mull, q_mult, q_div, q_mod, q_pow, q_eq, q_ne, q_lt, q_le, q_gt, q_ge, q_is1, q_is2, q_is3, q_is4, q_is5, q_tr0, q_trb, q_tri, q_trl, q_trt, q_ixl, q_ixt, q_sll, q_slt, q_sls, q_lenl, q_lent, q_inti, q_absi, q_lisl, q_list, q_tupl, q_tupt, q_all, q_maxl, q_max, q_min, q_itl, q_itt, q_seql, q_seqt, q_rng1, q_rng2, q_enu1, q_enu2, q_end1, q_end2, q_own, q_val, q_st1, q_stt, q_stpr, q_sta0, q_sta1, q_re1, q_re0, q_appA, q_appioA, q_appkA, ↓bind_o, obind_some, List.getElem?_cons_zero, List.getElem?_cons_succ, List.set_cons_zero, List.set_cons_succ, lockS, slotL, Fz.atS, putL, runD, en0, vals, setS, opStop, wipeE, wipeS, restE, restS, plainS, szB_of, posB_of, b62_of, mulB_of, divB_of, powB_of, repB_one, timB_one, flat_one, I_rep, atI_0, atI_1, atI_2, atI_3, atI_4, ixN_of, cut_from, cut_to, eqv_int, eqv_none, shp_int, shp_bool, shp_none, zip_I]
    rw [← zip_RwI] at hc
    show _ = some (false, PyData.tuple (I (topR a v s)), [])
    have hz : (zipD (Rw v) (I s)).length ≤ 100 := by rw [zipD_len, Rw_len, I_len]; omega
    generalize seqOf k s = S at *
    generalize Rw v = V at *
    generalize topR a v s = t at *
    simp (config := {implicitDefEqProofs := false}) (disch := omega) [B_top_of, hN, c, hs, hc, hz, q_int, q_bl, q_non, q_nm, q_bin, q_neg, q_negI, q_not, q_bop, q_ife, q_cmp, q_ix, q_ixn, q_sl, q_sln, q_blt, q_lenn, q_isi, q_lst, q_tup, q_lc, q_push, q_pop, q_evc, q_to0, q_to1, q_o0, q_o1, q_intD, q_a0, q_a1, q_tnt, q_tbop, q_tcmp, q_chn, q_tchn, q_tval, q_tnm, q_iseq, q_irng, q_ienu, q_izip, q_iez, q_irev, q_sset, q_stgt, q_spro, q_spar, q_sput, q_sret, q_sretn, q_sife, q_swhl, q_sfor, q_sex, q_spass, q_sbrk, q_scnt, q_ss0, q_ss1, q_gonx, q_gort, q_gobk, q_goct, q_add, q_addl, q_addt, q_sub, q_mul, q_mull, q_mult, q_div, q_mod, q_pow, q_eq, q_ne, q_lt, q_le, q_gt, q_ge, q_is1, q_is2, q_is3, q_is4, q_is5, q_tr0, q_trb, q_tri, q_trl, q_trt, q_ixl, q_ixt, q_sll, q_slt, q_sls, q_lenl, q_lent, q_inti, q_absi, q_lisl, q_list, q_tupl, q_tupt, q_all, q_maxl, q_max, q_min, q_itl, q_itt, q_seql, q_seqt, q_rng1, q_rng2, q_enu1, q_enu2, q_end1, q_end2, q_own, q_val, q_st1, q_stt, q_stpr, q_sta0, q_sta1, q_re1, q_re0, q_appA, q_appioA, q_appkA, ↓bind_o, obind_some, List.getElem?_cons_zero, List.getElem?_cons_succ, List.set_cons_zero, List.set_cons_succ, lockS, slotL, Fz.atS, putL, runD, en0, vals, setS, opStop, wipeE, wipeS, restE, restS, plainS, szB_of, posB_of, b62_of, mulB_of, divB_of, powB_of, repB_one, timB_one, flat_one, I_rep, atI_0, atI_1, atI_2, atI_3, atI_4, ixN_of, cut_from, cut_to, eqv_int, eqv_none, shp_int, shp_bool, shp_none, zip_I]
end W1
set_option Elab.async false
set_option linter.all false
set_option maxRecDepth 100000
set_option maxHeartbeats 2000000
namespace W1
open PySem PySem.Spec PyProof.Rows L2 Fz
variable {fs : List (Str × Fn)} {N : List Str} {j j' j'' : Nat}
/-! ### sums of rows times forms -/
def Rws (vs : List (List (List Int))) : List D := vs.map fun v => .tuple (Rw v)
@[simp] theorem Rws_nil : Rws [] = [] := rfl
@[simp] theorem Rws_cons (v : List (List Int)) (vs : List (List (List Int))) : Rws (v :: vs) = .tuple (Rw v) :: Rws vs := rfl
@[simp] theorem Rws_len (vs : List (List (List Int))) : (Rws vs).length = vs.length := by simp [Rws]
theorem Rws_inj : ∀ {v w : List (List (List Int))}, Rws v = Rws w → v = w
  | [], [], _ => rfl
  | [], _ :: _, h => by cases h
  | _ :: _, [], h => by cases h
  | f :: v, g :: w, h => by
    simp only [Rws_cons, List.cons.injEq, PyData.tuple.injEq] at h
    rw [Rw_inj h.1, Rws_inj h.2]
@[simp] theorem Rws_eq {v w : List (List (List Int))} : (Rws v = Rws w) = (v = w) := propext ⟨Rws_inj, fun h => by rw [h]⟩
theorem zip_Rws : ∀ (v : List (List Int)) (w : List (List (List Int))), zipD (Rw v) (Rws w) = (v.zip w).map fun q => .tuple [.tuple (I q.1), .tuple (Rw q.2)]
  | [], _ => rfl
  | _ :: _, [] => rfl
  | x :: v, y :: w => by
    show PyData.tuple [.tuple (I x), .tuple (Rw y)] :: zipD (Rw v) (Rws w) = PyData.tuple [.tuple (I x), .tuple (Rw y)] :: ((v.zip w).map fun q => PyData.tuple [.tuple (I q.1), .tuple (Rw q.2)])
    rw [zip_Rws v w]
def listOf (k : Bool) (l : List D) : D := if k then .list l else .tuple l
theorem listOf_seq (k : Bool) (s : List D) : seqD (listOf k s) = some (k, s) := by cases k <;> rfl
def cm_body (j j' : Nat) : List RS := [.set 3 (.app j [(.nm 0), (.nm 3), (.app j' [(.nm 0), (.nm 5), (.nm 4)])])]
def B_combined (j j' j'' : Nat) : List RS := [.set 3 (.app j [(.blt .len [(.ixn 2 (.int 0))])]), .for (.tup [4, 5]) (.zip (.nm 1) (.nm 2)) (cm_body j' j''), .ret (.nm 3)]
def qc_body (j j' : Nat) : List RS := [.ife (.cmp .Gt (.lenn 5) (.int 0)) [.set 4 (.app j [(.nm 0), (.nm 4), (.app j' [(.nm 0), (.nm 6), (.nm 5)])])] []]
def B_q_comb (j j' j'' : Nat) : List RS := [.set 4 (.app j [(.nm 3)]), .for (.tup [5, 6]) (.zip (.nm 1) (.nm 2)) (qc_body j' j''), .ret (.nm 4)]
def B_q_none : List RS := [.ret (.blt .tuple [(.bin .Mult (.lst [(.tup [])]) (.nm 0))])]
noncomputable section
structure RC where
  p : Int
  k : Bool
  f : List (List Int)
  k' : Bool
  v : List (List Int)
  vs : List (List (List Int))
def RC.enc (x : RC) : List D := [.int x.p, listOf x.k (Rw x.f), listOf x.k' (Rws (x.v :: x.vs))]
def RC.ok (x : RC) : Prop := 0 < x.p ∧ x.p < 100 ∧ x.f.length ≤ 100 ∧ (∀ f ∈ x.f, isForm x.p f ∧ f.length ≤ 100) ∧ ∀ w ∈ x.v :: x.vs, isRow x.p 100 w ∧ w.length = x.v.length
def d_combined := wordOf RC.enc RC.ok fun x => (false, .tuple (Rw (combR x.p x.v.length x.f (x.v :: x.vs))), [])
structure RQ where
  p : Int
  f : List (List Int)
  vs : List (List (List Int))
  m : Nat
def RQ.enc (x : RQ) : List D := [.int x.p, .list (Rw x.f), .list (Rws x.vs), .int x.m]
def RQ.ok (x : RQ) : Prop := 0 < x.p ∧ x.p < 100 ∧ x.m ≤ 100 ∧ x.f.length ≤ 100 ∧ (∀ f ∈ x.f, isForm x.p f ∧ f.length ≤ 100) ∧ ∀ w ∈ x.vs, isRow x.p 100 w ∧ w.length = x.m
def d_q_comb := wordOf RQ.enc RQ.ok fun x => (false, .tuple (Rw (combR x.p x.m x.f x.vs)), [])
end
theorem RC.inj : ∀ x y : RC, RC.enc x = RC.enc y → x = y := by
  rintro ⟨p, k, f, l, v, vs⟩ ⟨p', k', f', l', v', vs'⟩ h
  cases k <;> cases k' <;> cases l <;> cases l' <;> simp only [RC.enc, listOf, Rws_cons, List.cons.injEq, PyData.int.injEq, PyData.list.injEq, PyData.tuple.injEq, Rw_eq, Rws_eq, and_true, if_true, if_false, Bool.false_eq_true, reduceCtorEq, and_false, false_and] at h
  all_goals (obtain ⟨rfl, rfl, rfl, rfl⟩ := h; rfl)
theorem RQ.inj : ∀ x y : RQ, RQ.enc x = RQ.enc y → x = y := by
  rintro ⟨p, f, vs, m⟩ ⟨p', f', vs', m'⟩ h
  simp only [RQ.enc, List.cons.injEq, PyData.int.injEq, PyData.list.injEq, Rw_eq, Rws_eq, and_true, Int.natCast_inj] at h
  obtain ⟨rfl, rfl, rfl, rfl⟩ := h
  rfl
theorem call_zero_row (h : At fs j false 1 d_zero_row) {n : Nat} (hn : n ≤ 100) : cAt fs j [.int n] = some (false, .tuple (Rw (zeroR n))) :=
  h.c rfl (wordOf_at (α := Nat) (enc := fun n => [.int n]) (fun x y e => by simp only [List.cons.injEq, PyData.int.injEq, and_true, Int.natCast_inj] at e; exact e) (x := n) hn)
theorem call_add_rows (h : At fs j false 3 d_add_rows) {p : Int} {v w : List (List Int)} (h0 : 0 < p) (h1 : p < 100) (hv : isRow p 10000 v) (hw : isRow p 10000 w) : cAt fs j [.int p, .tuple (Rw v), .tuple (Rw w)] = some (false, .tuple (Rw (addR p v w))) :=
  h.c rfl (wordOf_at RR2.inj (x := ⟨p, v, w⟩) ⟨h0, h1, hv, hw⟩)
theorem call_sub_rows (h : At fs j false 3 d_sub_rows) {p : Int} {v w : List (List Int)} (h0 : 0 < p) (h1 : p < 100) (hv : isRow p 10000 v) (hw : isRow p 10000 w) : cAt fs j [.int p, .tuple (Rw v), .tuple (Rw w)] = some (false, .tuple (Rw (subR p v w))) :=
  h.c rfl (wordOf_at RR2.inj (x := ⟨p, v, w⟩) ⟨h0, h1, hv, hw⟩)
theorem call_product (h : At fs j false 3 d_product) {p : Int} {v w : List (List Int)} (h0 : 0 < p) (h1 : p < 100) (hv : isRow p 10000 v) (hw : isRow p 10000 w) : cAt fs j [.int p, .tuple (Rw v), .tuple (Rw w)] = some (false, .tuple (I (dotR p v w))) :=
  h.c rfl (wordOf_at RR2.inj (x := ⟨p, v, w⟩) ⟨h0, h1, hv, hw⟩)
theorem call_row_times (h : At fs j false 3 d_row_times) {p : Int} {v : List (List Int)} {f : List Int} (h0 : 0 < p) (h1 : p < 100) (hv : isRow p 10000 v) (hf : isForm p f) (lf : f.length ≤ 10000) : cAt fs j [.int p, .tuple (Rw v), .tuple (I f)] = some (false, .tuple (Rw (mulR p v f))) :=
  h.c rfl (wordOf_at RF.inj (x := ⟨p, v, f⟩) ⟨h0, h1, hv, hf, lf⟩)
theorem call_unit_row (h : At fs j false 2 d_unit_row) {n : Nat} {k : Int} (hn : n ≤ 100) : cAt fs j [.int n, .int k] = some (false, .tuple (Rw (unitR n k))) :=
  h.c rfl (wordOf_at (α := Nat × Int) (enc := fun x => [.int x.1, .int x.2]) (fun x y e => by
    obtain ⟨a, b⟩ := x
    obtain ⟨c, d⟩ := y
    simp only [List.cons.injEq, PyData.int.injEq, and_true, Int.natCast_inj] at e
    obtain ⟨rfl, rfl⟩ := e
    rfl) (x := (n, k)) hn)
theorem call_combined (h : At fs j false 3 d_combined) {p : Int} {f : List (List Int)} {v : List (List Int)} {vs : List (List (List Int))} (k k' : Bool) (h0 : 0 < p) (h1 : p < 100) (lf : f.length ≤ 100) (hf : ∀ g ∈ f, isForm p g ∧ g.length ≤ 100) (hv : ∀ w ∈ v :: vs, isRow p 100 w ∧ w.length = v.length) : cAt fs j [.int p, listOf k (Rw f), listOf k' (Rws (v :: vs))] = some (false, .tuple (Rw (combR p v.length f (v :: vs)))) :=
  h.c rfl (wordOf_at RC.inj (x := ⟨p, k, f, k', v, vs⟩) ⟨h0, h1, lf, hf, hv⟩)
theorem call_q_comb (h : At fs j false 4 d_q_comb) {p : Int} {f : List (List Int)} {vs : List (List (List Int))} {m : Nat} (h0 : 0 < p) (h1 : p < 100) (hm : m ≤ 100) (lf : f.length ≤ 100) (hf : ∀ g ∈ f, isForm p g ∧ g.length ≤ 100) (hv : ∀ w ∈ vs, isRow p 100 w ∧ w.length = m) : cAt fs j [.int p, .list (Rw f), .list (Rws vs), .int m] = some (false, .tuple (Rw (combR p m f vs))) :=
  h.c rfl (wordOf_at RQ.inj (x := ⟨p, f, vs, m⟩) ⟨h0, h1, hm, lf, hf, hv⟩)
theorem run_q_none (hN : N.length = 1) {ds : List D} {z : Bool × D × List D} (h : d_zero_row ds = some z) : runD ⟨N, fs, WW⟩ 60 false B_q_none ds = some z := by
  obtain ⟨n, hn, rfl, rfl⟩ := wordOf_some h
  have hn' : n ≤ 100 := hn
  have h2 : Rw (zeroR n) = List.replicate n (PyData.tuple []) := by unfold Rw zeroR; rw [List.map_replicate]; rfl
  rw [h2]
  simp (config := {implicitDefEqProofs := false}) (disch := omega) [B_q_none, hN, q_int, q_bl, q_non, q_nm, q_bin, q_neg, q_negI, q_not, q_bop, q_ife, q_cmp, q_ix, q_ixn, q_sl, q_sln, q_blt, q_lenn, q_isi, q_lst, q_tup, q_lc, q_push, q_pop, q_evc, q_to0, q_to1, q_o0, q_o1, q_intD, q_a0, q_a1, q_tnt, q_tbop, q_tcmp, q_chn, q_tchn, q_tval, q_tnm, q_iseq, q_irng, q_ienu, q_izip, q_iez, q_irev, q_sset, q_stgt, q_spro, q_spar, q_sput, q_sret, q_sretn, q_sife, q_swhl, q_sfor, q_sex, q_spass, q_sbrk, q_scnt, q_ss0, q_ss1, q_gonx, q_gort, q_gobk, q_goct, q_add, q_addl, q_addt, q_sub, q_mul, q_mull, q_mult, q_div, q_mod, q_pow, q_eq, q_ne, q_lt, q_le, q_gt, q_ge, q_is1, q_is2, q_is3, q_is4, q_is5, q_tr0, q_trb, q_tri, q_trl, q_trt, q_ixl, q_ixt, q_sll, q_slt, q_sls, q_lenl, q_lent, q_inti, q_absi, q_lisl, q_list, q_tupl, q_tupt, q_all, q_maxl, q_max, q_min, q_itl, q_itt, q_seql, q_seqt, q_rng1, q_rng2, q_enu1, q_enu2, q_end1, q_end2, q_own, q_val, q_st1, q_stt, q_stpr, q_sta0, q_sta1, q_re1, q_re0, q_appA, q_appioA, q_appkA, ↓bind_o, obind_some, List.getElem?_cons_zero, List.getElem?_cons_succ, List.set_cons_zero, List.set_cons_succ, lockS, slotL, Fz.atS, putL, runD, en0, vals, setS, opStop, wipeE, wipeS, restE, restS, plainS, szB_of, posB_of, b62_of, mulB_of, divB_of, powB_of, repB_one, timB_one, flat_one, I_rep, atI_0, atI_1, atI_2, atI_3, atI_4, ixN_of, cut_from, cut_to, eqv_int, eqv_none, shp_int, shp_bool, shp_none, zip_I]
theorem cm_step (hA : At fs j false 3 d_add_rows) (hM : At fs j' false 3 d_row_times) (n : Nat) {p : Int} {t v : List (List Int)} {f : List Int} {V W a b : Sl} (h0 : 0 < p) (h1 : p < 100) (ht : isRow p 200 t) (hf : isForm p f) (lf : f.length ≤ 100) (hv : isRow p 100 v) :
    bodyF ⟨N, fs, WW⟩ (n + 20) (.tup [4, 5]) (cm_body j j') (.tuple [.tuple (I f), .tuple (Rw v)]) ⟨[.val (.int p), V, W, .val (.tuple (Rw t)), a, b], []⟩ = some (.nx ⟨[.val (.int p), V, W, .val (.tuple (Rw (addR p t (mulR p v f)))), .val (.tuple (I f)), .val (.tuple (Rw v))], []⟩) := by
  have c1 := call_row_times hM h0 h1 (hv.up (by omega)) hf (Nat.le_trans lf (by omega))
  have c2 := call_add_rows hA h0 h1 (ht.up (by omega)) ((mulR_row h0 hv lf).up (by omega))
  unfold cm_body
  simp (config := {implicitDefEqProofs := false}) (disch := omega) [bodyF, c1, c2, q_int, q_bl, q_non, q_nm, q_bin, q_neg, q_negI, q_not, q_bop, q_ife, q_cmp, q_ix, q_ixn, q_sl, q_sln, q_blt, q_lenn, q_isi, q_lst, q_tup, q_lc, q_push, q_pop, q_evc, q_to0, q_to1, q_o0, q_o1, q_intD, q_a0, q_a1, q_tnt, q_tbop, q_tcmp, q_chn, q_tchn, q_tval, q_tnm, q_iseq, q_irng, q_ienu, q_izip, q_iez, q_irev, q_sset, q_stgt, q_spro, q_spar, q_sput, q_sret, q_sretn, q_sife, q_swhl, q_sfor, q_sex, q_spass, q_sbrk, q_scnt, q_ss0, q_ss1, q_gonx, q_gort, q_gobk, q_goct, q_add, q_addl, q_addt, q_sub, q_mul, q_mull, q_mult, q_div, q_mod, q_pow, q_eq, q_ne, q_lt, q_le, q_gt, q_ge, q_is1, q_is2, q_is3, q_is4, q_is5, q_tr0, q_trb, q_tri, q_trl, q_trt, q_ixl, q_ixt, q_sll, q_slt, q_sls, q_lenl, q_lent, q_inti, q_absi, q_lisl, q_list, q_tupl, q_tupt, q_all, q_maxl, q_max, q_min, q_itl, q_itt, q_seql, q_seqt, q_rng1, q_rng2, q_enu1, q_enu2, q_end1, q_end2, q_own, q_val, q_st1, q_stt, q_stpr, q_sta0, q_sta1, q_re1, q_re0, q_appA, q_appioA, q_appkA, ↓bind_o, obind_some, List.getElem?_cons_zero, List.getElem?_cons_succ, List.set_cons_zero, List.set_cons_succ, lockS, slotL, Fz.atS, putL, runD, en0, vals, setS, opStop, wipeE, wipeS, restE, restS, plainS, szB_of, posB_of, b62_of, mulB_of, divB_of, powB_of, repB_one, timB_one, flat_one, I_rep, atI_0, atI_1, atI_2, atI_3, atI_4, ixN_of, cut_from, cut_to, eqv_int, eqv_none, shp_int, shp_bool, shp_none, zip_I]
theorem cm_loop (hA : At fs j false 3 d_add_rows) (hM : At fs j' false 3 d_row_times) (n : Nat) {p : Int} {V W : Sl} (h0 : 0 < p) (h1 : p < 100) : ∀ (l : List (List Int × List (List Int))) (t : List (List Int)) (a b : Sl), isRow p 200 t → (∀ q ∈ l, isForm p q.1 ∧ q.1.length ≤ 100 ∧ isRow p 100 q.2) →
    ∃ a' b', forL (bodyF ⟨N, fs, WW⟩ (n + 20) (.tup [4, 5]) (cm_body j j')) (l.map fun q => PyData.tuple [.tuple (I q.1), .tuple (Rw q.2)]) ⟨[.val (.int p), V, W, .val (.tuple (Rw t)), a, b], []⟩ = some (.nx ⟨[.val (.int p), V, W, .val (.tuple (Rw (l.foldl (fun t q => addR p t (mulR p q.2 q.1)) t))), a', b'], []⟩) := by
  intro l
  induction l with
  | nil => intro t a b _ _; exact ⟨a, b, rfl⟩
  | cons q l IH =>
    intro t a b ht hl
    obtain ⟨q1, q2, q3⟩ := hl q List.mem_cons_self
    obtain ⟨a', b', ih⟩ := IH (addR p t (mulR p q.2 q.1)) (.val (.tuple (I q.1))) (.val (.tuple (Rw q.2))) ((addR_row h0 ht (mulR_row h0 q3 q2)).up (by omega)) fun r hr => hl r (List.mem_cons_of_mem _ hr)
    refine ⟨a', b', ?_⟩
    rw [List.map_cons, forL_nx (cm_step hA hM n h0 h1 ht q1 q2 q3)]
    exact ih
theorem run_combined (hN : N.length = 6) (hZ : At fs j false 1 d_zero_row) (hA : At fs j' false 3 d_add_rows) (hM : At fs j'' false 3 d_row_times) {ds : List D} {z : Bool × D × List D} (h : d_combined ds = some z) : runD ⟨N, fs, WW⟩ 60 false (B_combined j j' j'') ds = some z := by
  obtain ⟨⟨p, k, f, k', v, vs⟩, ⟨h0, h1, lf, hf, hv⟩, rfl, rfl⟩ := wordOf_some h
  dsimp only at h0 h1 lf hf hv
  have hv0 := (hv v List.mem_cons_self).1
  obtain ⟨a', b', hl⟩ := cm_loop (N := N) hA hM 37 (V := .val (listOf k (Rw f))) (W := .val (listOf k' (Rws (v :: vs)))) h0 h1 (f.zip (v :: vs)) (zeroR v.length) .no .no ((zeroR_row p hv0.1).up (by omega)) fun q hq => by
    obtain ⟨m1, m2⟩ := List.of_mem_zip hq
    exact ⟨(hf _ m1).1, (hf _ m1).2, (hv _ m2).1⟩
  change forL (bodyF _ 57 _ _) _ _ = _ at hl
  have c0 := call_zero_row hZ hv0.1
  unfold cm_body at hl
  rw [← zip_Rws] at hl
  have he : RC.enc ⟨p, k, f, k', v, vs⟩ = [.int p, listOf k (Rw f), listOf k' (Rws (v :: vs))] := rfl
  rw [he]
  dsimp only
  rw [show (f.zip (v :: vs)).foldl (fun t q => addR p t (mulR p q.2 q.1)) (zeroR v.length) = combR p v.length f (v :: vs) from rfl] at hl
  have hlen : (Rw v).length = v.length := Rw_len v
  generalize combR p v.length f (v :: vs) = R at *
  generalize zeroR v.length = Z at *
  rw [← Rw_len v] at c0
  rw [Rws_cons] at *
  generalize Rw v = V at *
  generalize Rw f = F at *
  generalize Rws vs = W at *
  cases k <;> cases k' <;> unfold listOf at * <;> simp only [if_true, if_false, Bool.false_eq_true] at *
  · simp (config := {implicitDefEqProofs := false}) (disch := omega) [B_combined, cm_body, hN, hl, c0, q_int, q_bl, q_non, q_nm, q_bin, q_neg, q_negI, q_not, q_bop, q_ife, q_cmp, q_ix, q_ixn, q_sl, q_sln, q_blt, q_lenn, q_isi, q_lst, q_tup, q_lc, q_push, q_pop, q_evc, q_to0, q_to1, q_o0, q_o1, q_intD, q_a0, q_a1, q_tnt, q_tbop, q_tcmp, q_chn, q_tchn, q_tval, q_tnm, q_iseq, q_irng, q_ienu, q_izip, q_iez, q_irev, q_sset, q_stgt, q_spro, q_spar, q_sput, q_sret, q_sretn, q_sife, q_swhl, q_sfor, q_sex, q_spass, q_sbrk, q_scnt, q_ss0, q_ss1, q_gonx, q_gort, q_gobk, q_goct, q_add, q_addl, q_addt, q_sub, q_mul, q_mull, q_mult, q_div, q_mod, q_pow, q_eq, q_ne, q_lt, q_le, q_gt, q_ge, q_is1, q_is2, q_is3, q_is4, q_is5, q_tr0, q_trb, q_tri, q_trl, q_trt, q_ixl, q_ixt, q_sll, q_slt, q_sls, q_lenl, q_lent, q_inti, q_absi, q_lisl, q_list, q_tupl, q_tupt, q_all, q_maxl, q_max, q_min, q_itl, q_itt, q_seql, q_seqt, q_rng1, q_rng2, q_enu1, q_enu2, q_end1, q_end2, q_own, q_val, q_st1, q_stt, q_stpr, q_sta0, q_sta1, q_re1, q_re0, q_appA, q_appioA, q_appkA, ↓bind_o, obind_some, List.getElem?_cons_zero, List.getElem?_cons_succ, List.set_cons_zero, List.set_cons_succ, lockS, slotL, Fz.atS, putL, runD, en0, vals, setS, opStop, wipeE, wipeS, restE, restS, plainS, szB_of, posB_of, b62_of, mulB_of, divB_of, powB_of, repB_one, timB_one, flat_one, I_rep, atI_0, atI_1, atI_2, atI_3, atI_4, ixN_of, cut_from, cut_to, eqv_int, eqv_none, shp_int, shp_bool, shp_none, zip_I]
  · simp (config := {implicitDefEqProofs := false}) (disch := omega) [B_combined, cm_body, hN, hl, c0, q_int, q_bl, q_non, q_nm, q_bin, q_neg, q_negI, q_not, q_bop, q_ife, q_cmp, q_ix, q_ixn, q_sl, q_sln, q_blt, q_lenn, q_isi, q_lst, q_tup, q_lc, q_push, q_pop, q_evc, q_to0, q_to1, q_o0, q_o1, q_intD, q_a0, q_a1, q_tnt, q_tbop, q_tcmp, q_chn, q_tchn, q_tval, q_tnm, q_iseq, q_irng, q_ienu, q_izip, q_iez, q_irev, q_sset, q_stgt, q_spro, q_spar, q_sput, q_sret, q_sretn, q_sife, q_swhl, q_sfor, q_sex, q_spass, q_sbrk, q_scnt, q_ss0, q_ss1, q_gonx, q_gort, q_gobk, q_goct, q_add, q_addl, q_addt, q_sub, q_mul, q_mull, q_mult, q_div, q_mod, q_pow, q_eq, q_ne, q_lt, q_le, q_gt, q_ge, q_is1, q_is2, q_is3, q_is4, q_is5, q_tr0, q_trb, q_tri, q_trl, q_trt, q_ixl, q_ixt, q_sll, q_slt, q_sls, q_lenl, q_lent, q_inti, q_absi, q_lisl, q_list, q_tupl, q_tupt, q_all, q_maxl, q_max, q_min, q_itl, q_itt, q_seql, q_seqt, q_rng1, q_rng2, q_enu1, q_enu2, q_end1, q_end2, q_own, q_val, q_st1, q_stt, q_stpr, q_sta0, q_sta1, q_re1, q_re0, q_appA, q_appioA, q_appkA, ↓bind_o, obind_some, List.getElem?_cons_zero, List.getElem?_cons_succ, List.set_cons_zero, List.set_cons_succ, lockS, slotL, Fz.atS, putL, runD, en0, vals, setS, opStop, wipeE, wipeS, restE, restS, plainS, szB_of, posB_of, b62_of, mulB_of, divB_of, powB_of, repB_one, timB_one, flat_one, I_rep, atI_0, atI_1, atI_2, atI_3, atI_4, ixN_of, cut_from, cut_to, eqv_int, eqv_none, shp_int, shp_bool, shp_none, zip_I]
  · simp (config := {implicitDefEqProofs := false}) (disch := omega) [B_combined, cm_body, hN, hl, c0, q_int, q_bl, q_non, q_nm, q_bin, q_neg, q_negI, q_not, q_bop, q_ife, q_cmp, q_ix, q_ixn, q_sl, q_sln, q_blt, q_lenn, q_isi, q_lst, q_tup, q_lc, q_push, q_pop, q_evc, q_to0, q_to1, q_o0, q_o1, q_intD, q_a0, q_a1, q_tnt, q_tbop, q_tcmp, q_chn, q_tchn, q_tval, q_tnm, q_iseq, q_irng, q_ienu, q_izip, q_iez, q_irev, q_sset, q_stgt, q_spro, q_spar, q_sput, q_sret, q_sretn, q_sife, q_swhl, q_sfor, q_sex, q_spass, q_sbrk, q_scnt, q_ss0, q_ss1, q_gonx, q_gort, q_gobk, q_goct, q_add, q_addl, q_addt, q_sub, q_mul, q_mull, q_mult, q_div, q_mod, q_pow, q_eq, q_ne, q_lt, q_le, q_gt, q_ge, q_is1, q_is2, q_is3, q_is4, q_is5, q_tr0, q_trb, q_tri, q_trl, q_trt, q_ixl, q_ixt, q_sll, q_slt, q_sls, q_lenl, q_lent, q_inti, q_absi, q_lisl, q_list, q_tupl, q_tupt, q_all, q_maxl, q_max, q_min, q_itl, q_itt, q_seql, q_seqt, q_rng1, q_rng2, q_enu1, q_enu2, q_end1, q_end2, q_own, q_val, q_st1, q_stt, q_stpr, q_sta0, q_sta1, q_re1, q_re0, q_appA, q_appioA, q_appkA, ↓bind_o, obind_some, List.getElem?_cons_zero, List.getElem?_cons_succ, List.set_cons_zero, List.set_cons_succ, lockS, slotL, Fz.atS, putL, runD, en0, vals, setS, opStop, wipeE, wipeS, restE, restS, plainS, szB_of, posB_of, b62_of, mulB_of, divB_of, powB_of, repB_one, timB_one, flat_one, I_rep, atI_0, atI_1, atI_2, atI_3, atI_4, ixN_of, cut_from, cut_to, eqv_int, eqv_none, shp_int, shp_bool, shp_none, zip_I]
  · simp (config := {implicitDefEqProofs := false}) (disch := omega) [B_combined, cm_body, hN, hl, c0, q_int, q_bl, q_non, q_nm, q_bin, q_neg, q_negI, q_not, q_bop, q_ife, q_cmp, q_ix, q_ixn, q_sl, q_sln, q_blt, q_lenn, q_isi, q_lst, q_tup, q_lc, q_push, q_pop, q_evc, q_to0, q_to1, q_o0, q_o1, q_intD, q_a0, q_a1, q_tnt, q_tbop, q_tcmp, q_chn, q_tchn, q_tval, q_tnm, q_iseq, q_irng, q_ienu, q_izip, q_iez, q_irev, q_sset, q_stgt, q_spro, q_spar, q_sput, q_sret, q_sretn, q_sife, q_swhl, q_sfor, q_sex, q_spass, q_sbrk, q_scnt, q_ss0, q_ss1, q_gonx, q_gort, q_gobk, q_goct, q_add, q_addl, q_addt, q_sub, q_mul, q_mull, q_mult, q_div, q_mod, q_pow, q_eq, q_ne, q_lt, q_le, q_gt, q_ge, q_is1, q_is2, q_is3, q_is4, q_is5, q_tr0, q_trb, q_tri, q_trl, q_trt, q_ixl, q_ixt, q_sll, q_slt, q_sls, q_lenl, q_lent, q_inti, q_absi, q_lisl, q_list, q_tupl, q_tupt, q_all, q_maxl, q_max, q_min, q_itl, q_itt, q_seql, q_seqt, q_rng1, q_rng2, q_enu1, q_enu2, q_end1, q_end2, q_own, q_val, q_st1, q_stt, q_stpr, q_sta0, q_sta1, q_re1, q_re0, q_appA, q_appioA, q_appkA, ↓bind_o, obind_some, List.getElem?_cons_zero, List.getElem?_cons_succ, List.set_cons_zero, List.set_cons_succ, lockS, slotL, Fz.atS, putL, runD, en0, vals, setS, opStop, wipeE, wipeS, restE, restS, plainS, szB_of, posB_of, b62_of, mulB_of, divB_of, powB_of, repB_one, timB_one, flat_one, I_rep, atI_0, atI_1, atI_2, atI_3, atI_4, ixN_of, cut_from, cut_to, eqv_int, eqv_none, shp_int, shp_bool, shp_none, zip_I]
/-! the law's: empty forms are passed over -/
theorem zadd_nil_r (f : List Int) : zadd f [] = f := by unfold zadd; simp
theorem formOf_self {p : Int} {f : List Int} (h : isForm p f) : formOf p f = f := by
  unfold formOf
  have : f.map (· % p) = f := by
    conv => rhs; rw [← List.map_id f]
    refine List.map_congr_left fun x hx => ?_
    exact Int.emod_eq_of_lt (h.1 x hx).1 (h.1 x hx).2
  rw [this]
  exact h.2
theorem addR_zero {p : Int} : ∀ {t v : List (List Int)}, t.length = v.length → (∀ f ∈ t, isForm p f) → addR p t (mulR p v []) = t
  | [], _, _, _ => rfl
  | _ :: _, [], e, _ => by cases e
  | f :: t, g :: v, e, h => by
    have ih := addR_zero (p := p) (t := t) (v := v) (by simpa using e) fun x hx => h x (List.mem_cons_of_mem _ hx)
    show formOf p (zadd f (pm p [] g)) :: addR p t (mulR p v []) = f :: t
    rw [ih]
    rw [show pm p [] g = [] from rfl, zadd_nil_r, formOf_self (h f List.mem_cons_self)]
theorem qc_step0 (n : Nat) {v : List (List Int)} {P V W M T a b : Sl} :
    bodyF ⟨N, fs, WW⟩ (n + 20) (.tup [5, 6]) (qc_body j j') (.tuple [.tuple (I []), .tuple (Rw v)]) ⟨[P, V, W, M, T, a, b], []⟩ = some (.nx ⟨[P, V, W, M, T, .val (.tuple (I [])), .val (.tuple (Rw v))], []⟩) := by
  unfold qc_body
  simp (config := {implicitDefEqProofs := false}) (disch := omega) [bodyF, q_int, q_bl, q_non, q_nm, q_bin, q_neg, q_negI, q_not, q_bop, q_ife, q_cmp, q_ix, q_ixn, q_sl, q_sln, q_blt, q_lenn, q_isi, q_lst, q_tup, q_lc, q_push, q_pop, q_evc, q_to0, q_to1, q_o0, q_o1, q_intD, q_a0, q_a1, q_tnt, q_tbop, q_tcmp, q_chn, q_tchn, q_tval, q_tnm, q_iseq, q_irng, q_ienu, q_izip, q_iez, q_irev, q_sset, q_stgt, q_spro, q_spar, q_sput, q_sret, q_sretn, q_sife, q_swhl, q_sfor, q_sex, q_spass, q_sbrk, q_scnt, q_ss0, q_ss1, q_gonx, q_gort, q_gobk, q_goct, q_add, q_addl, q_addt, q_sub, q_mul, q_mull, q_mult, q_div, q_mod, q_pow, q_eq, q_ne, q_lt, q_le, q_gt, q_ge, q_is1, q_is2, q_is3, q_is4, q_is5, q_tr0, q_trb, q_tri, q_trl, q_trt, q_ixl, q_ixt, q_sll, q_slt, q_sls, q_lenl, q_lent, q_inti, q_absi, q_lisl, q_list, q_tupl, q_tupt, q_all, q_maxl, q_max, q_min, q_itl, q_itt, q_seql, q_seqt, q_rng1, q_rng2, q_enu1, q_enu2, q_end1, q_end2, q_own, q_val, q_st1, q_stt, q_stpr, q_sta0, q_sta1, q_re1, q_re0, q_appA, q_appioA, q_appkA, ↓bind_o, obind_some, List.getElem?_cons_zero, List.getElem?_cons_succ, List.set_cons_zero, List.set_cons_succ, lockS, slotL, Fz.atS, putL, runD, en0, vals, setS, opStop, wipeE, wipeS, restE, restS, plainS, szB_of, posB_of, b62_of, mulB_of, divB_of, powB_of, repB_one, timB_one, flat_one, I_rep, atI_0, atI_1, atI_2, atI_3, atI_4, ixN_of, cut_from, cut_to, eqv_int, eqv_none, shp_int, shp_bool, shp_none, zip_I]
theorem qc_step (hA : At fs j false 3 d_add_rows) (hM : At fs j' false 3 d_row_times) (n : Nat) {p : Int} {t v : List (List Int)} {f : List Int} {V W M a b : Sl} (h0 : 0 < p) (h1 : p < 100) (ht : isRow p 200 t) (hf : isForm p f) (lf : f.length ≤ 100) (hv : isRow p 100 v) (hn : f ≠ []) :
    bodyF ⟨N, fs, WW⟩ (n + 20) (.tup [5, 6]) (qc_body j j') (.tuple [.tuple (I f), .tuple (Rw v)]) ⟨[.val (.int p), V, W, M, .val (.tuple (Rw t)), a, b], []⟩ = some (.nx ⟨[.val (.int p), V, W, M, .val (.tuple (Rw (addR p t (mulR p v f)))), .val (.tuple (I f)), .val (.tuple (Rw v))], []⟩) := by
  have c1 := call_row_times hM h0 h1 (hv.up (by omega)) hf (Nat.le_trans lf (by omega))
  have c2 := call_add_rows hA h0 h1 (ht.up (by omega)) ((mulR_row h0 hv lf).up (by omega))
  have hl : 0 < f.length := by
    cases f with
    | nil => exact absurd rfl hn
    | cons x f => simp only [List.length_cons]; omega
  unfold qc_body
  simp (config := {implicitDefEqProofs := false}) (disch := omega) [bodyF, c1, c2, hl, q_int, q_bl, q_non, q_nm, q_bin, q_neg, q_negI, q_not, q_bop, q_ife, q_cmp, q_ix, q_ixn, q_sl, q_sln, q_blt, q_lenn, q_isi, q_lst, q_tup, q_lc, q_push, q_pop, q_evc, q_to0, q_to1, q_o0, q_o1, q_intD, q_a0, q_a1, q_tnt, q_tbop, q_tcmp, q_chn, q_tchn, q_tval, q_tnm, q_iseq, q_irng, q_ienu, q_izip, q_iez, q_irev, q_sset, q_stgt, q_spro, q_spar, q_sput, q_sret, q_sretn, q_sife, q_swhl, q_sfor, q_sex, q_spass, q_sbrk, q_scnt, q_ss0, q_ss1, q_gonx, q_gort, q_gobk, q_goct, q_add, q_addl, q_addt, q_sub, q_mul, q_mull, q_mult, q_div, q_mod, q_pow, q_eq, q_ne, q_lt, q_le, q_gt, q_ge, q_is1, q_is2, q_is3, q_is4, q_is5, q_tr0, q_trb, q_tri, q_trl, q_trt, q_ixl, q_ixt, q_sll, q_slt, q_sls, q_lenl, q_lent, q_inti, q_absi, q_lisl, q_list, q_tupl, q_tupt, q_all, q_maxl, q_max, q_min, q_itl, q_itt, q_seql, q_seqt, q_rng1, q_rng2, q_enu1, q_enu2, q_end1, q_end2, q_own, q_val, q_st1, q_stt, q_stpr, q_sta0, q_sta1, q_re1, q_re0, q_appA, q_appioA, q_appkA, ↓bind_o, obind_some, List.getElem?_cons_zero, List.getElem?_cons_succ, List.set_cons_zero, List.set_cons_succ, lockS, slotL, Fz.atS, putL, runD, en0, vals, setS, opStop, wipeE, wipeS, restE, restS, plainS, szB_of, posB_of, b62_of, mulB_of, divB_of, powB_of, repB_one, timB_one, flat_one, I_rep, atI_0, atI_1, atI_2, atI_3, atI_4, ixN_of, cut_from, cut_to, eqv_int, eqv_none, shp_int, shp_bool, shp_none, zip_I]
theorem qc_loop (hA : At fs j false 3 d_add_rows) (hM : At fs j' false 3 d_row_times) (n : Nat) {p : Int} {V W M : Sl} {m : Nat} (h0 : 0 < p) (h1 : p < 100) : ∀ (l : List (List Int × List (List Int))) (t : List (List Int)) (a b : Sl), isRow p 200 t → t.length = m → (∀ q ∈ l, isForm p q.1 ∧ q.1.length ≤ 100 ∧ isRow p 100 q.2 ∧ q.2.length = m) →
    ∃ a' b', forL (bodyF ⟨N, fs, WW⟩ (n + 20) (.tup [5, 6]) (qc_body j j')) (l.map fun q => PyData.tuple [.tuple (I q.1), .tuple (Rw q.2)]) ⟨[.val (.int p), V, W, M, .val (.tuple (Rw t)), a, b], []⟩ = some (.nx ⟨[.val (.int p), V, W, M, .val (.tuple (Rw (l.foldl (fun t q => addR p t (mulR p q.2 q.1)) t))), a', b'], []⟩) := by
  intro l
  induction l with
  | nil => intro t a b _ _ _; exact ⟨a, b, rfl⟩
  | cons q l IH =>
    intro t a b ht lt hl
    obtain ⟨q1, q2, q3, q4⟩ := hl q List.mem_cons_self
    obtain ⟨f, v⟩ := q
    obtain ⟨a', b', ih⟩ := IH (addR p t (mulR p v f)) (.val (.tuple (I f))) (.val (.tuple (Rw v))) ((addR_row h0 ht (mulR_row h0 q3 q2)).up (by omega)) (by rw [addR_len, mulR_len]; dsimp only at q4; omega) fun r hr => hl r (List.mem_cons_of_mem _ hr)
    refine ⟨a', b', ?_⟩
    dsimp only at q1 q2 q3 q4
    by_cases e : f = []
    · subst e
      rw [List.map_cons, forL_nx (qc_step0 n)]
      rw [List.foldl_cons]
      have hz : addR p t (mulR p v []) = t := addR_zero (by rw [lt, q4]) (fun x hx => (ht.2 x hx).1)
      dsimp only
      rw [hz] at ih ⊢
      exact ih
    · rw [List.map_cons, forL_nx (qc_step hA hM n h0 h1 ht q1 q2 q3 e)]
      exact ih
theorem run_q_comb (hN : N.length = 7) (hZ : At fs j false 1 d_zero_row) (hA : At fs j' false 3 d_add_rows) (hM : At fs j'' false 3 d_row_times) {ds : List D} {z : Bool × D × List D} (h : d_q_comb ds = some z) : runD ⟨N, fs, WW⟩ 60 false (B_q_comb j j' j'') ds = some z := by
  obtain ⟨⟨p, f, vs, m⟩, ⟨h0, h1, hm, lf, hf, hv⟩, rfl, rfl⟩ := wordOf_some h
  dsimp only at h0 h1 hm lf hf hv
  obtain ⟨a', b', hl⟩ := qc_loop (N := N) hA hM 37 (V := .val (.list (Rw f))) (W := .val (.list (Rws vs))) (M := .val (.int m)) (m := m) h0 h1 (f.zip vs) (zeroR m) .no .no ((zeroR_row p hm).up (by omega)) (by unfold zeroR; rw [List.length_replicate]) fun q hq => by
    obtain ⟨m1, m2⟩ := List.of_mem_zip hq
    exact ⟨(hf _ m1).1, (hf _ m1).2, (hv _ m2).1, (hv _ m2).2⟩
  change forL (bodyF _ 57 _ _) _ _ = _ at hl
  have c0 := call_zero_row hZ hm
  unfold qc_body at hl
  rw [← zip_Rws] at hl
  have he : RQ.enc ⟨p, f, vs, m⟩ = [.int p, .list (Rw f), .list (Rws vs), .int m] := rfl
  rw [he]
  dsimp only
  rw [show (f.zip vs).foldl (fun t q => addR p t (mulR p q.2 q.1)) (zeroR m) = combR p m f vs from rfl] at hl
  generalize combR p m f vs = R at *
  generalize zeroR m = Z at *
  generalize Rw f = F at *
  generalize Rws vs = W at *
  simp (config := {implicitDefEqProofs := false}) (disch := omega) [B_q_comb, qc_body, hN, hl, c0, q_int, q_bl, q_non, q_nm, q_bin, q_neg, q_negI, q_not, q_bop, q_ife, q_cmp, q_ix, q_ixn, q_sl, q_sln, q_blt, q_lenn, q_isi, q_lst, q_tup, q_lc, q_push, q_pop, q_evc, q_to0, q_to1, q_o0, q_o1, q_intD, q_a0, q_a1, q_tnt, q_tbop, q_tcmp, q_chn, q_tchn, q_tval, q_tnm, q_iseq, q_irng, q_ienu, q_izip, q_iez, q_irev, q_sset, q_stgt, q_spro, q_spar, q_sput, q_sret, q_sretn, q_sife, q_swhl, q_sfor, q_sex, q_spass, q_sbrk, q_scnt, q_ss0, q_ss1, q_gonx, q_gort, q_gobk, q_goct, q_add, q_addl, q_addt, q_sub, q_mul, q_mull, q_mult, q_div, q_mod, q_pow, q_eq, q_ne, q_lt, q_le, q_gt, q_ge, q_is1, q_is2, q_is3, q_is4, q_is5, q_tr0, q_trb, q_tri, q_trl, q_trt, q_ixl, q_ixt, q_sll, q_slt, q_sls, q_lenl, q_lent, q_inti, q_absi, q_lisl, q_list, q_tupl, q_tupt, q_all, q_maxl, q_max, q_min, q_itl, q_itt, q_seql, q_seqt, q_rng1, q_rng2, q_enu1, q_enu2, q_end1, q_end2, q_own, q_val, q_st1, q_stt, q_stpr, q_sta0, q_sta1, q_re1, q_re0, q_appA, q_appioA, q_appkA, ↓bind_o, obind_some, List.getElem?_cons_zero, List.getElem?_cons_succ, List.set_cons_zero, List.set_cons_succ, lockS, slotL, Fz.atS, putL, runD, en0, vals, setS, opStop, wipeE, wipeS, restE, restS, plainS, szB_of, posB_of, b62_of, mulB_of, divB_of, powB_of, repB_one, timB_one, flat_one, I_rep, atI_0, atI_1, atI_2, atI_3, atI_4, ixN_of, cut_from, cut_to, eqv_int, eqv_none, shp_int, shp_bool, shp_none, zip_I]
end W1
set_option Elab.async false
set_option linter.all false
set_option maxRecDepth 100000
set_option maxHeartbeats 2000000
namespace W1
open PySem PySem.Spec PyProof.Rows L2 Fz
variable {fs : List (Str × Fn)} {N : List Str} {j j' j'' : Nat}
/-! ### rows and lifts that are drawn -/
def steps {α : Type} (stp : Bag → α × Bag) : Nat → Bag → List α × Bag
  | 0, b => ([], b)
  | n + 1, b => ((stp b).1 :: (steps stp n (stp b).2).1, (steps stp n (stp b).2).2)
theorem steps_inv {α : Type} {stp : Bag → α × Bag} {c : Int} {P : α → Prop} (hs : ∀ b n, Inv b n → Inv (stp b).2 (n + c) ∧ P (stp b).1) : ∀ (k : Nat) {b : Bag} {n : Int}, Inv b n → Inv (steps stp k b).2 (n + k * c) ∧ (steps stp k b).1.length = k ∧ ∀ x ∈ (steps stp k b).1, P x
  | 0, b, n, h => ⟨h.up (by simp), rfl, by intro x hx; cases hx⟩
  | k + 1, b, n, h => by
    obtain ⟨v1, v2⟩ := hs b n h
    obtain ⟨w1, w2, w3⟩ := steps_inv hs k v1
    unfold steps
    refine ⟨w1.up ?_, by simp [w2], ?_⟩
    · rw [show ((k + 1 : Nat) : Int) * c = k * c + c by rw [Int.natCast_add, Int.add_mul]; omega]
      omega
    · intro x hx
      rcases List.mem_cons.mp hx with rfl | hx
      · exact v2
      · exact w3 x hx
theorem lcL_gen {α : Type} {F : D → En → Option (Option D × En)} {stp : Bag → α × Bag} (enc : α → D) {c m : Int} (hc : 0 ≤ c) (hs : ∀ b n, Inv b n → Inv (stp b).2 (n + c)) (st : Bag → En) (hF : ∀ d b, Inv b m → F d (st b) = some (some (enc (stp b).1), st (stp b).2)) : ∀ (xs : List D) {b : Bag} {n : Int}, Inv b n → n + xs.length * c ≤ m →
    lcL F xs (st b) = some ((steps stp xs.length b).1.map enc, st (steps stp xs.length b).2)
  | [], b, n, h, _ => rfl
  | d :: xs, b, n, h, hn => by
    have hn' : n + ((xs.length + 1 : Nat) : Int) * c ≤ m := hn
    rw [Int.natCast_add, Int.add_mul] at hn'
    have hx : 0 ≤ (xs.length : Int) * c := Int.mul_nonneg (by omega) hc
    unfold lcL
    rw [hF d b (h.up (by omega))]
    dsimp only
    rw [lcL_gen enc hc hs st hF xs (hs b n h) (by omega)]
    rfl
def B_q_row (j : Nat) : List RS := [.ret (.blt .tuple [(.lc (.one 4) [4] (.rng [(.nm 2)]) none (.appio j 0 [(.nm 1), (.nm 3)]))])]
noncomputable section
def rowB (p deg : Int) (m : Nat) (b : Bag) : List (List Int) × Bag := steps (fun b => formB b p deg) m b
def d_q_row : List D → Option (Bool × D × List D)
  | [.list l, .int p, .int m, .int deg] => withBag 999990000 l fun b => if 0 < p ∧ p < 100 ∧ 0 ≤ m ∧ m ≤ 100 ∧ 0 ≤ deg ∧ deg ≤ 40 then some (.tuple (Rw (rowB p deg m.toNat b).1), (rowB p deg m.toNat b).2) else none
  | _ => none
end
theorem row_inv {b : Bag} {n p deg : Int} {m : Nat} (h : Inv b n) (hp : 0 < p) (hd : 0 ≤ deg) (hd2 : deg ≤ 40) (hm : m ≤ 100) : Inv (rowB p deg m b).2 (n + m * 43) ∧ isRow p 41 (rowB p deg m b).1 ∧ (rowB p deg m b).1.length = m := by
  obtain ⟨h1, h2, h3⟩ := steps_inv (stp := fun b => formB b p deg) (c := 43) (P := fun f => isForm p f ∧ f.length ≤ 41) (fun b n h => by
    have := form_inv h hp hd hd2
    exact ⟨this.1, this.2.1, this.2.2⟩) m h
  exact ⟨h1, ⟨by unfold rowB; rw [h2]; exact hm, h3⟩, h2⟩
theorem run_q_row (hN : N.length = 5) (hF : At fs j true 3 d_form) {ds : List D} {z : Bool × D × List D} (h : d_q_row ds = some z) : runD ⟨N, fs, WW⟩ 60 true (B_q_row j) ds = some z := by
  unfold d_q_row withBag at h
  split at h
  · rename_i l p m deg
    simp only [Option.bind_eq_some_iff] at h
    obtain ⟨b, hb, h⟩ := h
    rw [bagOf_eq hb]
    split at h
    · rename_i hi
      simp only [Option.bind_eq_some_iff] at h
      obtain ⟨y, h1, h⟩ := h
      split at h1
      · rename_i ht
        cases h1
        cases h
        obtain ⟨hp, hp2, hm, hm2, hd, hd2⟩ := ht
        have hl : ∀ n, lcL (evC ⟨N, fs, WW⟩ (n + 9) (.one 4) [4] none (.appio j 0 [(.nm 1), (.nm 3)])) (rngD 0 m.toNat) ⟨[.bag, .val (.int p), .val (.int m), .val (.int deg), .no], bagD b⟩ = some (Rw (rowB p deg m.toNat b).1, ⟨[.bag, .val (.int p), .val (.int m), .val (.int deg), .no], bagD (rowB p deg m.toNat b).2⟩) := by
          intro n
          have := lcL_gen (F := evC ⟨N, fs, WW⟩ (n + 9) (.one 4) [4] none (.appio j 0 [(.nm 1), (.nm 3)])) (stp := fun b => formB b p deg) (fun f => PyData.tuple (I f)) (c := 43) (m := 999999000) (by decide) (fun b n h => (form_inv h hp hd hd2).1) (fun b => ⟨[.bag, .val (.int p), .val (.int m), .val (.int deg), .no], bagD b⟩) (fun d b hb => by
            have hc := call_lform hF hb hp hp2 hd hd2
            generalize hB : bagD b = B at *
            generalize hB2 : formB b p deg = Z at *
            generalize hB4 : bagD Z.2 = B4 at *
            simp (config := {implicitDefEqProofs := false}) (disch := omega) [hF, hc, q_int, q_bl, q_non, q_nm, q_bin, q_neg, q_negI, q_not, q_bop, q_ife, q_cmp, q_ix, q_ixn, q_sl, q_sln, q_blt, q_lenn, q_isi, q_lst, q_tup, q_lc, q_push, q_pop, q_evc, q_to0, q_to1, q_o0, q_o1, q_intD, q_a0, q_a1, q_tnt, q_tbop, q_tcmp, q_chn, q_tchn, q_tval, q_tnm, q_iseq, q_irng, q_ienu, q_izip, q_iez, q_irev, q_sset, q_stgt, q_spro, q_spar, q_sput, q_sret, q_sretn, q_sife, q_swhl, q_sfor, q_sex, q_spass, q_sbrk, q_scnt, q_ss0, q_ss1, q_gonx, q_gort, q_gobk, q_goct, q_add, q_addl, q_addt, q_sub, q_mul, q_mull, q_mult, q_div, q_mod, q_pow, q_eq, q_ne, q_lt, q_le, q_gt, q_ge, q_is1, q_is2, q_is3, q_is4, q_is5, q_tr0, q_trb, q_tri, q_trl, q_trt, q_ixl, q_ixt, q_sll, q_slt, q_sls, q_lenl, q_lent, q_inti, q_absi, q_lisl, q_list, q_tupl, q_tupt, q_all, q_maxl, q_max, q_min, q_itl, q_itt, q_seql, q_seqt, q_rng1, q_rng2, q_enu1, q_enu2, q_end1, q_end2, q_own, q_val, q_st1, q_stt, q_stpr, q_sta0, q_sta1, q_re1, q_re0, q_appA, q_appioA, q_appkA, ↓bind_o, obind_some, List.getElem?_cons_zero, List.getElem?_cons_succ, List.set_cons_zero, List.set_cons_succ, lockS, slotL, Fz.atS, putL, runD, en0, vals, setS, opStop, wipeE, wipeS, restE, restS, plainS, szB_of, posB_of, b62_of, mulB_of, divB_of, powB_of, repB_one, timB_one, flat_one, I_rep, atI_0, atI_1, atI_2, atI_3, atI_4, ixN_of, cut_from, cut_to, eqv_int, eqv_none, shp_int, shp_bool, shp_none, zip_I]) (rngD 0 m.toNat) hi (by rw [rngD_len]; omega)
          rw [rngD_len] at this
          exact this
        have hb1 : b62 m = true := b62_of (by omega) (by omega)
        have hz : szB m.toNat = true := szB_of (by omega)
        generalize hB : rowB p deg m.toNat b = Z at *
        generalize hB2 : bagD b = B at *
        generalize hB3 : bagD Z.2 = B3 at *
        simp (config := {implicitDefEqProofs := false}) (disch := omega) [B_q_row, hN, hF, hl, hb1, hz, rngD_len, q_int, q_bl, q_non, q_nm, q_bin, q_neg, q_negI, q_not, q_bop, q_ife, q_cmp, q_ix, q_ixn, q_sl, q_sln, q_blt, q_lenn, q_isi, q_lst, q_tup, q_lc, q_push, q_pop, q_evc, q_to0, q_to1, q_o0, q_o1, q_intD, q_a0, q_a1, q_tnt, q_tbop, q_tcmp, q_chn, q_tchn, q_tval, q_tnm, q_iseq, q_irng, q_ienu, q_izip, q_iez, q_irev, q_sset, q_stgt, q_spro, q_spar, q_sput, q_sret, q_sretn, q_sife, q_swhl, q_sfor, q_sex, q_spass, q_sbrk, q_scnt, q_ss0, q_ss1, q_gonx, q_gort, q_gobk, q_goct, q_add, q_addl, q_addt, q_sub, q_mul, q_mull, q_mult, q_div, q_mod, q_pow, q_eq, q_ne, q_lt, q_le, q_gt, q_ge, q_is1, q_is2, q_is3, q_is4, q_is5, q_tr0, q_trb, q_tri, q_trl, q_trt, q_ixl, q_ixt, q_sll, q_slt, q_sls, q_lenl, q_lent, q_inti, q_absi, q_lisl, q_list, q_tupl, q_tupt, q_all, q_maxl, q_max, q_min, q_itl, q_itt, q_seql, q_seqt, q_rng1, q_rng2, q_enu1, q_enu2, q_end1, q_end2, q_own, q_val, q_st1, q_stt, q_stpr, q_sta0, q_sta1, q_re1, q_re0, q_appA, q_appioA, q_appkA, ↓bind_o, obind_some, List.getElem?_cons_zero, List.getElem?_cons_succ, List.set_cons_zero, List.set_cons_succ, lockS, slotL, Fz.atS, putL, runD, en0, vals, setS, opStop, wipeE, wipeS, restE, restS, plainS, szB_of, posB_of, b62_of, mulB_of, divB_of, powB_of, repB_one, timB_one, flat_one, I_rep, atI_0, atI_1, atI_2, atI_3, atI_4, ixN_of, cut_from, cut_to, eqv_int, eqv_none, shp_int, shp_bool, shp_none, zip_I]
      · cases h1
    · cases h
  · cases h
theorem call_q_row (hD : At fs j true 4 d_q_row) {b : Bag} {p deg : Int} {m : Nat} (h : Inv b 999990000) (hp : 0 < p) (hp2 : p < 100) (hm : m ≤ 100) (hd : 0 ≤ deg) (hd2 : deg ≤ 40) : bAt fs j (bagD b) [.int p, .int m, .int deg] = some (false, .tuple (Rw (rowB p deg m b).1), bagD (rowB p deg m b).2) := by
  refine hD.b rfl ?_
  unfold d_q_row withBag
  dsimp only
  rw [bagOf_D]
  simp only [Option.bind_some]
  rw [if_pos h, if_pos ⟨hp, hp2, by omega, by omega, hd, hd2⟩]
  rfl
/-! lifts -/
def intOf' : D → Int
  | .int i => i
  | _ => 0
def LW : List D := [.int (-20), .int 20, .int (-9), .int 7]
def B_q_lifts (j j' : Nat) : List RS := [.set 2 (.appio j 0 [(.int 8)]), .ife (.cmp .Lt (.nm 2) (.int 2)) [.ret (.blt .tuple [(.bin .Mult (.lst [(.int 0)]) (.nm 1))])] [], .set 3 (.lc (.one 4) [4] (.rng [(.nm 1)]) none (.bin .Sub (.appio j 0 [(.int 7)]) (.int 3))), .ife (.cmp .Eq (.nm 2) (.int 2)) [.set 5 (.bin .Sub (.appio j 0 [(.int 35)]) (.int 17)), .ret (.blt .tuple [(.lc (.one 6) [6] (.seq (.nm 3)) none (.bin .Add (.nm 6) (.nm 5)))])] [], .ife (.cmp .Eq (.nm 2) (.int 3)) [.put 3 (.appio j 0 [(.nm 1)]) (.appio j' 0 [(.lst [(.neg (.int 20)), (.int 20), (.neg (.int 9)), (.int 7)])])] [], .ret (.blt .tuple [(.nm 3)])]
noncomputable section
def smallB (m : Nat) (b : Bag) : List Int × Bag := steps (fun b => ((draw b 7).1 - 3, (draw b 7).2)) m b
def liftsB (m : Nat) (b : Bag) : List Int × Bag :=
  if (draw b 8).1 < 2 then (List.replicate m 0, (draw b 8).2)
  else if (draw b 8).1 = 2 then ((smallB m (draw b 8).2).1.map fun a => a + ((draw (smallB m (draw b 8).2).2 35).1 - 17), (draw (smallB m (draw b 8).2).2 35).2)
  else if (draw b 8).1 = 3 then ((smallB m (draw b 8).2).1.set (draw (ofL (smallB m (draw b 8).2).2 LW).2 m).1.toNat (intOf' (ofL (smallB m (draw b 8).2).2 LW).1), (draw (ofL (smallB m (draw b 8).2).2 LW).2 m).2)
  else smallB m (draw b 8).2
def d_q_lifts : List D → Option (Bool × D × List D)
  | [.list l, .int m] => withBag 999990000 l fun b => if 0 < m ∧ m ≤ 100 then some (.tuple (I (liftsB m.toNat b).1), (liftsB m.toNat b).2) else none
  | _ => none
end
theorem lw_int : ∀ x ∈ LW, x = .int (intOf' x) ∧ -20 ≤ intOf' x ∧ intOf' x ≤ 20 := by
  intro x hx
  simp only [LW, List.mem_cons, List.not_mem_nil, or_false] at hx
  rcases hx with rfl | rfl | rfl | rfl <;> exact ⟨rfl, by decide, by decide⟩
theorem small_inv {b : Bag} {n : Int} (m : Nat) (h : Inv b n) : Inv (smallB m b).2 (n + m) ∧ (smallB m b).1.length = m ∧ ∀ x ∈ (smallB m b).1, -3 ≤ x ∧ x ≤ 3 := by
  obtain ⟨h1, h2, h3⟩ := steps_inv (stp := fun b => ((draw b 7).1 - 3, (draw b 7).2)) (c := 1) (P := fun x : Int => -3 ≤ x ∧ x ≤ 3) (fun b n h => by
    obtain ⟨v1, v2, v3⟩ := draw_inv (top := 7) h (by decide)
    exact ⟨v1, by dsimp only; omega, by dsimp only; omega⟩) m h
  rw [Int.mul_one] at h1
  exact ⟨h1, h2, h3⟩
theorem mem_set' {α : Type} : ∀ {l : List α} {i : Nat} {a x : α}, x ∈ l.set i a → x ∈ l ∨ x = a := fun h => List.mem_or_eq_of_mem_set h
theorem lifts_inv {b : Bag} {n : Int} {m : Nat} (hm : 0 < m) (h : Inv b n) : Inv (liftsB m b).2 (n + m + 3) ∧ (liftsB m b).1.length = m ∧ ∀ x ∈ (liftsB m b).1, -20 ≤ x ∧ x ≤ 20 := by
  obtain ⟨v1, v2, v3⟩ := draw_inv (top := 8) h (by decide)
  obtain ⟨s1, s2, s3⟩ := small_inv m v1
  unfold liftsB
  split
  · refine ⟨v1.up (by omega), by rw [List.length_replicate], fun x hx => ?_⟩
    have := List.eq_of_mem_replicate hx
    omega
  · split
    · obtain ⟨w1, w2, w3⟩ := draw_inv (top := 35) s1 (by decide)
      refine ⟨w1.up (by omega), by rw [List.length_map]; exact s2, fun x hx => ?_⟩
      obtain ⟨a, ha, rfl⟩ := List.mem_map.mp hx
      have := s3 a ha
      omega
    · split
      · obtain ⟨w1, w2⟩ := of_inv s1 (xs := LW) (by intro h; cases h)
        obtain ⟨u1, _, _⟩ := draw_inv (top := (m : Int)) w1 (by omega)
        refine ⟨u1.up (by omega), by rw [List.length_set]; exact s2, fun x hx => ?_⟩
        rcases mem_set' hx with hx | rfl
        · have := s3 x hx
          omega
        · exact (lw_int _ w2).2
      · exact ⟨s1.up (by omega), s2, fun x hx => by have := s3 x hx; omega⟩
theorem run_q_lifts (hN : N.length = 7) (hD : At fs j true 2 d_draw) (hO : At fs j' true 2 d_of) {ds : List D} {z : Bool × D × List D} (h : d_q_lifts ds = some z) : runD ⟨N, fs, WW⟩ 60 true (B_q_lifts j j') ds = some z := by
  unfold d_q_lifts withBag at h
  split at h
  · rename_i l m
    simp only [Option.bind_eq_some_iff] at h
    obtain ⟨b, hb, h⟩ := h
    rw [bagOf_eq hb]
    split at h
    · rename_i hi
      simp only [Option.bind_eq_some_iff] at h
      obtain ⟨y, h1, h⟩ := h
      split at h1
      · rename_i ht
        cases h1
        cases h
        obtain ⟨hm, hm2⟩ := ht
        have c1 := call_draw hD (top := 8) (hi.up (by decide)) (by decide) (by decide)
        obtain ⟨v1, v2, v3⟩ := draw_inv (top := 8) hi (by decide)
        obtain ⟨s1, s2, s3⟩ := small_inv m.toNat v1
        have c2 := call_draw hD (b := (smallB m.toNat (draw b 8).2).2) (top := 35) (s1.up (by omega)) (by decide) (by decide)
        have c3 := call_of hO (b := (smallB m.toNat (draw b 8).2).2) (xs := LW) (s1.up (by omega)) (by intro h; cases h) (by decide)
        obtain ⟨w1, w2⟩ := of_inv s1 (xs := LW) (by intro h; cases h)
        have c4 := call_draw hD (b := (ofL (smallB m.toNat (draw b 8).2).2 LW).2) (top := m) (w1.up (by omega)) (by omega) (by omega)
        obtain ⟨_, u2, u3⟩ := draw_inv (top := m) w1 (by omega)
        have hx := (lw_int _ w2).1
        have hl : ∀ n w, lcL (evC ⟨N, fs, WW⟩ (n + 15) (.one 4) [4] none (.bin .Sub (.appio j 0 [(.int 7)]) (.int 3))) (rngD 0 m.toNat) ⟨[.bag, .val (.int m), w, .no, .no, .no, .no], bagD (draw b 8).2⟩ = some (I (smallB m.toNat (draw b 8).2).1, ⟨[.bag, .val (.int m), w, .no, .no, .no, .no], bagD (smallB m.toNat (draw b 8).2).2⟩) := by
          intro n w
          have := lcL_gen (F := evC ⟨N, fs, WW⟩ (n + 15) (.one 4) [4] none (.bin .Sub (.appio j 0 [(.int 7)]) (.int 3))) (stp := fun b => ((draw b 7).1 - 3, (draw b 7).2)) PyData.int (c := 1) (m := 999999000) (by decide) (fun b n h => (draw_inv (top := 7) h (by decide)).1) (fun b => ⟨[.bag, .val (.int m), w, .no, .no, .no, .no], bagD b⟩) (fun d b hb => by
            have hc := call_draw hD (top := 7) (hb.up (by decide)) (by decide) (by decide)
            dsimp only
            generalize hB : bagD b = B at *
            generalize hB2 : draw b 7 = Z at *
            generalize hB4 : bagD Z.2 = B4 at *
            simp (config := {implicitDefEqProofs := false}) (disch := omega) [hD, hc, q_int, q_bl, q_non, q_nm, q_bin, q_neg, q_negI, q_not, q_bop, q_ife, q_cmp, q_ix, q_ixn, q_sl, q_sln, q_blt, q_lenn, q_isi, q_lst, q_tup, q_lc, q_push, q_pop, q_evc, q_to0, q_to1, q_o0, q_o1, q_intD, q_a0, q_a1, q_tnt, q_tbop, q_tcmp, q_chn, q_tchn, q_tval, q_tnm, q_iseq, q_irng, q_ienu, q_izip, q_iez, q_irev, q_sset, q_stgt, q_spro, q_spar, q_sput, q_sret, q_sretn, q_sife, q_swhl, q_sfor, q_sex, q_spass, q_sbrk, q_scnt, q_ss0, q_ss1, q_gonx, q_gort, q_gobk, q_goct, q_add, q_addl, q_addt, q_sub, q_mul, q_mull, q_mult, q_div, q_mod, q_pow, q_eq, q_ne, q_lt, q_le, q_gt, q_ge, q_is1, q_is2, q_is3, q_is4, q_is5, q_tr0, q_trb, q_tri, q_trl, q_trt, q_ixl, q_ixt, q_sll, q_slt, q_sls, q_lenl, q_lent, q_inti, q_absi, q_lisl, q_list, q_tupl, q_tupt, q_all, q_maxl, q_max, q_min, q_itl, q_itt, q_seql, q_seqt, q_rng1, q_rng2, q_enu1, q_enu2, q_end1, q_end2, q_own, q_val, q_st1, q_stt, q_stpr, q_sta0, q_sta1, q_re1, q_re0, q_appA, q_appioA, q_appkA, ↓bind_o, obind_some, List.getElem?_cons_zero, List.getElem?_cons_succ, List.set_cons_zero, List.set_cons_succ, lockS, slotL, Fz.atS, putL, runD, en0, vals, setS, opStop, wipeE, wipeS, restE, restS, plainS, szB_of, posB_of, b62_of, mulB_of, divB_of, powB_of, repB_one, timB_one, flat_one, I_rep, atI_0, atI_1, atI_2, atI_3, atI_4, ixN_of, cut_from, cut_to, eqv_int, eqv_none, shp_int, shp_bool, shp_none, zip_I]) (rngD 0 m.toNat) v1 (by rw [rngD_len]; omega)
          rw [rngD_len] at this
          exact this
        have hb1 : b62 m = true := b62_of (by omega) (by omega)
        have hz : szB m.toNat = true := szB_of (by omega)
        have hmt : ((m.toNat : Nat) : Int) = m := by omega
        unfold liftsB
        rw [hmt]
        have e20 : LW = [.int (-20), .int 20, .int (-9), .int 7] := rfl
        by_cases e0 : (draw b 8).1 < 2
        · rw [if_pos e0]
          have hr : I (List.replicate m.toNat 0) = List.replicate m.toNat (PyData.int 0) := by unfold I; rw [List.map_replicate]
          generalize hX : draw b 8 = X at *
          generalize bagD b = B0 at *
          generalize bagD X.2 = B1 at *
          rw [hr]
          simp (config := {implicitDefEqProofs := false}) (disch := omega) [B_q_lifts, hN, hD, c1, e0, q_int, q_bl, q_non, q_nm, q_bin, q_neg, q_negI, q_not, q_bop, q_ife, q_cmp, q_ix, q_ixn, q_sl, q_sln, q_blt, q_lenn, q_isi, q_lst, q_tup, q_lc, q_push, q_pop, q_evc, q_to0, q_to1, q_o0, q_o1, q_intD, q_a0, q_a1, q_tnt, q_tbop, q_tcmp, q_chn, q_tchn, q_tval, q_tnm, q_iseq, q_irng, q_ienu, q_izip, q_iez, q_irev, q_sset, q_stgt, q_spro, q_spar, q_sput, q_sret, q_sretn, q_sife, q_swhl, q_sfor, q_sex, q_spass, q_sbrk, q_scnt, q_ss0, q_ss1, q_gonx, q_gort, q_gobk, q_goct, q_add, q_addl, q_addt, q_sub, q_mul, q_mull, q_mult, q_div, q_mod, q_pow, q_eq, q_ne, q_lt, q_le, q_gt, q_ge, q_is1, q_is2, q_is3, q_is4, q_is5, q_tr0, q_trb, q_tri, q_trl, q_trt, q_ixl, q_ixt, q_sll, q_slt, q_sls, q_lenl, q_lent, q_inti, q_absi, q_lisl, q_list, q_tupl, q_tupt, q_all, q_maxl, q_max, q_min, q_itl, q_itt, q_seql, q_seqt, q_rng1, q_rng2, q_enu1, q_enu2, q_end1, q_end2, q_own, q_val, q_st1, q_stt, q_stpr, q_sta0, q_sta1, q_re1, q_re0, q_appA, q_appioA, q_appkA, ↓bind_o, obind_some, List.getElem?_cons_zero, List.getElem?_cons_succ, List.set_cons_zero, List.set_cons_succ, lockS, slotL, Fz.atS, putL, runD, en0, vals, setS, opStop, wipeE, wipeS, restE, restS, plainS, szB_of, posB_of, b62_of, mulB_of, divB_of, powB_of, repB_one, timB_one, flat_one, I_rep, atI_0, atI_1, atI_2, atI_3, atI_4, ixN_of, cut_from, cut_to, eqv_int, eqv_none, shp_int, shp_bool, shp_none, zip_I]
        · rw [if_neg e0]
          generalize hX : draw b 8 = X at *
          generalize hS : smallB m.toNat X.2 = S at *
          obtain ⟨x, bx⟩ := X
          obtain ⟨S, bs⟩ := S
          dsimp only at *
          by_cases e1 : x = 2
          · rw [if_pos e1]
            subst e1
            generalize hY : draw bs 35 = Y at *
            obtain ⟨y, by'⟩ := Y
            dsimp only at *
            have hc : ∀ n s2 s3, lcL (evC ⟨N, fs, WW⟩ (n + 9) (.one 6) [6] none (.bin .Add (.nm 6) (.nm 5))) (I S) ⟨[.bag, .val (.int m), s2, s3, .no, .val (.int (y - 17)), .no], bagD by'⟩ = some (I (S.map fun a => a + (y - 17)), ⟨[.bag, .val (.int m), s2, s3, .no, .val (.int (y - 17)), .no], bagD by'⟩) := by
              intro n s2 s3
              rw [show I (S.map fun a => a + (y - 17)) = S.map fun a => PyData.int (a + (y - 17)) by unfold I; rw [List.map_map]; rfl]
              refine lcL_pure _ _ fun x _ => ?_
              simp (config := {implicitDefEqProofs := false}) (disch := omega) [q_int, q_bl, q_non, q_nm, q_bin, q_neg, q_negI, q_not, q_bop, q_ife, q_cmp, q_ix, q_ixn, q_sl, q_sln, q_blt, q_lenn, q_isi, q_lst, q_tup, q_lc, q_push, q_pop, q_evc, q_to0, q_to1, q_o0, q_o1, q_intD, q_a0, q_a1, q_tnt, q_tbop, q_tcmp, q_chn, q_tchn, q_tval, q_tnm, q_iseq, q_irng, q_ienu, q_izip, q_iez, q_irev, q_sset, q_stgt, q_spro, q_spar, q_sput, q_sret, q_sretn, q_sife, q_swhl, q_sfor, q_sex, q_spass, q_sbrk, q_scnt, q_ss0, q_ss1, q_gonx, q_gort, q_gobk, q_goct, q_add, q_addl, q_addt, q_sub, q_mul, q_mull, q_mult, q_div, q_mod, q_pow, q_eq, q_ne, q_lt, q_le, q_gt, q_ge, q_is1, q_is2, q_is3, q_is4, q_is5, q_tr0, q_trb, q_tri, q_trl, q_trt, q_ixl, q_ixt, q_sll, q_slt, q_sls, q_lenl, q_lent, q_inti, q_absi, q_lisl, q_list, q_tupl, q_tupt, q_all, q_maxl, q_max, q_min, q_itl, q_itt, q_seql, q_seqt, q_rng1, q_rng2, q_enu1, q_enu2, q_end1, q_end2, q_own, q_val, q_st1, q_stt, q_stpr, q_sta0, q_sta1, q_re1, q_re0, q_appA, q_appioA, q_appkA, ↓bind_o, obind_some, List.getElem?_cons_zero, List.getElem?_cons_succ, List.set_cons_zero, List.set_cons_succ, lockS, slotL, Fz.atS, putL, runD, en0, vals, setS, opStop, wipeE, wipeS, restE, restS, plainS, szB_of, posB_of, b62_of, mulB_of, divB_of, powB_of, repB_one, timB_one, flat_one, I_rep, atI_0, atI_1, atI_2, atI_3, atI_4, ixN_of, cut_from, cut_to, eqv_int, eqv_none, shp_int, shp_bool, shp_none, zip_I]
            generalize I (S.map fun a => a + (y - 17)) = L at *
            simp (config := {implicitDefEqProofs := false}) (disch := omega) [B_q_lifts, hN, hD, c1, c2, hl, hb1, hz, rngD_len, hc, q_int, q_bl, q_non, q_nm, q_bin, q_neg, q_negI, q_not, q_bop, q_ife, q_cmp, q_ix, q_ixn, q_sl, q_sln, q_blt, q_lenn, q_isi, q_lst, q_tup, q_lc, q_push, q_pop, q_evc, q_to0, q_to1, q_o0, q_o1, q_intD, q_a0, q_a1, q_tnt, q_tbop, q_tcmp, q_chn, q_tchn, q_tval, q_tnm, q_iseq, q_irng, q_ienu, q_izip, q_iez, q_irev, q_sset, q_stgt, q_spro, q_spar, q_sput, q_sret, q_sretn, q_sife, q_swhl, q_sfor, q_sex, q_spass, q_sbrk, q_scnt, q_ss0, q_ss1, q_gonx, q_gort, q_gobk, q_goct, q_add, q_addl, q_addt, q_sub, q_mul, q_mull, q_mult, q_div, q_mod, q_pow, q_eq, q_ne, q_lt, q_le, q_gt, q_ge, q_is1, q_is2, q_is3, q_is4, q_is5, q_tr0, q_trb, q_tri, q_trl, q_trt, q_ixl, q_ixt, q_sll, q_slt, q_sls, q_lenl, q_lent, q_inti, q_absi, q_lisl, q_list, q_tupl, q_tupt, q_all, q_maxl, q_max, q_min, q_itl, q_itt, q_seql, q_seqt, q_rng1, q_rng2, q_enu1, q_enu2, q_end1, q_end2, q_own, q_val, q_st1, q_stt, q_stpr, q_sta0, q_sta1, q_re1, q_re0, q_appA, q_appioA, q_appkA, ↓bind_o, obind_some, List.getElem?_cons_zero, List.getElem?_cons_succ, List.set_cons_zero, List.set_cons_succ, lockS, slotL, Fz.atS, putL, runD, en0, vals, setS, opStop, wipeE, wipeS, restE, restS, plainS, szB_of, posB_of, b62_of, mulB_of, divB_of, powB_of, repB_one, timB_one, flat_one, I_rep, atI_0, atI_1, atI_2, atI_3, atI_4, ixN_of, cut_from, cut_to, eqv_int, eqv_none, shp_int, shp_bool, shp_none, zip_I]
          · rw [if_neg e1]
            by_cases e2 : x = 3
            · rw [if_pos e2]
              subst e2
              generalize hY : ofL bs LW = Y at *
              obtain ⟨y, by'⟩ := Y
              dsimp only at *
              generalize hZ : draw by' m = Z at *
              obtain ⟨i, bz⟩ := Z
              dsimp only at *
              generalize hy : intOf' y = yy at *
              subst hx
              rw [e20] at c3
              have hix : ixN (I S).length i = some i.toNat := by
                rw [I_len, s2]
                exact ixN_of u2 (by omega)
              have hset : (I S).set i.toNat (.int yy) = I (S.set i.toNat yy) := by unfold I; rw [List.map_set]
              simp (config := {implicitDefEqProofs := false}) (disch := omega) [B_q_lifts, hN, hD, hO, c1, c3, c4, hl, hb1, hz, rngD_len, hix, hset, q_int, q_bl, q_non, q_nm, q_bin, q_neg, q_negI, q_not, q_bop, q_ife, q_cmp, q_ix, q_ixn, q_sl, q_sln, q_blt, q_lenn, q_isi, q_lst, q_tup, q_lc, q_push, q_pop, q_evc, q_to0, q_to1, q_o0, q_o1, q_intD, q_a0, q_a1, q_tnt, q_tbop, q_tcmp, q_chn, q_tchn, q_tval, q_tnm, q_iseq, q_irng, q_ienu, q_izip, q_iez, q_irev, q_sset, q_stgt, q_spro, q_spar, q_sput, q_sret, q_sretn, q_sife, q_swhl, q_sfor, q_sex, q_spass, q_sbrk, q_scnt, q_ss0, q_ss1, q_gonx, q_gort, q_gobk, q_goct, q_add, q_addl, q_addt, q_sub, q_mul, q_mull, q_mult, q_div, q_mod, q_pow, q_eq, q_ne, q_lt, q_le, q_gt, q_ge, q_is1, q_is2, q_is3, q_is4, q_is5, q_tr0, q_trb, q_tri, q_trl, q_trt, q_ixl, q_ixt, q_sll, q_slt, q_sls, q_lenl, q_lent, q_inti, q_absi, q_lisl, q_list, q_tupl, q_tupt, q_all, q_maxl, q_max, q_min, q_itl, q_itt, q_seql, q_seqt, q_rng1, q_rng2, q_enu1, q_enu2, q_end1, q_end2, q_own, q_val, q_st1, q_stt, q_stpr, q_sta0, q_sta1, q_re1, q_re0, q_appA, q_appioA, q_appkA, ↓bind_o, obind_some, List.getElem?_cons_zero, List.getElem?_cons_succ, List.set_cons_zero, List.set_cons_succ, lockS, slotL, Fz.atS, putL, runD, en0, vals, setS, opStop, wipeE, wipeS, restE, restS, plainS, szB_of, posB_of, b62_of, mulB_of, divB_of, powB_of, repB_one, timB_one, flat_one, I_rep, atI_0, atI_1, atI_2, atI_3, atI_4, ixN_of, cut_from, cut_to, eqv_int, eqv_none, shp_int, shp_bool, shp_none, zip_I]
            · rw [if_neg e2]
              simp (config := {implicitDefEqProofs := false}) (disch := omega) [B_q_lifts, hN, hD, c1, e0, e1, e2, hl, hb1, hz, rngD_len, q_int, q_bl, q_non, q_nm, q_bin, q_neg, q_negI, q_not, q_bop, q_ife, q_cmp, q_ix, q_ixn, q_sl, q_sln, q_blt, q_lenn, q_isi, q_lst, q_tup, q_lc, q_push, q_pop, q_evc, q_to0, q_to1, q_o0, q_o1, q_intD, q_a0, q_a1, q_tnt, q_tbop, q_tcmp, q_chn, q_tchn, q_tval, q_tnm, q_iseq, q_irng, q_ienu, q_izip, q_iez, q_irev, q_sset, q_stgt, q_spro, q_spar, q_sput, q_sret, q_sretn, q_sife, q_swhl, q_sfor, q_sex, q_spass, q_sbrk, q_scnt, q_ss0, q_ss1, q_gonx, q_gort, q_gobk, q_goct, q_add, q_addl, q_addt, q_sub, q_mul, q_mull, q_mult, q_div, q_mod, q_pow, q_eq, q_ne, q_lt, q_le, q_gt, q_ge, q_is1, q_is2, q_is3, q_is4, q_is5, q_tr0, q_trb, q_tri, q_trl, q_trt, q_ixl, q_ixt, q_sll, q_slt, q_sls, q_lenl, q_lent, q_inti, q_absi, q_lisl, q_list, q_tupl, q_tupt, q_all, q_maxl, q_max, q_min, q_itl, q_itt, q_seql, q_seqt, q_rng1, q_rng2, q_enu1, q_enu2, q_end1, q_end2, q_own, q_val, q_st1, q_stt, q_stpr, q_sta0, q_sta1, q_re1, q_re0, q_appA, q_appioA, q_appkA, ↓bind_o, obind_some, List.getElem?_cons_zero, List.getElem?_cons_succ, List.set_cons_zero, List.set_cons_succ, lockS, slotL, Fz.atS, putL, runD, en0, vals, setS, opStop, wipeE, wipeS, restE, restS, plainS, szB_of, posB_of, b62_of, mulB_of, divB_of, powB_of, repB_one, timB_one, flat_one, I_rep, atI_0, atI_1, atI_2, atI_3, atI_4, ixN_of, cut_from, cut_to, eqv_int, eqv_none, shp_int, shp_bool, shp_none, zip_I]
      · cases h1
    · cases h
  · cases h
theorem call_q_lifts (hD : At fs j true 2 d_q_lifts) {b : Bag} {m : Nat} (h : Inv b 999990000) (h0 : 0 < m) (hm : m ≤ 100) : bAt fs j (bagD b) [.int m] = some (false, .tuple (I (liftsB m b).1), bagD (liftsB m b).2) := by
  refine hD.b rfl ?_
  unfold d_q_lifts withBag
  dsimp only
  rw [bagOf_D]
  simp only [Option.bind_some]
  rw [if_pos h, if_pos ⟨by omega, by omega⟩]
  rfl
end W1
set_option Elab.async false
set_option linter.all false
set_option maxRecDepth 100000
set_option maxHeartbeats 2000000
namespace W1
open PySem PySem.Spec PyProof.Rows L2 Fz
variable {fs : List (Str × Fn)} {N : List Str} {j j' j'' : Nat}
/-! ### equal rows -/
theorem eqvAll_I : ∀ f g : List Int, PyData.eqvAll (I f) (I g) = decide (f = g)
  | [], [] => rfl
  | [], _ :: _ => rfl
  | _ :: _, [] => rfl
  | x :: f, y :: g => by
    show (PyData.eqv (.int x) (.int y) && PyData.eqvAll (I f) (I g)) = _
    rw [eqvAll_I f g, eqv_int]
    by_cases e : x = y <;> by_cases e' : f = g <;> simp [e, e']
theorem eqvAll_Rw : ∀ f g : List (List Int), PyData.eqvAll (Rw f) (Rw g) = decide (f = g)
  | [], [] => rfl
  | [], _ :: _ => rfl
  | _ :: _, [] => rfl
  | x :: f, y :: g => by
    show (PyData.eqvAll (I x) (I y) && PyData.eqvAll (Rw f) (Rw g)) = _
    rw [eqvAll_Rw f g, eqvAll_I]
    by_cases e : x = y <;> by_cases e' : f = g <;> simp [e, e']
theorem eqvAll_Rws : ∀ f g : List (List (List Int)), PyData.eqvAll (Rws f) (Rws g) = decide (f = g)
  | [], [] => rfl
  | [], _ :: _ => rfl
  | _ :: _, [] => rfl
  | x :: f, y :: g => by
    show (PyData.eqvAll (Rw x) (Rw y) && PyData.eqvAll (Rws f) (Rws g)) = _
    rw [eqvAll_Rws f g, eqvAll_Rw]
    by_cases e : x = y <;> by_cases e' : f = g <;> simp [e, e']
theorem eqv_Rw (f g : List (List Int)) : PyData.eqv (.tuple (Rw f)) (.tuple (Rw g)) = decide (f = g) := eqvAll_Rw f g
theorem eqv_I (f g : List Int) : PyData.eqv (.tuple (I f)) (.tuple (I g)) = decide (f = g) := eqvAll_I f g
theorem eqv_Rws (f g : List (List (List Int))) : PyData.eqv (.list (Rws f)) (.list (Rws g)) = decide (f = g) := eqvAll_Rws f g
theorem pl_tI (n : Nat) (f : List Int) : pl (n + 1) (.tuple (I f)) = true := pl_I n f
theorem pl_Rw (n : Nat) (v : List (List Int)) : (Rw v).all (pl (n + 1)) = true := by
  rw [List.all_eq_true]
  intro x hx
  obtain ⟨i, _, rfl⟩ := List.mem_map.mp hx
  exact pl_tI n i
theorem pl_Rws (n : Nat) (v : List (List (List Int))) : (Rws v).all (pl (n + 2)) = true := by
  rw [List.all_eq_true]
  intro x hx
  obtain ⟨i, _, rfl⟩ := List.mem_map.mp hx
  exact pl_Rw n i
theorem shp_Rw (v : List (List Int)) : shp (.tuple (Rw v)) = true := shp_pl (n := 2) (pl_Rw 0 v) (by decide)
theorem shp_Rws (v : List (List (List Int))) : shp (.list (Rws v)) = true := shp_pl (n := 3) (pl_Rws 0 v) (by decide)
theorem atI_Rw {v : List (List Int)} {k : Nat} (h : k < v.length) : atI (Rw v) (k : Int) = some (.tuple (I (v.getD k []))) := by
  rw [atI_k, Rw_get, List.getD_eq_getElem?_getD, List.getElem?_eq_getElem h]
  rfl
theorem zip_drop {v : List (List Int)} {s : List Int} {k : Nat} (h : k < s.length) (e : v.length = s.length) : (v.zip s).drop k = (v.getD k [], s.getD k 0) :: (v.zip s).drop (k + 1) := by
  have hk : k < (v.zip s).length := by rw [List.length_zip]; omega
  have hv : k < v.length := by omega
  rw [List.drop_eq_getElem_cons hk, List.getElem_zip]
  simp [List.getD_eq_getElem?_getD, List.getElem?_eq_getElem h, List.getElem?_eq_getElem hv]
theorem zip_range {α : Type} (F : List Int × Int → α) {v : List (List Int)} {s : List Int} (e : v.length = s.length) : (v.zip s).map F = (List.range s.length).map fun k => F (v.getD k [], s.getD k 0) := by
  apply List.ext_getElem
  · simp [e]
  · intro i h1 h2
    have hs : i < s.length := by simpa using h2
    have hv : i < v.length := by omega
    simp [List.getD_eq_getElem?_getD, List.getElem?_eq_getElem hs, List.getElem?_eq_getElem hv]
/-! ### what the level is -/
def hgt (q : List Int × Int) : Int := (q.1.length : Int) - 1 + q.2
theorem lv_some : ∀ (r : List (List Int × Int)) (l : Option (Int × Int)) (i h k : Int), lvFrom l i r = some (h, k) → (∀ q, l = some q → q.1 ≤ h) ∧ (∀ q ∈ r, q.1 ≠ [] → hgt q ≤ h) ∧ ((∃ q ∈ r, q.1 ≠ [] ∧ hgt q = h) ∨ l = some (h, k))
  | [], l, i, h, k, e => by
    have e' : l = some (h, k) := e
    subst e'
    refine ⟨fun q hq => by cases hq; exact Int.le_refl _, (fun q hq => by cases hq), .inr rfl⟩
  | q :: r, l, i, h, k, e => by
    obtain ⟨h1, h2, h3⟩ := lv_some r (lvStep l i q.1 q.2) (i + 1) h k e
    by_cases c : q.1 ≠ [] ∧ (∀ q', l = some q' → q'.1 ≤ (q.1.length : Int) - 1 + q.2)
    · have hs : lvStep l i q.1 q.2 = some (hgt q, i) := by unfold lvStep; rw [if_pos c]; rfl
      rw [hs] at h1 h3
      have hq := h1 _ rfl
      refine ⟨fun q' hq' => Int.le_trans (c.2 q' hq') hq, fun q' hq' hn => ?_, ?_⟩
      · rcases List.mem_cons.mp hq' with rfl | hq'
        · exact hq
        · exact h2 q' hq' hn
      · rcases h3 with ⟨q', m, n, o⟩ | h3
        · exact .inl ⟨q', List.mem_cons_of_mem _ m, n, o⟩
        · cases h3
          exact .inl ⟨q, List.mem_cons_self, c.1, rfl⟩
    · have hs : lvStep l i q.1 q.2 = l := by unfold lvStep; rw [if_neg c]
      rw [hs] at h1 h3
      refine ⟨h1, fun q' hq' hn => ?_, ?_⟩
      · rcases List.mem_cons.mp hq' with rfl | hq'
        · cases l with
          | none => exact absurd ⟨hn, fun _ x => by cases x⟩ c
          | some p =>
            have := h1 p rfl
            by_cases z : p.1 ≤ (q'.1.length : Int) - 1 + q'.2
            · exact absurd ⟨hn, fun _ x => by cases x; exact z⟩ c
            · unfold hgt
              omega
        · exact h2 q' hq' hn
      · rcases h3 with ⟨q', m, n, o⟩ | h3
        · exact .inl ⟨q', List.mem_cons_of_mem _ m, n, o⟩
        · exact .inr h3
theorem lv_none : ∀ (r : List (List Int × Int)) (l : Option (Int × Int)) (i : Int), lvFrom l i r = none → l = none ∧ ∀ q ∈ r, q.1 = []
  | [], l, i, e => ⟨e, fun q hq => by cases hq⟩
  | q :: r, l, i, e => by
    obtain ⟨h1, h2⟩ := lv_none r _ (i + 1) e
    unfold lvStep at h1
    split at h1
    · cases h1
    · rename_i c
      subst h1
      refine ⟨rfl, fun q' hq' => ?_⟩
      rcases List.mem_cons.mp hq' with rfl | hq'
      · by_cases z : q'.1 = []
        · exact z
        · exact absurd ⟨z, fun _ x => by cases x⟩ c
      · exact h2 q' hq'
theorem lv_empty : ∀ (r : List (List Int × Int)) (i : Int), (∀ q ∈ r, q.1 = []) → lvFrom none i r = none
  | [], _, _ => rfl
  | q :: r, i, h => by
    have e : lvStep none i q.1 q.2 = none := by unfold lvStep; rw [if_neg (fun c => c.1 (h q List.mem_cons_self))]
    show lvFrom (lvStep none i q.1 q.2) (i + 1) r = none
    rw [e]
    exact lv_empty r (i + 1) fun q' hq' => h q' (List.mem_cons_of_mem _ hq')
/-- the places that are not 0 -/
def nzFrom : Int → List Int → List Int
  | _, [] => []
  | i, a :: t => if a ≠ 0 then i :: nzFrom (i + 1) t else nzFrom (i + 1) t
def tops (h : Int) (r : List (List Int × Int)) : List Int := r.map fun q => topAt h q.1 q.2
theorem nz_last : ∀ (r : List (List Int × Int)) (i : Int) (l : Option (Int × Int)) (h k : Int), (∀ q ∈ r, q.1 ≠ [] → q.1.getLast?.getD 0 ≠ 0) → lvFrom l i r = some (h, k) → (nzFrom i (tops h r)).getLast? = some k ∨ (nzFrom i (tops h r) = [] ∧ l = some (h, k))
  | [], i, l, h, k, _, e => .inr ⟨rfl, e⟩
  | q :: r, i, l, h, k, hr, e => by
    have e' : lvFrom (lvStep l i q.1 q.2) (i + 1) r = some (h, k) := e
    have ih := nz_last r (i + 1) _ h k (fun q' hq' => hr q' (List.mem_cons_of_mem _ hq')) e'
    show (nzFrom i (topAt h q.1 q.2 :: tops h r)).getLast? = some k ∨ (nzFrom i (topAt h q.1 q.2 :: tops h r) = [] ∧ _)
    rcases ih with ih | ⟨i1, i2⟩
    · left
      unfold nzFrom
      split
      · rw [List.getLast?_cons, ih]
        rfl
      · exact ih
    · unfold lvStep at i2
      split at i2
      · rename_i c
        cases i2
        left
        have ht : topAt ((q.1.length : Int) - 1 + q.2) q.1 q.2 ≠ 0 := by
          unfold topAt
          rw [if_pos ⟨c.1, by omega⟩]
          exact hr q List.mem_cons_self c.1
        unfold nzFrom
        rw [if_pos ht, i1]
        rfl
      · rename_i c
        right
        have ht : topAt h q.1 q.2 = 0 := by
          unfold topAt
          refine if_neg fun d => c ⟨d.1, fun q' hq' => ?_⟩
          rw [i2] at hq'
          cases hq'
          have := d.2
          dsimp only
          omega
        unfold nzFrom
        rw [if_neg (by rw [ht]; simp), i1]
        exact ⟨rfl, i2⟩
/-! ### the law's level and top -/
def A_lv : RE := .bin .Add (.bin .Sub (.blt .len [(.ixn 0 (.nm 3))]) (.int 1)) (.ixn 1 (.nm 3))
def ql_body : List RS := [.ife (.bop .And (.cmp .Gt (.blt .len [(.ixn 0 (.nm 3))]) (.int 0)) (.bop .Or (.cmp .Is (.nm 2) .non) (.cmp .GtE (.bin .Add (.bin .Sub (.blt .len [(.ixn 0 (.nm 3))]) (.int 1)) (.ixn 1 (.nm 3))) (.ixn 2 (.int 0))))) [.set 2 (.tup [(.bin .Add (.bin .Sub (.blt .len [(.ixn 0 (.nm 3))]) (.int 1)) (.ixn 1 (.nm 3))), (.nm 3)])] []]
def B_q_level : List RS := [.set 2 .non, .for (.one 3) (.rng [(.lenn 1)]) ql_body, .ret (.nm 2)]
def B_q_top (j : Nat) : List RS := [.set 2 (.ix (.app j [(.nm 0), (.nm 1)]) (.int 0)), .ret (.blt .tuple [(.lc (.one 3) [3] (.rng [(.lenn 1)]) none (.ife (.chn .LtE .Lt (.int 0) (.bin .Sub (.nm 2) (.ixn 1 (.nm 3))) (.blt .len [(.ixn 0 (.nm 3))])) (.ix (.ixn 0 (.nm 3)) (.bin .Sub (.nm 2) (.ixn 1 (.nm 3)))) (.int 0)))])]
def B_q_lead (j : Nat) : List RS := [.ret (.ix (.lc (.tup [2, 3]) [2, 3] (.enu [(.app j [(.nm 0), (.nm 1)])]) (some (.cmp .NotEq (.nm 3) (.int 0))) (.nm 2)) (.neg (.int 1)))]
noncomputable section
structure RT2 where
  v : List (List Int)
  s : List Int
def RT2.enc (x : RT2) : List D := [.tuple (Rw x.v), .tuple (I x.s)]
def RT2.ok (x : RT2) : Prop := x.v.length = x.s.length ∧ x.s.length ≤ 100
def RT2.ok1 (x : RT2) : Prop := x.v.length = x.s.length ∧ x.s.length ≤ 100 ∧ ∃ h k, levelR x.v x.s = some (h, k)
def RT2.ok2 (x : RT2) : Prop := x.v.length = x.s.length ∧ x.s.length ≤ 100 ∧ (∀ f ∈ x.v, f ≠ [] → f.getLast?.getD 0 ≠ 0) ∧ ∃ h k, levelR x.v x.s = some (h, k)
def d_q_level := wordOf RT2.enc RT2.ok fun x => (false, lvD (levelR x.v x.s), [])
def d_q_top := wordOf RT2.enc RT2.ok1 fun x => (false, .tuple (I (topR ((levelR x.v x.s).getD (0, 0)).1 x.v x.s)), [])
def d_q_lead := wordOf RT2.enc RT2.ok2 fun x => (false, .int ((levelR x.v x.s).getD (0, 0)).2, [])
end
theorem RT2.inj : ∀ x y : RT2, RT2.enc x = RT2.enc y → x = y := by
  rintro ⟨p, v⟩ ⟨p', v'⟩ h
  simp only [RT2.enc, List.cons.injEq, PyData.tuple.injEq, Rw_eq, I_eq, and_true] at h
  obtain ⟨rfl, rfl⟩ := h
  rfl
theorem ql_step (n : Nat) {v : List (List Int)} {s : List Int} {k : Nat} {f : List Int} {t : Int} {l : Option (Int × Int)} {x3 : Sl} (hv : atI (Rw v) (k : Int) = some (.tuple (I f))) (hs : atI (I s) (k : Int) = some (.int t)) :
    bodyF ⟨N, fs, WW⟩ (n + 20) (.one 3) ql_body (.int k) ⟨[.val (.tuple (Rw v)), .val (.tuple (I s)), .val (lvD l), x3], []⟩ = some (.nx ⟨[.val (.tuple (Rw v)), .val (.tuple (I s)), .val (lvD (lvStep l k f t)), .val (.int k)], []⟩) := by
  generalize Rw v = V at *
  generalize I s = S at *
  unfold ql_body lvStep
  cases f with
  | nil =>
    cases l with
    | none => simp (config := {implicitDefEqProofs := false}) (disch := omega) [bodyF, lvD, hv, hs, q_int, q_bl, q_non, q_nm, q_bin, q_neg, q_negI, q_not, q_bop, q_ife, q_cmp, q_ix, q_ixn, q_sl, q_sln, q_blt, q_lenn, q_isi, q_lst, q_tup, q_lc, q_push, q_pop, q_evc, q_to0, q_to1, q_o0, q_o1, q_intD, q_a0, q_a1, q_tnt, q_tbop, q_tcmp, q_chn, q_tchn, q_tval, q_tnm, q_iseq, q_irng, q_ienu, q_izip, q_iez, q_irev, q_sset, q_stgt, q_spro, q_spar, q_sput, q_sret, q_sretn, q_sife, q_swhl, q_sfor, q_sex, q_spass, q_sbrk, q_scnt, q_ss0, q_ss1, q_gonx, q_gort, q_gobk, q_goct, q_add, q_addl, q_addt, q_sub, q_mul, q_mull, q_mult, q_div, q_mod, q_pow, q_eq, q_ne, q_lt, q_le, q_gt, q_ge, q_is1, q_is2, q_is3, q_is4, q_is5, q_tr0, q_trb, q_tri, q_trl, q_trt, q_ixl, q_ixt, q_sll, q_slt, q_sls, q_lenl, q_lent, q_inti, q_absi, q_lisl, q_list, q_tupl, q_tupt, q_all, q_maxl, q_max, q_min, q_itl, q_itt, q_seql, q_seqt, q_rng1, q_rng2, q_enu1, q_enu2, q_end1, q_end2, q_own, q_val, q_st1, q_stt, q_stpr, q_sta0, q_sta1, q_re1, q_re0, q_appA, q_appioA, q_appkA, ↓bind_o, obind_some, List.getElem?_cons_zero, List.getElem?_cons_succ, List.set_cons_zero, List.set_cons_succ, lockS, slotL, Fz.atS, putL, runD, en0, vals, setS, opStop, wipeE, wipeS, restE, restS, plainS, szB_of, posB_of, b62_of, mulB_of, divB_of, powB_of, repB_one, timB_one, flat_one, I_rep, atI_0, atI_1, atI_2, atI_3, atI_4, ixN_of, cut_from, cut_to, eqv_int, eqv_none, shp_int, shp_bool, shp_none, zip_I]
    | some q => simp (config := {implicitDefEqProofs := false}) (disch := omega) [bodyF, lvD, hv, hs, q_int, q_bl, q_non, q_nm, q_bin, q_neg, q_negI, q_not, q_bop, q_ife, q_cmp, q_ix, q_ixn, q_sl, q_sln, q_blt, q_lenn, q_isi, q_lst, q_tup, q_lc, q_push, q_pop, q_evc, q_to0, q_to1, q_o0, q_o1, q_intD, q_a0, q_a1, q_tnt, q_tbop, q_tcmp, q_chn, q_tchn, q_tval, q_tnm, q_iseq, q_irng, q_ienu, q_izip, q_iez, q_irev, q_sset, q_stgt, q_spro, q_spar, q_sput, q_sret, q_sretn, q_sife, q_swhl, q_sfor, q_sex, q_spass, q_sbrk, q_scnt, q_ss0, q_ss1, q_gonx, q_gort, q_gobk, q_goct, q_add, q_addl, q_addt, q_sub, q_mul, q_mull, q_mult, q_div, q_mod, q_pow, q_eq, q_ne, q_lt, q_le, q_gt, q_ge, q_is1, q_is2, q_is3, q_is4, q_is5, q_tr0, q_trb, q_tri, q_trl, q_trt, q_ixl, q_ixt, q_sll, q_slt, q_sls, q_lenl, q_lent, q_inti, q_absi, q_lisl, q_list, q_tupl, q_tupt, q_all, q_maxl, q_max, q_min, q_itl, q_itt, q_seql, q_seqt, q_rng1, q_rng2, q_enu1, q_enu2, q_end1, q_end2, q_own, q_val, q_st1, q_stt, q_stpr, q_sta0, q_sta1, q_re1, q_re0, q_appA, q_appioA, q_appkA, ↓bind_o, obind_some, List.getElem?_cons_zero, List.getElem?_cons_succ, List.set_cons_zero, List.set_cons_succ, lockS, slotL, Fz.atS, putL, runD, en0, vals, setS, opStop, wipeE, wipeS, restE, restS, plainS, szB_of, posB_of, b62_of, mulB_of, divB_of, powB_of, repB_one, timB_one, flat_one, I_rep, atI_0, atI_1, atI_2, atI_3, atI_4, ixN_of, cut_from, cut_to, eqv_int, eqv_none, shp_int, shp_bool, shp_none, zip_I]
  | cons a f =>
    have hpos : (0 : Int) < (f.length : Int) + 1 := by omega
    cases l with
    | none => simp (config := {implicitDefEqProofs := false}) (disch := omega) [bodyF, lvD, hv, hs, hpos, q_int, q_bl, q_non, q_nm, q_bin, q_neg, q_negI, q_not, q_bop, q_ife, q_cmp, q_ix, q_ixn, q_sl, q_sln, q_blt, q_lenn, q_isi, q_lst, q_tup, q_lc, q_push, q_pop, q_evc, q_to0, q_to1, q_o0, q_o1, q_intD, q_a0, q_a1, q_tnt, q_tbop, q_tcmp, q_chn, q_tchn, q_tval, q_tnm, q_iseq, q_irng, q_ienu, q_izip, q_iez, q_irev, q_sset, q_stgt, q_spro, q_spar, q_sput, q_sret, q_sretn, q_sife, q_swhl, q_sfor, q_sex, q_spass, q_sbrk, q_scnt, q_ss0, q_ss1, q_gonx, q_gort, q_gobk, q_goct, q_add, q_addl, q_addt, q_sub, q_mul, q_mull, q_mult, q_div, q_mod, q_pow, q_eq, q_ne, q_lt, q_le, q_gt, q_ge, q_is1, q_is2, q_is3, q_is4, q_is5, q_tr0, q_trb, q_tri, q_trl, q_trt, q_ixl, q_ixt, q_sll, q_slt, q_sls, q_lenl, q_lent, q_inti, q_absi, q_lisl, q_list, q_tupl, q_tupt, q_all, q_maxl, q_max, q_min, q_itl, q_itt, q_seql, q_seqt, q_rng1, q_rng2, q_enu1, q_enu2, q_end1, q_end2, q_own, q_val, q_st1, q_stt, q_stpr, q_sta0, q_sta1, q_re1, q_re0, q_appA, q_appioA, q_appkA, ↓bind_o, obind_some, List.getElem?_cons_zero, List.getElem?_cons_succ, List.set_cons_zero, List.set_cons_succ, lockS, slotL, Fz.atS, putL, runD, en0, vals, setS, opStop, wipeE, wipeS, restE, restS, plainS, szB_of, posB_of, b62_of, mulB_of, divB_of, powB_of, repB_one, timB_one, flat_one, I_rep, atI_0, atI_1, atI_2, atI_3, atI_4, ixN_of, cut_from, cut_to, eqv_int, eqv_none, shp_int, shp_bool, shp_none, zip_I]
    | some q =>
      obtain ⟨h, m⟩ := q
      by_cases e : h ≤ (f.length : Int) + t
      · simp (config := {implicitDefEqProofs := false}) (disch := omega) [bodyF, lvD, hv, hs, hpos, e, q_int, q_bl, q_non, q_nm, q_bin, q_neg, q_negI, q_not, q_bop, q_ife, q_cmp, q_ix, q_ixn, q_sl, q_sln, q_blt, q_lenn, q_isi, q_lst, q_tup, q_lc, q_push, q_pop, q_evc, q_to0, q_to1, q_o0, q_o1, q_intD, q_a0, q_a1, q_tnt, q_tbop, q_tcmp, q_chn, q_tchn, q_tval, q_tnm, q_iseq, q_irng, q_ienu, q_izip, q_iez, q_irev, q_sset, q_stgt, q_spro, q_spar, q_sput, q_sret, q_sretn, q_sife, q_swhl, q_sfor, q_sex, q_spass, q_sbrk, q_scnt, q_ss0, q_ss1, q_gonx, q_gort, q_gobk, q_goct, q_add, q_addl, q_addt, q_sub, q_mul, q_mull, q_mult, q_div, q_mod, q_pow, q_eq, q_ne, q_lt, q_le, q_gt, q_ge, q_is1, q_is2, q_is3, q_is4, q_is5, q_tr0, q_trb, q_tri, q_trl, q_trt, q_ixl, q_ixt, q_sll, q_slt, q_sls, q_lenl, q_lent, q_inti, q_absi, q_lisl, q_list, q_tupl, q_tupt, q_all, q_maxl, q_max, q_min, q_itl, q_itt, q_seql, q_seqt, q_rng1, q_rng2, q_enu1, q_enu2, q_end1, q_end2, q_own, q_val, q_st1, q_stt, q_stpr, q_sta0, q_sta1, q_re1, q_re0, q_appA, q_appioA, q_appkA, ↓bind_o, obind_some, List.getElem?_cons_zero, List.getElem?_cons_succ, List.set_cons_zero, List.set_cons_succ, lockS, slotL, Fz.atS, putL, runD, en0, vals, setS, opStop, wipeE, wipeS, restE, restS, plainS, szB_of, posB_of, b62_of, mulB_of, divB_of, powB_of, repB_one, timB_one, flat_one, I_rep, atI_0, atI_1, atI_2, atI_3, atI_4, ixN_of, cut_from, cut_to, eqv_int, eqv_none, shp_int, shp_bool, shp_none, zip_I]
      · simp (config := {implicitDefEqProofs := false}) (disch := omega) [bodyF, lvD, hv, hs, hpos, e, q_int, q_bl, q_non, q_nm, q_bin, q_neg, q_negI, q_not, q_bop, q_ife, q_cmp, q_ix, q_ixn, q_sl, q_sln, q_blt, q_lenn, q_isi, q_lst, q_tup, q_lc, q_push, q_pop, q_evc, q_to0, q_to1, q_o0, q_o1, q_intD, q_a0, q_a1, q_tnt, q_tbop, q_tcmp, q_chn, q_tchn, q_tval, q_tnm, q_iseq, q_irng, q_ienu, q_izip, q_iez, q_irev, q_sset, q_stgt, q_spro, q_spar, q_sput, q_sret, q_sretn, q_sife, q_swhl, q_sfor, q_sex, q_spass, q_sbrk, q_scnt, q_ss0, q_ss1, q_gonx, q_gort, q_gobk, q_goct, q_add, q_addl, q_addt, q_sub, q_mul, q_mull, q_mult, q_div, q_mod, q_pow, q_eq, q_ne, q_lt, q_le, q_gt, q_ge, q_is1, q_is2, q_is3, q_is4, q_is5, q_tr0, q_trb, q_tri, q_trl, q_trt, q_ixl, q_ixt, q_sll, q_slt, q_sls, q_lenl, q_lent, q_inti, q_absi, q_lisl, q_list, q_tupl, q_tupt, q_all, q_maxl, q_max, q_min, q_itl, q_itt, q_seql, q_seqt, q_rng1, q_rng2, q_enu1, q_enu2, q_end1, q_end2, q_own, q_val, q_st1, q_stt, q_stpr, q_sta0, q_sta1, q_re1, q_re0, q_appA, q_appioA, q_appkA, ↓bind_o, obind_some, List.getElem?_cons_zero, List.getElem?_cons_succ, List.set_cons_zero, List.set_cons_succ, lockS, slotL, Fz.atS, putL, runD, en0, vals, setS, opStop, wipeE, wipeS, restE, restS, plainS, szB_of, posB_of, b62_of, mulB_of, divB_of, powB_of, repB_one, timB_one, flat_one, I_rep, atI_0, atI_1, atI_2, atI_3, atI_4, ixN_of, cut_from, cut_to, eqv_int, eqv_none, shp_int, shp_bool, shp_none, zip_I]
theorem ql_loop (n : Nat) {v : List (List Int)} {s : List Int} (hl : v.length = s.length) : ∀ (r k : Nat) (l : Option (Int × Int)) (x3 : Sl), k + r = s.length →
    ∃ y3, forL (bodyF ⟨N, fs, WW⟩ (n + 20) (.one 3) ql_body) (rngD (k : Int) r) ⟨[.val (.tuple (Rw v)), .val (.tuple (I s)), .val (lvD l), x3], []⟩ = some (.nx ⟨[.val (.tuple (Rw v)), .val (.tuple (I s)), .val (lvD (lvFrom l k ((v.zip s).drop k))), y3], []⟩)
  | 0, k, l, x3, h => ⟨x3, by
    rw [List.drop_of_length_le (by rw [List.length_zip]; omega)]
    rfl⟩
  | r + 1, k, l, x3, h => by
    have hk : k < s.length := by omega
    obtain ⟨y3, ih⟩ := ql_loop n hl r (k + 1) (lvStep l k (v.getD k []) (s.getD k 0)) (.val (.int k)) (by omega)
    refine ⟨y3, ?_⟩
    rw [rngD_succ, forL_nx (ql_step n (atI_Rw (by omega)) (atI_D hk)), zip_drop hk hl]
    exact ih
theorem run_q_level (hN : N.length = 4) {ds : List D} {z : Bool × D × List D} (h : d_q_level ds = some z) : runD ⟨N, fs, WW⟩ 60 false B_q_level ds = some z := by
  obtain ⟨⟨v, s⟩, ⟨h0, h1⟩, rfl, rfl⟩ := wordOf_some h
  dsimp only at h0 h1
  obtain ⟨y3, hl⟩ := ql_loop (fs := fs) (N := N) 37 h0 s.length 0 none .no (by omega)
  change forL (bodyF _ 57 _ _) (rngD 0 _) _ = some (.nx ⟨[_, _, .val (lvD (levelR v s)), _], _⟩) at hl
  have he : RT2.enc ⟨v, s⟩ = [.tuple (Rw v), .tuple (I s)] := rfl
  have hlen : (I s).length = s.length := I_len s
  rw [he]
  dsimp only
  generalize levelR v s = L at *
  generalize I s = S at *
  generalize Rw v = V at *
  unfold ql_body at hl
  rw [show lvD none = .none from rfl] at hl
  simp (config := {implicitDefEqProofs := false}) (disch := omega) [B_q_level, ql_body, hN, hl, hlen, q_int, q_bl, q_non, q_nm, q_bin, q_neg, q_negI, q_not, q_bop, q_ife, q_cmp, q_ix, q_ixn, q_sl, q_sln, q_blt, q_lenn, q_isi, q_lst, q_tup, q_lc, q_push, q_pop, q_evc, q_to0, q_to1, q_o0, q_o1, q_intD, q_a0, q_a1, q_tnt, q_tbop, q_tcmp, q_chn, q_tchn, q_tval, q_tnm, q_iseq, q_irng, q_ienu, q_izip, q_iez, q_irev, q_sset, q_stgt, q_spro, q_spar, q_sput, q_sret, q_sretn, q_sife, q_swhl, q_sfor, q_sex, q_spass, q_sbrk, q_scnt, q_ss0, q_ss1, q_gonx, q_gort, q_gobk, q_goct, q_add, q_addl, q_addt, q_sub, q_mul, q_mull, q_mult, q_div, q_mod, q_pow, q_eq, q_ne, q_lt, q_le, q_gt, q_ge, q_is1, q_is2, q_is3, q_is4, q_is5, q_tr0, q_trb, q_tri, q_trl, q_trt, q_ixl, q_ixt, q_sll, q_slt, q_sls, q_lenl, q_lent, q_inti, q_absi, q_lisl, q_list, q_tupl, q_tupt, q_all, q_maxl, q_max, q_min, q_itl, q_itt, q_seql, q_seqt, q_rng1, q_rng2, q_enu1, q_enu2, q_end1, q_end2, q_own, q_val, q_st1, q_stt, q_stpr, q_sta0, q_sta1, q_re1, q_re0, q_appA, q_appioA, q_appkA, ↓bind_o, obind_some, List.getElem?_cons_zero, List.getElem?_cons_succ, List.set_cons_zero, List.set_cons_succ, lockS, slotL, Fz.atS, putL, runD, en0, vals, setS, opStop, wipeE, wipeS, restE, restS, plainS, szB_of, posB_of, b62_of, mulB_of, divB_of, powB_of, repB_one, timB_one, flat_one, I_rep, atI_0, atI_1, atI_2, atI_3, atI_4, ixN_of, cut_from, cut_to, eqv_int, eqv_none, shp_int, shp_bool, shp_none, zip_I]
theorem call_q_level (h : At fs j false 2 d_q_level) {v : List (List Int)} {s : List Int} (h0 : v.length = s.length) (h1 : s.length ≤ 100) : cAt fs j [.tuple (Rw v), .tuple (I s)] = some (false, lvD (levelR v s)) :=
  h.c rfl (wordOf_at RT2.inj (x := ⟨v, s⟩) ⟨h0, h1⟩)
theorem topAt_get {h t : Int} {f : List Int} (hm : f ≠ [] → hgt (f, t) ≤ h) : (0 ≤ h - t ∧ h - t < f.length ∧ atI (I f) (h - t) = some (.int (topAt h f t))) ∨ (¬ (0 ≤ h - t ∧ h - t < f.length) ∧ topAt h f t = 0) := by
  by_cases c : f ≠ [] ∧ (f.length : Int) - 1 = h - t
  · left
    have hp := List.length_pos_iff.mpr c.1
    refine ⟨by omega, by omega, ?_⟩
    rw [atI_I (by omega) (by omega)]
    unfold topAt
    rw [if_pos c, List.getLast?_eq_getElem?, List.getD_eq_getElem?_getD]
    congr 4
    omega
  · right
    refine ⟨fun d => ?_, by unfold topAt; rw [if_neg c]⟩
    have hp : f ≠ [] := by
      intro e
      subst e
      simp only [List.length_nil] at d
      omega
    have := hm hp
    unfold hgt at this
    dsimp only at this
    exact c ⟨hp, by omega⟩
theorem run_q_top (hN : N.length = 4) (hL : At fs j false 2 d_q_level) {ds : List D} {z : Bool × D × List D} (h : d_q_top ds = some z) : runD ⟨N, fs, WW⟩ 60 false (B_q_top j) ds = some z := by
  obtain ⟨⟨v, s⟩, ⟨h0, h1, a, m, hl⟩, rfl, rfl⟩ := wordOf_some h
  dsimp only at h0 h1 hl
  have c := call_q_level hL h0 h1
  rw [hl] at c
  have hmax := (lv_some _ _ _ _ _ hl).2.1
  have hc : ∀ n, lcL (evC ⟨N, fs, WW⟩ (n + 15) (.one 3) [3] none (.ife (.chn .LtE .Lt (.int 0) (.bin .Sub (.nm 2) (.ixn 1 (.nm 3))) (.blt .len [(.ixn 0 (.nm 3))])) (.ix (.ixn 0 (.nm 3)) (.bin .Sub (.nm 2) (.ixn 1 (.nm 3)))) (.int 0))) (rngD 0 s.length) ⟨[.val (.tuple (Rw v)), .val (.tuple (I s)), .val (.int a), .no], []⟩ = some (I (topR a v s), ⟨[.val (.tuple (Rw v)), .val (.tuple (I s)), .val (.int a), .no], []⟩) := by
    intro n
    have e : I (topR a v s) = (List.range s.length).map fun k => PyData.int (topAt a (v.getD k []) (s.getD k 0)) := by
      unfold topR
      rw [zip_range _ h0]
      unfold I
      rw [List.map_map]
      rfl
    rw [e]
    unfold rngD
    refine lcL_pure _ _ fun k hk => ?_
    have hk' : k < s.length := List.mem_range.mp hk
    have hv := atI_Rw (v := v) (k := k) (by omega)
    have hs : atI (I s) (k : Int) = some (.int (s.getD k 0)) := atI_D hk'
    have hq := topAt_get (h := a) (t := s.getD k 0) (f := v.getD k []) fun hn => hmax (v.getD k [], s.getD k 0) (by
      have := zip_drop hk' h0
      have hm : (v.getD k [], s.getD k 0) ∈ (v.zip s).drop k := by rw [this]; exact List.mem_cons_self
      exact List.mem_of_mem_drop hm) hn
    generalize v.getD k [] = f at *
    generalize s.getD k 0 = t at *
    generalize Rw v = V at *
    generalize I s = S at *
    generalize topAt a f t = y at *
    rcases hq with ⟨q1, q2, q3⟩ | ⟨q1, rfl⟩
    · have q1' : t ≤ a := by omega
      simp (config := {implicitDefEqProofs := false}) (disch := omega) [hv, hs, q1, q1', q2, q3, q_int, q_bl, q_non, q_nm, q_bin, q_neg, q_negI, q_not, q_bop, q_ife, q_cmp, q_ix, q_ixn, q_sl, q_sln, q_blt, q_lenn, q_isi, q_lst, q_tup, q_lc, q_push, q_pop, q_evc, q_to0, q_to1, q_o0, q_o1, q_intD, q_a0, q_a1, q_tnt, q_tbop, q_tcmp, q_chn, q_tchn, q_tval, q_tnm, q_iseq, q_irng, q_ienu, q_izip, q_iez, q_irev, q_sset, q_stgt, q_spro, q_spar, q_sput, q_sret, q_sretn, q_sife, q_swhl, q_sfor, q_sex, q_spass, q_sbrk, q_scnt, q_ss0, q_ss1, q_gonx, q_gort, q_gobk, q_goct, q_add, q_addl, q_addt, q_sub, q_mul, q_mull, q_mult, q_div, q_mod, q_pow, q_eq, q_ne, q_lt, q_le, q_gt, q_ge, q_is1, q_is2, q_is3, q_is4, q_is5, q_tr0, q_trb, q_tri, q_trl, q_trt, q_ixl, q_ixt, q_sll, q_slt, q_sls, q_lenl, q_lent, q_inti, q_absi, q_lisl, q_list, q_tupl, q_tupt, q_all, q_maxl, q_max, q_min, q_itl, q_itt, q_seql, q_seqt, q_rng1, q_rng2, q_enu1, q_enu2, q_end1, q_end2, q_own, q_val, q_st1, q_stt, q_stpr, q_sta0, q_sta1, q_re1, q_re0, q_appA, q_appioA, q_appkA, ↓bind_o, obind_some, List.getElem?_cons_zero, List.getElem?_cons_succ, List.set_cons_zero, List.set_cons_succ, lockS, slotL, Fz.atS, putL, runD, en0, vals, setS, opStop, wipeE, wipeS, restE, restS, plainS, szB_of, posB_of, b62_of, mulB_of, divB_of, powB_of, repB_one, timB_one, flat_one, I_rep, atI_0, atI_1, atI_2, atI_3, atI_4, ixN_of, cut_from, cut_to, eqv_int, eqv_none, shp_int, shp_bool, shp_none, zip_I]
    · by_cases e1 : t ≤ a
      · have e2 : ¬ a - t < f.length := fun x => q1 ⟨by omega, x⟩
        simp (config := {implicitDefEqProofs := false}) (disch := omega) [hv, hs, e1, e2, q_int, q_bl, q_non, q_nm, q_bin, q_neg, q_negI, q_not, q_bop, q_ife, q_cmp, q_ix, q_ixn, q_sl, q_sln, q_blt, q_lenn, q_isi, q_lst, q_tup, q_lc, q_push, q_pop, q_evc, q_to0, q_to1, q_o0, q_o1, q_intD, q_a0, q_a1, q_tnt, q_tbop, q_tcmp, q_chn, q_tchn, q_tval, q_tnm, q_iseq, q_irng, q_ienu, q_izip, q_iez, q_irev, q_sset, q_stgt, q_spro, q_spar, q_sput, q_sret, q_sretn, q_sife, q_swhl, q_sfor, q_sex, q_spass, q_sbrk, q_scnt, q_ss0, q_ss1, q_gonx, q_gort, q_gobk, q_goct, q_add, q_addl, q_addt, q_sub, q_mul, q_mull, q_mult, q_div, q_mod, q_pow, q_eq, q_ne, q_lt, q_le, q_gt, q_ge, q_is1, q_is2, q_is3, q_is4, q_is5, q_tr0, q_trb, q_tri, q_trl, q_trt, q_ixl, q_ixt, q_sll, q_slt, q_sls, q_lenl, q_lent, q_inti, q_absi, q_lisl, q_list, q_tupl, q_tupt, q_all, q_maxl, q_max, q_min, q_itl, q_itt, q_seql, q_seqt, q_rng1, q_rng2, q_enu1, q_enu2, q_end1, q_end2, q_own, q_val, q_st1, q_stt, q_stpr, q_sta0, q_sta1, q_re1, q_re0, q_appA, q_appioA, q_appkA, ↓bind_o, obind_some, List.getElem?_cons_zero, List.getElem?_cons_succ, List.set_cons_zero, List.set_cons_succ, lockS, slotL, Fz.atS, putL, runD, en0, vals, setS, opStop, wipeE, wipeS, restE, restS, plainS, szB_of, posB_of, b62_of, mulB_of, divB_of, powB_of, repB_one, timB_one, flat_one, I_rep, atI_0, atI_1, atI_2, atI_3, atI_4, ixN_of, cut_from, cut_to, eqv_int, eqv_none, shp_int, shp_bool, shp_none, zip_I]
      · simp (config := {implicitDefEqProofs := false}) (disch := omega) [hv, hs, e1, q_int, q_bl, q_non, q_nm, q_bin, q_neg, q_negI, q_not, q_bop, q_ife, q_cmp, q_ix, q_ixn, q_sl, q_sln, q_blt, q_lenn, q_isi, q_lst, q_tup, q_lc, q_push, q_pop, q_evc, q_to0, q_to1, q_o0, q_o1, q_intD, q_a0, q_a1, q_tnt, q_tbop, q_tcmp, q_chn, q_tchn, q_tval, q_tnm, q_iseq, q_irng, q_ienu, q_izip, q_iez, q_irev, q_sset, q_stgt, q_spro, q_spar, q_sput, q_sret, q_sretn, q_sife, q_swhl, q_sfor, q_sex, q_spass, q_sbrk, q_scnt, q_ss0, q_ss1, q_gonx, q_gort, q_gobk, q_goct, q_add, q_addl, q_addt, q_sub, q_mul, q_mull, q_mult, q_div, q_mod, q_pow, q_eq, q_ne, q_lt, q_le, q_gt, q_ge, q_is1, q_is2, q_is3, q_is4, q_is5, q_tr0, q_trb, q_tri, q_trl, q_trt, q_ixl, q_ixt, q_sll, q_slt, q_sls, q_lenl, q_lent, q_inti, q_absi, q_lisl, q_list, q_tupl, q_tupt, q_all, q_maxl, q_max, q_min, q_itl, q_itt, q_seql, q_seqt, q_rng1, q_rng2, q_enu1, q_enu2, q_end1, q_end2, q_own, q_val, q_st1, q_stt, q_stpr, q_sta0, q_sta1, q_re1, q_re0, q_appA, q_appioA, q_appkA, ↓bind_o, obind_some, List.getElem?_cons_zero, List.getElem?_cons_succ, List.set_cons_zero, List.set_cons_succ, lockS, slotL, Fz.atS, putL, runD, en0, vals, setS, opStop, wipeE, wipeS, restE, restS, plainS, szB_of, posB_of, b62_of, mulB_of, divB_of, powB_of, repB_one, timB_one, flat_one, I_rep, atI_0, atI_1, atI_2, atI_3, atI_4, ixN_of, cut_from, cut_to, eqv_int, eqv_none, shp_int, shp_bool, shp_none, zip_I]
  have he : RT2.enc ⟨v, s⟩ = [.tuple (Rw v), .tuple (I s)] := rfl
  have hlen : (I s).length = s.length := I_len s
  rw [he]
  dsimp only
  rw [hl]
  dsimp only [Option.getD]
  generalize topR a v s = t at *
  generalize I s = S at *
  generalize Rw v = V at *
  simp (config := {implicitDefEqProofs := false}) (disch := omega) [B_q_top, hN, c, lvD, hc, hlen, rngD_len, q_int, q_bl, q_non, q_nm, q_bin, q_neg, q_negI, q_not, q_bop, q_ife, q_cmp, q_ix, q_ixn, q_sl, q_sln, q_blt, q_lenn, q_isi, q_lst, q_tup, q_lc, q_push, q_pop, q_evc, q_to0, q_to1, q_o0, q_o1, q_intD, q_a0, q_a1, q_tnt, q_tbop, q_tcmp, q_chn, q_tchn, q_tval, q_tnm, q_iseq, q_irng, q_ienu, q_izip, q_iez, q_irev, q_sset, q_stgt, q_spro, q_spar, q_sput, q_sret, q_sretn, q_sife, q_swhl, q_sfor, q_sex, q_spass, q_sbrk, q_scnt, q_ss0, q_ss1, q_gonx, q_gort, q_gobk, q_goct, q_add, q_addl, q_addt, q_sub, q_mul, q_mull, q_mult, q_div, q_mod, q_pow, q_eq, q_ne, q_lt, q_le, q_gt, q_ge, q_is1, q_is2, q_is3, q_is4, q_is5, q_tr0, q_trb, q_tri, q_trl, q_trt, q_ixl, q_ixt, q_sll, q_slt, q_sls, q_lenl, q_lent, q_inti, q_absi, q_lisl, q_list, q_tupl, q_tupt, q_all, q_maxl, q_max, q_min, q_itl, q_itt, q_seql, q_seqt, q_rng1, q_rng2, q_enu1, q_enu2, q_end1, q_end2, q_own, q_val, q_st1, q_stt, q_stpr, q_sta0, q_sta1, q_re1, q_re0, q_appA, q_appioA, q_appkA, ↓bind_o, obind_some, List.getElem?_cons_zero, List.getElem?_cons_succ, List.set_cons_zero, List.set_cons_succ, lockS, slotL, Fz.atS, putL, runD, en0, vals, setS, opStop, wipeE, wipeS, restE, restS, plainS, szB_of, posB_of, b62_of, mulB_of, divB_of, powB_of, repB_one, timB_one, flat_one, I_rep, atI_0, atI_1, atI_2, atI_3, atI_4, ixN_of, cut_from, cut_to, eqv_int, eqv_none, shp_int, shp_bool, shp_none, zip_I]
theorem call_q_top (h : At fs j false 2 d_q_top) {v : List (List Int)} {s : List Int} {a k : Int} (h0 : v.length = s.length) (h1 : s.length ≤ 100) (hl : levelR v s = some (a, k)) : cAt fs j [.tuple (Rw v), .tuple (I s)] = some (false, .tuple (I (topR a v s))) := by
  have := h.c rfl (wordOf_at (res := fun x => (false, .tuple (I (topR ((levelR x.v x.s).getD (0, 0)).1 x.v x.s)), [])) (ok := RT2.ok1) RT2.inj (x := ⟨v, s⟩) ⟨h0, h1, a, k, hl⟩)
  dsimp only at this
  rw [hl] at this
  exact this
theorem nz_z {i a : Int} {t : List Int} (e : a = 0) : nzFrom i (a :: t) = nzFrom (i + 1) t := if_neg (by rw [e]; simp)
theorem nz_n {i a : Int} {t : List Int} (e : ¬ a = 0) : nzFrom i (a :: t) = i :: nzFrom (i + 1) t := if_pos e
theorem nz_loop (n : Nat) {V S : Sl} : ∀ (t : List Int) (i : Int), lcL (evC ⟨N, fs, WW⟩ (n + 9) (.tup [2, 3]) [2, 3] (some (.cmp .NotEq (.nm 3) (.int 0))) (.nm 2)) (enumD i (I t)) ⟨[V, S, .no, .no], []⟩ = some (I (nzFrom i t), ⟨[V, S, .no, .no], []⟩)
  | [], i => rfl
  | a :: t, i => by
    have ih := nz_loop n (V := V) (S := S) t (i + 1)
    rw [I_cons]
    unfold enumD
    unfold lcL
    by_cases e : a = 0
    · have h1 : evC ⟨N, fs, WW⟩ (n + 9) (.tup [2, 3]) [2, 3] (some (.cmp .NotEq (.nm 3) (.int 0))) (.nm 2) (.tuple [.int i, .int a]) ⟨[V, S, .no, .no], []⟩ = some (none, ⟨[V, S, .no, .no], []⟩) := by
        subst e
        simp (config := {implicitDefEqProofs := false}) (disch := omega) [q_int, q_bl, q_non, q_nm, q_bin, q_neg, q_negI, q_not, q_bop, q_ife, q_cmp, q_ix, q_ixn, q_sl, q_sln, q_blt, q_lenn, q_isi, q_lst, q_tup, q_lc, q_push, q_pop, q_evc, q_to0, q_to1, q_o0, q_o1, q_intD, q_a0, q_a1, q_tnt, q_tbop, q_tcmp, q_chn, q_tchn, q_tval, q_tnm, q_iseq, q_irng, q_ienu, q_izip, q_iez, q_irev, q_sset, q_stgt, q_spro, q_spar, q_sput, q_sret, q_sretn, q_sife, q_swhl, q_sfor, q_sex, q_spass, q_sbrk, q_scnt, q_ss0, q_ss1, q_gonx, q_gort, q_gobk, q_goct, q_add, q_addl, q_addt, q_sub, q_mul, q_mull, q_mult, q_div, q_mod, q_pow, q_eq, q_ne, q_lt, q_le, q_gt, q_ge, q_is1, q_is2, q_is3, q_is4, q_is5, q_tr0, q_trb, q_tri, q_trl, q_trt, q_ixl, q_ixt, q_sll, q_slt, q_sls, q_lenl, q_lent, q_inti, q_absi, q_lisl, q_list, q_tupl, q_tupt, q_all, q_maxl, q_max, q_min, q_itl, q_itt, q_seql, q_seqt, q_rng1, q_rng2, q_enu1, q_enu2, q_end1, q_end2, q_own, q_val, q_st1, q_stt, q_stpr, q_sta0, q_sta1, q_re1, q_re0, q_appA, q_appioA, q_appkA, ↓bind_o, obind_some, List.getElem?_cons_zero, List.getElem?_cons_succ, List.set_cons_zero, List.set_cons_succ, lockS, slotL, Fz.atS, putL, runD, en0, vals, setS, opStop, wipeE, wipeS, restE, restS, plainS, szB_of, posB_of, b62_of, mulB_of, divB_of, powB_of, repB_one, timB_one, flat_one, I_rep, atI_0, atI_1, atI_2, atI_3, atI_4, ixN_of, cut_from, cut_to, eqv_int, eqv_none, shp_int, shp_bool, shp_none, zip_I]
      rw [h1]
      dsimp only
      rw [ih, nz_z e]
      rfl
    · have e' : (a == 0) = false := beq_false_of_ne e
      have h1 : evC ⟨N, fs, WW⟩ (n + 9) (.tup [2, 3]) [2, 3] (some (.cmp .NotEq (.nm 3) (.int 0))) (.nm 2) (.tuple [.int i, .int a]) ⟨[V, S, .no, .no], []⟩ = some (some (.int i), ⟨[V, S, .no, .no], []⟩) := by
        simp (config := {implicitDefEqProofs := false}) (disch := omega) [e, e', q_int, q_bl, q_non, q_nm, q_bin, q_neg, q_negI, q_not, q_bop, q_ife, q_cmp, q_ix, q_ixn, q_sl, q_sln, q_blt, q_lenn, q_isi, q_lst, q_tup, q_lc, q_push, q_pop, q_evc, q_to0, q_to1, q_o0, q_o1, q_intD, q_a0, q_a1, q_tnt, q_tbop, q_tcmp, q_chn, q_tchn, q_tval, q_tnm, q_iseq, q_irng, q_ienu, q_izip, q_iez, q_irev, q_sset, q_stgt, q_spro, q_spar, q_sput, q_sret, q_sretn, q_sife, q_swhl, q_sfor, q_sex, q_spass, q_sbrk, q_scnt, q_ss0, q_ss1, q_gonx, q_gort, q_gobk, q_goct, q_add, q_addl, q_addt, q_sub, q_mul, q_mull, q_mult, q_div, q_mod, q_pow, q_eq, q_ne, q_lt, q_le, q_gt, q_ge, q_is1, q_is2, q_is3, q_is4, q_is5, q_tr0, q_trb, q_tri, q_trl, q_trt, q_ixl, q_ixt, q_sll, q_slt, q_sls, q_lenl, q_lent, q_inti, q_absi, q_lisl, q_list, q_tupl, q_tupt, q_all, q_maxl, q_max, q_min, q_itl, q_itt, q_seql, q_seqt, q_rng1, q_rng2, q_enu1, q_enu2, q_end1, q_end2, q_own, q_val, q_st1, q_stt, q_stpr, q_sta0, q_sta1, q_re1, q_re0, q_appA, q_appioA, q_appkA, ↓bind_o, obind_some, List.getElem?_cons_zero, List.getElem?_cons_succ, List.set_cons_zero, List.set_cons_succ, lockS, slotL, Fz.atS, putL, runD, en0, vals, setS, opStop, wipeE, wipeS, restE, restS, plainS, szB_of, posB_of, b62_of, mulB_of, divB_of, powB_of, repB_one, timB_one, flat_one, I_rep, atI_0, atI_1, atI_2, atI_3, atI_4, ixN_of, cut_from, cut_to, eqv_int, eqv_none, shp_int, shp_bool, shp_none, zip_I]
      rw [h1]
      dsimp only
      rw [ih, nz_n e]
      rfl
theorem run_q_lead (hN : N.length = 4) (hT : At fs j false 2 d_q_top) {ds : List D} {z : Bool × D × List D} (h : d_q_lead ds = some z) : runD ⟨N, fs, WW⟩ 60 false (B_q_lead j) ds = some z := by
  obtain ⟨⟨v, s⟩, ⟨h0, h1, hf, a, m, hl⟩, rfl, rfl⟩ := wordOf_some h
  dsimp only at h0 h1 hf hl
  have c := call_q_top hT h0 h1 hl
  have hlast := nz_last (v.zip s) 0 none a m (fun q hq hn => hf _ (List.of_mem_zip hq).1 hn) hl
  have hlast2 : (nzFrom 0 (topR a v s)).getLast? = some m := by
    rcases hlast with h | ⟨_, h⟩
    · exact h
    · cases h
  have hat : atI (I (nzFrom 0 (topR a v s))) (-1) = some (.int m) := by
    rw [atI_last1, I_last, hlast2]
    rfl
  have hlen : (enumD 0 (I (topR a v s))).length ≤ 100 := by
    rw [enumD_len, I_len]
    unfold topR
    rw [List.length_map, List.length_zip]
    omega
  have hc := fun n V S => nz_loop (fs := fs) (N := N) n (V := V) (S := S) (topR a v s) 0
  have he : RT2.enc ⟨v, s⟩ = [.tuple (Rw v), .tuple (I s)] := rfl
  rw [he]
  dsimp only
  rw [hl]
  dsimp only [Option.getD]
  generalize I (nzFrom 0 (topR a v s)) = Z at *
  generalize I (topR a v s) = t at *
  generalize I s = S at *
  generalize Rw v = V at *
  have hlen2 : t.length ≤ 100 := by rw [enumD_len] at hlen; exact hlen
  simp (config := {implicitDefEqProofs := false}) (disch := omega) [B_q_lead, hN, c, hc, hat, hlen, hlen2, q_int, q_bl, q_non, q_nm, q_bin, q_neg, q_negI, q_not, q_bop, q_ife, q_cmp, q_ix, q_ixn, q_sl, q_sln, q_blt, q_lenn, q_isi, q_lst, q_tup, q_lc, q_push, q_pop, q_evc, q_to0, q_to1, q_o0, q_o1, q_intD, q_a0, q_a1, q_tnt, q_tbop, q_tcmp, q_chn, q_tchn, q_tval, q_tnm, q_iseq, q_irng, q_ienu, q_izip, q_iez, q_irev, q_sset, q_stgt, q_spro, q_spar, q_sput, q_sret, q_sretn, q_sife, q_swhl, q_sfor, q_sex, q_spass, q_sbrk, q_scnt, q_ss0, q_ss1, q_gonx, q_gort, q_gobk, q_goct, q_add, q_addl, q_addt, q_sub, q_mul, q_mull, q_mult, q_div, q_mod, q_pow, q_eq, q_ne, q_lt, q_le, q_gt, q_ge, q_is1, q_is2, q_is3, q_is4, q_is5, q_tr0, q_trb, q_tri, q_trl, q_trt, q_ixl, q_ixt, q_sll, q_slt, q_sls, q_lenl, q_lent, q_inti, q_absi, q_lisl, q_list, q_tupl, q_tupt, q_all, q_maxl, q_max, q_min, q_itl, q_itt, q_seql, q_seqt, q_rng1, q_rng2, q_enu1, q_enu2, q_end1, q_end2, q_own, q_val, q_st1, q_stt, q_stpr, q_sta0, q_sta1, q_re1, q_re0, q_appA, q_appioA, q_appkA, ↓bind_o, obind_some, List.getElem?_cons_zero, List.getElem?_cons_succ, List.set_cons_zero, List.set_cons_succ, lockS, slotL, Fz.atS, putL, runD, en0, vals, setS, opStop, wipeE, wipeS, restE, restS, plainS, szB_of, posB_of, b62_of, mulB_of, divB_of, powB_of, repB_one, timB_one, flat_one, I_rep, atI_0, atI_1, atI_2, atI_3, atI_4, ixN_of, cut_from, cut_to, eqv_int, eqv_none, shp_int, shp_bool, shp_none, zip_I]
theorem call_q_lead (h : At fs j false 2 d_q_lead) {v : List (List Int)} {s : List Int} {a k : Int} (h0 : v.length = s.length) (h1 : s.length ≤ 100) (hf : ∀ f ∈ v, f ≠ [] → f.getLast?.getD 0 ≠ 0) (hl : levelR v s = some (a, k)) : cAt fs j [.tuple (Rw v), .tuple (I s)] = some (false, .int k) := by
  have := h.c rfl (wordOf_at (res := fun x => (false, .int ((levelR x.v x.s).getD (0, 0)).2, [])) (ok := RT2.ok2) RT2.inj (x := ⟨v, s⟩) ⟨h0, h1, hf, a, k, hl⟩)
  dsimp only at this
  rw [hl] at this
  exact this
end W1
set_option Elab.async false
set_option linter.all false
set_option maxRecDepth 100000
set_option maxHeartbeats 4000000
namespace W1
open PySem PySem.Spec PyProof.Rows L2 Fz
variable {fs : List (Str × Fn)} {N : List Str} {j11 j12 j14 j15 j19 j29 j37 j39 : Nat}
/-! ### rows measured -/
theorem sd_int (n : Nat) (i : Int) : sd n (.int i) = true := by cases n <;> rfl
theorem sd_non (n : Nat) : sd n .none = true := by cases n <;> rfl
theorem sd_I (n : Nat) (f : List Int) : (I f).all (sd n) = true := by
  rw [List.all_eq_true]
  intro x hx
  obtain ⟨i, _, rfl⟩ := List.mem_map.mp hx
  exact sd_int n i
theorem sd_tI (n : Nat) {f : List Int} (h : f.length ≤ 100000) : sd (n + 1) (.tuple (I f)) = true := by
  unfold sd
  rw [sd_I, I_len, decide_eq_true h]
  rfl
theorem sd_lI (n : Nat) {f : List Int} (h : f.length ≤ 100000) : sd (n + 1) (.list (I f)) = true := by
  unfold sd
  rw [sd_I, I_len, decide_eq_true h]
  rfl
theorem sd_tRw (n : Nat) {p : Int} {m : Nat} {v : List (List Int)} (h : isRow p m v) (hm : m ≤ 100000) : sd (n + 2) (.tuple (Rw v)) = true := by
  unfold sd
  rw [Rw_len, decide_eq_true (show v.length ≤ 100000 by have := h.1; omega), Bool.true_and, List.all_eq_true]
  intro x hx
  obtain ⟨f, hf, rfl⟩ := List.mem_map.mp hx
  exact sd_tI n (Nat.le_trans (h.2 f hf).2 hm)
theorem sd_list (n : Nat) {l : List D} (h : l.length ≤ 100000) (ha : l.all (sd n) = true) : sd (n + 1) (.list l) = true := by
  unfold sd
  rw [decide_eq_true h, ha]
  rfl
theorem sd_pair (n : Nat) (a b : Int) : sd (n + 1) (.tuple [.int a, .int b]) = true := sd_tI (f := [a, b]) n (by simp)
def mz_body (j11 j12 j14 j15 j19 : Nat) : List RS := [.ret (.app j19 [(.lst [(.app j11 [(.nm 0), (.nm 1)]), (.app j12 [(.nm 0), (.nm 1)]), (.app j14 [(.nm 0), (.nm 1)]), (.app j15 [(.nm 0), (.nm 1)])]), (.lst [.non, .non, .non, .non])])]
def B_q_measured (j11 j12 j14 j15 j19 j29 j37 j39 : Nat) : List RS := [.ife (.cmp .Eq (.nm 0) (.app j29 [(.lenn 1)])) [.ret (.app j19 [(.lst [(.app j11 [(.nm 0), (.nm 1)]), (.app j12 [(.nm 0), (.nm 1)]), (.app j14 [(.nm 0), (.nm 1)]), (.app j15 [(.nm 0), (.nm 1)])]), (.lst [.non, .non, .non, .non])])] [], .set 2 (.blt .max [(.lc (.one 3) [3] (.rng [(.lenn 1)]) (some (.cmp .Gt (.blt .len [(.ixn 0 (.nm 3))]) (.int 0))) (.blt .int [(.bin .Add (.bin .Sub (.blt .len [(.ixn 0 (.nm 3))]) (.int 1)) (.ixn 1 (.nm 3)))]))]), .set 4 (.lst [(.nm 2), (.app j37 [(.nm 0), (.nm 1)]), (.app j39 [(.nm 0), (.nm 1)]), (.tup [(.nm 2), (.app j39 [(.nm 0), (.nm 1)])])]), .ife (.nt (.val (.app j19 [(.lst [(.app j11 [(.nm 0), (.nm 1)]), (.app j12 [(.nm 0), (.nm 1)]), (.app j14 [(.nm 0), (.nm 1)]), (.app j15 [(.nm 0), (.nm 1)])]), (.nm 4)]))) [.ret (.bl false)] [], .set 5 (.blt .list [(.nm 1)]), .ife (.nt (.val (.app j19 [(.lst [(.app j11 [(.nm 0), (.nm 5)]), (.app j12 [(.nm 0), (.nm 5)]), (.app j14 [(.nm 0), (.nm 5)]), (.app j15 [(.nm 0), (.nm 5)]), (.nm 5)]), (.bin .Add (.nm 4) (.lst [(.blt .list [(.nm 1)])]))]))) [.ret (.bl false)] [], .ret (.app j19 [(.lst [(.appk j11 0 [] [(.nm 1), (.nm 0)]), (.appk j12 0 [] [(.nm 1), (.nm 0)]), (.appk j14 0 [] [(.nm 1), (.nm 0)]), (.appk j15 0 [] [(.nm 1), (.nm 0)])]), (.nm 4)])]
noncomputable section
def RT2.ok3 (x : RT2) : Prop := x.v.length = x.s.length ∧ x.s.length ≤ 100 ∧ (∀ f ∈ x.v, f ≠ [] → f.getLast?.getD 0 ≠ 0)
def d_q_measured := wordOf RT2.enc RT2.ok3 fun x => (false, .bool true, [])
def HS (v : List (List Int)) (s : List Int) : List Int := ((List.range s.length).filter fun k => !(v.getD k []).isEmpty).map fun k => hgt (v.getD k [], s.getD k 0)
end
theorem zip_eq {v : List (List Int)} {s : List Int} (e : v.length = s.length) : v.zip s = (List.range s.length).map fun k => (v.getD k [], s.getD k 0) := by
  have := zip_range (fun q => q) e
  rw [List.map_id'] at this
  exact this
theorem HS_max {v : List (List Int)} {s : List Int} {h k : Int} (e : v.length = s.length) (hl : levelR v s = some (h, k)) : (HS v s).max? = some h := by
  obtain ⟨_, h2, h3⟩ := lv_some _ _ _ _ _ hl
  rw [List.max?_eq_some_iff]
  rw [zip_eq e] at h2 h3
  refine ⟨?_, ?_⟩
  · rcases h3 with ⟨q, hq, hn, he⟩ | h3
    · obtain ⟨m, hm, rfl⟩ := List.mem_map.mp hq
      refine List.mem_map.mpr ⟨m, List.mem_filter.mpr ⟨hm, ?_⟩, he⟩
      dsimp only at hn
      generalize v.getD m [] = f at *
      cases f with
      | nil => exact absurd rfl hn
      | cons _ _ => rfl
    · cases h3
  · intro b hb
    obtain ⟨m, hm, rfl⟩ := List.mem_map.mp hb
    rw [List.mem_filter] at hm
    refine h2 _ (List.mem_map.mpr ⟨m, hm.1, rfl⟩) fun z => ?_
    have z' : v.getD m [] = [] := z
    rw [z'] at hm
    exact absurd hm.2 (by decide)
theorem zero_or {v : List (List Int)} {s : List Int} (e : v.length = s.length) : (v = zeroR s.length ∧ levelR v s = none) ∨ (v ≠ zeroR s.length ∧ ∃ h k, levelR v s = some (h, k)) := by
  cases hl : levelR v s with
  | none =>
    left
    obtain ⟨_, h⟩ := lv_none _ _ _ hl
    refine ⟨?_, rfl⟩
    unfold zeroR
    rw [List.eq_replicate_iff]
    refine ⟨e, fun f hf => ?_⟩
    obtain ⟨m, hm, rfl⟩ := List.getElem_of_mem hf
    have hm' : m < s.length := by omega
    exact h (v[m], s[m]) (List.mem_iff_getElem.mpr ⟨m, by rw [List.length_zip]; omega, by rw [List.getElem_zip]⟩)
  | some q =>
    right
    refine ⟨fun z => ?_, q.1, q.2, rfl⟩
    have : levelR v s = none := lv_empty _ _ fun q hq => by
      have := (List.of_mem_zip hq).1
      rw [z] at this
      exact List.eq_of_mem_replicate this
    rw [hl] at this
    cases this
theorem call_none4 (hS : At fs j19 false 2 (d_same 3)) : cAt fs j19 [.list [.none, .none, .none, .none], .list [.none, .none, .none, .none]] = some (false, .bool true) := call_same hS (sd_list 2 (by decide) rfl)
theorem run_measured (hN : N.length = 6) (h11 : At fs j11 false 2 d_height_of) (h12 : At fs j12 false 2 d_top_of) (h14 : At fs j14 false 2 d_lead_of) (h15 : At fs j15 false 2 d_level_of) (hS : At fs j19 false 2 (d_same 3)) (h29 : At fs j29 false 1 d_zero_row) (h37 : At fs j37 false 2 d_q_top) (h39 : At fs j39 false 2 d_q_lead)
    (k11 : ∀ x y, kAt fs j11 0 0 [] [x, y] = cAt fs j11 [y, x]) (k12 : ∀ x y, kAt fs j12 0 0 [] [x, y] = cAt fs j12 [y, x]) (k14 : ∀ x y, kAt fs j14 0 0 [] [x, y] = cAt fs j14 [y, x]) (k15 : ∀ x y, kAt fs j15 0 0 [] [x, y] = cAt fs j15 [y, x])
    {ds : List D} {z : Bool × D × List D} (h : d_q_measured ds = some z) : runD ⟨N, fs, WW⟩ 60 false (B_q_measured j11 j12 j14 j15 j19 j29 j37 j39) ds = some z := by
  obtain ⟨⟨v, s⟩, ⟨h0, h1, hf⟩, rfl, rfl⟩ := wordOf_some h
  dsimp only at h0 h1 hf
  have hv1 : v.length ≤ 100 := by omega
  have a11 := call_height h11 (k := false) hv1 h1
  have a12 := call_top h12 (k := false) hv1 h1
  have a14 := call_lead h14 (k := false) hv1 h1
  have a15 := call_level h15 (k := false) hv1 h1
  have b11 := call_height h11 (k := true) hv1 h1
  have b12 := call_top h12 (k := true) hv1 h1
  have b14 := call_lead h14 (k := true) hv1 h1
  have b15 := call_level h15 (k := true) hv1 h1
  have a29 := call_zero_row h29 h1
  have he : RT2.enc ⟨v, s⟩ = [.tuple (Rw v), .tuple (I s)] := rfl
  have sv := shp_Rw v
  have sz := shp_Rw (zeroR s.length)
  have ev := eqv_Rw v (zeroR s.length)
  have hlen : (I s).length = s.length := I_len s
  rw [he]
  rcases zero_or h0 with ⟨z, hl⟩ | ⟨z, h, k, hl⟩
  · rw [hl] at a11 a12 a14 a15
    dsimp only at a11 a12 a14 a15
    rw [decide_eq_true z] at ev
    have n4 := call_none4 hS
    unfold seqOf at a11 a12 a14 a15
    rw [if_neg (by decide)] at a11 a12 a14 a15
    generalize Rw (zeroR s.length) = Z at *
    generalize I s = S at *
    generalize Rw v = V at *
    simp (config := {implicitDefEqProofs := false}) (disch := omega) [B_q_measured, hN, lvD, hlen, a29, sv, sz, ev, a11, a12, a14, a15, n4, q_int, q_bl, q_non, q_nm, q_bin, q_neg, q_negI, q_not, q_bop, q_ife, q_cmp, q_ix, q_ixn, q_sl, q_sln, q_blt, q_lenn, q_isi, q_lst, q_tup, q_lc, q_push, q_pop, q_evc, q_to0, q_to1, q_o0, q_o1, q_intD, q_a0, q_a1, q_tnt, q_tbop, q_tcmp, q_chn, q_tchn, q_tval, q_tnm, q_iseq, q_irng, q_ienu, q_izip, q_iez, q_irev, q_sset, q_stgt, q_spro, q_spar, q_sput, q_sret, q_sretn, q_sife, q_swhl, q_sfor, q_sex, q_spass, q_sbrk, q_scnt, q_ss0, q_ss1, q_gonx, q_gort, q_gobk, q_goct, q_add, q_addl, q_addt, q_sub, q_mul, q_mull, q_mult, q_div, q_mod, q_pow, q_eq, q_ne, q_lt, q_le, q_gt, q_ge, q_is1, q_is2, q_is3, q_is4, q_is5, q_tr0, q_trb, q_tri, q_trl, q_trt, q_ixl, q_ixt, q_sll, q_slt, q_sls, q_lenl, q_lent, q_inti, q_absi, q_lisl, q_list, q_tupl, q_tupt, q_all, q_maxl, q_max, q_min, q_itl, q_itt, q_seql, q_seqt, q_rng1, q_rng2, q_enu1, q_enu2, q_end1, q_end2, q_own, q_val, q_st1, q_stt, q_stpr, q_sta0, q_sta1, q_re1, q_re0, q_appA, q_appioA, q_appkA, ↓bind_o, obind_some, List.getElem?_cons_zero, List.getElem?_cons_succ, List.set_cons_zero, List.set_cons_succ, lockS, slotL, Fz.atS, putL, runD, en0, vals, setS, opStop, wipeE, wipeS, restE, restS, plainS, szB_of, posB_of, b62_of, mulB_of, divB_of, powB_of, repB_one, timB_one, flat_one, I_rep, atI_0, atI_1, atI_2, atI_3, atI_4, ixN_of, cut_from, cut_to, eqv_int, eqv_none, shp_int, shp_bool, shp_none, zip_I]
  · rw [hl] at a11 a12 a14 a15 b11 b12 b14 b15
    dsimp only at a11 a12 a14 a15 b11 b12 b14 b15
    rw [decide_eq_false z] at ev
    have hm := HS_max h0 hl
    have a37 := call_q_top h37 h0 h1 hl
    have a39 := call_q_lead h39 h0 h1 hf hl
    have htl : (topR h v s).length ≤ 100000 := by unfold topR; rw [List.length_map, List.length_zip]; omega
    have n4 : cAt fs j19 [.list [.int h, .tuple (I (topR h v s)), .int k, .tuple [.int h, .int k]], .list [.int h, .tuple (I (topR h v s)), .int k, .tuple [.int h, .int k]]] = some (false, .bool true) := call_same hS (sd_list 2 (by simp) (by simp [sd_int, sd_tI, htl, sd_pair]))
    have n5 : cAt fs j19 [.list [.int h, .tuple (I (topR h v s)), .int k, .tuple [.int h, .int k], .list (I s)], .list [.int h, .tuple (I (topR h v s)), .int k, .tuple [.int h, .int k], .list (I s)]] = some (false, .bool true) := call_same hS (sd_list 2 (by simp) (by simp [sd_int, sd_tI, htl, sd_pair, sd_lI, show s.length ≤ 100000 by omega]))
    have hc : ∀ n x4 x5, lcL (evC ⟨N, fs, WW⟩ (n + 15) (.one 3) [3] (some (.cmp .Gt (.blt .len [(.ixn 0 (.nm 3))]) (.int 0))) (.blt .int [(.bin .Add (.bin .Sub (.blt .len [(.ixn 0 (.nm 3))]) (.int 1)) (.ixn 1 (.nm 3)))])) (rngD 0 s.length) ⟨[.val (.tuple (Rw v)), .val (.tuple (I s)), .no, .no, x4, x5], []⟩ = some (I (HS v s), ⟨[.val (.tuple (Rw v)), .val (.tuple (I s)), .no, .no, x4, x5], []⟩) := by
      intro n x4 x5
      have e : I (HS v s) = ((List.range s.length).filter fun k => !(v.getD k []).isEmpty).map fun k => PyData.int (hgt (v.getD k [], s.getD k 0)) := by
        unfold HS I
        rw [List.map_map]
        rfl
      rw [e]
      unfold rngD
      refine lcL_filter _ _ _ fun m hm => ?_
      have hm' : m < s.length := List.mem_range.mp hm
      have hv := atI_Rw (v := v) (k := m) (by omega)
      have hs : atI (I s) (m : Int) = some (.int (s.getD m 0)) := atI_D hm'
      generalize v.getD m [] = f at *
      generalize s.getD m 0 = t at *
      generalize Rw v = V at *
      generalize I s = S at *
      unfold hgt
      cases f with
      | nil => simp (config := {implicitDefEqProofs := false}) (disch := omega) [hv, hs, q_int, q_bl, q_non, q_nm, q_bin, q_neg, q_negI, q_not, q_bop, q_ife, q_cmp, q_ix, q_ixn, q_sl, q_sln, q_blt, q_lenn, q_isi, q_lst, q_tup, q_lc, q_push, q_pop, q_evc, q_to0, q_to1, q_o0, q_o1, q_intD, q_a0, q_a1, q_tnt, q_tbop, q_tcmp, q_chn, q_tchn, q_tval, q_tnm, q_iseq, q_irng, q_ienu, q_izip, q_iez, q_irev, q_sset, q_stgt, q_spro, q_spar, q_sput, q_sret, q_sretn, q_sife, q_swhl, q_sfor, q_sex, q_spass, q_sbrk, q_scnt, q_ss0, q_ss1, q_gonx, q_gort, q_gobk, q_goct, q_add, q_addl, q_addt, q_sub, q_mul, q_mull, q_mult, q_div, q_mod, q_pow, q_eq, q_ne, q_lt, q_le, q_gt, q_ge, q_is1, q_is2, q_is3, q_is4, q_is5, q_tr0, q_trb, q_tri, q_trl, q_trt, q_ixl, q_ixt, q_sll, q_slt, q_sls, q_lenl, q_lent, q_inti, q_absi, q_lisl, q_list, q_tupl, q_tupt, q_all, q_maxl, q_max, q_min, q_itl, q_itt, q_seql, q_seqt, q_rng1, q_rng2, q_enu1, q_enu2, q_end1, q_end2, q_own, q_val, q_st1, q_stt, q_stpr, q_sta0, q_sta1, q_re1, q_re0, q_appA, q_appioA, q_appkA, ↓bind_o, obind_some, List.getElem?_cons_zero, List.getElem?_cons_succ, List.set_cons_zero, List.set_cons_succ, lockS, slotL, Fz.atS, putL, runD, en0, vals, setS, opStop, wipeE, wipeS, restE, restS, plainS, szB_of, posB_of, b62_of, mulB_of, divB_of, powB_of, repB_one, timB_one, flat_one, I_rep, atI_0, atI_1, atI_2, atI_3, atI_4, ixN_of, cut_from, cut_to, eqv_int, eqv_none, shp_int, shp_bool, shp_none, zip_I]
      | cons a f => simp (config := {implicitDefEqProofs := false}) (disch := omega) [hv, hs, q_int, q_bl, q_non, q_nm, q_bin, q_neg, q_negI, q_not, q_bop, q_ife, q_cmp, q_ix, q_ixn, q_sl, q_sln, q_blt, q_lenn, q_isi, q_lst, q_tup, q_lc, q_push, q_pop, q_evc, q_to0, q_to1, q_o0, q_o1, q_intD, q_a0, q_a1, q_tnt, q_tbop, q_tcmp, q_chn, q_tchn, q_tval, q_tnm, q_iseq, q_irng, q_ienu, q_izip, q_iez, q_irev, q_sset, q_stgt, q_spro, q_spar, q_sput, q_sret, q_sretn, q_sife, q_swhl, q_sfor, q_sex, q_spass, q_sbrk, q_scnt, q_ss0, q_ss1, q_gonx, q_gort, q_gobk, q_goct, q_add, q_addl, q_addt, q_sub, q_mul, q_mull, q_mult, q_div, q_mod, q_pow, q_eq, q_ne, q_lt, q_le, q_gt, q_ge, q_is1, q_is2, q_is3, q_is4, q_is5, q_tr0, q_trb, q_tri, q_trl, q_trt, q_ixl, q_ixt, q_sll, q_slt, q_sls, q_lenl, q_lent, q_inti, q_absi, q_lisl, q_list, q_tupl, q_tupt, q_all, q_maxl, q_max, q_min, q_itl, q_itt, q_seql, q_seqt, q_rng1, q_rng2, q_enu1, q_enu2, q_end1, q_end2, q_own, q_val, q_st1, q_stt, q_stpr, q_sta0, q_sta1, q_re1, q_re0, q_appA, q_appioA, q_appkA, ↓bind_o, obind_some, List.getElem?_cons_zero, List.getElem?_cons_succ, List.set_cons_zero, List.set_cons_succ, lockS, slotL, Fz.atS, putL, runD, en0, vals, setS, opStop, wipeE, wipeS, restE, restS, plainS, szB_of, posB_of, b62_of, mulB_of, divB_of, powB_of, repB_one, timB_one, flat_one, I_rep, atI_0, atI_1, atI_2, atI_3, atI_4, ixN_of, cut_from, cut_to, eqv_int, eqv_none, shp_int, shp_bool, shp_none, zip_I]
    unfold seqOf at a11 a12 a14 a15 b11 b12 b14 b15
    rw [if_neg (by decide)] at a11 a12 a14 a15
    rw [if_pos rfl] at b11 b12 b14 b15
    have hai : allI (I (HS v s)) = some (HS v s) := allI_I _
    generalize I (HS v s) = L at *
    generalize HS v s = L' at *
    generalize Rw (zeroR s.length) = Z at *
    generalize I (topR h v s) = T at *
    generalize I s = S at *
    generalize Rw v = V at *
    simp (config := {implicitDefEqProofs := false}) (disch := omega) [B_q_measured, hN, lvD, hlen, a29, sv, sz, ev, a11, a12, a14, a15, b11, b12, b14, b15, a37, a39, n4, n5, hc, hai, hm, k11, k12, k14, k15, rngD_len, q_int, q_bl, q_non, q_nm, q_bin, q_neg, q_negI, q_not, q_bop, q_ife, q_cmp, q_ix, q_ixn, q_sl, q_sln, q_blt, q_lenn, q_isi, q_lst, q_tup, q_lc, q_push, q_pop, q_evc, q_to0, q_to1, q_o0, q_o1, q_intD, q_a0, q_a1, q_tnt, q_tbop, q_tcmp, q_chn, q_tchn, q_tval, q_tnm, q_iseq, q_irng, q_ienu, q_izip, q_iez, q_irev, q_sset, q_stgt, q_spro, q_spar, q_sput, q_sret, q_sretn, q_sife, q_swhl, q_sfor, q_sex, q_spass, q_sbrk, q_scnt, q_ss0, q_ss1, q_gonx, q_gort, q_gobk, q_goct, q_add, q_addl, q_addt, q_sub, q_mul, q_mull, q_mult, q_div, q_mod, q_pow, q_eq, q_ne, q_lt, q_le, q_gt, q_ge, q_is1, q_is2, q_is3, q_is4, q_is5, q_tr0, q_trb, q_tri, q_trl, q_trt, q_ixl, q_ixt, q_sll, q_slt, q_sls, q_lenl, q_lent, q_inti, q_absi, q_lisl, q_list, q_tupl, q_tupt, q_all, q_maxl, q_max, q_min, q_itl, q_itt, q_seql, q_seqt, q_rng1, q_rng2, q_enu1, q_enu2, q_end1, q_end2, q_own, q_val, q_st1, q_stt, q_stpr, q_sta0, q_sta1, q_re1, q_re0, q_appA, q_appioA, q_appkA, ↓bind_o, obind_some, List.getElem?_cons_zero, List.getElem?_cons_succ, List.set_cons_zero, List.set_cons_succ, lockS, slotL, Fz.atS, putL, runD, en0, vals, setS, opStop, wipeE, wipeS, restE, restS, plainS, szB_of, posB_of, b62_of, mulB_of, divB_of, powB_of, repB_one, timB_one, flat_one, I_rep, atI_0, atI_1, atI_2, atI_3, atI_4, ixN_of, cut_from, cut_to, eqv_int, eqv_none, shp_int, shp_bool, shp_none, zip_I]
theorem call_measured (h : At fs j11 false 2 d_q_measured) {v : List (List Int)} {s : List Int} (h0 : v.length = s.length) (h1 : s.length ≤ 100) (hf : ∀ f ∈ v, f ≠ [] → f.getLast?.getD 0 ≠ 0) : cAt fs j11 [.tuple (Rw v), .tuple (I s)] = some (false, .bool true) :=
  h.c rfl (wordOf_at RT2.inj (x := ⟨v, s⟩) ⟨h0, h1, hf⟩)
end W1
set_option Elab.async false
set_option linter.all false
set_option maxRecDepth 100000
set_option maxHeartbeats 4000000
namespace W1
open PySem PySem.Spec PyProof.Rows L2 Fz
variable {fs : List (Str × Fn)} {N : List Str} {j : Nat}
/-! ### rows of nearly even heights -/
def ev_body (j : Nat) : List RS := [.set 6 (.ife (.cmp .Gt (.appio j 0 [(.int 3)]) (.int 0)) (.bin .Sub (.nm 3) (.nm 5)) (.bin .Sub (.appio j 0 [(.int 3)]) (.int 1))), .ex (.push 4 (.ife (.bop .Or (.cmp .Lt (.nm 6) (.int 0)) (.cmp .Gt (.nm 6) (.int 40))) (.tup []) (.blt .tuple [(.bin .Add (.lc (.one 7) [7] (.rng [(.nm 6)]) none (.appio j 0 [(.nm 1)])) (.lst [(.bin .Add (.int 1) (.appio j 0 [(.bin .Sub (.nm 1) (.int 1))]))]))])))]
def B_q_even (j : Nat) : List RS := [.pro 3 4 (.bin .Add (.blt .max [(.lc (.one 5) [5] (.seq (.nm 2)) none (.blt .int [(.nm 5)]))]) (.appio j 0 [(.int 4)])) (.lst []), .for (.one 5) (.seq (.nm 2)) (ev_body j), .ret (.blt .tuple [(.nm 4)])]
noncomputable section
def degB (h a : Int) (b : Bag) : Int × Bag := if 0 < (draw b 3).1 then (h - a, (draw b 3).2) else ((draw (draw b 3).2 3).1 - 1, (draw (draw b 3).2 3).2)
def fillB (p d : Int) (b : Bag) : List Int × Bag :=
  if d < 0 ∨ 40 < d then ([], b) else ((drawN p d.toNat b).1 ++ [1 + (draw (drawN p d.toNat b).2 (p - 1)).1], (draw (drawN p d.toNat b).2 (p - 1)).2)
def evStep (p h a : Int) (b : Bag) : List Int × Bag := fillB p (degB h a b).1 (degB h a b).2
def evFrom (p h : Int) : List Int → Bag → List (List Int) × Bag
  | [], b => ([], b)
  | a :: s, b => ((evStep p h a b).1 :: (evFrom p h s (evStep p h a b).2).1, (evFrom p h s (evStep p h a b).2).2)
def evenB (p : Int) (s : List Int) (b : Bag) : List (List Int) × Bag := evFrom p ((s.max?).getD 0 + (draw b 4).1) s (draw b 4).2
def evOk (p : Int) (s : List Int) : Prop := 1 < p ∧ p < 100 ∧ s ≠ [] ∧ s.length ≤ 100 ∧ ∀ a ∈ s, -100 ≤ a ∧ a ≤ 100
open Classical in
def d_q_even : List D → Option (Bool × D × List D)
  | [.list l, .int p, .tuple S] => (allI S).bind fun s => withBag 999990000 l fun b => if evOk p s then some (.tuple (Rw (evenB p s b).1), (evenB p s b).2) else none
  | _ => none
end
theorem deg_inv {b : Bag} {n h a : Int} (hb : Inv b n) : Inv (degB h a b).2 (n + 2) := by
  obtain ⟨v1, _, _⟩ := draw_inv (top := 3) hb (by decide)
  obtain ⟨w1, _, _⟩ := draw_inv (top := 3) v1 (by decide)
  unfold degB
  split
  · exact v1.up (by omega)
  · exact w1.up (by omega)
theorem deg_b {b : Bag} {n h a : Int} (hb : Inv b n) (h1 : -1000 ≤ h - a) (h2 : h - a ≤ 1000) : -1000 ≤ (degB h a b).1 ∧ (degB h a b).1 ≤ 1000 := by
  obtain ⟨v1, _, _⟩ := draw_inv (top := 3) hb (by decide)
  obtain ⟨w1, w2, w3⟩ := draw_inv (top := 3) v1 (by decide)
  unfold degB
  split
  · exact ⟨h1, h2⟩
  · dsimp only
    omega
theorem fill_inv {b : Bag} {n p d : Int} (hp : 1 < p) (hb : Inv b n) : Inv (fillB p d b).2 (n + 41) ∧ isForm p (fillB p d b).1 ∧ (fillB p d b).1.length ≤ 41 := by
  unfold fillB
  split
  · exact ⟨hb.up (by omega), ⟨(fun x hx => by cases hx), rfl⟩, by simp⟩
  · rename_i c
    obtain ⟨v1, v2, v3⟩ := drawN_inv (top := p) (by omega) d.toNat hb
    obtain ⟨w1, w2, w3⟩ := draw_inv (top := p - 1) v1 (by omega)
    refine ⟨w1.up (by omega), ⟨fun x hx => ?_, trim_snoc _ (by omega)⟩, by rw [List.length_append, v2, List.length_singleton]; omega⟩
    rcases List.mem_append.mp hx with hx | hx
    · exact v3 x hx
    · rw [List.mem_singleton] at hx
      omega
theorem evStep_inv {b : Bag} {n p h a : Int} (hp : 1 < p) (hb : Inv b n) : Inv (evStep p h a b).2 (n + 43) ∧ isForm p (evStep p h a b).1 ∧ (evStep p h a b).1.length ≤ 41 := by
  obtain ⟨f1, f2, f3⟩ := fill_inv (p := p) (d := (degB h a b).1) hp (deg_inv (h := h) (a := a) hb)
  exact ⟨f1.up (by omega), f2, f3⟩
theorem evFrom_inv {p h : Int} (hp : 1 < p) : ∀ (s : List Int) {b : Bag} {n : Int}, Inv b n → Inv (evFrom p h s b).2 (n + s.length * 43) ∧ (evFrom p h s b).1.length = s.length ∧ ∀ f ∈ (evFrom p h s b).1, isForm p f ∧ f.length ≤ 41
  | [], b, n, hb => ⟨hb.up (by simp), rfl, fun f hf => by cases hf⟩
  | a :: s, b, n, hb => by
    obtain ⟨f1, f2, f3⟩ := evStep_inv (h := h) (a := a) hp hb
    obtain ⟨g1, g2, g3⟩ := evFrom_inv hp s f1
    unfold evFrom
    refine ⟨g1.up (by rw [List.length_cons]; omega), by rw [List.length_cons, List.length_cons, g2], fun f hf => ?_⟩
    rcases List.mem_cons.mp hf with rfl | hf
    · exact ⟨f2, f3⟩
    · exact g3 f hf
theorem even_inv {p : Int} {s : List Int} {b : Bag} {n : Int} (hp : 1 < p) (hs : s.length ≤ 100) (hb : Inv b n) : Inv (evenB p s b).2 (n + s.length * 43 + 1) ∧ isRow p 41 (evenB p s b).1 ∧ (evenB p s b).1.length = s.length := by
  obtain ⟨v1, _, _⟩ := draw_inv (top := 4) hb (by decide)
  obtain ⟨g1, g2, g3⟩ := evFrom_inv (h := (s.max?).getD 0 + (draw b 4).1) hp s v1
  exact ⟨g1.up (by omega), ⟨by unfold evenB; rw [g2]; exact hs, g3⟩, g2⟩
def ev0 (j : Nat) : RS := .set 6 (.ife (.cmp .Gt (.appio j 0 [(.int 3)]) (.int 0)) (.bin .Sub (.nm 3) (.nm 5)) (.bin .Sub (.appio j 0 [(.int 3)]) (.int 1)))
def ev1 (j : Nat) : RS := .ex (.push 4 (.ife (.bop .Or (.cmp .Lt (.nm 6) (.int 0)) (.cmp .Gt (.nm 6) (.int 40))) (.tup []) (.blt .tuple [(.bin .Add (.lc (.one 7) [7] (.rng [(.nm 6)]) none (.appio j 0 [(.nm 1)])) (.lst [(.bin .Add (.int 1) (.appio j 0 [(.bin .Sub (.nm 1) (.int 1))]))]))])))
theorem ev_degs (hD : At fs j true 2 d_draw) (n : Nat) {h a : Int} {b : Bag} {P S F x6 x7 : Sl} (hb : Inv b 999998000) :
    evS ⟨N, fs, WW⟩ (n + 28) (ev0 j) ⟨[.bag, P, S, .val (.int h), F, .val (.int a), x6, x7], bagD b⟩ = some (.nx ⟨[.bag, P, S, .val (.int h), F, .val (.int a), .val (.int (degB h a b).1), x7], bagD (degB h a b).2⟩) := by
  have c1 := call_draw hD (top := 3) (hb.up (by decide)) (by decide) (by decide)
  obtain ⟨v1, v2, v3⟩ := draw_inv (top := 3) hb (by decide)
  have c2 := call_draw hD (b := (draw b 3).2) (top := 3) (v1.up (by decide)) (by decide) (by decide)
  unfold degB ev0
  generalize draw (draw b 3).2 3 = Y at *
  generalize draw b 3 = X at *
  generalize bagD b = B0 at *
  by_cases g : 0 < X.1
  · rw [if_pos g]
    generalize bagD X.2 = B1 at *
    simp (config := {implicitDefEqProofs := false}) (disch := omega) [hD, c1, g, q_int, q_bl, q_non, q_nm, q_bin, q_neg, q_negI, q_not, q_bop, q_ife, q_cmp, q_ix, q_ixn, q_sl, q_sln, q_blt, q_lenn, q_isi, q_lst, q_tup, q_lc, q_push, q_pop, q_evc, q_to0, q_to1, q_o0, q_o1, q_intD, q_a0, q_a1, q_tnt, q_tbop, q_tcmp, q_chn, q_tchn, q_tval, q_tnm, q_iseq, q_irng, q_ienu, q_izip, q_iez, q_irev, q_sset, q_stgt, q_spro, q_spar, q_sput, q_sret, q_sretn, q_sife, q_swhl, q_sfor, q_sex, q_spass, q_sbrk, q_scnt, q_ss0, q_ss1, q_gonx, q_gort, q_gobk, q_goct, q_add, q_addl, q_addt, q_sub, q_mul, q_mull, q_mult, q_div, q_mod, q_pow, q_eq, q_ne, q_lt, q_le, q_gt, q_ge, q_is1, q_is2, q_is3, q_is4, q_is5, q_tr0, q_trb, q_tri, q_trl, q_trt, q_ixl, q_ixt, q_sll, q_slt, q_sls, q_lenl, q_lent, q_inti, q_absi, q_lisl, q_list, q_tupl, q_tupt, q_all, q_maxl, q_max, q_min, q_itl, q_itt, q_seql, q_seqt, q_rng1, q_rng2, q_enu1, q_enu2, q_end1, q_end2, q_own, q_val, q_st1, q_stt, q_stpr, q_sta0, q_sta1, q_re1, q_re0, q_appA, q_appioA, q_appkA, ↓bind_o, obind_some, List.getElem?_cons_zero, List.getElem?_cons_succ, List.set_cons_zero, List.set_cons_succ, lockS, slotL, Fz.atS, putL, runD, en0, vals, setS, opStop, wipeE, wipeS, restE, restS, plainS, szB_of, posB_of, b62_of, mulB_of, divB_of, powB_of, repB_one, timB_one, flat_one, I_rep, atI_0, atI_1, atI_2, atI_3, atI_4, ixN_of, cut_from, cut_to, eqv_int, eqv_none, shp_int, shp_bool, shp_none, zip_I]
  · rw [if_neg g]
    generalize bagD X.2 = B1 at *
    generalize bagD Y.2 = B2 at *
    simp (config := {implicitDefEqProofs := false}) (disch := omega) [hD, c1, c2, g, q_int, q_bl, q_non, q_nm, q_bin, q_neg, q_negI, q_not, q_bop, q_ife, q_cmp, q_ix, q_ixn, q_sl, q_sln, q_blt, q_lenn, q_isi, q_lst, q_tup, q_lc, q_push, q_pop, q_evc, q_to0, q_to1, q_o0, q_o1, q_intD, q_a0, q_a1, q_tnt, q_tbop, q_tcmp, q_chn, q_tchn, q_tval, q_tnm, q_iseq, q_irng, q_ienu, q_izip, q_iez, q_irev, q_sset, q_stgt, q_spro, q_spar, q_sput, q_sret, q_sretn, q_sife, q_swhl, q_sfor, q_sex, q_spass, q_sbrk, q_scnt, q_ss0, q_ss1, q_gonx, q_gort, q_gobk, q_goct, q_add, q_addl, q_addt, q_sub, q_mul, q_mull, q_mult, q_div, q_mod, q_pow, q_eq, q_ne, q_lt, q_le, q_gt, q_ge, q_is1, q_is2, q_is3, q_is4, q_is5, q_tr0, q_trb, q_tri, q_trl, q_trt, q_ixl, q_ixt, q_sll, q_slt, q_sls, q_lenl, q_lent, q_inti, q_absi, q_lisl, q_list, q_tupl, q_tupt, q_all, q_maxl, q_max, q_min, q_itl, q_itt, q_seql, q_seqt, q_rng1, q_rng2, q_enu1, q_enu2, q_end1, q_end2, q_own, q_val, q_st1, q_stt, q_stpr, q_sta0, q_sta1, q_re1, q_re0, q_appA, q_appioA, q_appkA, ↓bind_o, obind_some, List.getElem?_cons_zero, List.getElem?_cons_succ, List.set_cons_zero, List.set_cons_succ, lockS, slotL, Fz.atS, putL, runD, en0, vals, setS, opStop, wipeE, wipeS, restE, restS, plainS, szB_of, posB_of, b62_of, mulB_of, divB_of, powB_of, repB_one, timB_one, flat_one, I_rep, atI_0, atI_1, atI_2, atI_3, atI_4, ixN_of, cut_from, cut_to, eqv_int, eqv_none, shp_int, shp_bool, shp_none, zip_I]
theorem ev_pushs (hD : At fs j true 2 d_draw) (n : Nat) {p d m : Int} {bd : Bag} {S Hs x5 : Sl} {found : List (List Int)} (di : Inv bd m) (hm : m ≤ 999998002) (hp : 1 < p) (hp2 : p < 100) (hl : found.length ≤ 1000) :
    evS ⟨N, fs, WW⟩ (n + 27) (ev1 j) ⟨[.bag, .val (.int p), S, Hs, .own (Rw found), x5, .val (.int d), .no], bagD bd⟩ = some (.nx ⟨[.bag, .val (.int p), S, Hs, .own (Rw (found ++ [(fillB p d bd).1])), x5, .val (.int d), .no], bagD (fillB p d bd).2⟩) := by
  have happ : ∀ f : List Int, Rw found ++ [PyData.tuple (I f)] = Rw (found ++ [f]) := fun f => by unfold Rw; rw [List.map_append]; rfl
  have hfl : (Rw found).length = found.length := Rw_len found
  unfold ev1 fillB
  by_cases c0 : d < 0 ∨ 40 < d
  · rw [if_pos c0]
    have ha := happ []
    rw [I_nil] at ha
    dsimp only
    generalize Rw (found ++ [[]]) = R2 at *
    generalize Rw found = R at *
    rcases c0 with c0 | c0
    · simp (config := {implicitDefEqProofs := false}) (disch := omega) [c0, ha, hfl, q_int, q_bl, q_non, q_nm, q_bin, q_neg, q_negI, q_not, q_bop, q_ife, q_cmp, q_ix, q_ixn, q_sl, q_sln, q_blt, q_lenn, q_isi, q_lst, q_tup, q_lc, q_push, q_pop, q_evc, q_to0, q_to1, q_o0, q_o1, q_intD, q_a0, q_a1, q_tnt, q_tbop, q_tcmp, q_chn, q_tchn, q_tval, q_tnm, q_iseq, q_irng, q_ienu, q_izip, q_iez, q_irev, q_sset, q_stgt, q_spro, q_spar, q_sput, q_sret, q_sretn, q_sife, q_swhl, q_sfor, q_sex, q_spass, q_sbrk, q_scnt, q_ss0, q_ss1, q_gonx, q_gort, q_gobk, q_goct, q_add, q_addl, q_addt, q_sub, q_mul, q_mull, q_mult, q_div, q_mod, q_pow, q_eq, q_ne, q_lt, q_le, q_gt, q_ge, q_is1, q_is2, q_is3, q_is4, q_is5, q_tr0, q_trb, q_tri, q_trl, q_trt, q_ixl, q_ixt, q_sll, q_slt, q_sls, q_lenl, q_lent, q_inti, q_absi, q_lisl, q_list, q_tupl, q_tupt, q_all, q_maxl, q_max, q_min, q_itl, q_itt, q_seql, q_seqt, q_rng1, q_rng2, q_enu1, q_enu2, q_end1, q_end2, q_own, q_val, q_st1, q_stt, q_stpr, q_sta0, q_sta1, q_re1, q_re0, q_appA, q_appioA, q_appkA, ↓bind_o, obind_some, List.getElem?_cons_zero, List.getElem?_cons_succ, List.set_cons_zero, List.set_cons_succ, lockS, slotL, Fz.atS, putL, runD, en0, vals, setS, opStop, wipeE, wipeS, restE, restS, plainS, szB_of, posB_of, b62_of, mulB_of, divB_of, powB_of, repB_one, timB_one, flat_one, I_rep, atI_0, atI_1, atI_2, atI_3, atI_4, ixN_of, cut_from, cut_to, eqv_int, eqv_none, shp_int, shp_bool, shp_none, zip_I]
    · have c4 : ¬ d < 0 := by omega
      simp (config := {implicitDefEqProofs := false}) (disch := omega) [c0, c4, ha, hfl, q_int, q_bl, q_non, q_nm, q_bin, q_neg, q_negI, q_not, q_bop, q_ife, q_cmp, q_ix, q_ixn, q_sl, q_sln, q_blt, q_lenn, q_isi, q_lst, q_tup, q_lc, q_push, q_pop, q_evc, q_to0, q_to1, q_o0, q_o1, q_intD, q_a0, q_a1, q_tnt, q_tbop, q_tcmp, q_chn, q_tchn, q_tval, q_tnm, q_iseq, q_irng, q_ienu, q_izip, q_iez, q_irev, q_sset, q_stgt, q_spro, q_spar, q_sput, q_sret, q_sretn, q_sife, q_swhl, q_sfor, q_sex, q_spass, q_sbrk, q_scnt, q_ss0, q_ss1, q_gonx, q_gort, q_gobk, q_goct, q_add, q_addl, q_addt, q_sub, q_mul, q_mull, q_mult, q_div, q_mod, q_pow, q_eq, q_ne, q_lt, q_le, q_gt, q_ge, q_is1, q_is2, q_is3, q_is4, q_is5, q_tr0, q_trb, q_tri, q_trl, q_trt, q_ixl, q_ixt, q_sll, q_slt, q_sls, q_lenl, q_lent, q_inti, q_absi, q_lisl, q_list, q_tupl, q_tupt, q_all, q_maxl, q_max, q_min, q_itl, q_itt, q_seql, q_seqt, q_rng1, q_rng2, q_enu1, q_enu2, q_end1, q_end2, q_own, q_val, q_st1, q_stt, q_stpr, q_sta0, q_sta1, q_re1, q_re0, q_appA, q_appioA, q_appkA, ↓bind_o, obind_some, List.getElem?_cons_zero, List.getElem?_cons_succ, List.set_cons_zero, List.set_cons_succ, lockS, slotL, Fz.atS, putL, runD, en0, vals, setS, opStop, wipeE, wipeS, restE, restS, plainS, szB_of, posB_of, b62_of, mulB_of, divB_of, powB_of, repB_one, timB_one, flat_one, I_rep, atI_0, atI_1, atI_2, atI_3, atI_4, ixN_of, cut_from, cut_to, eqv_int, eqv_none, shp_int, shp_bool, shp_none, zip_I]
  · rw [if_neg c0]
    have hl3 : ∀ n, lcL (evC ⟨N, fs, WW⟩ (n + 9) (.one 7) [7] none (.appio j 0 [(.nm 1)])) (rngD 0 d.toNat) ⟨[.bag, .val (.int p), S, Hs, .own (Rw found), x5, .val (.int d), .no], bagD bd⟩ = some (I (drawN p d.toNat bd).1, ⟨[.bag, .val (.int p), S, Hs, .own (Rw found), x5, .val (.int d), .no], bagD (drawN p d.toNat bd).2⟩) := by
      intro n
      have := lcL_draws (F := evC ⟨N, fs, WW⟩ (n + 9) (.one 7) [7] none (.appio j 0 [(.nm 1)])) (top := p) (by omega) (fun b => ⟨[.bag, .val (.int p), S, Hs, .own (Rw found), x5, .val (.int d), .no], bagD b⟩) 999999999 (fun d b hb => by
        have hc := call_draw hD (top := p) hb (by omega) (by omega)
        generalize hB : bagD b = B at *
        generalize hB2 : bagD (draw b p).2 = B2 at *
        simp (config := {implicitDefEqProofs := false}) (disch := omega) [hD, hc, q_int, q_bl, q_non, q_nm, q_bin, q_neg, q_negI, q_not, q_bop, q_ife, q_cmp, q_ix, q_ixn, q_sl, q_sln, q_blt, q_lenn, q_isi, q_lst, q_tup, q_lc, q_push, q_pop, q_evc, q_to0, q_to1, q_o0, q_o1, q_intD, q_a0, q_a1, q_tnt, q_tbop, q_tcmp, q_chn, q_tchn, q_tval, q_tnm, q_iseq, q_irng, q_ienu, q_izip, q_iez, q_irev, q_sset, q_stgt, q_spro, q_spar, q_sput, q_sret, q_sretn, q_sife, q_swhl, q_sfor, q_sex, q_spass, q_sbrk, q_scnt, q_ss0, q_ss1, q_gonx, q_gort, q_gobk, q_goct, q_add, q_addl, q_addt, q_sub, q_mul, q_mull, q_mult, q_div, q_mod, q_pow, q_eq, q_ne, q_lt, q_le, q_gt, q_ge, q_is1, q_is2, q_is3, q_is4, q_is5, q_tr0, q_trb, q_tri, q_trl, q_trt, q_ixl, q_ixt, q_sll, q_slt, q_sls, q_lenl, q_lent, q_inti, q_absi, q_lisl, q_list, q_tupl, q_tupt, q_all, q_maxl, q_max, q_min, q_itl, q_itt, q_seql, q_seqt, q_rng1, q_rng2, q_enu1, q_enu2, q_end1, q_end2, q_own, q_val, q_st1, q_stt, q_stpr, q_sta0, q_sta1, q_re1, q_re0, q_appA, q_appioA, q_appkA, ↓bind_o, obind_some, List.getElem?_cons_zero, List.getElem?_cons_succ, List.set_cons_zero, List.set_cons_succ, lockS, slotL, Fz.atS, putL, runD, en0, vals, setS, opStop, wipeE, wipeS, restE, restS, plainS, szB_of, posB_of, b62_of, mulB_of, divB_of, powB_of, repB_one, timB_one, flat_one, I_rep, atI_0, atI_1, atI_2, atI_3, atI_4, ixN_of, cut_from, cut_to, eqv_int, eqv_none, shp_int, shp_bool, shp_none, zip_I]) (rngD 0 d.toNat) di (by rw [rngD_len]; omega)
      rw [rngD_len] at this
      exact this
    obtain ⟨e1, e2, e3⟩ := drawN_inv (top := p) (by omega) d.toNat di
    have c3' := call_draw hD (b := (drawN p d.toNat bd).2) (top := p - 1) (e1.up (by omega)) (by omega) (by omega)
    have hb1 : b62 d = true := b62_of (by omega) (by omega)
    have hz : szB d.toNat = true := szB_of (by omega)
    have hone : ∀ x : Int, I (drawN p d.toNat bd).1 ++ [PyData.int x] = I ((drawN p d.toNat bd).1 ++ [x]) := fun x => by unfold I; rw [List.map_append]; rfl
    have hIl : (I (drawN p d.toNat bd).1).length = d.toNat := by rw [I_len]; exact e2
    have ha := happ ((drawN p d.toNat bd).1 ++ [1 + (draw (drawN p d.toNat bd).2 (p - 1)).1])
    have n1 : ¬ d < 0 := by omega
    have n2 : ¬ 40 < d := by omega
    have hz2 : szB (d.toNat + 1) = true := szB_of (by omega)
    dsimp only
    generalize draw (drawN p d.toNat bd).2 (p - 1) = Y at *
    generalize drawN p d.toNat bd = X at *
    have hone' := hone (1 + Y.1)
    generalize I (X.1 ++ [1 + Y.1]) = L2 at *
    generalize Rw (found ++ [X.1 ++ [1 + Y.1]]) = R2 at *
    generalize Rw found = R at *
    generalize bagD Y.2 = B5 at *
    generalize bagD X.2 = B4 at *
    generalize bagD bd = B3 at *
    simp (config := {implicitDefEqProofs := false}) (disch := omega) [hD, n1, n2, hl3, c3', hb1, hz, hz2, hone', hIl, ha, hfl, rngD_len, q_int, q_bl, q_non, q_nm, q_bin, q_neg, q_negI, q_not, q_bop, q_ife, q_cmp, q_ix, q_ixn, q_sl, q_sln, q_blt, q_lenn, q_isi, q_lst, q_tup, q_lc, q_push, q_pop, q_evc, q_to0, q_to1, q_o0, q_o1, q_intD, q_a0, q_a1, q_tnt, q_tbop, q_tcmp, q_chn, q_tchn, q_tval, q_tnm, q_iseq, q_irng, q_ienu, q_izip, q_iez, q_irev, q_sset, q_stgt, q_spro, q_spar, q_sput, q_sret, q_sretn, q_sife, q_swhl, q_sfor, q_sex, q_spass, q_sbrk, q_scnt, q_ss0, q_ss1, q_gonx, q_gort, q_gobk, q_goct, q_add, q_addl, q_addt, q_sub, q_mul, q_mull, q_mult, q_div, q_mod, q_pow, q_eq, q_ne, q_lt, q_le, q_gt, q_ge, q_is1, q_is2, q_is3, q_is4, q_is5, q_tr0, q_trb, q_tri, q_trl, q_trt, q_ixl, q_ixt, q_sll, q_slt, q_sls, q_lenl, q_lent, q_inti, q_absi, q_lisl, q_list, q_tupl, q_tupt, q_all, q_maxl, q_max, q_min, q_itl, q_itt, q_seql, q_seqt, q_rng1, q_rng2, q_enu1, q_enu2, q_end1, q_end2, q_own, q_val, q_st1, q_stt, q_stpr, q_sta0, q_sta1, q_re1, q_re0, q_appA, q_appioA, q_appkA, ↓bind_o, obind_some, List.getElem?_cons_zero, List.getElem?_cons_succ, List.set_cons_zero, List.set_cons_succ, lockS, slotL, Fz.atS, putL, runD, en0, vals, setS, opStop, wipeE, wipeS, restE, restS, plainS, szB_of, posB_of, b62_of, mulB_of, divB_of, powB_of, repB_one, timB_one, flat_one, I_rep, atI_0, atI_1, atI_2, atI_3, atI_4, ixN_of, cut_from, cut_to, eqv_int, eqv_none, shp_int, shp_bool, shp_none, zip_I]
theorem ev_step (hD : At fs j true 2 d_draw) (n : Nat) {p h a : Int} {b : Bag} {S x5 x6 : Sl} {found : List (List Int)} (hb : Inv b 999998000) (hp : 1 < p) (hp2 : p < 100) (hl : found.length ≤ 1000) :
    bodyF ⟨N, fs, WW⟩ (n + 30) (.one 5) (ev_body j) (.int a) ⟨[.bag, .val (.int p), S, .val (.int h), .own (Rw found), x5, x6, .no], bagD b⟩ = some (.nx ⟨[.bag, .val (.int p), S, .val (.int h), .own (Rw (found ++ [(evStep p h a b).1])), .val (.int a), .val (.int (degB h a b).1), .no], bagD (evStep p h a b).2⟩) := by
  show evSs _ (n + 30) [ev0 j, ev1 j] ⟨[.bag, .val (.int p), S, .val (.int h), .own (Rw found), .val (.int a), x6, .no], bagD b⟩ = _
  refine ss_nx (n := n + 29) (ev_degs (n := n + 1) hD hb) ?_
  refine ss_nx (n := n + 28) (ev_pushs (n := n + 1) hD (deg_inv hb) (by omega) hp hp2 hl) ?_
  rfl
theorem ev_loop (hD : At fs j true 2 d_draw) (n : Nat) {p h : Int} {S : Sl} (hp : 1 < p) (hp2 : p < 100) : ∀ (s : List Int) {b : Bag} {m : Int} (x5 x6 : Sl) (found : List (List Int)), Inv b m → m + s.length * 43 ≤ 999997000 → (∀ a ∈ s, -1000 ≤ h - a ∧ h - a ≤ 1000) → found.length + s.length ≤ 1000 →
    ∃ y5 y6, forL (bodyF ⟨N, fs, WW⟩ (n + 30) (.one 5) (ev_body j)) (I s) ⟨[.bag, .val (.int p), S, .val (.int h), .own (Rw found), x5, x6, .no], bagD b⟩ = some (.nx ⟨[.bag, .val (.int p), S, .val (.int h), .own (Rw (found ++ (evFrom p h s b).1)), y5, y6, .no], bagD (evFrom p h s b).2⟩)
  | [], b, m, x5, x6, found, _, _, _, _ => ⟨x5, x6, by rw [show (evFrom p h [] b).1 = [] from rfl, List.append_nil]; rfl⟩
  | a :: s, b, m, x5, x6, found, hb, hm, hs, hl => by
    have hm' : m + ((s.length + 1 : Nat) : Int) * 43 ≤ 999997000 := hm
    obtain ⟨i1, _, _⟩ := evStep_inv (h := h) (a := a) hp hb
    rw [List.length_cons] at hl
    obtain ⟨y5, y6, ih⟩ := ev_loop hD n (h := h) (S := S) hp hp2 s (.val (.int a)) (.val (.int (degB h a b).1)) (found ++ [(evStep p h a b).1]) i1 (by omega) (fun x hx => hs x (List.mem_cons_of_mem _ hx)) (by rw [List.length_append, List.length_singleton]; omega)
    refine ⟨y5, y6, ?_⟩
    rw [I_cons, forL_nx (ev_step hD n (hb.up (by omega)) hp hp2 (by omega)), ih, List.append_assoc]
    rfl
theorem run_q_even (hN : N.length = 8) (hD : At fs j true 2 d_draw) {ds : List D} {z : Bool × D × List D} (h : d_q_even ds = some z) : runD ⟨N, fs, WW⟩ 60 true (B_q_even j) ds = some z := by
  unfold d_q_even withBag at h
  split at h
  · rename_i l p S
    simp only [Option.bind_eq_some_iff] at h
    obtain ⟨s, hs, b, hb, h⟩ := h
    rw [bagOf_eq hb, allI_eq hs]
    split at h
    · rename_i hi
      simp only [Option.bind_eq_some_iff] at h
      obtain ⟨y, h1, h⟩ := h
      split at h1
      · rename_i ht
        cases h1
        cases h
        obtain ⟨hp, hp2, hne, hlen, hsm⟩ := ht
        have c1 := call_draw hD (top := 4) (hi.up (by decide)) (by decide) (by decide)
        obtain ⟨v1, v2, v3⟩ := draw_inv (top := 4) hi (by decide)
        obtain ⟨M, hM⟩ : ∃ M, s.max? = some M := by
          cases h : s.max? with
          | none => exact absurd (List.max?_eq_none_iff.mp h) hne
          | some M => exact ⟨M, rfl⟩
        have hMm := hsm M (List.max?_eq_some_iff.mp hM).1
        obtain ⟨y5, y6, hl⟩ := ev_loop (N := N) (fs := fs) hD 27 (h := M + (draw b 4).1) (S := .val (.tuple (I s))) hp hp2 s .no .no [] v1 (by omega) (fun a ha => by have := hsm a ha; omega) (by simp; omega)
        change forL (bodyF _ 57 _ _) _ ⟨[_, _, _, _, .own [], _, _, _], _⟩ = _ at hl
        rw [List.nil_append] at hl
        have hc : ∀ n, lcL (evC ⟨N, fs, WW⟩ (n + 9) (.one 5) [5] none (.blt .int [(.nm 5)])) (I s) ⟨[.bag, .val (.int p), .val (.tuple (I s)), .no, .no, .no, .no, .no], bagD b⟩ = some (I s, ⟨[.bag, .val (.int p), .val (.tuple (I s)), .no, .no, .no, .no, .no], bagD b⟩) := by
          intro n
          have : lcL (evC ⟨N, fs, WW⟩ (n + 9) (.one 5) [5] none (.blt .int [(.nm 5)])) (s.map PyData.int) ⟨[.bag, .val (.int p), .val (.tuple (I s)), .no, .no, .no, .no, .no], bagD b⟩ = some (s.map PyData.int, ⟨[.bag, .val (.int p), .val (.tuple (I s)), .no, .no, .no, .no, .no], bagD b⟩) := by
            refine lcL_pure _ _ fun x hx => ?_
            generalize I s = S at *
            simp (config := {implicitDefEqProofs := false}) (disch := omega) [q_int, q_bl, q_non, q_nm, q_bin, q_neg, q_negI, q_not, q_bop, q_ife, q_cmp, q_ix, q_ixn, q_sl, q_sln, q_blt, q_lenn, q_isi, q_lst, q_tup, q_lc, q_push, q_pop, q_evc, q_to0, q_to1, q_o0, q_o1, q_intD, q_a0, q_a1, q_tnt, q_tbop, q_tcmp, q_chn, q_tchn, q_tval, q_tnm, q_iseq, q_irng, q_ienu, q_izip, q_iez, q_irev, q_sset, q_stgt, q_spro, q_spar, q_sput, q_sret, q_sretn, q_sife, q_swhl, q_sfor, q_sex, q_spass, q_sbrk, q_scnt, q_ss0, q_ss1, q_gonx, q_gort, q_gobk, q_goct, q_add, q_addl, q_addt, q_sub, q_mul, q_mull, q_mult, q_div, q_mod, q_pow, q_eq, q_ne, q_lt, q_le, q_gt, q_ge, q_is1, q_is2, q_is3, q_is4, q_is5, q_tr0, q_trb, q_tri, q_trl, q_trt, q_ixl, q_ixt, q_sll, q_slt, q_sls, q_lenl, q_lent, q_inti, q_absi, q_lisl, q_list, q_tupl, q_tupt, q_all, q_maxl, q_max, q_min, q_itl, q_itt, q_seql, q_seqt, q_rng1, q_rng2, q_enu1, q_enu2, q_end1, q_end2, q_own, q_val, q_st1, q_stt, q_stpr, q_sta0, q_sta1, q_re1, q_re0, q_appA, q_appioA, q_appkA, ↓bind_o, obind_some, List.getElem?_cons_zero, List.getElem?_cons_succ, List.set_cons_zero, List.set_cons_succ, lockS, slotL, Fz.atS, putL, runD, en0, vals, setS, opStop, wipeE, wipeS, restE, restS, plainS, szB_of, posB_of, b62_of, mulB_of, divB_of, powB_of, repB_one, timB_one, flat_one, I_rep, atI_0, atI_1, atI_2, atI_3, atI_4, ixN_of, cut_from, cut_to, eqv_int, eqv_none, shp_int, shp_bool, shp_none, zip_I]
          exact this
        have hai : allI (I s) = some s := allI_I _
        have hIl : (I s).length ≤ 100 := by rw [I_len]; exact hlen
        unfold evenB
        rw [hM]
        dsimp only [Option.getD]
        generalize hX : draw b 4 = X at *
        generalize hE : evFrom p (M + X.1) s X.2 = E at *
        unfold ev_body at hl
        generalize I s = S at *
        generalize bagD b = B0 at *
        generalize bagD X.2 = B1 at *
        generalize bagD E.2 = B2 at *
        generalize Rw E.1 = R at *
        simp (config := {implicitDefEqProofs := false}) (disch := omega) [B_q_even, ev_body, hN, hD, c1, hc, hai, hM, hl, hIl, itemsD, q_int, q_bl, q_non, q_nm, q_bin, q_neg, q_negI, q_not, q_bop, q_ife, q_cmp, q_ix, q_ixn, q_sl, q_sln, q_blt, q_lenn, q_isi, q_lst, q_tup, q_lc, q_push, q_pop, q_evc, q_to0, q_to1, q_o0, q_o1, q_intD, q_a0, q_a1, q_tnt, q_tbop, q_tcmp, q_chn, q_tchn, q_tval, q_tnm, q_iseq, q_irng, q_ienu, q_izip, q_iez, q_irev, q_sset, q_stgt, q_spro, q_spar, q_sput, q_sret, q_sretn, q_sife, q_swhl, q_sfor, q_sex, q_spass, q_sbrk, q_scnt, q_ss0, q_ss1, q_gonx, q_gort, q_gobk, q_goct, q_add, q_addl, q_addt, q_sub, q_mul, q_mull, q_mult, q_div, q_mod, q_pow, q_eq, q_ne, q_lt, q_le, q_gt, q_ge, q_is1, q_is2, q_is3, q_is4, q_is5, q_tr0, q_trb, q_tri, q_trl, q_trt, q_ixl, q_ixt, q_sll, q_slt, q_sls, q_lenl, q_lent, q_inti, q_absi, q_lisl, q_list, q_tupl, q_tupt, q_all, q_maxl, q_max, q_min, q_itl, q_itt, q_seql, q_seqt, q_rng1, q_rng2, q_enu1, q_enu2, q_end1, q_end2, q_own, q_val, q_st1, q_stt, q_stpr, q_sta0, q_sta1, q_re1, q_re0, q_appA, q_appioA, q_appkA, ↓bind_o, obind_some, List.getElem?_cons_zero, List.getElem?_cons_succ, List.set_cons_zero, List.set_cons_succ, lockS, slotL, Fz.atS, putL, runD, en0, vals, setS, opStop, wipeE, wipeS, restE, restS, plainS, szB_of, posB_of, b62_of, mulB_of, divB_of, powB_of, repB_one, timB_one, flat_one, I_rep, atI_0, atI_1, atI_2, atI_3, atI_4, ixN_of, cut_from, cut_to, eqv_int, eqv_none, shp_int, shp_bool, shp_none, zip_I]
      · cases h1
    · cases h
  · cases h
theorem call_q_even (hD : At fs j true 3 d_q_even) {b : Bag} {p : Int} {s : List Int} (h : Inv b 999990000) (hs : evOk p s) : bAt fs j (bagD b) [.int p, .tuple (I s)] = some (false, .tuple (Rw (evenB p s b).1), bagD (evenB p s b).2) := by
  refine hD.b rfl ?_
  unfold d_q_even withBag
  dsimp only
  rw [allI_I, bagOf_D]
  simp only [Option.bind_some]
  rw [if_pos h, if_pos hs]
  rfl
end W1
set_option Elab.async false
set_option linter.all false
set_option maxRecDepth 100000
set_option maxHeartbeats 4000000
namespace W1
open PySem PySem.Spec PyProof.Rows L2 Fz
/-! ### the mathematics of rows -/
theorem last_nz {p : Int} {f : List Int} (h : isForm p f) (hn : f ≠ []) : f.getLast?.getD 0 ≠ 0 := by
  obtain ⟨l, y, rfl, y0, _⟩ := last_form h hn
  rw [List.getLast?_concat]
  show y ≠ 0
  omega
theorem gd_last {f : List Int} (hn : f ≠ []) : gd f (f.length - 1) = f.getLast?.getD 0 := by
  unfold gd
  rw [List.getD_eq_getElem?_getD, List.getLast?_eq_getElem?]
theorem conv_top : ∀ (f g : List Int), f ≠ [] → g ≠ [] → conv f g (f.length + g.length - 2) = gd f (f.length - 1) * gd g (g.length - 1)
  | [], _, h, _ => absurd rfl h
  | [x], g, _, hg => by
    have hl := List.length_pos_iff.mpr hg
    rw [show [x].length + g.length - 2 = g.length - 1 by simp only [List.length_cons, List.length_nil]; omega]
    cases hk : g.length - 1 with
    | zero => rfl
    | succ k =>
      show x * gd g (k + 1) + conv [] g k = x * gd g (k + 1)
      rw [show conv [] g k = 0 from rfl, Int.add_zero]
  | x :: y :: f, g, _, hg => by
    have hl := List.length_pos_iff.mpr hg
    have ih := conv_top (y :: f) g (by simp) hg
    rw [show (x :: y :: f).length + g.length - 2 = ((y :: f).length + g.length - 2) + 1 by simp only [List.length_cons]; omega]
    show x * gd g _ + conv (y :: f) g _ = _
    rw [ih, show gd g ((y :: f).length + g.length - 2 + 1) = 0 from getD_out (by simp only [List.length_cons]; omega), Int.mul_zero, Int.zero_add]
    rw [show (x :: y :: f).length - 1 = ((y :: f).length - 1) + 1 by simp only [List.length_cons]; omega, gd_s]
theorem trim_last : ∀ {l : List Int}, l ≠ [] → gd l (l.length - 1) ≠ 0 → trim l = l := by
  intro l hn h
  rcases List.eq_nil_or_concat l with rfl | ⟨a, y, rfl⟩
  · exact absurd rfl hn
  · rw [List.concat_eq_append] at *
    rw [gd_last hn, List.getLast?_concat] at h
    exact trim_snoc a h
theorem prod_nz {p : Nat} (hp : p ∈ PR) {x y : Int} (x0 : 0 < x) (x1 : x < p) (y0 : 0 < y) (y1 : y < p) : x * y % p ≠ 0 := by
  intro e
  obtain ⟨_, _, _, i⟩ := inv_ok hp x0 x1
  have h1 : inv p x * (x * y) % p = 0 := by
    rw [Int.mul_emod, e, Int.mul_zero, Int.zero_emod]
  rw [← Int.mul_assoc, Int.mul_emod, i, Int.one_mul, Int.emod_emod, Int.emod_eq_of_lt (by omega) y1] at h1
  omega
theorem pm_exact {p : Nat} (hp : p ∈ PR) {f g : List Int} (hf : isForm p f) (hg : isForm p g) (nf : f ≠ []) (ng : g ≠ []) : (pm p f g).length = f.length + g.length - 1 := by
  have lf := List.length_pos_iff.mpr nf
  have lg := List.length_pos_iff.mpr ng
  have e : pm p f g = formOf p (mulRaw f g) := by
    unfold pm
    cases f with
    | nil => exact absurd rfl nf
    | cons _ _ =>
      cases g with
      | nil => exact absurd rfl ng
      | cons _ _ => rfl
  rw [e]
  unfold formOf
  have hl : ((mulRaw f g).map (· % (p : Int))).length = f.length + g.length - 1 := by rw [List.length_map, mulRaw_len]
  rw [trim_last ?_ ?_, hl]
  · intro z
    rw [z] at hl
    simp only [List.length_nil] at hl
    omega
  · rw [hl, gd_map (u := (· % (p : Int))) (by simp), gd_mulRaw nf ng, show f.length + g.length - 1 - 1 = f.length + g.length - 2 by omega, conv_top f g nf ng, gd_last nf, gd_last ng]
    obtain ⟨a, x, rfl, x0, x1⟩ := last_form hf nf
    obtain ⟨b, y, rfl, y0, y1⟩ := last_form hg ng
    rw [List.getLast?_concat, List.getLast?_concat]
    exact prod_nz hp x0 x1 y0 y1
theorem lvStep_shift {p : Nat} (hp : p ∈ PR) {f g : List Int} (hf : isForm p f) (hg : isForm p g) (nf : f ≠ []) (l : Option (Int × Int)) (i t : Int) : lvStep (l.map fun q => (q.1 + ((f.length : Int) - 1), q.2)) i (pm p f g) t = (lvStep l i g t).map fun q => (q.1 + ((f.length : Int) - 1), q.2) := by
  by_cases ng : g = []
  · subst ng
    have e : pm p f [] = [] := by unfold pm; simp
    rw [e]
    unfold lvStep
    rw [if_neg (fun c => c.1 rfl), if_neg (fun c => c.1 rfl)]
  · have lf := List.length_pos_iff.mpr nf
    have lg := List.length_pos_iff.mpr ng
    have hl := pm_exact hp hf hg nf ng
    have np : pm p f g ≠ [] := by intro z; rw [z] at hl; simp only [List.length_nil] at hl; omega
    unfold lvStep
    rw [hl]
    cases l with
    | none =>
      rw [if_pos ⟨np, fun _ x => by cases x⟩, if_pos ⟨ng, fun _ x => by cases x⟩]
      show some (_, i) = some (_, i)
      congr 2
      omega
    | some q =>
      by_cases c : q.1 ≤ (g.length : Int) - 1 + t
      · rw [if_pos ⟨np, fun _ x => by cases x; dsimp only; omega⟩, if_pos ⟨ng, fun _ x => by cases x; exact c⟩]
        show some (_, i) = some (_, i)
        congr 2
        omega
      · rw [if_neg (fun x => c (by have := x.2 _ rfl; dsimp only at this; omega)), if_neg (fun x => c (x.2 _ rfl))]
theorem lv_shift {p : Nat} (hp : p ∈ PR) {f : List Int} (hf : isForm p f) (nf : f ≠ []) : ∀ (v : List (List Int)) (s : List Int) (l : Option (Int × Int)) (i : Int), (∀ g ∈ v, isForm p g) → lvFrom (l.map fun q => (q.1 + ((f.length : Int) - 1), q.2)) i ((mulR p v f).zip s) = (lvFrom l i (v.zip s)).map fun q => (q.1 + ((f.length : Int) - 1), q.2)
  | [], s, l, i, _ => rfl
  | g :: v, [], l, i, _ => rfl
  | g :: v, t :: s, l, i, h => by
    show lvFrom (lvStep _ i (pm p f g) t) (i + 1) ((mulR p v f).zip s) = (lvFrom (lvStep l i g t) (i + 1) (v.zip s)).map _
    rw [lvStep_shift hp hf (h g List.mem_cons_self) nf]
    exact lv_shift hp hf nf v s _ _ fun x hx => h x (List.mem_cons_of_mem _ hx)
theorem level_times {p : Nat} (hp : p ∈ PR) {f : List Int} (hf : isForm p f) (nf : f ≠ []) {v : List (List Int)} (s : List Int) (h : ∀ g ∈ v, isForm p g) {a k : Int} (hl : levelR v s = some (a, k)) : levelR (mulR p v f) s = some (a + ((f.length : Int) - 1), k) := by
  have := lv_shift hp hf nf v s none 0 h
  rw [show lvFrom none 0 (v.zip s) = levelR v s from rfl, hl] at this
  exact this
/-! unit rows -/
theorem pm_one {p : Int} {g : List Int} (hg : isForm p g) : pm p g [1] = g := by
  unfold pm
  cases g with
  | nil => rfl
  | cons x g =>
    simp only [List.isEmpty_cons, Bool.or_self, Bool.false_eq_true, if_false]
    rw [mulRaw_comm (by simp) (by simp)]
    refine Eq.trans (formOf_ext fun k => ?_) (formOf_self hg)
    rw [gd_mulRaw (by simp) (by simp)]
    cases k with
    | zero => rw [conv_z]; simp [gd_z]
    | succ k =>
      show (1 * gd (x :: g) (k + 1) + conv [] (x :: g) k) % p = _
      rw [show conv [] (x :: g) k = 0 from rfl]
      simp
theorem pm_nil_r (p : Int) (g : List Int) : pm p g [] = [] := by unfold pm; simp
def uni (k : Int) (i : Nat) : List Int := if (i : Int) = k then [1] else []
theorem dot_out {p k : Int} : ∀ (v : List (List Int)) (j : Nat) {t : List Int}, isForm p t → k < j → (v.zip ((List.range' j v.length).map (uni k))).foldl (fun t q => formOf p (zadd t (pm p q.1 q.2))) t = t
  | [], j, t, _, _ => rfl
  | g :: v, j, t, ht, hk => by
    rw [List.length_cons, List.range'_succ, List.map_cons, List.zip_cons_cons, List.foldl_cons]
    have e : formOf p (zadd t (pm p g (uni k j))) = t := by
      unfold uni
      rw [if_neg (by omega), pm_nil_r, zadd_nil_r, formOf_self ht]
    dsimp only
    rw [e]
    exact dot_out v (j + 1) ht (by omega)
theorem dot_in {p k : Int} (hp : 0 < p) : ∀ (v : List (List Int)) (j : Nat), (∀ g ∈ v, isForm p g) → (j : Int) ≤ k → k < j + v.length → (v.zip ((List.range' j v.length).map (uni k))).foldl (fun t q => formOf p (zadd t (pm p q.1 q.2))) [] = v.getD (k - j).toNat []
  | [], j, _, h1, h2 => by simp at h2; omega
  | g :: v, j, hv, h1, h2 => by
    rw [List.length_cons] at h2
    rw [List.length_cons, List.range'_succ, List.map_cons, List.zip_cons_cons, List.foldl_cons]
    dsimp only
    by_cases c : (j : Int) = k
    · have e : formOf p (zadd [] (pm p g (uni k j))) = g := by
        unfold uni
        rw [if_pos c, pm_one (hv g List.mem_cons_self), show zadd [] g = g by unfold zadd; simp, formOf_self (hv g List.mem_cons_self)]
      rw [e, dot_out v (j + 1) (hv g List.mem_cons_self) (by omega), show (k - (j : Int)).toNat = 0 by omega]
      rfl
    · have e : formOf p (zadd [] (pm p g (uni k j))) = [] := by
        unfold uni
        rw [if_neg c, pm_nil_r]
        rfl
      rw [e, dot_in hp v (j + 1) (fun x hx => hv x (List.mem_cons_of_mem _ hx)) (by omega) (by omega), show (k - (j : Int)).toNat = (k - ((j + 1 : Nat) : Int)).toNat + 1 by omega]
      rfl
theorem dot_unit {p k : Int} (hp : 0 < p) {v : List (List Int)} (hv : ∀ g ∈ v, isForm p g) (h1 : 0 ≤ k) (h2 : k < v.length) : dotR p v (unitR v.length k) = v.getD k.toNat [] := by
  have := dot_in hp v 0 hv (by simpa using h1) (by simpa using h2)
  rw [← List.range_eq_range', show (k - ((0 : Nat) : Int)).toNat = k.toNat by simp] at this
  exact this
theorem unitR_row {p : Int} (hp : 1 < p) {n : Nat} (hn : n ≤ 100) (k : Int) : isRow p 1 (unitR n k) ∧ (unitR n k).length = n := by
  refine ⟨⟨by unfold unitR; rw [List.length_map, List.length_range]; exact hn, fun f hf => ?_⟩, by unfold unitR; rw [List.length_map, List.length_range]⟩
  obtain ⟨i, _, rfl⟩ := List.mem_map.mp hf
  split
  · exact ⟨⟨fun x hx => by simp only [List.mem_singleton] at hx; omega, trim_snoc [] (by decide)⟩, by simp⟩
  · exact ⟨⟨(fun x hx => by cases hx), rfl⟩, by simp⟩
theorem comb_len {p : Int} {m : Nat} : ∀ (l : List (List Int × List (List Int))) (t : List (List Int)), t.length = m → (∀ q ∈ l, q.2.length = m) → (l.foldl (fun t q => addR p t (mulR p q.2 q.1)) t).length = m
  | [], t, ht, _ => ht
  | q :: l, t, ht, h => by
    refine comb_len l _ ?_ fun r hr => h r (List.mem_cons_of_mem _ hr)
    rw [addR_len, mulR_len, ht, h q List.mem_cons_self]
    omega
theorem comb_row {p : Int} (hp : 0 < p) {m : Nat} (hm : m ≤ 100) {fs : List (List Int)} {vs : List (List (List Int))} (hf : ∀ f ∈ fs, f.length ≤ 100) (hv : ∀ w ∈ vs, isRow p 100 w ∧ w.length = m) : isRow p 200 (combR p m fs vs) ∧ (combR p m fs vs).length = m := by
  refine ⟨fold_row hp _ 200 100 100 (zeroR_row p hm) (by omega) (by omega) fun q hq => ?_, comb_len _ _ (by unfold zeroR; rw [List.length_replicate]) fun q hq => (hv _ (List.of_mem_zip hq).2).2⟩
  exact ⟨hf _ (List.of_mem_zip hq).1, (hv _ (List.of_mem_zip hq).2).1⟩
end W1
set_option Elab.async false
set_option linter.all false
set_option maxRecDepth 100000
set_option maxHeartbeats 8000000
namespace K07
open PySem PySem.Spec PyProof.Rows L2 Fz W1
def L_0 : RS := .tgt (.tup [3, 4]) (.tup [(.appio 21 1 []), (.bin .Add (.int 1) (.appio 17 1 [(.int 6)]))])
def L_1 : RS := .set 5 (.appio 28 1 [(.nm 4)])
def L_2 : RS := .par [6, 7] [(.appio 18 1 [(.lst [(.appio 38 1 [(.nm 3), (.nm 5)]), (.appio 27 1 [(.nm 3), (.nm 4), (.int 4)])])]), (.appio 27 1 [(.nm 3), (.nm 4), (.appio 18 1 [(.lst [(.int 0), (.int 2), (.int 4), (.int 20)])])])]
def L_3 : RS := .for (.one 8) (.seq (.lst [(.nm 6), (.nm 7), (.app 29 [(.nm 4)]), (.app 30 [(.nm 4), (.appio 17 1 [(.nm 4)])]), (.app 31 [(.nm 3), (.nm 6), (.nm 7)])])) [.ife (.nt (.val (.app 40 [(.nm 8), (.nm 5)]))) [.ret (.bl false)] []]
def L_4 : RS := .ife (.nt (.val (.app 19 [(.lst [(.app 6 [(.nm 3), (.nm 6), (.nm 7)]), (.app 7 [(.nm 3), (.nm 6), (.nm 7)]), (.app 9 [(.nm 3), (.nm 6), (.nm 7)])]), (.lst [(.app 31 [(.nm 3), (.nm 6), (.nm 7)]), (.app 32 [(.nm 3), (.nm 6), (.nm 7)]), (.app 34 [(.nm 3), (.nm 6), (.nm 7)])])]))) [.ret (.bl false)] []
def L_5 : RS := .ife (.nt (.val (.app 19 [(.lst [(.appk 6 0 [] [(.nm 7), (.nm 6), (.nm 3)]), (.appk 7 0 [] [(.nm 6), (.nm 7), (.nm 3)]), (.appk 9 0 [] [(.nm 6), (.nm 7), (.nm 3)])]), (.lst [(.app 31 [(.nm 3), (.nm 6), (.nm 7)]), (.app 32 [(.nm 3), (.nm 7), (.nm 6)]), (.app 34 [(.nm 3), (.nm 7), (.nm 6)])])]))) [.ret (.bl false)] []
def L_6 : RS := .set 9 (.appio 26 1 [(.nm 3), (.appio 18 1 [(.lst [(.int 0), (.int 1), (.int 3), (.int 12)])])])
def L_7 : RS := .ife (.nt (.val (.app 19 [(.lst [(.app 8 [(.nm 3), (.nm 6), (.nm 9)]), (.appk 8 0 [] [(.nm 9), (.nm 7), (.nm 3)])]), (.lst [(.app 33 [(.nm 3), (.nm 6), (.nm 9)]), (.app 33 [(.nm 3), (.nm 7), (.nm 9)])])]))) [.ret (.bl false)] []
def L_8 : RS := .ife (.bop .And (.cmp .NotEq (.nm 6) (.app 29 [(.nm 4)])) (.bop .And (.cmp .NotEq (.nm 9) (.tup [])) (.cmp .NotEq (.app 12 [(.app 8 [(.nm 3), (.nm 6), (.nm 9)]), (.nm 5)]) (.bin .Sub (.bin .Add (.app 12 [(.nm 6), (.nm 5)]) (.lenn 9)) (.int 1))))) [.ret (.bl false)] []
def L_9 : RS := .set 10 (.appio 17 1 [(.nm 4)])
def L_10 : RS := .ife (.nt (.val (.app 19 [(.lst [(.app 4 [(.nm 4)]), (.app 5 [(.nm 4), (.nm 10)]), (.appk 4 0 [] [(.nm 4)]), (.appk 5 0 [] [(.nm 10), (.nm 4)])]), (.lst [(.app 29 [(.nm 4)]), (.app 30 [(.nm 4), (.nm 10)]), (.app 29 [(.nm 4)]), (.app 30 [(.nm 4), (.nm 10)])])]))) [.ret (.bl false)] []
def L_11 : RS := .set 11 (.bin .Add (.lst [(.nm 6), (.nm 7)]) (.lc (.one 12) [12] (.rng [(.appio 17 1 [(.int 4)])]) none (.appio 27 1 [(.nm 3), (.nm 4), (.int 2)])))
def L_12 : RS := .set 11 (.sln 11 (some (.appio 17 1 [(.int 2)])) none)
def L_13 : RS := .par [13, 14] [(.lc (.one 8) [8] (.seq (.nm 11)) none (.appio 26 1 [(.nm 3), (.int 2)])), (.blt .list [(.nm 11)])]
def L_14 : RS := .set 15 (.app 35 [(.nm 3), (.nm 13), (.nm 11), (.nm 4)])
def L_15 : RS := .ife (.nt (.val (.app 19 [(.lst [(.app 10 [(.nm 3), (.nm 13), (.nm 11)]), (.app 10 [(.nm 3), (.blt .tuple [(.nm 13)]), (.nm 11)]), (.appk 10 0 [] [(.blt .tuple [(.nm 11)]), (.nm 13), (.nm 3)])]), (.lst [(.nm 15), (.nm 15), (.nm 15)])]))) [.ret (.bl false)] []
def L_16 : RS := .ife (.bop .Or (.cmp .NotEq (.nm 11) (.nm 14)) (.nt (.val (.app 19 [(.app 9 [(.nm 3), (.nm 15), (.app 5 [(.nm 4), (.nm 10)])]), (.ixn 15 (.nm 10))])))) [.ret (.bl false)] []
end K07
set_option Elab.async false
set_option linter.all false
set_option maxRecDepth 100000
set_option maxHeartbeats 4000000
namespace K07
open PySem PySem.Spec PyProof.Rows L2 Fz W1
/-! ### the law, statement by statement -/
def Plain (s : Sl) : Prop := s = .no ∨ ∃ d, s = .val d
section
variable {fs : List (Str × Fn)} {N : List Str} {n : Nat} {sc : D} {B B1 B2 B3 B4 B5 : List D} {a2 a3 a4 a5 a6 a7 a8 a9 a10 a11 a12 a13 a14 a15 : Sl} {p m : Int} {S V W U F X Y Z : D}
theorem t0 {c : Int} (hm : 1 + c = m) (h : bAt fs 21 B [] = some (false, .int p, B1)) (h2 : bAt fs 17 B1 [.int 6] = some (false, .int c, B2)) : evS ⟨N, fs, WW⟩ (n + 20) L_0 ⟨[.val sc, .own B, a2, a3, a4, a5, a6, a7, a8, a9, a10, a11, a12, a13, a14, a15], []⟩ = some (.nx ⟨[.val sc, .own B2, a2, .val (.int p), .val (.int m), a5, a6, a7, a8, a9, a10, a11, a12, a13, a14, a15], []⟩) := by
  subst hm
  unfold L_0
  simp (config := {implicitDefEqProofs := false}) (disch := omega) [h, h2, q_int, q_bl, q_non, q_nm, q_bin, q_neg, q_negI, q_not, q_bop, q_ife, q_cmp, q_ix, q_ixn, q_sl, q_sln, q_blt, q_lenn, q_isi, q_lst, q_tup, q_lc, q_push, q_pop, q_evc, q_to0, q_to1, q_o0, q_o1, q_intD, q_a0, q_a1, q_tnt, q_tbop, q_tcmp, q_chn, q_tchn, q_tval, q_tnm, q_iseq, q_irng, q_ienu, q_izip, q_iez, q_irev, q_sset, q_stgt, q_spro, q_spar, q_sput, q_sret, q_sretn, q_sife, q_swhl, q_sfor, q_sex, q_spass, q_sbrk, q_scnt, q_ss0, q_ss1, q_gonx, q_gort, q_gobk, q_goct, q_add, q_addl, q_addt, q_sub, q_mul, q_mull, q_mult, q_div, q_mod, q_pow, q_eq, q_ne, q_lt, q_le, q_gt, q_ge, q_is1, q_is2, q_is3, q_is4, q_is5, q_tr0, q_trb, q_tri, q_trl, q_trt, q_ixl, q_ixt, q_sll, q_slt, q_sls, q_lenl, q_lent, q_inti, q_absi, q_lisl, q_list, q_tupl, q_tupt, q_all, q_maxl, q_max, q_min, q_itl, q_itt, q_seql, q_seqt, q_rng1, q_rng2, q_enu1, q_enu2, q_end1, q_end2, q_own, q_val, q_st1, q_stt, q_stpr, q_sta0, q_sta1, q_re1, q_re0, q_appA, q_appioA, q_appkA, ↓bind_o, obind_some, List.getElem?_cons_zero, List.getElem?_cons_succ, List.set_cons_zero, List.set_cons_succ, lockS, slotL, Fz.atS, putL, runD, en0, vals, setS, opStop, wipeE, wipeS, restE, restS, plainS, szB_of, posB_of, b62_of, mulB_of, divB_of, powB_of, repB_one, timB_one, flat_one, I_rep, atI_0, atI_1, atI_2, atI_3, atI_4, ixN_of, cut_from, cut_to, eqv_int, eqv_none, shp_int, shp_bool, shp_none, zip_I]
theorem t1 (h : bAt fs 28 B [.int m] = some (false, S, B1)) : evS ⟨N, fs, WW⟩ (n + 20) L_1 ⟨[.val sc, .own B, a2, a3, .val (.int m), a5, a6, a7, a8, a9, a10, a11, a12, a13, a14, a15], []⟩ = some (.nx ⟨[.val sc, .own B1, a2, a3, .val (.int m), .val S, a6, a7, a8, a9, a10, a11, a12, a13, a14, a15], []⟩) := by
  unfold L_1
  simp (config := {implicitDefEqProofs := false}) (disch := omega) [h, q_int, q_bl, q_non, q_nm, q_bin, q_neg, q_negI, q_not, q_bop, q_ife, q_cmp, q_ix, q_ixn, q_sl, q_sln, q_blt, q_lenn, q_isi, q_lst, q_tup, q_lc, q_push, q_pop, q_evc, q_to0, q_to1, q_o0, q_o1, q_intD, q_a0, q_a1, q_tnt, q_tbop, q_tcmp, q_chn, q_tchn, q_tval, q_tnm, q_iseq, q_irng, q_ienu, q_izip, q_iez, q_irev, q_sset, q_stgt, q_spro, q_spar, q_sput, q_sret, q_sretn, q_sife, q_swhl, q_sfor, q_sex, q_spass, q_sbrk, q_scnt, q_ss0, q_ss1, q_gonx, q_gort, q_gobk, q_goct, q_add, q_addl, q_addt, q_sub, q_mul, q_mull, q_mult, q_div, q_mod, q_pow, q_eq, q_ne, q_lt, q_le, q_gt, q_ge, q_is1, q_is2, q_is3, q_is4, q_is5, q_tr0, q_trb, q_tri, q_trl, q_trt, q_ixl, q_ixt, q_sll, q_slt, q_sls, q_lenl, q_lent, q_inti, q_absi, q_lisl, q_list, q_tupl, q_tupt, q_all, q_maxl, q_max, q_min, q_itl, q_itt, q_seql, q_seqt, q_rng1, q_rng2, q_enu1, q_enu2, q_end1, q_end2, q_own, q_val, q_st1, q_stt, q_stpr, q_sta0, q_sta1, q_re1, q_re0, q_appA, q_appioA, q_appkA, ↓bind_o, obind_some, List.getElem?_cons_zero, List.getElem?_cons_succ, List.set_cons_zero, List.set_cons_succ, lockS, slotL, Fz.atS, putL, runD, en0, vals, setS, opStop, wipeE, wipeS, restE, restS, plainS, szB_of, posB_of, b62_of, mulB_of, divB_of, powB_of, repB_one, timB_one, flat_one, I_rep, atI_0, atI_1, atI_2, atI_3, atI_4, ixN_of, cut_from, cut_to, eqv_int, eqv_none, shp_int, shp_bool, shp_none, zip_I]
theorem t2 {d : Int} {B6 : List D} (h1 : bAt fs 38 B [.int p, S] = some (false, X, B1)) (h2 : bAt fs 27 B1 [.int p, .int m, .int 4] = some (false, Y, B2)) (h3 : bAt fs 18 B2 [.list [X, Y]] = some (false, V, B3)) (h4 : bAt fs 18 B3 [.list [.int 0, .int 2, .int 4, .int 20]] = some (false, .int d, B4)) (h5 : bAt fs 27 B4 [.int p, .int m, .int d] = some (false, W, B5)) :
    evS ⟨N, fs, WW⟩ (n + 20) L_2 ⟨[.val sc, .own B, a2, .val (.int p), .val (.int m), .val S, a6, a7, a8, a9, a10, a11, a12, a13, a14, a15], []⟩ = some (.nx ⟨[.val sc, .own B5, a2, .val (.int p), .val (.int m), .val S, .val V, .val W, a8, a9, a10, a11, a12, a13, a14, a15], []⟩) := by
  unfold L_2
  simp (config := {implicitDefEqProofs := false}) (disch := omega) [h1, h2, h3, h4, h5, q_int, q_bl, q_non, q_nm, q_bin, q_neg, q_negI, q_not, q_bop, q_ife, q_cmp, q_ix, q_ixn, q_sl, q_sln, q_blt, q_lenn, q_isi, q_lst, q_tup, q_lc, q_push, q_pop, q_evc, q_to0, q_to1, q_o0, q_o1, q_intD, q_a0, q_a1, q_tnt, q_tbop, q_tcmp, q_chn, q_tchn, q_tval, q_tnm, q_iseq, q_irng, q_ienu, q_izip, q_iez, q_irev, q_sset, q_stgt, q_spro, q_spar, q_sput, q_sret, q_sretn, q_sife, q_swhl, q_sfor, q_sex, q_spass, q_sbrk, q_scnt, q_ss0, q_ss1, q_gonx, q_gort, q_gobk, q_goct, q_add, q_addl, q_addt, q_sub, q_mul, q_mull, q_mult, q_div, q_mod, q_pow, q_eq, q_ne, q_lt, q_le, q_gt, q_ge, q_is1, q_is2, q_is3, q_is4, q_is5, q_tr0, q_trb, q_tri, q_trl, q_trt, q_ixl, q_ixt, q_sll, q_slt, q_sls, q_lenl, q_lent, q_inti, q_absi, q_lisl, q_list, q_tupl, q_tupt, q_all, q_maxl, q_max, q_min, q_itl, q_itt, q_seql, q_seqt, q_rng1, q_rng2, q_enu1, q_enu2, q_end1, q_end2, q_own, q_val, q_st1, q_stt, q_stpr, q_sta0, q_sta1, q_re1, q_re0, q_appA, q_appioA, q_appkA, ↓bind_o, obind_some, List.getElem?_cons_zero, List.getElem?_cons_succ, List.set_cons_zero, List.set_cons_succ, lockS, slotL, Fz.atS, putL, runD, en0, vals, setS, opStop, wipeE, wipeS, restE, restS, plainS, szB_of, posB_of, b62_of, mulB_of, divB_of, powB_of, repB_one, timB_one, flat_one, I_rep, atI_0, atI_1, atI_2, atI_3, atI_4, ixN_of, cut_from, cut_to, eqv_int, eqv_none, shp_int, shp_bool, shp_none, zip_I]
def b3 : List RS := [.ife (.nt (.val (.app 40 [(.nm 8), (.nm 5)]))) [.ret (.bl false)] []]
theorem t3_step {d : D} (h : cAt fs 40 [d, S] = some (false, .bool true)) : bodyF ⟨N, fs, WW⟩ (n + 15) (.one 8) b3 d ⟨[.val sc, .own B, a2, a3, a4, .val S, a6, a7, a8, a9, a10, a11, a12, a13, a14, a15], []⟩ = some (.nx ⟨[.val sc, .own B, a2, a3, a4, .val S, a6, a7, .val d, a9, a10, a11, a12, a13, a14, a15], []⟩) := by
  unfold b3
  simp (config := {implicitDefEqProofs := false}) (disch := omega) [bodyF, h, q_int, q_bl, q_non, q_nm, q_bin, q_neg, q_negI, q_not, q_bop, q_ife, q_cmp, q_ix, q_ixn, q_sl, q_sln, q_blt, q_lenn, q_isi, q_lst, q_tup, q_lc, q_push, q_pop, q_evc, q_to0, q_to1, q_o0, q_o1, q_intD, q_a0, q_a1, q_tnt, q_tbop, q_tcmp, q_chn, q_tchn, q_tval, q_tnm, q_iseq, q_irng, q_ienu, q_izip, q_iez, q_irev, q_sset, q_stgt, q_spro, q_spar, q_sput, q_sret, q_sretn, q_sife, q_swhl, q_sfor, q_sex, q_spass, q_sbrk, q_scnt, q_ss0, q_ss1, q_gonx, q_gort, q_gobk, q_goct, q_add, q_addl, q_addt, q_sub, q_mul, q_mull, q_mult, q_div, q_mod, q_pow, q_eq, q_ne, q_lt, q_le, q_gt, q_ge, q_is1, q_is2, q_is3, q_is4, q_is5, q_tr0, q_trb, q_tri, q_trl, q_trt, q_ixl, q_ixt, q_sll, q_slt, q_sls, q_lenl, q_lent, q_inti, q_absi, q_lisl, q_list, q_tupl, q_tupt, q_all, q_maxl, q_max, q_min, q_itl, q_itt, q_seql, q_seqt, q_rng1, q_rng2, q_enu1, q_enu2, q_end1, q_end2, q_own, q_val, q_st1, q_stt, q_stpr, q_sta0, q_sta1, q_re1, q_re0, q_appA, q_appioA, q_appkA, ↓bind_o, obind_some, List.getElem?_cons_zero, List.getElem?_cons_succ, List.set_cons_zero, List.set_cons_succ, lockS, slotL, Fz.atS, putL, runD, en0, vals, setS, opStop, wipeE, wipeS, restE, restS, plainS, szB_of, posB_of, b62_of, mulB_of, divB_of, powB_of, repB_one, timB_one, flat_one, I_rep, atI_0, atI_1, atI_2, atI_3, atI_4, ixN_of, cut_from, cut_to, eqv_int, eqv_none, shp_int, shp_bool, shp_none, zip_I]
theorem t3 {c : Int} {P M : D} (h1 : bAt fs 17 B [.int m] = some (false, .int c, B1)) (c29 : cAt fs 29 [.int m] = some (false, X)) (c30 : cAt fs 30 [.int m, .int c] = some (false, Y)) (c31 : cAt fs 31 [.int p, V, W] = some (false, Z))
    (hv : cAt fs 40 [V, S] = some (false, .bool true)) (hw : cAt fs 40 [W, S] = some (false, .bool true)) (hx : cAt fs 40 [X, S] = some (false, .bool true)) (hy : cAt fs 40 [Y, S] = some (false, .bool true)) (hz : cAt fs 40 [Z, S] = some (false, .bool true)) :
    evS ⟨N, fs, WW⟩ (n + 20) L_3 ⟨[.val sc, .own B, a2, .val (.int p), .val (.int m), .val S, .val V, .val W, a8, a9, a10, a11, a12, a13, a14, a15], []⟩ = some (.nx ⟨[.val sc, .own B1, a2, .val (.int p), .val (.int m), .val S, .val V, .val W, .val Z, a9, a10, a11, a12, a13, a14, a15], []⟩) := by
  have key : forL (bodyF ⟨N, fs, WW⟩ (n + 19) (.one 8) b3) [V, W, X, Y, Z] ⟨[.val sc, .own B1, a2, .val (.int p), .val (.int m), .val S, .val V, .val W, a8, a9, a10, a11, a12, a13, a14, a15], []⟩ = some (.nx ⟨[.val sc, .own B1, a2, .val (.int p), .val (.int m), .val S, .val V, .val W, .val Z, a9, a10, a11, a12, a13, a14, a15], []⟩) := by
    rw [forL_nx (t3_step (n := n + 4) hv), forL_nx (t3_step (n := n + 4) hw), forL_nx (t3_step (n := n + 4) hx), forL_nx (t3_step (n := n + 4) hy), forL_nx (t3_step (n := n + 4) hz)]
    rfl
  unfold L_3
  unfold b3 at key
  simp (config := {implicitDefEqProofs := false}) (disch := omega) [h1, c29, c30, c31, key, itemsD, q_int, q_bl, q_non, q_nm, q_bin, q_neg, q_negI, q_not, q_bop, q_ife, q_cmp, q_ix, q_ixn, q_sl, q_sln, q_blt, q_lenn, q_isi, q_lst, q_tup, q_lc, q_push, q_pop, q_evc, q_to0, q_to1, q_o0, q_o1, q_intD, q_a0, q_a1, q_tnt, q_tbop, q_tcmp, q_chn, q_tchn, q_tval, q_tnm, q_iseq, q_irng, q_ienu, q_izip, q_iez, q_irev, q_sset, q_stgt, q_spro, q_spar, q_sput, q_sret, q_sretn, q_sife, q_swhl, q_sfor, q_sex, q_spass, q_sbrk, q_scnt, q_ss0, q_ss1, q_gonx, q_gort, q_gobk, q_goct, q_add, q_addl, q_addt, q_sub, q_mul, q_mull, q_mult, q_div, q_mod, q_pow, q_eq, q_ne, q_lt, q_le, q_gt, q_ge, q_is1, q_is2, q_is3, q_is4, q_is5, q_tr0, q_trb, q_tri, q_trl, q_trt, q_ixl, q_ixt, q_sll, q_slt, q_sls, q_lenl, q_lent, q_inti, q_absi, q_lisl, q_list, q_tupl, q_tupt, q_all, q_maxl, q_max, q_min, q_itl, q_itt, q_seql, q_seqt, q_rng1, q_rng2, q_enu1, q_enu2, q_end1, q_end2, q_own, q_val, q_st1, q_stt, q_stpr, q_sta0, q_sta1, q_re1, q_re0, q_appA, q_appioA, q_appkA, ↓bind_o, obind_some, List.getElem?_cons_zero, List.getElem?_cons_succ, List.set_cons_zero, List.set_cons_succ, lockS, slotL, Fz.atS, putL, runD, en0, vals, setS, opStop, wipeE, wipeS, restE, restS, plainS, szB_of, posB_of, b62_of, mulB_of, divB_of, powB_of, repB_one, timB_one, flat_one, I_rep, atI_0, atI_1, atI_2, atI_3, atI_4, ixN_of, cut_from, cut_to, eqv_int, eqv_none, shp_int, shp_bool, shp_none, zip_I]
theorem t4 (h1 : cAt fs 6 [.int p, V, W] = some (false, X)) (h2 : cAt fs 7 [.int p, V, W] = some (false, Y)) (h3 : cAt fs 9 [.int p, V, W] = some (false, Z)) (g1 : cAt fs 31 [.int p, V, W] = some (false, X)) (g2 : cAt fs 32 [.int p, V, W] = some (false, Y)) (g3 : cAt fs 34 [.int p, V, W] = some (false, Z)) (hs : cAt fs 19 [.list [X, Y, Z], .list [X, Y, Z]] = some (false, .bool true)) :
    evS ⟨N, fs, WW⟩ (n + 20) L_4 ⟨[.val sc, .own B, a2, .val (.int p), a4, a5, .val V, .val W, a8, a9, a10, a11, a12, a13, a14, a15], []⟩ = some (.nx ⟨[.val sc, .own B, a2, .val (.int p), a4, a5, .val V, .val W, a8, a9, a10, a11, a12, a13, a14, a15], []⟩) := by
  unfold L_4
  simp (config := {implicitDefEqProofs := false}) (disch := omega) [h1, h2, h3, g1, g2, g3, hs, q_int, q_bl, q_non, q_nm, q_bin, q_neg, q_negI, q_not, q_bop, q_ife, q_cmp, q_ix, q_ixn, q_sl, q_sln, q_blt, q_lenn, q_isi, q_lst, q_tup, q_lc, q_push, q_pop, q_evc, q_to0, q_to1, q_o0, q_o1, q_intD, q_a0, q_a1, q_tnt, q_tbop, q_tcmp, q_chn, q_tchn, q_tval, q_tnm, q_iseq, q_irng, q_ienu, q_izip, q_iez, q_irev, q_sset, q_stgt, q_spro, q_spar, q_sput, q_sret, q_sretn, q_sife, q_swhl, q_sfor, q_sex, q_spass, q_sbrk, q_scnt, q_ss0, q_ss1, q_gonx, q_gort, q_gobk, q_goct, q_add, q_addl, q_addt, q_sub, q_mul, q_mull, q_mult, q_div, q_mod, q_pow, q_eq, q_ne, q_lt, q_le, q_gt, q_ge, q_is1, q_is2, q_is3, q_is4, q_is5, q_tr0, q_trb, q_tri, q_trl, q_trt, q_ixl, q_ixt, q_sll, q_slt, q_sls, q_lenl, q_lent, q_inti, q_absi, q_lisl, q_list, q_tupl, q_tupt, q_all, q_maxl, q_max, q_min, q_itl, q_itt, q_seql, q_seqt, q_rng1, q_rng2, q_enu1, q_enu2, q_end1, q_end2, q_own, q_val, q_st1, q_stt, q_stpr, q_sta0, q_sta1, q_re1, q_re0, q_appA, q_appioA, q_appkA, ↓bind_o, obind_some, List.getElem?_cons_zero, List.getElem?_cons_succ, List.set_cons_zero, List.set_cons_succ, lockS, slotL, Fz.atS, putL, runD, en0, vals, setS, opStop, wipeE, wipeS, restE, restS, plainS, szB_of, posB_of, b62_of, mulB_of, divB_of, powB_of, repB_one, timB_one, flat_one, I_rep, atI_0, atI_1, atI_2, atI_3, atI_4, ixN_of, cut_from, cut_to, eqv_int, eqv_none, shp_int, shp_bool, shp_none, zip_I]
theorem t5 (h1 : kAt fs 6 0 0 [] [W, V, .int p] = some (false, X)) (h2 : kAt fs 7 0 0 [] [V, W, .int p] = some (false, Y)) (h3 : kAt fs 9 0 0 [] [V, W, .int p] = some (false, Z)) (g1 : cAt fs 31 [.int p, V, W] = some (false, X)) (g2 : cAt fs 32 [.int p, W, V] = some (false, Y)) (g3 : cAt fs 34 [.int p, W, V] = some (false, Z)) (hs : cAt fs 19 [.list [X, Y, Z], .list [X, Y, Z]] = some (false, .bool true)) :
    evS ⟨N, fs, WW⟩ (n + 20) L_5 ⟨[.val sc, .own B, a2, .val (.int p), a4, a5, .val V, .val W, a8, a9, a10, a11, a12, a13, a14, a15], []⟩ = some (.nx ⟨[.val sc, .own B, a2, .val (.int p), a4, a5, .val V, .val W, a8, a9, a10, a11, a12, a13, a14, a15], []⟩) := by
  unfold L_5
  simp (config := {implicitDefEqProofs := false}) (disch := omega) [h1, h2, h3, g1, g2, g3, hs, q_int, q_bl, q_non, q_nm, q_bin, q_neg, q_negI, q_not, q_bop, q_ife, q_cmp, q_ix, q_ixn, q_sl, q_sln, q_blt, q_lenn, q_isi, q_lst, q_tup, q_lc, q_push, q_pop, q_evc, q_to0, q_to1, q_o0, q_o1, q_intD, q_a0, q_a1, q_tnt, q_tbop, q_tcmp, q_chn, q_tchn, q_tval, q_tnm, q_iseq, q_irng, q_ienu, q_izip, q_iez, q_irev, q_sset, q_stgt, q_spro, q_spar, q_sput, q_sret, q_sretn, q_sife, q_swhl, q_sfor, q_sex, q_spass, q_sbrk, q_scnt, q_ss0, q_ss1, q_gonx, q_gort, q_gobk, q_goct, q_add, q_addl, q_addt, q_sub, q_mul, q_mull, q_mult, q_div, q_mod, q_pow, q_eq, q_ne, q_lt, q_le, q_gt, q_ge, q_is1, q_is2, q_is3, q_is4, q_is5, q_tr0, q_trb, q_tri, q_trl, q_trt, q_ixl, q_ixt, q_sll, q_slt, q_sls, q_lenl, q_lent, q_inti, q_absi, q_lisl, q_list, q_tupl, q_tupt, q_all, q_maxl, q_max, q_min, q_itl, q_itt, q_seql, q_seqt, q_rng1, q_rng2, q_enu1, q_enu2, q_end1, q_end2, q_own, q_val, q_st1, q_stt, q_stpr, q_sta0, q_sta1, q_re1, q_re0, q_appA, q_appioA, q_appkA, ↓bind_o, obind_some, List.getElem?_cons_zero, List.getElem?_cons_succ, List.set_cons_zero, List.set_cons_succ, lockS, slotL, Fz.atS, putL, runD, en0, vals, setS, opStop, wipeE, wipeS, restE, restS, plainS, szB_of, posB_of, b62_of, mulB_of, divB_of, powB_of, repB_one, timB_one, flat_one, I_rep, atI_0, atI_1, atI_2, atI_3, atI_4, ixN_of, cut_from, cut_to, eqv_int, eqv_none, shp_int, shp_bool, shp_none, zip_I]
theorem t6 {d : Int} (h1 : bAt fs 18 B [.list [.int 0, .int 1, .int 3, .int 12]] = some (false, .int d, B1)) (h2 : bAt fs 26 B1 [.int p, .int d] = some (false, F, B2)) :
    evS ⟨N, fs, WW⟩ (n + 20) L_6 ⟨[.val sc, .own B, a2, .val (.int p), a4, a5, a6, a7, a8, a9, a10, a11, a12, a13, a14, a15], []⟩ = some (.nx ⟨[.val sc, .own B2, a2, .val (.int p), a4, a5, a6, a7, a8, .val F, a10, a11, a12, a13, a14, a15], []⟩) := by
  unfold L_6
  simp (config := {implicitDefEqProofs := false}) (disch := omega) [h1, h2, q_int, q_bl, q_non, q_nm, q_bin, q_neg, q_negI, q_not, q_bop, q_ife, q_cmp, q_ix, q_ixn, q_sl, q_sln, q_blt, q_lenn, q_isi, q_lst, q_tup, q_lc, q_push, q_pop, q_evc, q_to0, q_to1, q_o0, q_o1, q_intD, q_a0, q_a1, q_tnt, q_tbop, q_tcmp, q_chn, q_tchn, q_tval, q_tnm, q_iseq, q_irng, q_ienu, q_izip, q_iez, q_irev, q_sset, q_stgt, q_spro, q_spar, q_sput, q_sret, q_sretn, q_sife, q_swhl, q_sfor, q_sex, q_spass, q_sbrk, q_scnt, q_ss0, q_ss1, q_gonx, q_gort, q_gobk, q_goct, q_add, q_addl, q_addt, q_sub, q_mul, q_mull, q_mult, q_div, q_mod, q_pow, q_eq, q_ne, q_lt, q_le, q_gt, q_ge, q_is1, q_is2, q_is3, q_is4, q_is5, q_tr0, q_trb, q_tri, q_trl, q_trt, q_ixl, q_ixt, q_sll, q_slt, q_sls, q_lenl, q_lent, q_inti, q_absi, q_lisl, q_list, q_tupl, q_tupt, q_all, q_maxl, q_max, q_min, q_itl, q_itt, q_seql, q_seqt, q_rng1, q_rng2, q_enu1, q_enu2, q_end1, q_end2, q_own, q_val, q_st1, q_stt, q_stpr, q_sta0, q_sta1, q_re1, q_re0, q_appA, q_appioA, q_appkA, ↓bind_o, obind_some, List.getElem?_cons_zero, List.getElem?_cons_succ, List.set_cons_zero, List.set_cons_succ, lockS, slotL, Fz.atS, putL, runD, en0, vals, setS, opStop, wipeE, wipeS, restE, restS, plainS, szB_of, posB_of, b62_of, mulB_of, divB_of, powB_of, repB_one, timB_one, flat_one, I_rep, atI_0, atI_1, atI_2, atI_3, atI_4, ixN_of, cut_from, cut_to, eqv_int, eqv_none, shp_int, shp_bool, shp_none, zip_I]
theorem t7 (h1 : cAt fs 8 [.int p, V, F] = some (false, X)) (h2 : kAt fs 8 0 0 [] [F, W, .int p] = some (false, Y)) (g1 : cAt fs 33 [.int p, V, F] = some (false, X)) (g2 : cAt fs 33 [.int p, W, F] = some (false, Y)) (hs : cAt fs 19 [.list [X, Y], .list [X, Y]] = some (false, .bool true)) :
    evS ⟨N, fs, WW⟩ (n + 20) L_7 ⟨[.val sc, .own B, a2, .val (.int p), a4, a5, .val V, .val W, a8, .val F, a10, a11, a12, a13, a14, a15], []⟩ = some (.nx ⟨[.val sc, .own B, a2, .val (.int p), a4, a5, .val V, .val W, a8, .val F, a10, a11, a12, a13, a14, a15], []⟩) := by
  unfold L_7
  simp (config := {implicitDefEqProofs := false}) (disch := omega) [h1, h2, g1, g2, hs, q_int, q_bl, q_non, q_nm, q_bin, q_neg, q_negI, q_not, q_bop, q_ife, q_cmp, q_ix, q_ixn, q_sl, q_sln, q_blt, q_lenn, q_isi, q_lst, q_tup, q_lc, q_push, q_pop, q_evc, q_to0, q_to1, q_o0, q_o1, q_intD, q_a0, q_a1, q_tnt, q_tbop, q_tcmp, q_chn, q_tchn, q_tval, q_tnm, q_iseq, q_irng, q_ienu, q_izip, q_iez, q_irev, q_sset, q_stgt, q_spro, q_spar, q_sput, q_sret, q_sretn, q_sife, q_swhl, q_sfor, q_sex, q_spass, q_sbrk, q_scnt, q_ss0, q_ss1, q_gonx, q_gort, q_gobk, q_goct, q_add, q_addl, q_addt, q_sub, q_mul, q_mull, q_mult, q_div, q_mod, q_pow, q_eq, q_ne, q_lt, q_le, q_gt, q_ge, q_is1, q_is2, q_is3, q_is4, q_is5, q_tr0, q_trb, q_tri, q_trl, q_trt, q_ixl, q_ixt, q_sll, q_slt, q_sls, q_lenl, q_lent, q_inti, q_absi, q_lisl, q_list, q_tupl, q_tupt, q_all, q_maxl, q_max, q_min, q_itl, q_itt, q_seql, q_seqt, q_rng1, q_rng2, q_enu1, q_enu2, q_end1, q_end2, q_own, q_val, q_st1, q_stt, q_stpr, q_sta0, q_sta1, q_re1, q_re0, q_appA, q_appioA, q_appkA, ↓bind_o, obind_some, List.getElem?_cons_zero, List.getElem?_cons_succ, List.set_cons_zero, List.set_cons_succ, lockS, slotL, Fz.atS, putL, runD, en0, vals, setS, opStop, wipeE, wipeS, restE, restS, plainS, szB_of, posB_of, b62_of, mulB_of, divB_of, powB_of, repB_one, timB_one, flat_one, I_rep, atI_0, atI_1, atI_2, atI_3, atI_4, ixN_of, cut_from, cut_to, eqv_int, eqv_none, shp_int, shp_bool, shp_none, zip_I]
theorem t8 {v z : List (List Int)} {f : List Int} (c29 : cAt fs 29 [.int m] = some (false, .tuple (Rw z))) (c8 : cAt fs 8 [.int p, .tuple (Rw v), .tuple (I f)] = some (false, X)) (h : v ≠ z → f ≠ [] → ∃ a : Int, cAt fs 12 [.tuple (Rw v), S] = some (false, .int a) ∧ cAt fs 12 [X, S] = some (false, .int (a + ((f.length : Int) - 1)))) :
    evS ⟨N, fs, WW⟩ (n + 20) L_8 ⟨[.val sc, .own B, a2, .val (.int p), .val (.int m), .val S, .val (.tuple (Rw v)), a7, a8, .val (.tuple (I f)), a10, a11, a12, a13, a14, a15], []⟩ = some (.nx ⟨[.val sc, .own B, a2, .val (.int p), .val (.int m), .val S, .val (.tuple (Rw v)), a7, a8, .val (.tuple (I f)), a10, a11, a12, a13, a14, a15], []⟩) := by
  have s1 := shp_Rw v
  have s2 := shp_Rw z
  have e1 := eqv_Rw v z
  have s3 := shp_tup f
  have s4 : shp (.tuple []) = true := shp_tup []
  have e2 : PyData.eqv (.tuple (I f)) (.tuple []) = decide (f = []) := eqv_I f []
  have hlen : (I f).length = f.length := I_len f
  unfold L_8
  by_cases c1 : v = z
  · rw [decide_eq_true c1] at e1
    generalize Rw v = R at *
    generalize Rw z = R' at *
    simp (config := {implicitDefEqProofs := false}) (disch := omega) [c29, s1, s2, e1, q_int, q_bl, q_non, q_nm, q_bin, q_neg, q_negI, q_not, q_bop, q_ife, q_cmp, q_ix, q_ixn, q_sl, q_sln, q_blt, q_lenn, q_isi, q_lst, q_tup, q_lc, q_push, q_pop, q_evc, q_to0, q_to1, q_o0, q_o1, q_intD, q_a0, q_a1, q_tnt, q_tbop, q_tcmp, q_chn, q_tchn, q_tval, q_tnm, q_iseq, q_irng, q_ienu, q_izip, q_iez, q_irev, q_sset, q_stgt, q_spro, q_spar, q_sput, q_sret, q_sretn, q_sife, q_swhl, q_sfor, q_sex, q_spass, q_sbrk, q_scnt, q_ss0, q_ss1, q_gonx, q_gort, q_gobk, q_goct, q_add, q_addl, q_addt, q_sub, q_mul, q_mull, q_mult, q_div, q_mod, q_pow, q_eq, q_ne, q_lt, q_le, q_gt, q_ge, q_is1, q_is2, q_is3, q_is4, q_is5, q_tr0, q_trb, q_tri, q_trl, q_trt, q_ixl, q_ixt, q_sll, q_slt, q_sls, q_lenl, q_lent, q_inti, q_absi, q_lisl, q_list, q_tupl, q_tupt, q_all, q_maxl, q_max, q_min, q_itl, q_itt, q_seql, q_seqt, q_rng1, q_rng2, q_enu1, q_enu2, q_end1, q_end2, q_own, q_val, q_st1, q_stt, q_stpr, q_sta0, q_sta1, q_re1, q_re0, q_appA, q_appioA, q_appkA, ↓bind_o, obind_some, List.getElem?_cons_zero, List.getElem?_cons_succ, List.set_cons_zero, List.set_cons_succ, lockS, slotL, Fz.atS, putL, runD, en0, vals, setS, opStop, wipeE, wipeS, restE, restS, plainS, szB_of, posB_of, b62_of, mulB_of, divB_of, powB_of, repB_one, timB_one, flat_one, I_rep, atI_0, atI_1, atI_2, atI_3, atI_4, ixN_of, cut_from, cut_to, eqv_int, eqv_none, shp_int, shp_bool, shp_none, zip_I]
  · rw [decide_eq_false c1] at e1
    by_cases c2 : f = []
    · rw [decide_eq_true c2] at e2
      generalize Rw v = R at *
      generalize Rw z = R' at *
      generalize I f = L at *
      simp (config := {implicitDefEqProofs := false}) (disch := omega) [c29, s1, s2, e1, s3, s4, e2, q_int, q_bl, q_non, q_nm, q_bin, q_neg, q_negI, q_not, q_bop, q_ife, q_cmp, q_ix, q_ixn, q_sl, q_sln, q_blt, q_lenn, q_isi, q_lst, q_tup, q_lc, q_push, q_pop, q_evc, q_to0, q_to1, q_o0, q_o1, q_intD, q_a0, q_a1, q_tnt, q_tbop, q_tcmp, q_chn, q_tchn, q_tval, q_tnm, q_iseq, q_irng, q_ienu, q_izip, q_iez, q_irev, q_sset, q_stgt, q_spro, q_spar, q_sput, q_sret, q_sretn, q_sife, q_swhl, q_sfor, q_sex, q_spass, q_sbrk, q_scnt, q_ss0, q_ss1, q_gonx, q_gort, q_gobk, q_goct, q_add, q_addl, q_addt, q_sub, q_mul, q_mull, q_mult, q_div, q_mod, q_pow, q_eq, q_ne, q_lt, q_le, q_gt, q_ge, q_is1, q_is2, q_is3, q_is4, q_is5, q_tr0, q_trb, q_tri, q_trl, q_trt, q_ixl, q_ixt, q_sll, q_slt, q_sls, q_lenl, q_lent, q_inti, q_absi, q_lisl, q_list, q_tupl, q_tupt, q_all, q_maxl, q_max, q_min, q_itl, q_itt, q_seql, q_seqt, q_rng1, q_rng2, q_enu1, q_enu2, q_end1, q_end2, q_own, q_val, q_st1, q_stt, q_stpr, q_sta0, q_sta1, q_re1, q_re0, q_appA, q_appioA, q_appkA, ↓bind_o, obind_some, List.getElem?_cons_zero, List.getElem?_cons_succ, List.set_cons_zero, List.set_cons_succ, lockS, slotL, Fz.atS, putL, runD, en0, vals, setS, opStop, wipeE, wipeS, restE, restS, plainS, szB_of, posB_of, b62_of, mulB_of, divB_of, powB_of, repB_one, timB_one, flat_one, I_rep, atI_0, atI_1, atI_2, atI_3, atI_4, ixN_of, cut_from, cut_to, eqv_int, eqv_none, shp_int, shp_bool, shp_none, zip_I]
    · rw [decide_eq_false c2] at e2
      obtain ⟨a, h1, h2⟩ := h c1 c2
      have e3 : PyData.eqv (.int (a + ((f.length : Int) - 1))) (.int (a + (f.length : Int) - 1)) = true := by
        rw [show a + (f.length : Int) - 1 = a + ((f.length : Int) - 1) by omega, eqv_int]
        simp
      generalize Rw v = R at *
      generalize Rw z = R' at *
      generalize I f = L at *
      generalize a + ((f.length : Int) - 1) = q at *
      simp (config := {implicitDefEqProofs := false}) (disch := omega) [c29, s1, s2, e1, s3, s4, e2, c8, h1, h2, hlen, e3, q_int, q_bl, q_non, q_nm, q_bin, q_neg, q_negI, q_not, q_bop, q_ife, q_cmp, q_ix, q_ixn, q_sl, q_sln, q_blt, q_lenn, q_isi, q_lst, q_tup, q_lc, q_push, q_pop, q_evc, q_to0, q_to1, q_o0, q_o1, q_intD, q_a0, q_a1, q_tnt, q_tbop, q_tcmp, q_chn, q_tchn, q_tval, q_tnm, q_iseq, q_irng, q_ienu, q_izip, q_iez, q_irev, q_sset, q_stgt, q_spro, q_spar, q_sput, q_sret, q_sretn, q_sife, q_swhl, q_sfor, q_sex, q_spass, q_sbrk, q_scnt, q_ss0, q_ss1, q_gonx, q_gort, q_gobk, q_goct, q_add, q_addl, q_addt, q_sub, q_mul, q_mull, q_mult, q_div, q_mod, q_pow, q_eq, q_ne, q_lt, q_le, q_gt, q_ge, q_is1, q_is2, q_is3, q_is4, q_is5, q_tr0, q_trb, q_tri, q_trl, q_trt, q_ixl, q_ixt, q_sll, q_slt, q_sls, q_lenl, q_lent, q_inti, q_absi, q_lisl, q_list, q_tupl, q_tupt, q_all, q_maxl, q_max, q_min, q_itl, q_itt, q_seql, q_seqt, q_rng1, q_rng2, q_enu1, q_enu2, q_end1, q_end2, q_own, q_val, q_st1, q_stt, q_stpr, q_sta0, q_sta1, q_re1, q_re0, q_appA, q_appioA, q_appkA, ↓bind_o, obind_some, List.getElem?_cons_zero, List.getElem?_cons_succ, List.set_cons_zero, List.set_cons_succ, lockS, slotL, Fz.atS, putL, runD, en0, vals, setS, opStop, wipeE, wipeS, restE, restS, plainS, szB_of, posB_of, b62_of, mulB_of, divB_of, powB_of, repB_one, timB_one, flat_one, I_rep, atI_0, atI_1, atI_2, atI_3, atI_4, ixN_of, cut_from, cut_to, eqv_int, eqv_none, shp_int, shp_bool, shp_none, zip_I]
theorem t9 {k : Int} (h : bAt fs 17 B [.int m] = some (false, .int k, B1)) : evS ⟨N, fs, WW⟩ (n + 20) L_9 ⟨[.val sc, .own B, a2, a3, .val (.int m), a5, a6, a7, a8, a9, a10, a11, a12, a13, a14, a15], []⟩ = some (.nx ⟨[.val sc, .own B1, a2, a3, .val (.int m), a5, a6, a7, a8, a9, .val (.int k), a11, a12, a13, a14, a15], []⟩) := by
  unfold L_9
  simp (config := {implicitDefEqProofs := false}) (disch := omega) [h, q_int, q_bl, q_non, q_nm, q_bin, q_neg, q_negI, q_not, q_bop, q_ife, q_cmp, q_ix, q_ixn, q_sl, q_sln, q_blt, q_lenn, q_isi, q_lst, q_tup, q_lc, q_push, q_pop, q_evc, q_to0, q_to1, q_o0, q_o1, q_intD, q_a0, q_a1, q_tnt, q_tbop, q_tcmp, q_chn, q_tchn, q_tval, q_tnm, q_iseq, q_irng, q_ienu, q_izip, q_iez, q_irev, q_sset, q_stgt, q_spro, q_spar, q_sput, q_sret, q_sretn, q_sife, q_swhl, q_sfor, q_sex, q_spass, q_sbrk, q_scnt, q_ss0, q_ss1, q_gonx, q_gort, q_gobk, q_goct, q_add, q_addl, q_addt, q_sub, q_mul, q_mull, q_mult, q_div, q_mod, q_pow, q_eq, q_ne, q_lt, q_le, q_gt, q_ge, q_is1, q_is2, q_is3, q_is4, q_is5, q_tr0, q_trb, q_tri, q_trl, q_trt, q_ixl, q_ixt, q_sll, q_slt, q_sls, q_lenl, q_lent, q_inti, q_absi, q_lisl, q_list, q_tupl, q_tupt, q_all, q_maxl, q_max, q_min, q_itl, q_itt, q_seql, q_seqt, q_rng1, q_rng2, q_enu1, q_enu2, q_end1, q_end2, q_own, q_val, q_st1, q_stt, q_stpr, q_sta0, q_sta1, q_re1, q_re0, q_appA, q_appioA, q_appkA, ↓bind_o, obind_some, List.getElem?_cons_zero, List.getElem?_cons_succ, List.set_cons_zero, List.set_cons_succ, lockS, slotL, Fz.atS, putL, runD, en0, vals, setS, opStop, wipeE, wipeS, restE, restS, plainS, szB_of, posB_of, b62_of, mulB_of, divB_of, powB_of, repB_one, timB_one, flat_one, I_rep, atI_0, atI_1, atI_2, atI_3, atI_4, ixN_of, cut_from, cut_to, eqv_int, eqv_none, shp_int, shp_bool, shp_none, zip_I]
theorem t10 {k : Int} (h1 : cAt fs 4 [.int m] = some (false, X)) (h2 : cAt fs 5 [.int m, .int k] = some (false, Y)) (h3 : kAt fs 4 0 0 [] [.int m] = some (false, X)) (h4 : kAt fs 5 0 0 [] [.int k, .int m] = some (false, Y)) (g1 : cAt fs 29 [.int m] = some (false, X)) (g2 : cAt fs 30 [.int m, .int k] = some (false, Y)) (hs : cAt fs 19 [.list [X, Y, X, Y], .list [X, Y, X, Y]] = some (false, .bool true)) :
    evS ⟨N, fs, WW⟩ (n + 20) L_10 ⟨[.val sc, .own B, a2, a3, .val (.int m), a5, a6, a7, a8, a9, .val (.int k), a11, a12, a13, a14, a15], []⟩ = some (.nx ⟨[.val sc, .own B, a2, a3, .val (.int m), a5, a6, a7, a8, a9, .val (.int k), a11, a12, a13, a14, a15], []⟩) := by
  unfold L_10
  simp (config := {implicitDefEqProofs := false}) (disch := omega) [h1, h2, h3, h4, g1, g2, hs, q_int, q_bl, q_non, q_nm, q_bin, q_neg, q_negI, q_not, q_bop, q_ife, q_cmp, q_ix, q_ixn, q_sl, q_sln, q_blt, q_lenn, q_isi, q_lst, q_tup, q_lc, q_push, q_pop, q_evc, q_to0, q_to1, q_o0, q_o1, q_intD, q_a0, q_a1, q_tnt, q_tbop, q_tcmp, q_chn, q_tchn, q_tval, q_tnm, q_iseq, q_irng, q_ienu, q_izip, q_iez, q_irev, q_sset, q_stgt, q_spro, q_spar, q_sput, q_sret, q_sretn, q_sife, q_swhl, q_sfor, q_sex, q_spass, q_sbrk, q_scnt, q_ss0, q_ss1, q_gonx, q_gort, q_gobk, q_goct, q_add, q_addl, q_addt, q_sub, q_mul, q_mull, q_mult, q_div, q_mod, q_pow, q_eq, q_ne, q_lt, q_le, q_gt, q_ge, q_is1, q_is2, q_is3, q_is4, q_is5, q_tr0, q_trb, q_tri, q_trl, q_trt, q_ixl, q_ixt, q_sll, q_slt, q_sls, q_lenl, q_lent, q_inti, q_absi, q_lisl, q_list, q_tupl, q_tupt, q_all, q_maxl, q_max, q_min, q_itl, q_itt, q_seql, q_seqt, q_rng1, q_rng2, q_enu1, q_enu2, q_end1, q_end2, q_own, q_val, q_st1, q_stt, q_stpr, q_sta0, q_sta1, q_re1, q_re0, q_appA, q_appioA, q_appkA, ↓bind_o, obind_some, List.getElem?_cons_zero, List.getElem?_cons_succ, List.set_cons_zero, List.set_cons_succ, lockS, slotL, Fz.atS, putL, runD, en0, vals, setS, opStop, wipeE, wipeS, restE, restS, plainS, szB_of, posB_of, b62_of, mulB_of, divB_of, powB_of, repB_one, timB_one, flat_one, I_rep, atI_0, atI_1, atI_2, atI_3, atI_4, ixN_of, cut_from, cut_to, eqv_int, eqv_none, shp_int, shp_bool, shp_none, zip_I]
theorem t11 {c : Int} {L : List D} (h : bAt fs 17 B [.int 4] = some (false, .int c, B1)) (h0 : 0 ≤ c) (h1 : c ≤ 3) (hl : L.length ≤ 3) (hc : ∀ n, lcL (evC ⟨N, fs, WW⟩ (n + 9) (.one 12) [12] none (.appio 27 1 [(.nm 3), (.nm 4), (.int 2)])) (rngD 0 c.toNat) ⟨[.val sc, .own B1, a2, .val (.int p), .val (.int m), a5, .val V, .val W, a8, a9, a10, a11, .no, a13, a14, a15], []⟩ = some (L, ⟨[.val sc, .own B2, a2, .val (.int p), .val (.int m), a5, .val V, .val W, a8, a9, a10, a11, .no, a13, a14, a15], []⟩)) :
    evS ⟨N, fs, WW⟩ (n + 20) L_11 ⟨[.val sc, .own B, a2, .val (.int p), .val (.int m), a5, .val V, .val W, a8, a9, a10, a11, .no, a13, a14, a15], []⟩ = some (.nx ⟨[.val sc, .own B2, a2, .val (.int p), .val (.int m), a5, .val V, .val W, a8, a9, a10, .own (V :: W :: L), .no, a13, a14, a15], []⟩) := by
  have hb : b62 c = true := b62_of (by omega) (by omega)
  have hz : szB c.toNat = true := szB_of (by omega)
  unfold L_11
  simp (config := {implicitDefEqProofs := false}) (disch := omega) [h, hc, hb, hz, rngD_len, q_int, q_bl, q_non, q_nm, q_bin, q_neg, q_negI, q_not, q_bop, q_ife, q_cmp, q_ix, q_ixn, q_sl, q_sln, q_blt, q_lenn, q_isi, q_lst, q_tup, q_lc, q_push, q_pop, q_evc, q_to0, q_to1, q_o0, q_o1, q_intD, q_a0, q_a1, q_tnt, q_tbop, q_tcmp, q_chn, q_tchn, q_tval, q_tnm, q_iseq, q_irng, q_ienu, q_izip, q_iez, q_irev, q_sset, q_stgt, q_spro, q_spar, q_sput, q_sret, q_sretn, q_sife, q_swhl, q_sfor, q_sex, q_spass, q_sbrk, q_scnt, q_ss0, q_ss1, q_gonx, q_gort, q_gobk, q_goct, q_add, q_addl, q_addt, q_sub, q_mul, q_mull, q_mult, q_div, q_mod, q_pow, q_eq, q_ne, q_lt, q_le, q_gt, q_ge, q_is1, q_is2, q_is3, q_is4, q_is5, q_tr0, q_trb, q_tri, q_trl, q_trt, q_ixl, q_ixt, q_sll, q_slt, q_sls, q_lenl, q_lent, q_inti, q_absi, q_lisl, q_list, q_tupl, q_tupt, q_all, q_maxl, q_max, q_min, q_itl, q_itt, q_seql, q_seqt, q_rng1, q_rng2, q_enu1, q_enu2, q_end1, q_end2, q_own, q_val, q_st1, q_stt, q_stpr, q_sta0, q_sta1, q_re1, q_re0, q_appA, q_appioA, q_appkA, ↓bind_o, obind_some, List.getElem?_cons_zero, List.getElem?_cons_succ, List.set_cons_zero, List.set_cons_succ, lockS, slotL, Fz.atS, putL, runD, en0, vals, setS, opStop, wipeE, wipeS, restE, restS, plainS, szB_of, posB_of, b62_of, mulB_of, divB_of, powB_of, repB_one, timB_one, flat_one, I_rep, atI_0, atI_1, atI_2, atI_3, atI_4, ixN_of, cut_from, cut_to, eqv_int, eqv_none, shp_int, shp_bool, shp_none, zip_I]
theorem t12 {d : Int} {L L' : List D} (h : bAt fs 17 B [.int 2] = some (false, .int d, B1)) (hcut : Fz.cutD L (some d) none = L') : evS ⟨N, fs, WW⟩ (n + 20) L_12 ⟨[.val sc, .own B, a2, a3, a4, a5, a6, a7, a8, a9, a10, .own L, a12, a13, a14, a15], []⟩ = some (.nx ⟨[.val sc, .own B1, a2, a3, a4, a5, a6, a7, a8, a9, a10, .own L', a12, a13, a14, a15], []⟩) := by
  unfold L_12
  simp (config := {implicitDefEqProofs := false}) (disch := omega) [h, hcut, q_int, q_bl, q_non, q_nm, q_bin, q_neg, q_negI, q_not, q_bop, q_ife, q_cmp, q_ix, q_ixn, q_sl, q_sln, q_blt, q_lenn, q_isi, q_lst, q_tup, q_lc, q_push, q_pop, q_evc, q_to0, q_to1, q_o0, q_o1, q_intD, q_a0, q_a1, q_tnt, q_tbop, q_tcmp, q_chn, q_tchn, q_tval, q_tnm, q_iseq, q_irng, q_ienu, q_izip, q_iez, q_irev, q_sset, q_stgt, q_spro, q_spar, q_sput, q_sret, q_sretn, q_sife, q_swhl, q_sfor, q_sex, q_spass, q_sbrk, q_scnt, q_ss0, q_ss1, q_gonx, q_gort, q_gobk, q_goct, q_add, q_addl, q_addt, q_sub, q_mul, q_mull, q_mult, q_div, q_mod, q_pow, q_eq, q_ne, q_lt, q_le, q_gt, q_ge, q_is1, q_is2, q_is3, q_is4, q_is5, q_tr0, q_trb, q_tri, q_trl, q_trt, q_ixl, q_ixt, q_sll, q_slt, q_sls, q_lenl, q_lent, q_inti, q_absi, q_lisl, q_list, q_tupl, q_tupt, q_all, q_maxl, q_max, q_min, q_itl, q_itt, q_seql, q_seqt, q_rng1, q_rng2, q_enu1, q_enu2, q_end1, q_end2, q_own, q_val, q_st1, q_stt, q_stpr, q_sta0, q_sta1, q_re1, q_re0, q_appA, q_appioA, q_appkA, ↓bind_o, obind_some, List.getElem?_cons_zero, List.getElem?_cons_succ, List.set_cons_zero, List.set_cons_succ, lockS, slotL, Fz.atS, putL, runD, en0, vals, setS, opStop, wipeE, wipeS, restE, restS, plainS, szB_of, posB_of, b62_of, mulB_of, divB_of, powB_of, repB_one, timB_one, flat_one, I_rep, atI_0, atI_1, atI_2, atI_3, atI_4, ixN_of, cut_from, cut_to, eqv_int, eqv_none, shp_int, shp_bool, shp_none, zip_I]
theorem t13 {L Fs : List D} (hl : L.length ≤ 10) (hc : ∀ n, lcL (evC ⟨N, fs, WW⟩ (n + 9) (.one 8) [8] none (.appio 26 1 [(.nm 3), (.int 2)])) L ⟨[.val sc, .own B, a2, .val (.int p), a4, a5, a6, a7, a8, a9, a10, .val (.list L), a12, a13, a14, a15], []⟩ = some (Fs, ⟨[.val sc, .own B1, a2, .val (.int p), a4, a5, a6, a7, a8, a9, a10, .val (.list L), a12, a13, a14, a15], []⟩)) :
    evS ⟨N, fs, WW⟩ (n + 20) L_13 ⟨[.val sc, .own B, a2, .val (.int p), a4, a5, a6, a7, a8, a9, a10, .own L, a12, a13, a14, a15], []⟩ = some (.nx ⟨[.val sc, .own B1, a2, .val (.int p), a4, a5, a6, a7, a8, a9, a10, .val (.list L), a12, .val (.list Fs), .val (.list L), a15], []⟩) := by
  unfold L_13
  simp (config := {implicitDefEqProofs := false}) (disch := omega) [hc, q_int, q_bl, q_non, q_nm, q_bin, q_neg, q_negI, q_not, q_bop, q_ife, q_cmp, q_ix, q_ixn, q_sl, q_sln, q_blt, q_lenn, q_isi, q_lst, q_tup, q_lc, q_push, q_pop, q_evc, q_to0, q_to1, q_o0, q_o1, q_intD, q_a0, q_a1, q_tnt, q_tbop, q_tcmp, q_chn, q_tchn, q_tval, q_tnm, q_iseq, q_irng, q_ienu, q_izip, q_iez, q_irev, q_sset, q_stgt, q_spro, q_spar, q_sput, q_sret, q_sretn, q_sife, q_swhl, q_sfor, q_sex, q_spass, q_sbrk, q_scnt, q_ss0, q_ss1, q_gonx, q_gort, q_gobk, q_goct, q_add, q_addl, q_addt, q_sub, q_mul, q_mull, q_mult, q_div, q_mod, q_pow, q_eq, q_ne, q_lt, q_le, q_gt, q_ge, q_is1, q_is2, q_is3, q_is4, q_is5, q_tr0, q_trb, q_tri, q_trl, q_trt, q_ixl, q_ixt, q_sll, q_slt, q_sls, q_lenl, q_lent, q_inti, q_absi, q_lisl, q_list, q_tupl, q_tupt, q_all, q_maxl, q_max, q_min, q_itl, q_itt, q_seql, q_seqt, q_rng1, q_rng2, q_enu1, q_enu2, q_end1, q_end2, q_own, q_val, q_st1, q_stt, q_stpr, q_sta0, q_sta1, q_re1, q_re0, q_appA, q_appioA, q_appkA, ↓bind_o, obind_some, List.getElem?_cons_zero, List.getElem?_cons_succ, List.set_cons_zero, List.set_cons_succ, lockS, slotL, Fz.atS, putL, runD, en0, vals, setS, opStop, wipeE, wipeS, restE, restS, plainS, szB_of, posB_of, b62_of, mulB_of, divB_of, powB_of, repB_one, timB_one, flat_one, I_rep, atI_0, atI_1, atI_2, atI_3, atI_4, ixN_of, cut_from, cut_to, eqv_int, eqv_none, shp_int, shp_bool, shp_none, zip_I]
theorem t14 {Vs Fs : D} (h : cAt fs 35 [.int p, Fs, Vs, .int m] = some (false, X)) : evS ⟨N, fs, WW⟩ (n + 20) L_14 ⟨[.val sc, .own B, a2, .val (.int p), .val (.int m), a5, a6, a7, a8, a9, a10, .val Vs, a12, .val Fs, a14, a15], []⟩ = some (.nx ⟨[.val sc, .own B, a2, .val (.int p), .val (.int m), a5, a6, a7, a8, a9, a10, .val Vs, a12, .val Fs, a14, .val X], []⟩) := by
  unfold L_14
  simp (config := {implicitDefEqProofs := false}) (disch := omega) [h, q_int, q_bl, q_non, q_nm, q_bin, q_neg, q_negI, q_not, q_bop, q_ife, q_cmp, q_ix, q_ixn, q_sl, q_sln, q_blt, q_lenn, q_isi, q_lst, q_tup, q_lc, q_push, q_pop, q_evc, q_to0, q_to1, q_o0, q_o1, q_intD, q_a0, q_a1, q_tnt, q_tbop, q_tcmp, q_chn, q_tchn, q_tval, q_tnm, q_iseq, q_irng, q_ienu, q_izip, q_iez, q_irev, q_sset, q_stgt, q_spro, q_spar, q_sput, q_sret, q_sretn, q_sife, q_swhl, q_sfor, q_sex, q_spass, q_sbrk, q_scnt, q_ss0, q_ss1, q_gonx, q_gort, q_gobk, q_goct, q_add, q_addl, q_addt, q_sub, q_mul, q_mull, q_mult, q_div, q_mod, q_pow, q_eq, q_ne, q_lt, q_le, q_gt, q_ge, q_is1, q_is2, q_is3, q_is4, q_is5, q_tr0, q_trb, q_tri, q_trl, q_trt, q_ixl, q_ixt, q_sll, q_slt, q_sls, q_lenl, q_lent, q_inti, q_absi, q_lisl, q_list, q_tupl, q_tupt, q_all, q_maxl, q_max, q_min, q_itl, q_itt, q_seql, q_seqt, q_rng1, q_rng2, q_enu1, q_enu2, q_end1, q_end2, q_own, q_val, q_st1, q_stt, q_stpr, q_sta0, q_sta1, q_re1, q_re0, q_appA, q_appioA, q_appkA, ↓bind_o, obind_some, List.getElem?_cons_zero, List.getElem?_cons_succ, List.set_cons_zero, List.set_cons_succ, lockS, slotL, Fz.atS, putL, runD, en0, vals, setS, opStop, wipeE, wipeS, restE, restS, plainS, szB_of, posB_of, b62_of, mulB_of, divB_of, powB_of, repB_one, timB_one, flat_one, I_rep, atI_0, atI_1, atI_2, atI_3, atI_4, ixN_of, cut_from, cut_to, eqv_int, eqv_none, shp_int, shp_bool, shp_none, zip_I]
theorem t15 {L Fs : List D} (h1 : cAt fs 10 [.int p, .list Fs, .list L] = some (false, X)) (h2 : cAt fs 10 [.int p, .tuple Fs, .list L] = some (false, X)) (h3 : kAt fs 10 0 0 [] [.tuple L, .list Fs, .int p] = some (false, X)) (hs : cAt fs 19 [.list [X, X, X], .list [X, X, X]] = some (false, .bool true)) :
    evS ⟨N, fs, WW⟩ (n + 20) L_15 ⟨[.val sc, .own B, a2, .val (.int p), a4, a5, a6, a7, a8, a9, a10, .val (.list L), a12, .val (.list Fs), a14, .val X], []⟩ = some (.nx ⟨[.val sc, .own B, a2, .val (.int p), a4, a5, a6, a7, a8, a9, a10, .val (.list L), a12, .val (.list Fs), a14, .val X], []⟩) := by
  unfold L_15
  simp (config := {implicitDefEqProofs := false}) (disch := omega) [h1, h2, h3, hs, q_int, q_bl, q_non, q_nm, q_bin, q_neg, q_negI, q_not, q_bop, q_ife, q_cmp, q_ix, q_ixn, q_sl, q_sln, q_blt, q_lenn, q_isi, q_lst, q_tup, q_lc, q_push, q_pop, q_evc, q_to0, q_to1, q_o0, q_o1, q_intD, q_a0, q_a1, q_tnt, q_tbop, q_tcmp, q_chn, q_tchn, q_tval, q_tnm, q_iseq, q_irng, q_ienu, q_izip, q_iez, q_irev, q_sset, q_stgt, q_spro, q_spar, q_sput, q_sret, q_sretn, q_sife, q_swhl, q_sfor, q_sex, q_spass, q_sbrk, q_scnt, q_ss0, q_ss1, q_gonx, q_gort, q_gobk, q_goct, q_add, q_addl, q_addt, q_sub, q_mul, q_mull, q_mult, q_div, q_mod, q_pow, q_eq, q_ne, q_lt, q_le, q_gt, q_ge, q_is1, q_is2, q_is3, q_is4, q_is5, q_tr0, q_trb, q_tri, q_trl, q_trt, q_ixl, q_ixt, q_sll, q_slt, q_sls, q_lenl, q_lent, q_inti, q_absi, q_lisl, q_list, q_tupl, q_tupt, q_all, q_maxl, q_max, q_min, q_itl, q_itt, q_seql, q_seqt, q_rng1, q_rng2, q_enu1, q_enu2, q_end1, q_end2, q_own, q_val, q_st1, q_stt, q_stpr, q_sta0, q_sta1, q_re1, q_re0, q_appA, q_appioA, q_appkA, ↓bind_o, obind_some, List.getElem?_cons_zero, List.getElem?_cons_succ, List.set_cons_zero, List.set_cons_succ, lockS, slotL, Fz.atS, putL, runD, en0, vals, setS, opStop, wipeE, wipeS, restE, restS, plainS, szB_of, posB_of, b62_of, mulB_of, divB_of, powB_of, repB_one, timB_one, flat_one, I_rep, atI_0, atI_1, atI_2, atI_3, atI_4, ixN_of, cut_from, cut_to, eqv_int, eqv_none, shp_int, shp_bool, shp_none, zip_I]
theorem t16 {vs : List (List (List Int))} {u : List (List Int)} {k : Int} (h5 : cAt fs 5 [.int m, .int k] = some (false, U)) (h9 : cAt fs 9 [.int p, .tuple (Rw u), U] = some (false, X)) (hat : atI (Rw u) k = some X) (hs : cAt fs 19 [X, X] = some (false, .bool true)) :
    evS ⟨N, fs, WW⟩ (n + 20) L_16 ⟨[.val sc, .own B, a2, .val (.int p), .val (.int m), a5, a6, a7, a8, a9, .val (.int k), .val (.list (Rws vs)), a12, a13, .val (.list (Rws vs)), .val (.tuple (Rw u))], []⟩ = some (.nx ⟨[.val sc, .own B, a2, .val (.int p), .val (.int m), a5, a6, a7, a8, a9, .val (.int k), .val (.list (Rws vs)), a12, a13, .val (.list (Rws vs)), .val (.tuple (Rw u))], []⟩) := by
  have s1 := shp_Rws vs
  have e1 := eqv_Rws vs vs
  rw [decide_eq_true rfl] at e1
  generalize Rws vs = L at *
  generalize Rw u = R at *
  unfold L_16
  simp (config := {implicitDefEqProofs := false}) (disch := omega) [h5, h9, hat, hs, s1, e1, q_int, q_bl, q_non, q_nm, q_bin, q_neg, q_negI, q_not, q_bop, q_ife, q_cmp, q_ix, q_ixn, q_sl, q_sln, q_blt, q_lenn, q_isi, q_lst, q_tup, q_lc, q_push, q_pop, q_evc, q_to0, q_to1, q_o0, q_o1, q_intD, q_a0, q_a1, q_tnt, q_tbop, q_tcmp, q_chn, q_tchn, q_tval, q_tnm, q_iseq, q_irng, q_ienu, q_izip, q_iez, q_irev, q_sset, q_stgt, q_spro, q_spar, q_sput, q_sret, q_sretn, q_sife, q_swhl, q_sfor, q_sex, q_spass, q_sbrk, q_scnt, q_ss0, q_ss1, q_gonx, q_gort, q_gobk, q_goct, q_add, q_addl, q_addt, q_sub, q_mul, q_mull, q_mult, q_div, q_mod, q_pow, q_eq, q_ne, q_lt, q_le, q_gt, q_ge, q_is1, q_is2, q_is3, q_is4, q_is5, q_tr0, q_trb, q_tri, q_trl, q_trt, q_ixl, q_ixt, q_sll, q_slt, q_sls, q_lenl, q_lent, q_inti, q_absi, q_lisl, q_list, q_tupl, q_tupt, q_all, q_maxl, q_max, q_min, q_itl, q_itt, q_seql, q_seqt, q_rng1, q_rng2, q_enu1, q_enu2, q_end1, q_end2, q_own, q_val, q_st1, q_stt, q_stpr, q_sta0, q_sta1, q_re1, q_re0, q_appA, q_appioA, q_appkA, ↓bind_o, obind_some, List.getElem?_cons_zero, List.getElem?_cons_succ, List.set_cons_zero, List.set_cons_succ, lockS, slotL, Fz.atS, putL, runD, en0, vals, setS, opStop, wipeE, wipeS, restE, restS, plainS, szB_of, posB_of, b62_of, mulB_of, divB_of, powB_of, repB_one, timB_one, flat_one, I_rep, atI_0, atI_1, atI_2, atI_3, atI_4, ixN_of, cut_from, cut_to, eqv_int, eqv_none, shp_int, shp_bool, shp_none, zip_I]
end
end K07
set_option Elab.async false
set_option linter.all false
set_option maxRecDepth 100000
set_option maxHeartbeats 8000000
namespace K07
open PySem PySem.Spec PyProof.Rows L2 Fz W1
structure Tab (fs : List (Str × Fn)) : Prop where
  a4 : At fs 4 false 1 d_zero_row
  a5 : At fs 5 false 2 d_unit_row
  a6 : At fs 6 false 3 d_add_rows
  a7 : At fs 7 false 3 d_sub_rows
  a8 : At fs 8 false 3 d_row_times
  a9 : At fs 9 false 3 d_product
  a10 : At fs 10 false 3 d_combined
  a11 : At fs 12 false 2 d_height_of
  a16 : At fs 16 false 1 d_bag
  a17 : At fs 17 true 2 d_draw
  a18 : At fs 18 true 2 d_of
  a19 : At fs 19 false 2 (d_same 3)
  a21 : At fs 21 true 1 d_prime
  a26 : At fs 26 true 3 d_form
  a27 : At fs 27 true 4 d_q_row
  a28 : At fs 28 true 2 d_q_lifts
  a29 : At fs 29 false 1 d_zero_row
  a30 : At fs 30 false 2 d_unit_row
  a31 : At fs 31 false 3 d_add_rows
  a32 : At fs 32 false 3 d_sub_rows
  a33 : At fs 33 false 3 d_row_times
  a34 : At fs 34 false 3 d_product
  a35 : At fs 35 false 4 d_q_comb
  a38 : At fs 38 true 3 d_q_even
  a40 : At fs 40 false 2 d_q_measured
  k4 : ∀ x, kAt fs 4 0 0 [] [x] = cAt fs 4 [x]
  k5 : ∀ x y, kAt fs 5 0 0 [] [x, y] = cAt fs 5 [y, x]
  k6 : ∀ x y z, kAt fs 6 0 0 [] [x, y, z] = cAt fs 6 [z, y, x]
  k7 : ∀ x y z, kAt fs 7 0 0 [] [x, y, z] = cAt fs 7 [z, y, x]
  k8 : ∀ x y z, kAt fs 8 0 0 [] [x, y, z] = cAt fs 8 [z, y, x]
  k9 : ∀ x y z, kAt fs 9 0 0 [] [x, y, z] = cAt fs 9 [z, y, x]
  k10 : ∀ x y z, kAt fs 10 0 0 [] [x, y, z] = cAt fs 10 [z, y, x]
theorem cut_any {l : List D} {i : Int} (h : 0 ≤ i) : Fz.cutD l (some i) none = l.drop i.toNat := by
  obtain ⟨n, rfl⟩ := Int.eq_ofNat_of_zero_le h
  unfold Fz.cutD
  rw [HT.sIx_nat, HT.sIx_none, Int.toNat_natCast, List.take_of_length_le (by rw [List.length_drop]; omega)]
  by_cases h : n ≤ l.length
  · rw [Nat.min_eq_left h]
  · rw [Nat.min_eq_right (by omega), List.drop_length, List.drop_eq_nil_of_le (by omega)]
section
variable {fs : List (Str × Fn)} {N : List Str}
abbrev body : List RS := [L_0, L_1, L_2, L_3, L_4, L_5, L_6, L_7, L_8, L_9, L_10, L_11, L_12, L_13, L_14, L_15, L_16]
def Sp (b : Bag) (sc : D) (e : En) : Prop := ∃ a2 a3 a4 a5 a6 a7 a8 a9 a10 a11 a13 a14 a15, e = ⟨[.val sc, .own (bagD b), a2, a3, a4, a5, a6, a7, a8, a9, a10, a11, .no, a13, a14, a15], []⟩
theorem draws4 : ∀ x ∈ [PyData.int 0, .int 2, .int 4, .int 20], ∃ i : Int, x = .int i ∧ 0 ≤ i ∧ i ≤ 40 := by
  intro x hx
  simp only [List.mem_cons, List.not_mem_nil, or_false] at hx
  rcases hx with rfl | rfl | rfl | rfl <;> exact ⟨_, rfl, by decide, by decide⟩
theorem draws12 : ∀ x ∈ [PyData.int 0, .int 1, .int 3, .int 12], ∃ i : Int, x = .int i ∧ 0 ≤ i ∧ i ≤ 40 := by
  intro x hx
  simp only [List.mem_cons, List.not_mem_nil, or_false] at hx
  rcases hx with rfl | rfl | rfl | rfl <;> exact ⟨_, rfl, by decide, by decide⟩
/-- what a turn draws at first: prime, places, lifts, two rows -/
theorem turn (T : Tab fs) {b : Bag} {m : Int} (hb : Inv b m) (hm : m ≤ 900000000) {sc d : D} {e : En} (he : Sp b sc e) : ∃ b' e', Inv b' (m + 3000) ∧ Sp b' sc e' ∧ bodyF ⟨N, fs, WW⟩ 97 (.one 2) body d e = some (.nx e') := by
  obtain ⟨a2, a3, a4, a5, a6, a7, a8, a9, a10, a11, a13, a14, a15, rfl⟩ := he
  have c0 := call_prime T.a21 (hb.up (by omega))
  obtain ⟨v0, q, hq, eq⟩ := prime_inv hb
  rw [eq] at c0
  have hq2 := PR_le hq
  have hp0 : (0 : Int) < (q : Int) := by omega
  have hp1 : (1 : Int) < (q : Int) := by omega
  have hp2 : (q : Int) < 100 := by omega
  generalize primeB b = X0 at *
  have c1 := call_draw T.a17 (b := X0.2) (top := 6) (v0.up (by omega)) (by decide) (by decide)
  obtain ⟨v1, x1, y1⟩ := draw_inv (top := 6) v0 (by decide)
  generalize draw X0.2 6 = X1 at *
  obtain ⟨mm, hmm⟩ : ∃ mm : Nat, 1 + X1.1 = (mm : Int) := ⟨(1 + X1.1).toNat, by omega⟩
  have m0 : 0 < mm := by omega
  have m6 : mm ≤ 6 := by omega
  -- lifts
  have c2 := call_q_lifts T.a28 (b := X1.2) (m := mm) (v1.up (by omega)) m0 (by omega)
  obtain ⟨v2, ls, hs⟩ := lifts_inv (m := mm) m0 v1
  generalize liftsB mm X1.2 = X2 at *
  obtain ⟨s, b2⟩ := X2
  dsimp only at *
  -- rows
  have evk : evOk q s := ⟨hp1, hp2, by intro z; rw [z] at ls; simp at ls; omega, by omega, fun a ha => by have := hs a ha; omega⟩
  have c3a := call_q_even T.a38 (b := b2) (v2.up (by omega)) evk
  obtain ⟨v3, r3, l3⟩ := even_inv (s := s) hp1 (by omega) v2
  generalize evenB (q : Int) s b2 = X3 at *
  have c3b := call_q_row T.a27 (b := X3.2) (p := (q : Int)) (deg := 4) (m := mm) (v3.up (by omega)) hp0 hp2 (by omega) (by decide) (by decide)
  obtain ⟨v4, r4, l4⟩ := row_inv (p := (q : Int)) (deg := 4) (m := mm) v3 hp0 (by decide) (by decide) (by omega)
  generalize rowB (q : Int) 4 mm X3.2 = X4 at *
  have c3c := call_of T.a18 (b := X4.2) (xs := [.tuple (Rw X3.1), .tuple (Rw X4.1)]) (v4.up (by omega)) (by intro h; cases h) (by simp)
  obtain ⟨v5, m5⟩ := of_inv v4 (xs := [.tuple (Rw X3.1), .tuple (Rw X4.1)]) (by intro h; cases h)
  have hv : ∃ v, (ofL X4.2 [.tuple (Rw X3.1), .tuple (Rw X4.1)]).1 = .tuple (Rw v) ∧ isRow q 41 v ∧ v.length = mm := by
    generalize (ofL _ _).1 = x at m5 ⊢
    simp only [List.mem_cons, List.not_mem_nil, or_false] at m5
    rcases m5 with rfl | rfl
    · exact ⟨_, rfl, r3, by omega⟩
    · exact ⟨_, rfl, r4, l4⟩
  obtain ⟨v, ev, rv, lv⟩ := hv
  rw [ev] at c3c
  generalize ofL X4.2 [.tuple (Rw X3.1), .tuple (Rw X4.1)] = X5 at *
  have c3d := call_of T.a18 (b := X5.2) (xs := [.int 0, .int 2, .int 4, .int 20]) (v5.up (by omega)) (by intro h; cases h) (by simp)
  obtain ⟨v6, m6'⟩ := of_inv v5 (xs := [.int 0, .int 2, .int 4, .int 20]) (by intro h; cases h)
  obtain ⟨dg, edg, dg0, dg1⟩ := draws4 _ m6'
  rw [edg] at c3d
  generalize ofL X5.2 [.int 0, .int 2, .int 4, .int 20] = X6 at *
  have c3e := call_q_row T.a27 (b := X6.2) (p := (q : Int)) (deg := dg) (m := mm) (v6.up (by omega)) hp0 hp2 (by omega) dg0 dg1
  obtain ⟨v7, rw7, lw⟩ := row_inv (p := (q : Int)) (deg := dg) (m := mm) v6 hp0 dg0 dg1 (by omega)
  generalize rowB (q : Int) dg mm X6.2 = X7 at *
  obtain ⟨w, b7⟩ := X7
  dsimp only at *
  -- measured
  have c4 := call_draw T.a17 (b := b7) (top := (mm : Int)) (v7.up (by omega)) (by omega) (by omega)
  obtain ⟨v8, x8, y8⟩ := draw_inv (top := (mm : Int)) v7 (by omega)
  generalize draw b7 (mm : Int) = X8 at *
  have c29 := call_zero_row T.a29 (n := mm) (by omega)
  have c30 := call_unit_row T.a30 (n := mm) (k := X8.1) (by omega)
  have rA := addR_row hp0 rv rw7
  have lA : (addR (q : Int) v w).length = mm := by rw [addR_len]; omega
  obtain ⟨rU, lU⟩ := unitR_row hp1 (n := mm) (by omega) X8.1
  have rZ := zeroR_row (q : Int) (n := mm) (by omega)
  have lZ : (zeroR mm).length = mm := by unfold zeroR; rw [List.length_replicate]
  have sU : ∀ (u : List (List Int)) (n : Nat), isRow (q : Int) n u → u.length = mm → cAt fs 40 [.tuple (Rw u), .tuple (I s)] = some (false, .bool true) := fun u n hu hl => call_measured T.a40 (by omega) (by omega) fun f hf hn => last_nz (hu.2 f hf).1 hn
  have rv' := rv.up (m := 10000) (by omega)
  have rw' := rw7.up (m := 10000) (by omega)
  have c31 := call_add_rows T.a31 hp0 hp2 rv' rw'
  have c32 := call_sub_rows T.a32 hp0 hp2 rv' rw'
  have c32' := call_sub_rows T.a32 hp0 hp2 rw' rv'
  have c34 := call_product T.a34 hp0 hp2 rv' rw'
  have c34' := call_product T.a34 hp0 hp2 rw' rv'
  have c6 := call_add_rows T.a6 hp0 hp2 rv' rw'
  have c7 := call_sub_rows T.a7 hp0 hp2 rv' rw'
  have c7' := call_sub_rows T.a7 hp0 hp2 rw' rv'
  have c9 := call_product T.a9 hp0 hp2 rv' rw'
  have c9' := call_product T.a9 hp0 hp2 rw' rv'
  have e6 : kAt fs 6 0 0 [] [.tuple (Rw w), .tuple (Rw v), .int q] = some (false, .tuple (Rw (addR q v w))) := by rw [T.k6]; exact c6
  have e7 : kAt fs 7 0 0 [] [.tuple (Rw v), .tuple (Rw w), .int q] = some (false, .tuple (Rw (subR q w v))) := by rw [T.k7]; exact c7'
  have e9 : kAt fs 9 0 0 [] [.tuple (Rw v), .tuple (Rw w), .int q] = some (false, .tuple (I (dotR q w v))) := by rw [T.k9]; exact c9'
  have dlen : ∀ v w : List (List Int), isRow q 41 v → isRow q 41 w → (dotR q v w).length ≤ 100000 := fun v w hv hw => Nat.le_trans (dot_fold_form hp0 (v.zip w) (t := []) 82 ⟨(fun x hx => by cases hx), rfl⟩ (by simp) fun z hz => by
    have h1 := (hv.2 _ (List.of_mem_zip hz).1).2
    have h2 := (hw.2 _ (List.of_mem_zip hz).2).2
    omega).2 (by omega)
  have rS := subR_row hp0 rv rw7
  have rS' := subR_row hp0 rw7 rv
  have s4 : cAt fs 19 [.list [.tuple (Rw (addR q v w)), .tuple (Rw (subR q v w)), .tuple (I (dotR q v w))], .list [.tuple (Rw (addR q v w)), .tuple (Rw (subR q v w)), .tuple (I (dotR q v w))]] = some (false, .bool true) :=
    call_same T.a19 (sd_list 2 (by simp) (by simp only [List.all_cons, List.all_nil, sd_tRw 0 rA (by omega), sd_tRw 0 rS (by omega), sd_tI 1 (dlen v w rv rw7), Bool.and_self]))
  have s5 : cAt fs 19 [.list [.tuple (Rw (addR q v w)), .tuple (Rw (subR q w v)), .tuple (I (dotR q w v))], .list [.tuple (Rw (addR q v w)), .tuple (Rw (subR q w v)), .tuple (I (dotR q w v))]] = some (false, .bool true) :=
    call_same T.a19 (sd_list 2 (by simp) (by simp only [List.all_cons, List.all_nil, sd_tRw 0 rA (by omega), sd_tRw 0 rS' (by omega), sd_tI 1 (dlen w v rw7 rv), Bool.and_self]))
  -- a form
  have c6a := call_of T.a18 (b := X8.2) (xs := [.int 0, .int 1, .int 3, .int 12]) (v8.up (by omega)) (by intro h; cases h) (by simp)
  obtain ⟨v9, m9⟩ := of_inv v8 (xs := [.int 0, .int 1, .int 3, .int 12]) (by intro h; cases h)
  obtain ⟨df, edf, df0, df1⟩ := draws12 _ m9
  rw [edf] at c6a
  generalize ofL X8.2 [.int 0, .int 1, .int 3, .int 12] = X9 at *
  have c6b := call_lform T.a26 (b := X9.2) (p := (q : Int)) (deg := df) (v9.up (by omega)) hp0 hp2 df0 df1
  obtain ⟨v10, ff, lf⟩ := form_inv (p := (q : Int)) (deg := df) v9 hp0 df0 df1
  generalize formB X9.2 (q : Int) df = X10 at *
  obtain ⟨f, b10⟩ := X10
  dsimp only at *
  have c8 := call_row_times T.a8 hp0 hp2 rv' ff (by omega)
  have c33 := call_row_times T.a33 hp0 hp2 rv' ff (by omega)
  have c33' := call_row_times T.a33 hp0 hp2 rw' ff (by omega)
  have e8 : kAt fs 8 0 0 [] [.tuple (I f), .tuple (Rw w), .int q] = some (false, .tuple (Rw (mulR q w f))) := by rw [T.k8]; exact call_row_times T.a8 hp0 hp2 rw' ff (by omega)
  have rM := mulR_row hp0 rv lf
  have rM' := mulR_row hp0 rw7 lf
  have s7 : cAt fs 19 [.list [.tuple (Rw (mulR q v f)), .tuple (Rw (mulR q w f))], .list [.tuple (Rw (mulR q v f)), .tuple (Rw (mulR q w f))]] = some (false, .bool true) :=
    call_same T.a19 (sd_list 2 (by simp) (by simp only [List.all_cons, List.all_nil, sd_tRw 0 rM (by omega), sd_tRw 0 rM' (by omega), Bool.and_self]))
  have h8 : v ≠ zeroR mm → f ≠ [] → ∃ a : Int, cAt fs 12 [.tuple (Rw v), .tuple (I s)] = some (false, .int a) ∧ cAt fs 12 [.tuple (Rw (mulR q v f)), .tuple (I s)] = some (false, .int (a + ((f.length : Int) - 1))) := by
    intro n1 n2
    rcases zero_or (v := v) (s := s) (by omega) with ⟨z, _⟩ | ⟨_, a, k, hl⟩
    · rw [ls] at z
      exact absurd z n1
    · have h1 := call_height T.a11 (v := v) (k := false) (s := s) (by omega) (by omega)
      have h2 := call_height T.a11 (v := mulR q v f) (k := false) (s := s) (by rw [mulR_len]; omega) (by omega)
      rw [hl] at h1
      rw [level_times hq ff n2 s (fun g hg => (rv.2 g hg).1) hl] at h2
      exact ⟨a, h1, h2⟩
  -- a place
  have c9a := call_draw T.a17 (b := b10) (top := (mm : Int)) (v10.up (by omega)) (by omega) (by omega)
  obtain ⟨v11, x11, y11⟩ := draw_inv (top := (mm : Int)) v10 (by omega)
  generalize draw b10 (mm : Int) = X11 at *
  have c10a := call_zero_row T.a4 (n := mm) (by omega)
  have c10b := call_unit_row T.a5 (n := mm) (k := X11.1) (by omega)
  have c10c := call_unit_row T.a30 (n := mm) (k := X11.1) (by omega)
  have e10a : kAt fs 4 0 0 [] [.int mm] = some (false, .tuple (Rw (zeroR mm))) := by rw [T.k4]; exact c10a
  have e10b : kAt fs 5 0 0 [] [.int X11.1, .int mm] = some (false, .tuple (Rw (unitR mm X11.1))) := by rw [T.k5]; exact c10b
  obtain ⟨rU2, lU2⟩ := unitR_row hp1 (n := mm) (by omega) X11.1
  have s10 : cAt fs 19 [.list [.tuple (Rw (zeroR mm)), .tuple (Rw (unitR mm X11.1)), .tuple (Rw (zeroR mm)), .tuple (Rw (unitR mm X11.1))], .list [.tuple (Rw (zeroR mm)), .tuple (Rw (unitR mm X11.1)), .tuple (Rw (zeroR mm)), .tuple (Rw (unitR mm X11.1))]] = some (false, .bool true) :=
    call_same T.a19 (sd_list 2 (by simp) (by simp only [List.all_cons, List.all_nil, sd_tRw 0 rZ (by omega), sd_tRw 0 rU2 (by omega), Bool.and_self]))
  -- more rows
  have c11a := call_draw T.a17 (b := X11.2) (top := 4) (v11.up (by omega)) (by decide) (by decide)
  obtain ⟨v12, x12, y12⟩ := draw_inv (top := 4) v11 (by decide)
  generalize draw X11.2 4 = X12 at *
  have hrow : ∀ b n, Inv b n → Inv (rowB (q : Int) 2 mm b).2 (n + 300) ∧ (isRow q 41 (rowB (q : Int) 2 mm b).1 ∧ (rowB (q : Int) 2 mm b).1.length = mm) := fun b n h => by
    obtain ⟨h1, h2, h3⟩ := row_inv (p := (q : Int)) (deg := 2) (m := mm) h hp0 (by decide) (by decide) (by omega)
    exact ⟨h1.up (by omega), h2, h3⟩
  obtain ⟨v13, l13, r13⟩ := steps_inv (stp := rowB (q : Int) 2 mm) (P := fun r => isRow q 41 r ∧ r.length = mm) hrow X12.1.toNat v12
  have hc11 : ∀ n a2 a5 a8 a9 a10 a11 a13 a14 a15, lcL (evC ⟨N, fs, WW⟩ (n + 9) (.one 12) [12] none (.appio 27 1 [(.nm 3), (.nm 4), (.int 2)])) (rngD 0 X12.1.toNat) ⟨[.val sc, .own (bagD X12.2), a2, .val (.int q), .val (.int mm), a5, .val (.tuple (Rw v)), .val (.tuple (Rw w)), a8, a9, a10, a11, .no, a13, a14, a15], []⟩ = some (Rws (steps (rowB (q : Int) 2 mm) X12.1.toNat X12.2).1, ⟨[.val sc, .own (bagD (steps (rowB (q : Int) 2 mm) X12.1.toNat X12.2).2), a2, .val (.int q), .val (.int mm), a5, .val (.tuple (Rw v)), .val (.tuple (Rw w)), a8, a9, a10, a11, .no, a13, a14, a15], []⟩) := by
    intro n a2 a5 a8 a9 a10 a11 a13 a14 a15
    have := lcL_gen (F := evC ⟨N, fs, WW⟩ (n + 9) (.one 12) [12] none (.appio 27 1 [(.nm 3), (.nm 4), (.int 2)])) (stp := rowB (q : Int) 2 mm) (fun v => PyData.tuple (Rw v)) (c := 300) (m := 999980000) (by decide) (fun b n h => (hrow b n h).1) (fun b => ⟨[.val sc, .own (bagD b), a2, .val (.int q), .val (.int mm), a5, .val (.tuple (Rw v)), .val (.tuple (Rw w)), a8, a9, a10, a11, .no, a13, a14, a15], []⟩) (fun d b hb => by
      have hc := call_q_row T.a27 (p := (q : Int)) (deg := 2) (m := mm) (hb.up (by omega)) hp0 hp2 (by omega) (by decide) (by decide)
      generalize bagD b = B at *
      generalize rowB (q : Int) 2 mm b = Z at *
      generalize bagD Z.2 = B4 at *
      simp (config := {implicitDefEqProofs := false}) (disch := omega) [hc, q_int, q_bl, q_non, q_nm, q_bin, q_neg, q_negI, q_not, q_bop, q_ife, q_cmp, q_ix, q_ixn, q_sl, q_sln, q_blt, q_lenn, q_isi, q_lst, q_tup, q_lc, q_push, q_pop, q_evc, q_to0, q_to1, q_o0, q_o1, q_intD, q_a0, q_a1, q_tnt, q_tbop, q_tcmp, q_chn, q_tchn, q_tval, q_tnm, q_iseq, q_irng, q_ienu, q_izip, q_iez, q_irev, q_sset, q_stgt, q_spro, q_spar, q_sput, q_sret, q_sretn, q_sife, q_swhl, q_sfor, q_sex, q_spass, q_sbrk, q_scnt, q_ss0, q_ss1, q_gonx, q_gort, q_gobk, q_goct, q_add, q_addl, q_addt, q_sub, q_mul, q_mull, q_mult, q_div, q_mod, q_pow, q_eq, q_ne, q_lt, q_le, q_gt, q_ge, q_is1, q_is2, q_is3, q_is4, q_is5, q_tr0, q_trb, q_tri, q_trl, q_trt, q_ixl, q_ixt, q_sll, q_slt, q_sls, q_lenl, q_lent, q_inti, q_absi, q_lisl, q_list, q_tupl, q_tupt, q_all, q_maxl, q_max, q_min, q_itl, q_itt, q_seql, q_seqt, q_rng1, q_rng2, q_enu1, q_enu2, q_end1, q_end2, q_own, q_val, q_st1, q_stt, q_stpr, q_sta0, q_sta1, q_re1, q_re0, q_appA, q_appioA, q_appkA, ↓bind_o, obind_some, List.getElem?_cons_zero, List.getElem?_cons_succ, List.set_cons_zero, List.set_cons_succ, lockS, slotL, Fz.atS, putL, runD, en0, vals, setS, opStop, wipeE, wipeS, restE, restS, plainS, szB_of, posB_of, b62_of, mulB_of, divB_of, powB_of, repB_one, timB_one, flat_one, I_rep, atI_0, atI_1, atI_2, atI_3, atI_4, ixN_of, cut_from, cut_to, eqv_int, eqv_none, shp_int, shp_bool, shp_none, zip_I]) (rngD 0 X12.1.toNat) v12 (by rw [rngD_len]; omega)
    rw [rngD_len] at this
    exact this
  generalize steps (rowB (q : Int) 2 mm) X12.1.toNat X12.2 = X13 at *
  have c12 := call_draw T.a17 (b := X13.2) (top := 2) (v13.up (by omega)) (by decide) (by decide)
  obtain ⟨v14, x14, y14⟩ := draw_inv (top := 2) v13 (by decide)
  generalize draw X13.2 2 = X14 at *
  have hvs : ∃ u us, (v :: w :: X13.1).drop X14.1.toNat = u :: us ∧ (u :: us).length ≤ 5 ∧ ∀ r ∈ u :: us, isRow q 41 r ∧ r.length = mm := by
    have hall : ∀ r ∈ v :: w :: X13.1, isRow q 41 r ∧ r.length = mm := fun r hr => by
      rcases List.mem_cons.mp hr with rfl | hr
      · exact ⟨rv, lv⟩
      · rcases List.mem_cons.mp hr with rfl | hr
        · exact ⟨rw7, lw⟩
        · exact r13 r hr
    by_cases z : X14.1 = 0
    · rw [z]
      exact ⟨v, w :: X13.1, rfl, by simp only [List.length_cons]; omega, hall⟩
    · rw [show X14.1.toNat = 1 by omega]
      exact ⟨w, X13.1, rfl, by simp only [List.length_cons]; omega, fun r hr => hall r (List.mem_cons_of_mem _ hr)⟩
  obtain ⟨u, us, evs, lus, rus⟩ := hvs
  have hcut : Fz.cutD (.tuple (Rw v) :: .tuple (Rw w) :: Rws X13.1) (some X14.1) none = Rws (u :: us) := by
    rw [cut_any x14, ← evs]
    show (Rws (v :: w :: X13.1)).drop _ = _
    unfold Rws
    rw [List.map_drop]
  -- forms
  have hform : ∀ b n, Inv b n → Inv (formB b (q : Int) 2).2 (n + 43) ∧ (isForm q (formB b (q : Int) 2).1 ∧ (formB b (q : Int) 2).1.length ≤ 100) := fun b n h => by
    obtain ⟨h1, h2, h3⟩ := form_inv (p := (q : Int)) (deg := 2) h hp0 (by decide) (by decide)
    exact ⟨h1, h2, by omega⟩
  obtain ⟨v15, l15, r15⟩ := steps_inv (stp := fun b => formB b (q : Int) 2) (P := fun f => isForm q f ∧ f.length ≤ 100) hform (u :: us).length v14
  have hc13 : ∀ n a8 a2 a4 a5 a6 a7 a9 a10 a12 a13 a14 a15, lcL (evC ⟨N, fs, WW⟩ (n + 9) (.one 8) [8] none (.appio 26 1 [(.nm 3), (.int 2)])) (Rws (u :: us)) ⟨[.val sc, .own (bagD X14.2), a2, .val (.int q), a4, a5, a6, a7, .val a8, a9, a10, .val (.list (Rws (u :: us))), a12, a13, a14, a15], []⟩ = some (Rw (steps (fun b => formB b (q : Int) 2) (u :: us).length X14.2).1, ⟨[.val sc, .own (bagD (steps (fun b => formB b (q : Int) 2) (u :: us).length X14.2).2), a2, .val (.int q), a4, a5, a6, a7, .val a8, a9, a10, .val (.list (Rws (u :: us))), a12, a13, a14, a15], []⟩) := by
    intro n a8 a2 a4 a5 a6 a7 a9 a10 a12 a13 a14 a15
    have := lcL_gen (F := evC ⟨N, fs, WW⟩ (n + 9) (.one 8) [8] none (.appio 26 1 [(.nm 3), (.int 2)])) (stp := fun b => formB b (q : Int) 2) (fun f => PyData.tuple (I f)) (c := 43) (m := 999980000) (by decide) (fun b n h => (hform b n h).1) (fun b => ⟨[.val sc, .own (bagD b), a2, .val (.int q), a4, a5, a6, a7, .val a8, a9, a10, .val (.list (Rws (u :: us))), a12, a13, a14, a15], []⟩) (fun d b hb => by
      have hc := call_lform T.a26 (p := (q : Int)) (deg := 2) (hb.up (by omega)) hp0 hp2 (by decide) (by decide)
      generalize bagD b = B at *
      generalize formB b (q : Int) 2 = Z at *
      generalize bagD Z.2 = B4 at *
      generalize Rws (u :: us) = L at *
      simp (config := {implicitDefEqProofs := false}) (disch := omega) [hc, q_int, q_bl, q_non, q_nm, q_bin, q_neg, q_negI, q_not, q_bop, q_ife, q_cmp, q_ix, q_ixn, q_sl, q_sln, q_blt, q_lenn, q_isi, q_lst, q_tup, q_lc, q_push, q_pop, q_evc, q_to0, q_to1, q_o0, q_o1, q_intD, q_a0, q_a1, q_tnt, q_tbop, q_tcmp, q_chn, q_tchn, q_tval, q_tnm, q_iseq, q_irng, q_ienu, q_izip, q_iez, q_irev, q_sset, q_stgt, q_spro, q_spar, q_sput, q_sret, q_sretn, q_sife, q_swhl, q_sfor, q_sex, q_spass, q_sbrk, q_scnt, q_ss0, q_ss1, q_gonx, q_gort, q_gobk, q_goct, q_add, q_addl, q_addt, q_sub, q_mul, q_mull, q_mult, q_div, q_mod, q_pow, q_eq, q_ne, q_lt, q_le, q_gt, q_ge, q_is1, q_is2, q_is3, q_is4, q_is5, q_tr0, q_trb, q_tri, q_trl, q_trt, q_ixl, q_ixt, q_sll, q_slt, q_sls, q_lenl, q_lent, q_inti, q_absi, q_lisl, q_list, q_tupl, q_tupt, q_all, q_maxl, q_max, q_min, q_itl, q_itt, q_seql, q_seqt, q_rng1, q_rng2, q_enu1, q_enu2, q_end1, q_end2, q_own, q_val, q_st1, q_stt, q_stpr, q_sta0, q_sta1, q_re1, q_re0, q_appA, q_appioA, q_appkA, ↓bind_o, obind_some, List.getElem?_cons_zero, List.getElem?_cons_succ, List.set_cons_zero, List.set_cons_succ, lockS, slotL, Fz.atS, putL, runD, en0, vals, setS, opStop, wipeE, wipeS, restE, restS, plainS, szB_of, posB_of, b62_of, mulB_of, divB_of, powB_of, repB_one, timB_one, flat_one, I_rep, atI_0, atI_1, atI_2, atI_3, atI_4, ixN_of, cut_from, cut_to, eqv_int, eqv_none, shp_int, shp_bool, shp_none, zip_I]) (Rws (u :: us)) v14 (by rw [Rws_len]; omega)
    rw [Rws_len] at this
    exact this
  generalize steps (fun b => formB b (q : Int) 2) (u :: us).length X14.2 = X15 at *
  obtain ⟨fs', b15⟩ := X15
  dsimp only at *
  have ru : ∀ r ∈ u :: us, isRow q 100 r ∧ r.length = mm := fun r hr => ⟨(rus r hr).1.up (by omega), (rus r hr).2⟩
  have lu : u.length = mm := (rus u List.mem_cons_self).2
  have ru' : ∀ r ∈ u :: us, isRow q 100 r ∧ r.length = u.length := fun r hr => by rw [lu]; exact ru r hr
  have c35 := call_q_comb T.a35 hp0 hp2 (m := mm) (by omega) (by omega) r15 ru
  have c10x := call_combined T.a10 false true hp0 hp2 (by omega) r15 ru'
  have c10y := call_combined T.a10 true true hp0 hp2 (by omega) r15 ru'
  have c10z := call_combined T.a10 true false hp0 hp2 (by omega) r15 ru'
  rw [lu] at c10x c10y c10z
  have e10 : kAt fs 10 0 0 [] [.tuple (Rws (u :: us)), .list (Rw fs'), .int q] = some (false, .tuple (Rw (combR q mm fs' (u :: us)))) := by rw [T.k10]; exact c10z
  obtain ⟨rC, lC⟩ := comb_row (p := (q : Int)) hp0 (m := mm) (by omega) (fs := fs') (vs := u :: us) (fun f hf => (r15 f hf).2) ru
  have s15 : cAt fs 19 [.list [.tuple (Rw (combR q mm fs' (u :: us))), .tuple (Rw (combR q mm fs' (u :: us))), .tuple (Rw (combR q mm fs' (u :: us)))], .list [.tuple (Rw (combR q mm fs' (u :: us))), .tuple (Rw (combR q mm fs' (u :: us))), .tuple (Rw (combR q mm fs' (u :: us)))]] = some (false, .bool true) :=
    call_same T.a19 (sd_list 2 (by simp) (by simp only [List.all_cons, List.all_nil, sd_tRw 0 rC (by omega), Bool.and_self]))
  generalize combR (q : Int) mm fs' (u :: us) = C at *
  obtain ⟨kk, hkk⟩ : ∃ kk : Nat, X11.1 = (kk : Int) := ⟨X11.1.toNat, by omega⟩
  have c9u := call_product T.a9 hp0 hp2 (rC.up (m := 10000) (by omega)) (rU2.up (m := 10000) (by omega))
  have hdu : dotR (q : Int) C (unitR mm X11.1) = C.getD X11.1.toNat [] := by
    have := dot_unit (p := (q : Int)) (k := X11.1) hp0 (v := C) (fun g hg => (rC.2 g hg).1) x11 (by omega)
    rw [lC] at this
    exact this
  rw [hdu] at c9u
  have hat : atI (Rw C) X11.1 = some (.tuple (I (C.getD X11.1.toNat []))) := by
    rw [hkk]
    exact atI_Rw (by omega)
  have hmem : (C.getD X11.1.toNat []) ∈ C := by
    rw [List.getD_eq_getElem?_getD, List.getElem?_eq_getElem (show X11.1.toNat < C.length by omega)]
    exact List.getElem_mem _
  have s16 : cAt fs 19 [.tuple (I (C.getD X11.1.toNat [])), .tuple (I (C.getD X11.1.toNat []))] = some (false, .bool true) := call_same T.a19 (sd_tI 2 (by have := (rC.2 _ hmem).2; omega))
  have R : bodyF ⟨N, fs, WW⟩ 97 (.one 2) body d ⟨[.val sc, .own (bagD b), a2, a3, a4, a5, a6, a7, a8, a9, a10, a11, .no, a13, a14, a15], []⟩ = some (.nx ⟨[.val sc, .own (bagD b15), .val d, .val (.int q), .val (.int mm), .val (.tuple (I s)), .val (.tuple (Rw v)), .val (.tuple (Rw w)), .val (.tuple (Rw (addR q v w))), .val (.tuple (I f)), .val (.int X11.1), .val (.list (Rws (u :: us))), .no, .val (.list (Rw fs')), .val (.list (Rws (u :: us))), .val (.tuple (Rw C))], []⟩) := by
    show evSs _ 97 body ⟨[.val sc, .own (bagD b), .val d, a3, a4, a5, a6, a7, a8, a9, a10, a11, .no, a13, a14, a15], []⟩ = _
    refine ss_nx (n := 96) (t0 (n := 76) hmm c0 c1) ?_
    refine ss_nx (n := 95) (t1 (n := 75) c2) ?_
    refine ss_nx (n := 94) (t2 (n := 74) (B6 := []) c3a c3b c3c c3d c3e) ?_
    refine ss_nx (n := 93) (t3 (n := 73) (P := .none) (M := .none) c4 c29 c30 c31 (sU v _ rv lv) (sU w _ rw7 lw) (sU _ _ rZ lZ) (sU _ _ rU lU) (sU _ _ rA lA)) ?_
    refine ss_nx (n := 92) (t4 (n := 72) c6 c7 c9 c31 c32 c34 s4) ?_
    refine ss_nx (n := 91) (t5 (n := 71) e6 e7 e9 c31 c32' c34' s5) ?_
    refine ss_nx (n := 90) (t6 (n := 70) c6a c6b) ?_
    refine ss_nx (n := 89) (t7 (n := 69) c8 e8 c33 c33' s7) ?_
    refine ss_nx (n := 88) (t8 (n := 68) c29 c8 h8) ?_
    refine ss_nx (n := 87) (t9 (n := 67) c9a) ?_
    refine ss_nx (n := 86) (t10 (n := 66) c10a c10b e10a e10b c29 c10c s10) ?_
    refine ss_nx (n := 85) (t11 (n := 65) c11a x12 (by omega) (by rw [Rws_len]; omega) (fun n => hc11 n _ _ _ _ _ _ _ _ _)) ?_
    refine ss_nx (n := 84) (t12 (n := 64) c12 hcut) ?_
    refine ss_nx (n := 83) (t13 (n := 63) (by rw [Rws_len]; omega) (fun n => hc13 n _ _ _ _ _ _ _ _ _ _ _ _)) ?_
    refine ss_nx (n := 82) (t14 (n := 62) c35) ?_
    refine ss_nx (n := 81) (t15 (n := 61) c10y c10x e10 s15) ?_
    refine ss_nx (n := 80) (t16 (n := 60) c10b c9u hat s16) ?_
    rfl
  exact ⟨b15, _, v15.up (by omega), ⟨_, _, _, _, _, _, _, _, _, _, _, _, _, rfl⟩, R⟩
end
end K07
set_option Elab.async false
set_option linter.all false
set_option maxRecDepth 100000
set_option maxHeartbeats 4000000
namespace K07
open PySem PySem.Spec PyProof.Rows L2 Fz W1
section
variable {fs : List (Str × Fn)} {N : List Str}
theorem turns (T : Tab fs) {sc : D} : ∀ (ds : List D) {b : Bag} {m : Int} {e : En}, Inv b m → m + 3000 * ds.length ≤ 900000000 → Sp b sc e → ∃ b' e', Sp b' sc e' ∧ forL (bodyF ⟨N, fs, WW⟩ 97 (.one 2) body) ds e = some (.nx e')
  | [], b, m, e, _, _, he => ⟨b, e, he, rfl⟩
  | d :: ds, b, m, e, hb, hm, he => by
    have hm' : m + 3000 * ((ds.length + 1 : Nat) : Int) ≤ 900000000 := hm
    obtain ⟨b1, e1, h1, h2, h3⟩ := turn (N := N) T hb (by omega) (d := d) he
    obtain ⟨b2, e2, h4, h5⟩ := turns T ds h1 (by omega) h2
    exact ⟨b2, e2, h4, by rw [forL_nx h3]; exact h5⟩
def B_law : List RS := [.set 1 (.app 16 [(.nm 0)]), .for (.one 2) (.rng [(.int 4)]) body, .ret (.bl true)]
def d_law : List D → Option (Bool × D × List D)
  | [.dict [(.none, .list l)]] => (allI l).map fun _ => (false, .bool true, [])
  | _ => none
theorem run_law (hN : N.length = 16) (T : Tab fs) {ds : List D} {z : Bool × D × List D} (h : d_law ds = some z) : runD ⟨N, fs, WW⟩ 100 false B_law ds = some z := by
  unfold d_law at h
  split at h
  · rename_i l
    rw [Option.map_eq_some_iff] at h
    obtain ⟨cs, h1, rfl⟩ := h
    rw [allI_eq h1]
    have c10 := call_bag T.a16 cs
    obtain ⟨b', e', he, hl⟩ := turns (N := N) T (sc := .dict [(.none, .list (I cs))]) [.int 0, .int 1, .int 2, .int 3] (bag0_inv cs) (by decide) (e := ⟨[.val (.dict [(.none, .list (I cs))]), .own (bagD (bag0 cs)), .no, .no, .no, .no, .no, .no, .no, .no, .no, .no, .no, .no, .no, .no], []⟩) ⟨_, _, _, _, _, _, _, _, _, _, _, _, _, rfl⟩
    have hb : e'.bg = [] := by
      obtain ⟨_, _, _, _, _, _, _, _, _, _, _, _, _, rfl⟩ := he
      rfl
    have k1 : evS ⟨N, fs, WW⟩ 99 (.set 1 (.app 16 [(.nm 0)])) (en0 N.length false [.dict [(.none, .list (I cs))]]) = some (.nx ⟨[.val (.dict [(.none, .list (I cs))]), .own (bagD (bag0 cs)), .no, .no, .no, .no, .no, .no, .no, .no, .no, .no, .no, .no, .no, .no], []⟩) := by
      rw [hN]
      simp (config := {implicitDefEqProofs := false}) (disch := omega) [c10, List.replicate, q_int, q_bl, q_non, q_nm, q_bin, q_neg, q_negI, q_not, q_bop, q_ife, q_cmp, q_ix, q_ixn, q_sl, q_sln, q_blt, q_lenn, q_isi, q_lst, q_tup, q_lc, q_push, q_pop, q_evc, q_to0, q_to1, q_o0, q_o1, q_intD, q_a0, q_a1, q_tnt, q_tbop, q_tcmp, q_chn, q_tchn, q_tval, q_tnm, q_iseq, q_irng, q_ienu, q_izip, q_iez, q_irev, q_sset, q_stgt, q_spro, q_spar, q_sput, q_sret, q_sretn, q_sife, q_swhl, q_sfor, q_sex, q_spass, q_sbrk, q_scnt, q_ss0, q_ss1, q_gonx, q_gort, q_gobk, q_goct, q_add, q_addl, q_addt, q_sub, q_mul, q_mull, q_mult, q_div, q_mod, q_pow, q_eq, q_ne, q_lt, q_le, q_gt, q_ge, q_is1, q_is2, q_is3, q_is4, q_is5, q_tr0, q_trb, q_tri, q_trl, q_trt, q_ixl, q_ixt, q_sll, q_slt, q_sls, q_lenl, q_lent, q_inti, q_absi, q_lisl, q_list, q_tupl, q_tupt, q_all, q_maxl, q_max, q_min, q_itl, q_itt, q_seql, q_seqt, q_rng1, q_rng2, q_enu1, q_enu2, q_end1, q_end2, q_own, q_val, q_st1, q_stt, q_stpr, q_sta0, q_sta1, q_re1, q_re0, q_appA, q_appioA, q_appkA, ↓bind_o, obind_some, List.getElem?_cons_zero, List.getElem?_cons_succ, List.set_cons_zero, List.set_cons_succ, lockS, slotL, Fz.atS, putL, runD, en0, vals, setS, opStop, wipeE, wipeS, restE, restS, plainS, szB_of, posB_of, b62_of, mulB_of, divB_of, powB_of, repB_one, timB_one, flat_one, I_rep, atI_0, atI_1, atI_2, atI_3, atI_4, ixN_of, cut_from, cut_to, eqv_int, eqv_none, shp_int, shp_bool, shp_none, zip_I]
    have k2 : evS ⟨N, fs, WW⟩ 98 (.for (.one 2) (.rng [(.int 4)]) body) ⟨[.val (.dict [(.none, .list (I cs))]), .own (bagD (bag0 cs)), .no, .no, .no, .no, .no, .no, .no, .no, .no, .no, .no, .no, .no, .no], []⟩ = some (.nx e') := by
      rw [q_sfor]
      show (evI ⟨N, fs, WW⟩ 97 (.rng [(.int 4)]) _).bind _ = _
      rw [show evI ⟨N, fs, WW⟩ 97 (.rng [(.int 4)]) ⟨[.val (.dict [(.none, .list (I cs))]), .own (bagD (bag0 cs)), .no, .no, .no, .no, .no, .no, .no, .no, .no, .no, .no, .no, .no, .no], []⟩ = some ([.int 0, .int 1, .int 2, .int 3], ⟨[.val (.dict [(.none, .list (I cs))]), .own (bagD (bag0 cs)), .no, .no, .no, .no, .no, .no, .no, .no, .no, .no, .no, .no, .no, .no], []⟩) from rfl]
      exact hl
    unfold runD
    rw [show evSs ⟨N, fs, WW⟩ 100 B_law (en0 N.length false [.dict [(.none, .list (I cs))]]) = some (.rt false (.bool true) e') from ss_nx (n := 99) k1 (ss_nx (n := 98) k2 (ss_rt (n := 97) rfl))]
    show some (false, PyData.bool true, e'.bg) = _
    rw [hb]
  · cases h
theorem law_den' (cs : List Int) : d_law [.dict [(.none, .list (I cs))]] = some (false, .bool true, []) := by
  show (allI (I cs)).map _ = _
  rw [allI_I]
  rfl
end
end K07
set_option Elab.async false
set_option linter.all false
set_option maxRecDepth 100000
set_option maxHeartbeats 8000000
namespace K07
open PySem PySem.Spec PyProof.Rows L2 Fz W1
def topS (i : Nat) : Stmt := PySem.Challenge.pw_freetops_k07_rows_measured.main.body.getD i (.Pass ⟨0, 0, 0, 0⟩)
abbrev s_form_of : Stmt := topS 1
def N_form_of : List Str := ["prime", "numbers", "residues", "number"]
def g_form_of (den : List D → Option (Bool × D × List D)) : Fn := ⟨["prime", "numbers"], false, [], den⟩
abbrev s_add : Stmt := topS 2
def N_add : List Str := ["prime", "one", "other", "shared", "a", "b", "many"]
def g_add (den : List D → Option (Bool × D × List D)) : Fn := ⟨["prime", "one", "other"], false, [], den⟩
abbrev s_subtract : Stmt := topS 3
def N_subtract : List Str := ["prime", "one", "other", "shared", "a", "b", "many"]
def g_subtract (den : List D → Option (Bool × D × List D)) : Fn := ⟨["prime", "one", "other"], false, [], den⟩
abbrev s_multiply : Stmt := topS 4
def N_multiply : List Str := ["prime", "one", "other", "sums", "shift", "factor", "at", "number"]
def g_multiply (den : List D → Option (Bool × D × List D)) : Fn := ⟨["prime", "one", "other"], false, [], den⟩
abbrev s_zero_row : Stmt := topS 6
def N_zero_row : List Str := ["places", "_"]
def g_zero_row (den : List D → Option (Bool × D × List D)) : Fn := ⟨["places"], false, [⟨0, ["places"], [0]⟩], den⟩
abbrev s_unit_row : Stmt := topS 7
def N_unit_row : List Str := ["places", "place", "at"]
def g_unit_row (den : List D → Option (Bool × D × List D)) : Fn := ⟨["places", "place"], false, [⟨0, ["place", "places"], [1, 0]⟩], den⟩
abbrev s_add_rows : Stmt := topS 8
def N_add_rows : List Str := ["prime", "one", "other", "a", "b"]
def g_add_rows (den : List D → Option (Bool × D × List D)) : Fn := ⟨["prime", "one", "other"], false, [⟨0, ["other", "one", "prime"], [2, 1, 0]⟩], den⟩
abbrev s_subtract_rows : Stmt := topS 9
def N_subtract_rows : List Str := ["prime", "one", "other", "a", "b"]
def g_subtract_rows (den : List D → Option (Bool × D × List D)) : Fn := ⟨["prime", "one", "other"], false, [⟨0, ["other", "one", "prime"], [2, 1, 0]⟩], den⟩
abbrev s_row_times : Stmt := topS 10
def N_row_times : List Str := ["prime", "row", "form", "own"]
def g_row_times (den : List D → Option (Bool × D × List D)) : Fn := ⟨["prime", "row", "form"], false, [⟨0, ["form", "row", "prime"], [2, 1, 0]⟩], den⟩
abbrev s_product_of : Stmt := topS 11
def N_product_of : List Str := ["prime", "one", "other", "total", "a", "b"]
def g_product_of (den : List D → Option (Bool × D × List D)) : Fn := ⟨["prime", "one", "other"], false, [⟨0, ["other", "one", "prime"], [2, 1, 0]⟩], den⟩
abbrev s_combined : Stmt := topS 12
def N_combined : List Str := ["prime", "forms", "rows", "total", "form", "row"]
def g_combined (den : List D → Option (Bool × D × List D)) : Fn := ⟨["prime", "forms", "rows"], false, [⟨0, ["rows", "forms", "prime"], [2, 1, 0]⟩], den⟩
abbrev s_level_of : Stmt := topS 17
def N_level_of : List Str := ["row", "lifts", "level", "place", "form", "lift", "height"]
def g_level_of (den : List D → Option (Bool × D × List D)) : Fn := ⟨["row", "lifts"], false, [⟨0, ["lifts", "row"], [1, 0]⟩], den⟩
abbrev s_height_of : Stmt := topS 13
def N_height_of : List Str := ["row", "lifts", "level"]
def g_height_of (den : List D → Option (Bool × D × List D)) : Fn := ⟨["row", "lifts"], false, [⟨0, ["lifts", "row"], [1, 0]⟩], den⟩
abbrev s_last_at : Stmt := topS 15
def N_last_at : List Str := ["form", "degree"]
def g_last_at (den : List D → Option (Bool × D × List D)) : Fn := ⟨["form", "degree"], false, [], den⟩
abbrev s_top_of : Stmt := topS 14
def N_top_of : List Str := ["row", "lifts", "height", "form", "lift"]
def g_top_of (den : List D → Option (Bool × D × List D)) : Fn := ⟨["row", "lifts"], false, [⟨0, ["lifts", "row"], [1, 0]⟩], den⟩
abbrev s_lead_of : Stmt := topS 16
def N_lead_of : List Str := ["row", "lifts", "level"]
def g_lead_of (den : List D → Option (Bool × D × List D)) : Fn := ⟨["row", "lifts"], false, [⟨0, ["lifts", "row"], [1, 0]⟩], den⟩
abbrev s_q_bag : Stmt := topS 19
def N_q_bag : List Str := ["_law_script", "_law_mixed", "_law_cell"]
def g_q_bag (den : List D → Option (Bool × D × List D)) : Fn := ⟨["_law_script"], false, [], den⟩
abbrev s_q_draw : Stmt := topS 20
def N_q_draw : List Str := ["_law_bag_here", "_law_top_here", "_law_cell", "_law_digit", "_law_seed"]
def g_q_draw (den : List D → Option (Bool × D × List D)) : Fn := ⟨["_law_bag_here", "_law_top_here"], true, [], den⟩
abbrev s_q_of : Stmt := topS 21
def N_q_of : List Str := ["_law_bag_here", "_law_some"]
def g_q_of (den : List D → Option (Bool × D × List D)) : Fn := ⟨["_law_bag_here", "_law_some"], true, [], den⟩
abbrev s_q_same : Stmt := topS 22
def N_q_same : List Str := ["_law_found", "_law_due", "_law_a", "_law_b"]
def g_q_same (den : List D → Option (Bool × D × List D)) : Fn := ⟨["_law_found", "_law_due"], false, [], den⟩
abbrev s_q_primes : Stmt := topS 23
def N_q_primes : List Str := ["_law_a", "_law_b"]
def g_q_primes (den : List D → Option (Bool × D × List D)) : Fn := ⟨[], false, [], den⟩
abbrev s_q_prime : Stmt := topS 24
def N_q_prime : List Str := ["_law_bag_here"]
def g_q_prime (den : List D → Option (Bool × D × List D)) : Fn := ⟨["_law_bag_here"], true, [], den⟩
abbrev s_q_trim : Stmt := topS 25
def N_q_trim : List Str := ["_law_coefs", "_law_many"]
def g_q_trim (den : List D → Option (Bool × D × List D)) : Fn := ⟨["_law_coefs"], false, [], den⟩
abbrev s_q_plus : Stmt := topS 26
def N_q_plus : List Str := ["_law_p", "_law_f", "_law_g", "_law_many", "_law_k"]
def g_q_plus (den : List D → Option (Bool × D × List D)) : Fn := ⟨["_law_p", "_law_f", "_law_g"], false, [], den⟩
abbrev s_q_minus : Stmt := topS 27
def N_q_minus : List Str := ["_law_p", "_law_f", "_law_g", "_law_many", "_law_k"]
def g_q_minus (den : List D → Option (Bool × D × List D)) : Fn := ⟨["_law_p", "_law_f", "_law_g"], false, [], den⟩
abbrev s_q_mul : Stmt := topS 28
def N_q_mul : List Str := ["_law_p", "_law_f", "_law_g", "_law_sums", "_law_i", "_law_j", "_law_a"]
def g_q_mul (den : List D → Option (Bool × D × List D)) : Fn := ⟨["_law_p", "_law_f", "_law_g"], false, [], den⟩
abbrev s_q_form : Stmt := topS 29
def N_q_form : List Str := ["_law_bag_here", "_law_p", "_law_deg", "_law_k"]
def g_q_form (den : List D → Option (Bool × D × List D)) : Fn := ⟨["_law_bag_here", "_law_p", "_law_deg"], true, [], den⟩
abbrev s_q_row : Stmt := topS 30
def N_q_row : List Str := ["_law_bag_here", "_law_p", "_law_m", "_law_deg", "_law_j"]
def g_q_row (den : List D → Option (Bool × D × List D)) : Fn := ⟨["_law_bag_here", "_law_p", "_law_m", "_law_deg"], true, [], den⟩
abbrev s_q_lifts : Stmt := topS 31
def N_q_lifts : List Str := ["_law_bag_here", "_law_m", "_law_way", "_law_small", "_law_j", "_law_step", "_law_a"]
def g_q_lifts (den : List D → Option (Bool × D × List D)) : Fn := ⟨["_law_bag_here", "_law_m"], true, [], den⟩
abbrev s_q_none : Stmt := topS 32
def N_q_none : List Str := ["_law_m"]
def g_q_none (den : List D → Option (Bool × D × List D)) : Fn := ⟨["_law_m"], false, [], den⟩
abbrev s_q_unit : Stmt := topS 33
def N_q_unit : List Str := ["_law_m", "_law_j", "_law_i"]
def g_q_unit (den : List D → Option (Bool × D × List D)) : Fn := ⟨["_law_m", "_law_j"], false, [], den⟩
abbrev s_q_rplus : Stmt := topS 34
def N_q_rplus : List Str := ["_law_p", "_law_v", "_law_w", "_law_f", "_law_g"]
def g_q_rplus (den : List D → Option (Bool × D × List D)) : Fn := ⟨["_law_p", "_law_v", "_law_w"], false, [], den⟩
abbrev s_q_rminus : Stmt := topS 35
def N_q_rminus : List Str := ["_law_p", "_law_v", "_law_w", "_law_f", "_law_g"]
def g_q_rminus (den : List D → Option (Bool × D × List D)) : Fn := ⟨["_law_p", "_law_v", "_law_w"], false, [], den⟩
abbrev s_q_rtimes : Stmt := topS 36
def N_q_rtimes : List Str := ["_law_p", "_law_v", "_law_f", "_law_g"]
def g_q_rtimes (den : List D → Option (Bool × D × List D)) : Fn := ⟨["_law_p", "_law_v", "_law_f"], false, [], den⟩
abbrev s_q_dot : Stmt := topS 37
def N_q_dot : List Str := ["_law_p", "_law_v", "_law_w", "_law_found", "_law_f", "_law_g"]
def g_q_dot (den : List D → Option (Bool × D × List D)) : Fn := ⟨["_law_p", "_law_v", "_law_w"], false, [], den⟩
abbrev s_q_comb : Stmt := topS 38
def N_q_comb : List Str := ["_law_p", "_law_fs", "_law_vs", "_law_m", "_law_found", "_law_f", "_law_v"]
def g_q_comb (den : List D → Option (Bool × D × List D)) : Fn := ⟨["_law_p", "_law_fs", "_law_vs", "_law_m"], false, [], den⟩
abbrev s_q_level : Stmt := topS 39
def N_q_level : List Str := ["_law_v", "_law_s", "_law_found", "_law_j"]
def g_q_level (den : List D → Option (Bool × D × List D)) : Fn := ⟨["_law_v", "_law_s"], false, [], den⟩
abbrev s_q_top : Stmt := topS 40
def N_q_top : List Str := ["_law_v", "_law_s", "_law_h", "_law_j"]
def g_q_top (den : List D → Option (Bool × D × List D)) : Fn := ⟨["_law_v", "_law_s"], false, [], den⟩
abbrev s_q_even_row : Stmt := topS 41
def N_q_even_row : List Str := ["_law_bag_here", "_law_p", "_law_s", "_law_h", "_law_found", "_law_a", "_law_deg", "_law_k"]
def g_q_even_row (den : List D → Option (Bool × D × List D)) : Fn := ⟨["_law_bag_here", "_law_p", "_law_s"], true, [], den⟩
abbrev s_q_lead_by_top : Stmt := topS 42
def N_q_lead_by_top : List Str := ["_law_v", "_law_s", "_law_j", "_law_a"]
def g_q_lead_by_top (den : List D → Option (Bool × D × List D)) : Fn := ⟨["_law_v", "_law_s"], false, [], den⟩
abbrev s_q_measured_so : Stmt := topS 43
def N_q_measured_so : List Str := ["_law_v", "_law_s", "_law_h", "_law_j", "_law_spot", "_law_t"]
def g_q_measured_so (den : List D → Option (Bool × D × List D)) : Fn := ⟨["_law_v", "_law_s"], false, [], den⟩
abbrev s_law : Stmt := topS 44
def N_law : List Str := ["_law_script", "_law_bag_here", "_law_turn", "_law_p", "_law_m", "_law_s", "_law_v", "_law_w", "_law_u", "_law_f", "_law_k", "_law_vs", "_law_i", "_law_fs", "_law_held", "_law_due"]
def g_law (den : List D → Option (Bool × D × List D)) : Fn := ⟨["_law_script"], false, [], den⟩
theorem law_den (cs : List Int) (_ : cs.length ≤ 63) : ∃ l, (g_law d_law).den [.dict [(.none, .list (I cs))]] = some (false, .bool true, l) := ⟨[], law_den' cs⟩
noncomputable def fsA : List (Str × Fn) := (("form_of" : Str), g_form_of d_form_of) :: (("add" : Str), g_add d_add) :: (("subtract" : Str), g_subtract d_subtract) :: (("multiply" : Str), g_multiply d_multiply) :: (("zero_row" : Str), g_zero_row d_zero_row) :: (("unit_row" : Str), g_unit_row d_unit_row) :: (("add_rows" : Str), g_add_rows d_add_rows) :: (("subtract_rows" : Str), g_subtract_rows d_sub_rows) :: (("row_times" : Str), g_row_times d_row_times) :: (("product_of" : Str), g_product_of d_product) :: (("combined" : Str), g_combined d_combined) :: (("level_of" : Str), g_level_of d_level_of) :: (("height_of" : Str), g_height_of d_height_of) :: (("_last_at" : Str), g_last_at d_last_at) :: (("top_of" : Str), g_top_of d_top_of) :: (("lead_of" : Str), g_lead_of d_lead_of) :: (("_law_bag" : Str), g_q_bag d_bag) :: (("_law_draw" : Str), g_q_draw d_draw) :: (("_law_of" : Str), g_q_of d_of) :: (("_law_same" : Str), g_q_same (d_same 3)) :: (("_law_primes" : Str), g_q_primes d_primes) :: (("_law_prime" : Str), g_q_prime d_prime) :: (("_law_trim" : Str), g_q_trim d_trim) :: (("_law_plus" : Str), g_q_plus d_add) :: (("_law_minus" : Str), g_q_minus d_subtract) :: (("_law_mul" : Str), g_q_mul d_multiply) :: (("_law_form" : Str), g_q_form d_form) :: (("_law_row" : Str), g_q_row d_q_row) :: (("_law_lifts" : Str), g_q_lifts d_q_lifts) :: (("_law_none" : Str), g_q_none d_zero_row) :: (("_law_unit" : Str), g_q_unit d_unit_row) :: (("_law_rplus" : Str), g_q_rplus d_add_rows) :: (("_law_rminus" : Str), g_q_rminus d_sub_rows) :: (("_law_rtimes" : Str), g_q_rtimes d_row_times) :: (("_law_dot" : Str), g_q_dot d_product) :: (("_law_comb" : Str), g_q_comb d_q_comb) :: (("_law_level" : Str), g_q_level d_q_level) :: (("_law_top" : Str), g_q_top d_q_top) :: (("_law_even_row" : Str), g_q_even_row d_q_even) :: (("_law_lead_by_top" : Str), g_q_lead_by_top d_q_lead) :: (("_law_measured_so" : Str), g_q_measured_so d_q_measured) :: (("law" : Str), g_law d_law) :: []
theorem ck_form_of : ckSs ⟨N_form_of, fsA.take 0, 1048576⟩ 60 (defScope s_form_of) (defBody s_form_of) B_form_of = true := by decide +kernel
theorem sc_form_of : FnScope N_form_of ["prime", "numbers"] (defScope s_form_of) := ⟨rfl, rfl, rfl, by decide +kernel, rfl, by decide +kernel, by decide +kernel⟩
theorem bd_form_of (den : List D → Option (Bool × D × List D)) : Bnd "form_of" s_form_of (g_form_of den) := ⟨fun _ _ _ _ _ _ us hl => match us, hl with | [_, _], _ => rfl, fun kw h => by cases h⟩
theorem ck_add : ckSs ⟨N_add, fsA.take 1, 1048576⟩ 60 (defScope s_add) (defBody s_add) (B_add 0) = true := by decide +kernel
theorem sc_add : FnScope N_add ["prime", "one", "other"] (defScope s_add) := ⟨rfl, rfl, rfl, by decide +kernel, rfl, by decide +kernel, by decide +kernel⟩
theorem bd_add (den : List D → Option (Bool × D × List D)) : Bnd "add" s_add (g_add den) := ⟨fun _ _ _ _ _ _ us hl => match us, hl with | [_, _, _], _ => rfl, fun kw h => by cases h⟩
theorem ck_subtract : ckSs ⟨N_subtract, fsA.take 2, 1048576⟩ 60 (defScope s_subtract) (defBody s_subtract) (B_subtract 0) = true := by decide +kernel
theorem sc_subtract : FnScope N_subtract ["prime", "one", "other"] (defScope s_subtract) := ⟨rfl, rfl, rfl, by decide +kernel, rfl, by decide +kernel, by decide +kernel⟩
theorem bd_subtract (den : List D → Option (Bool × D × List D)) : Bnd "subtract" s_subtract (g_subtract den) := ⟨fun _ _ _ _ _ _ us hl => match us, hl with | [_, _, _], _ => rfl, fun kw h => by cases h⟩
theorem ck_multiply : ckSs ⟨N_multiply, fsA.take 3, 1048576⟩ 60 (defScope s_multiply) (defBody s_multiply) (B_multiply 0) = true := by decide +kernel
theorem sc_multiply : FnScope N_multiply ["prime", "one", "other"] (defScope s_multiply) := ⟨rfl, rfl, rfl, by decide +kernel, rfl, by decide +kernel, by decide +kernel⟩
theorem bd_multiply (den : List D → Option (Bool × D × List D)) : Bnd "multiply" s_multiply (g_multiply den) := ⟨fun _ _ _ _ _ _ us hl => match us, hl with | [_, _, _], _ => rfl, fun kw h => by cases h⟩
theorem ck_zero_row : ckSs ⟨N_zero_row, fsA.take 4, 1048576⟩ 60 (defScope s_zero_row) (defBody s_zero_row) B_zero_row = true := by decide +kernel
theorem sc_zero_row : FnScope N_zero_row ["places"] (defScope s_zero_row) := ⟨rfl, rfl, rfl, by decide +kernel, rfl, by decide +kernel, by decide +kernel⟩
theorem bd_zero_row (den : List D → Option (Bool × D × List D)) : Bnd "zero_row" s_zero_row (g_zero_row den) := ⟨fun _ _ _ _ _ _ us hl => match us, hl with | [_], _ => rfl, by
  intro kw h
  simp only [g_zero_row, List.mem_cons, List.not_mem_nil, or_false] at h
  rcases h with rfl
  · exact fun _ _ _ _ _ _ us ws h1 h2 => match us, ws, h1, h2 with | [], [_], _, _ => rfl⟩
theorem ck_unit_row : ckSs ⟨N_unit_row, fsA.take 5, 1048576⟩ 60 (defScope s_unit_row) (defBody s_unit_row) B_unit_row = true := by decide +kernel
theorem sc_unit_row : FnScope N_unit_row ["places", "place"] (defScope s_unit_row) := ⟨rfl, rfl, rfl, by decide +kernel, rfl, by decide +kernel, by decide +kernel⟩
theorem bd_unit_row (den : List D → Option (Bool × D × List D)) : Bnd "unit_row" s_unit_row (g_unit_row den) := ⟨fun _ _ _ _ _ _ us hl => match us, hl with | [_, _], _ => rfl, by
  intro kw h
  simp only [g_unit_row, List.mem_cons, List.not_mem_nil, or_false] at h
  rcases h with rfl
  · exact fun _ _ _ _ _ _ us ws h1 h2 => match us, ws, h1, h2 with | [], [_, _], _, _ => rfl⟩
theorem ck_add_rows : ckSs ⟨N_add_rows, fsA.take 6, 1048576⟩ 60 (defScope s_add_rows) (defBody s_add_rows) (B_zip_rows 1) = true := by decide +kernel
theorem sc_add_rows : FnScope N_add_rows ["prime", "one", "other"] (defScope s_add_rows) := ⟨rfl, rfl, rfl, by decide +kernel, rfl, by decide +kernel, by decide +kernel⟩
theorem bd_add_rows (den : List D → Option (Bool × D × List D)) : Bnd "add_rows" s_add_rows (g_add_rows den) := ⟨fun _ _ _ _ _ _ us hl => match us, hl with | [_, _, _], _ => rfl, by
  intro kw h
  simp only [g_add_rows, List.mem_cons, List.not_mem_nil, or_false] at h
  rcases h with rfl
  · exact fun _ _ _ _ _ _ us ws h1 h2 => match us, ws, h1, h2 with | [], [_, _, _], _, _ => rfl⟩
theorem ck_subtract_rows : ckSs ⟨N_subtract_rows, fsA.take 7, 1048576⟩ 60 (defScope s_subtract_rows) (defBody s_subtract_rows) (B_zip_rows 2) = true := by decide +kernel
theorem sc_subtract_rows : FnScope N_subtract_rows ["prime", "one", "other"] (defScope s_subtract_rows) := ⟨rfl, rfl, rfl, by decide +kernel, rfl, by decide +kernel, by decide +kernel⟩
theorem bd_subtract_rows (den : List D → Option (Bool × D × List D)) : Bnd "subtract_rows" s_subtract_rows (g_subtract_rows den) := ⟨fun _ _ _ _ _ _ us hl => match us, hl with | [_, _, _], _ => rfl, by
  intro kw h
  simp only [g_subtract_rows, List.mem_cons, List.not_mem_nil, or_false] at h
  rcases h with rfl
  · exact fun _ _ _ _ _ _ us ws h1 h2 => match us, ws, h1, h2 with | [], [_, _, _], _, _ => rfl⟩
theorem ck_row_times : ckSs ⟨N_row_times, fsA.take 8, 1048576⟩ 60 (defScope s_row_times) (defBody s_row_times) (B_row_times 3) = true := by decide +kernel
theorem sc_row_times : FnScope N_row_times ["prime", "row", "form"] (defScope s_row_times) := ⟨rfl, rfl, rfl, by decide +kernel, rfl, by decide +kernel, by decide +kernel⟩
theorem bd_row_times (den : List D → Option (Bool × D × List D)) : Bnd "row_times" s_row_times (g_row_times den) := ⟨fun _ _ _ _ _ _ us hl => match us, hl with | [_, _, _], _ => rfl, by
  intro kw h
  simp only [g_row_times, List.mem_cons, List.not_mem_nil, or_false] at h
  rcases h with rfl
  · exact fun _ _ _ _ _ _ us ws h1 h2 => match us, ws, h1, h2 with | [], [_, _, _], _, _ => rfl⟩
theorem ck_product_of : ckSs ⟨N_product_of, fsA.take 9, 1048576⟩ 60 (defScope s_product_of) (defBody s_product_of) (B_product_of 1 3) = true := by decide +kernel
theorem sc_product_of : FnScope N_product_of ["prime", "one", "other"] (defScope s_product_of) := ⟨rfl, rfl, rfl, by decide +kernel, rfl, by decide +kernel, by decide +kernel⟩
theorem bd_product_of (den : List D → Option (Bool × D × List D)) : Bnd "product_of" s_product_of (g_product_of den) := ⟨fun _ _ _ _ _ _ us hl => match us, hl with | [_, _, _], _ => rfl, by
  intro kw h
  simp only [g_product_of, List.mem_cons, List.not_mem_nil, or_false] at h
  rcases h with rfl
  · exact fun _ _ _ _ _ _ us ws h1 h2 => match us, ws, h1, h2 with | [], [_, _, _], _, _ => rfl⟩
theorem ck_combined : ckSs ⟨N_combined, fsA.take 10, 1048576⟩ 60 (defScope s_combined) (defBody s_combined) (B_combined 4 6 8) = true := by decide +kernel
theorem sc_combined : FnScope N_combined ["prime", "forms", "rows"] (defScope s_combined) := ⟨rfl, rfl, rfl, by decide +kernel, rfl, by decide +kernel, by decide +kernel⟩
theorem bd_combined (den : List D → Option (Bool × D × List D)) : Bnd "combined" s_combined (g_combined den) := ⟨fun _ _ _ _ _ _ us hl => match us, hl with | [_, _, _], _ => rfl, by
  intro kw h
  simp only [g_combined, List.mem_cons, List.not_mem_nil, or_false] at h
  rcases h with rfl
  · exact fun _ _ _ _ _ _ us ws h1 h2 => match us, ws, h1, h2 with | [], [_, _, _], _, _ => rfl⟩
theorem ck_level_of : ckSs ⟨N_level_of, fsA.take 11, 1048576⟩ 60 (defScope s_level_of) (defBody s_level_of) B_level_of = true := by decide +kernel
theorem sc_level_of : FnScope N_level_of ["row", "lifts"] (defScope s_level_of) := ⟨rfl, rfl, rfl, by decide +kernel, rfl, by decide +kernel, by decide +kernel⟩
theorem bd_level_of (den : List D → Option (Bool × D × List D)) : Bnd "level_of" s_level_of (g_level_of den) := ⟨fun _ _ _ _ _ _ us hl => match us, hl with | [_, _], _ => rfl, by
  intro kw h
  simp only [g_level_of, List.mem_cons, List.not_mem_nil, or_false] at h
  rcases h with rfl
  · exact fun _ _ _ _ _ _ us ws h1 h2 => match us, ws, h1, h2 with | [], [_, _], _, _ => rfl⟩
theorem ck_height_of : ckSs ⟨N_height_of, fsA.take 12, 1048576⟩ 60 (defScope s_height_of) (defBody s_height_of) (B_height_of 11) = true := by decide +kernel
theorem sc_height_of : FnScope N_height_of ["row", "lifts"] (defScope s_height_of) := ⟨rfl, rfl, rfl, by decide +kernel, rfl, by decide +kernel, by decide +kernel⟩
theorem bd_height_of (den : List D → Option (Bool × D × List D)) : Bnd "height_of" s_height_of (g_height_of den) := ⟨fun _ _ _ _ _ _ us hl => match us, hl with | [_, _], _ => rfl, by
  intro kw h
  simp only [g_height_of, List.mem_cons, List.not_mem_nil, or_false] at h
  rcases h with rfl
  · exact fun _ _ _ _ _ _ us ws h1 h2 => match us, ws, h1, h2 with | [], [_, _], _, _ => rfl⟩
theorem ck_last_at : ckSs ⟨N_last_at, fsA.take 13, 1048576⟩ 60 (defScope s_last_at) (defBody s_last_at) B_last_at = true := by decide +kernel
theorem sc_last_at : FnScope N_last_at ["form", "degree"] (defScope s_last_at) := ⟨rfl, rfl, rfl, by decide +kernel, rfl, by decide +kernel, by decide +kernel⟩
theorem bd_last_at (den : List D → Option (Bool × D × List D)) : Bnd "_last_at" s_last_at (g_last_at den) := ⟨fun _ _ _ _ _ _ us hl => match us, hl with | [_, _], _ => rfl, fun kw h => by cases h⟩
theorem ck_top_of : ckSs ⟨N_top_of, fsA.take 14, 1048576⟩ 60 (defScope s_top_of) (defBody s_top_of) (B_top_of 12 13) = true := by decide +kernel
theorem sc_top_of : FnScope N_top_of ["row", "lifts"] (defScope s_top_of) := ⟨rfl, rfl, rfl, by decide +kernel, rfl, by decide +kernel, by decide +kernel⟩
theorem bd_top_of (den : List D → Option (Bool × D × List D)) : Bnd "top_of" s_top_of (g_top_of den) := ⟨fun _ _ _ _ _ _ us hl => match us, hl with | [_, _], _ => rfl, by
  intro kw h
  simp only [g_top_of, List.mem_cons, List.not_mem_nil, or_false] at h
  rcases h with rfl
  · exact fun _ _ _ _ _ _ us ws h1 h2 => match us, ws, h1, h2 with | [], [_, _], _, _ => rfl⟩
theorem ck_lead_of : ckSs ⟨N_lead_of, fsA.take 15, 1048576⟩ 60 (defScope s_lead_of) (defBody s_lead_of) (B_lead_of 11) = true := by decide +kernel
theorem sc_lead_of : FnScope N_lead_of ["row", "lifts"] (defScope s_lead_of) := ⟨rfl, rfl, rfl, by decide +kernel, rfl, by decide +kernel, by decide +kernel⟩
theorem bd_lead_of (den : List D → Option (Bool × D × List D)) : Bnd "lead_of" s_lead_of (g_lead_of den) := ⟨fun _ _ _ _ _ _ us hl => match us, hl with | [_, _], _ => rfl, by
  intro kw h
  simp only [g_lead_of, List.mem_cons, List.not_mem_nil, or_false] at h
  rcases h with rfl
  · exact fun _ _ _ _ _ _ us ws h1 h2 => match us, ws, h1, h2 with | [], [_, _], _, _ => rfl⟩
theorem ck_q_bag : ckSs ⟨N_q_bag, fsA.take 16, 1048576⟩ 60 (defScope s_q_bag) (defBody s_q_bag) B_q_bag = true := by decide +kernel
theorem sc_q_bag : FnScope N_q_bag ["_law_script"] (defScope s_q_bag) := ⟨rfl, rfl, rfl, by decide +kernel, rfl, by decide +kernel, by decide +kernel⟩
theorem bd_q_bag (den : List D → Option (Bool × D × List D)) : Bnd "_law_bag" s_q_bag (g_q_bag den) := ⟨fun _ _ _ _ _ _ us hl => match us, hl with | [_], _ => rfl, fun kw h => by cases h⟩
theorem ck_q_draw : ckSs ⟨N_q_draw, fsA.take 17, 1048576⟩ 60 (defScope s_q_draw) (defBody s_q_draw) B_q_draw = true := by decide +kernel
theorem sc_q_draw : FnScope N_q_draw ["_law_bag_here", "_law_top_here"] (defScope s_q_draw) := ⟨rfl, rfl, rfl, by decide +kernel, rfl, by decide +kernel, by decide +kernel⟩
theorem bd_q_draw (den : List D → Option (Bool × D × List D)) : Bnd "_law_draw" s_q_draw (g_q_draw den) := ⟨fun _ _ _ _ _ _ us hl => match us, hl with | [_, _], _ => rfl, fun kw h => by cases h⟩
theorem ck_q_of : ckSs ⟨N_q_of, fsA.take 18, 1048576⟩ 60 (defScope s_q_of) (defBody s_q_of) (B_q_of 17) = true := by decide +kernel
theorem sc_q_of : FnScope N_q_of ["_law_bag_here", "_law_some"] (defScope s_q_of) := ⟨rfl, rfl, rfl, by decide +kernel, rfl, by decide +kernel, by decide +kernel⟩
theorem bd_q_of (den : List D → Option (Bool × D × List D)) : Bnd "_law_of" s_q_of (g_q_of den) := ⟨fun _ _ _ _ _ _ us hl => match us, hl with | [_, _], _ => rfl, fun kw h => by cases h⟩
theorem ck_q_same_0 : ckSs ⟨N_q_same, (fsA.take 19) ++ [(("_law_same" : Str), g_q_same (fun _ => none))], 1048576⟩ 60 (defScope s_q_same) (defBody s_q_same) (B_q_same 19) = true := by decide +kernel
theorem ck_q_same_1 : ckSs ⟨N_q_same, (fsA.take 19) ++ [(("_law_same" : Str), g_q_same (d_same 0))], 1048576⟩ 60 (defScope s_q_same) (defBody s_q_same) (B_q_same 19) = true := by decide +kernel
theorem ck_q_same_2 : ckSs ⟨N_q_same, (fsA.take 19) ++ [(("_law_same" : Str), g_q_same (d_same 1))], 1048576⟩ 60 (defScope s_q_same) (defBody s_q_same) (B_q_same 19) = true := by decide +kernel
theorem ck_q_same_3 : ckSs ⟨N_q_same, (fsA.take 19) ++ [(("_law_same" : Str), g_q_same (d_same 2))], 1048576⟩ 60 (defScope s_q_same) (defBody s_q_same) (B_q_same 19) = true := by decide +kernel
theorem sc_q_same : FnScope N_q_same ["_law_found", "_law_due"] (defScope s_q_same) := ⟨rfl, rfl, rfl, by decide +kernel, rfl, by decide +kernel, by decide +kernel⟩
theorem bd_q_same (den : List D → Option (Bool × D × List D)) : Bnd "_law_same" s_q_same (g_q_same den) := ⟨fun _ _ _ _ _ _ us hl => match us, hl with | [_, _], _ => rfl, fun kw h => by cases h⟩
theorem ck_q_primes : ckSs ⟨N_q_primes, fsA.take 20, 1048576⟩ 60 (defScope s_q_primes) (defBody s_q_primes) B_q_primes = true := by decide +kernel
theorem sc_q_primes : FnScope N_q_primes [] (defScope s_q_primes) := ⟨rfl, rfl, rfl, by decide +kernel, rfl, by decide +kernel, by decide +kernel⟩
theorem bd_q_primes (den : List D → Option (Bool × D × List D)) : Bnd "_law_primes" s_q_primes (g_q_primes den) := ⟨fun _ _ _ _ _ _ us hl => match us, hl with | [], _ => rfl, fun kw h => by cases h⟩
theorem ck_q_prime : ckSs ⟨N_q_prime, fsA.take 21, 1048576⟩ 60 (defScope s_q_prime) (defBody s_q_prime) (B_q_prime 17 18 20) = true := by decide +kernel
theorem sc_q_prime : FnScope N_q_prime ["_law_bag_here"] (defScope s_q_prime) := ⟨rfl, rfl, rfl, by decide +kernel, rfl, by decide +kernel, by decide +kernel⟩
theorem bd_q_prime (den : List D → Option (Bool × D × List D)) : Bnd "_law_prime" s_q_prime (g_q_prime den) := ⟨fun _ _ _ _ _ _ us hl => match us, hl with | [_], _ => rfl, fun kw h => by cases h⟩
theorem ck_q_trim : ckSs ⟨N_q_trim, fsA.take 22, 1048576⟩ 60 (defScope s_q_trim) (defBody s_q_trim) B_q_trim = true := by decide +kernel
theorem sc_q_trim : FnScope N_q_trim ["_law_coefs"] (defScope s_q_trim) := ⟨rfl, rfl, rfl, by decide +kernel, rfl, by decide +kernel, by decide +kernel⟩
theorem bd_q_trim (den : List D → Option (Bool × D × List D)) : Bnd "_law_trim" s_q_trim (g_q_trim den) := ⟨fun _ _ _ _ _ _ us hl => match us, hl with | [_], _ => rfl, fun kw h => by cases h⟩
theorem ck_q_plus : ckSs ⟨N_q_plus, fsA.take 23, 1048576⟩ 60 (defScope s_q_plus) (defBody s_q_plus) (B_q_plus 22) = true := by decide +kernel
theorem sc_q_plus : FnScope N_q_plus ["_law_p", "_law_f", "_law_g"] (defScope s_q_plus) := ⟨rfl, rfl, rfl, by decide +kernel, rfl, by decide +kernel, by decide +kernel⟩
theorem bd_q_plus (den : List D → Option (Bool × D × List D)) : Bnd "_law_plus" s_q_plus (g_q_plus den) := ⟨fun _ _ _ _ _ _ us hl => match us, hl with | [_, _, _], _ => rfl, fun kw h => by cases h⟩
theorem ck_q_minus : ckSs ⟨N_q_minus, fsA.take 24, 1048576⟩ 60 (defScope s_q_minus) (defBody s_q_minus) (B_q_minus 22) = true := by decide +kernel
theorem sc_q_minus : FnScope N_q_minus ["_law_p", "_law_f", "_law_g"] (defScope s_q_minus) := ⟨rfl, rfl, rfl, by decide +kernel, rfl, by decide +kernel, by decide +kernel⟩
theorem bd_q_minus (den : List D → Option (Bool × D × List D)) : Bnd "_law_minus" s_q_minus (g_q_minus den) := ⟨fun _ _ _ _ _ _ us hl => match us, hl with | [_, _, _], _ => rfl, fun kw h => by cases h⟩
theorem ck_q_mul : ckSs ⟨N_q_mul, fsA.take 25, 1048576⟩ 60 (defScope s_q_mul) (defBody s_q_mul) (B_q_mul 22) = true := by decide +kernel
theorem sc_q_mul : FnScope N_q_mul ["_law_p", "_law_f", "_law_g"] (defScope s_q_mul) := ⟨rfl, rfl, rfl, by decide +kernel, rfl, by decide +kernel, by decide +kernel⟩
theorem bd_q_mul (den : List D → Option (Bool × D × List D)) : Bnd "_law_mul" s_q_mul (g_q_mul den) := ⟨fun _ _ _ _ _ _ us hl => match us, hl with | [_, _, _], _ => rfl, fun kw h => by cases h⟩
theorem ck_q_form : ckSs ⟨N_q_form, fsA.take 26, 1048576⟩ 60 (defScope s_q_form) (defBody s_q_form) (B_q_form 17 22) = true := by decide +kernel
theorem sc_q_form : FnScope N_q_form ["_law_bag_here", "_law_p", "_law_deg"] (defScope s_q_form) := ⟨rfl, rfl, rfl, by decide +kernel, rfl, by decide +kernel, by decide +kernel⟩
theorem bd_q_form (den : List D → Option (Bool × D × List D)) : Bnd "_law_form" s_q_form (g_q_form den) := ⟨fun _ _ _ _ _ _ us hl => match us, hl with | [_, _, _], _ => rfl, fun kw h => by cases h⟩
theorem ck_q_row : ckSs ⟨N_q_row, fsA.take 27, 1048576⟩ 60 (defScope s_q_row) (defBody s_q_row) (B_q_row 26) = true := by decide +kernel
theorem sc_q_row : FnScope N_q_row ["_law_bag_here", "_law_p", "_law_m", "_law_deg"] (defScope s_q_row) := ⟨rfl, rfl, rfl, by decide +kernel, rfl, by decide +kernel, by decide +kernel⟩
theorem bd_q_row (den : List D → Option (Bool × D × List D)) : Bnd "_law_row" s_q_row (g_q_row den) := ⟨fun _ _ _ _ _ _ us hl => match us, hl with | [_, _, _, _], _ => rfl, fun kw h => by cases h⟩
theorem ck_q_lifts : ckSs ⟨N_q_lifts, fsA.take 28, 1048576⟩ 60 (defScope s_q_lifts) (defBody s_q_lifts) (B_q_lifts 17 18) = true := by decide +kernel
theorem sc_q_lifts : FnScope N_q_lifts ["_law_bag_here", "_law_m"] (defScope s_q_lifts) := ⟨rfl, rfl, rfl, by decide +kernel, rfl, by decide +kernel, by decide +kernel⟩
theorem bd_q_lifts (den : List D → Option (Bool × D × List D)) : Bnd "_law_lifts" s_q_lifts (g_q_lifts den) := ⟨fun _ _ _ _ _ _ us hl => match us, hl with | [_, _], _ => rfl, fun kw h => by cases h⟩
theorem ck_q_none : ckSs ⟨N_q_none, fsA.take 29, 1048576⟩ 60 (defScope s_q_none) (defBody s_q_none) B_q_none = true := by decide +kernel
theorem sc_q_none : FnScope N_q_none ["_law_m"] (defScope s_q_none) := ⟨rfl, rfl, rfl, by decide +kernel, rfl, by decide +kernel, by decide +kernel⟩
theorem bd_q_none (den : List D → Option (Bool × D × List D)) : Bnd "_law_none" s_q_none (g_q_none den) := ⟨fun _ _ _ _ _ _ us hl => match us, hl with | [_], _ => rfl, fun kw h => by cases h⟩
theorem ck_q_unit : ckSs ⟨N_q_unit, fsA.take 30, 1048576⟩ 60 (defScope s_q_unit) (defBody s_q_unit) B_unit_row = true := by decide +kernel
theorem sc_q_unit : FnScope N_q_unit ["_law_m", "_law_j"] (defScope s_q_unit) := ⟨rfl, rfl, rfl, by decide +kernel, rfl, by decide +kernel, by decide +kernel⟩
theorem bd_q_unit (den : List D → Option (Bool × D × List D)) : Bnd "_law_unit" s_q_unit (g_q_unit den) := ⟨fun _ _ _ _ _ _ us hl => match us, hl with | [_, _], _ => rfl, fun kw h => by cases h⟩
theorem ck_q_rplus : ckSs ⟨N_q_rplus, fsA.take 31, 1048576⟩ 60 (defScope s_q_rplus) (defBody s_q_rplus) (B_zip_rows 23) = true := by decide +kernel
theorem sc_q_rplus : FnScope N_q_rplus ["_law_p", "_law_v", "_law_w"] (defScope s_q_rplus) := ⟨rfl, rfl, rfl, by decide +kernel, rfl, by decide +kernel, by decide +kernel⟩
theorem bd_q_rplus (den : List D → Option (Bool × D × List D)) : Bnd "_law_rplus" s_q_rplus (g_q_rplus den) := ⟨fun _ _ _ _ _ _ us hl => match us, hl with | [_, _, _], _ => rfl, fun kw h => by cases h⟩
theorem ck_q_rminus : ckSs ⟨N_q_rminus, fsA.take 32, 1048576⟩ 60 (defScope s_q_rminus) (defBody s_q_rminus) (B_zip_rows 24) = true := by decide +kernel
theorem sc_q_rminus : FnScope N_q_rminus ["_law_p", "_law_v", "_law_w"] (defScope s_q_rminus) := ⟨rfl, rfl, rfl, by decide +kernel, rfl, by decide +kernel, by decide +kernel⟩
theorem bd_q_rminus (den : List D → Option (Bool × D × List D)) : Bnd "_law_rminus" s_q_rminus (g_q_rminus den) := ⟨fun _ _ _ _ _ _ us hl => match us, hl with | [_, _, _], _ => rfl, fun kw h => by cases h⟩
theorem ck_q_rtimes : ckSs ⟨N_q_rtimes, fsA.take 33, 1048576⟩ 60 (defScope s_q_rtimes) (defBody s_q_rtimes) (B_q_rtimes 25) = true := by decide +kernel
theorem sc_q_rtimes : FnScope N_q_rtimes ["_law_p", "_law_v", "_law_f"] (defScope s_q_rtimes) := ⟨rfl, rfl, rfl, by decide +kernel, rfl, by decide +kernel, by decide +kernel⟩
theorem bd_q_rtimes (den : List D → Option (Bool × D × List D)) : Bnd "_law_rtimes" s_q_rtimes (g_q_rtimes den) := ⟨fun _ _ _ _ _ _ us hl => match us, hl with | [_, _, _], _ => rfl, fun kw h => by cases h⟩
theorem ck_q_dot : ckSs ⟨N_q_dot, fsA.take 34, 1048576⟩ 60 (defScope s_q_dot) (defBody s_q_dot) (B_product_of 23 25) = true := by decide +kernel
theorem sc_q_dot : FnScope N_q_dot ["_law_p", "_law_v", "_law_w"] (defScope s_q_dot) := ⟨rfl, rfl, rfl, by decide +kernel, rfl, by decide +kernel, by decide +kernel⟩
theorem bd_q_dot (den : List D → Option (Bool × D × List D)) : Bnd "_law_dot" s_q_dot (g_q_dot den) := ⟨fun _ _ _ _ _ _ us hl => match us, hl with | [_, _, _], _ => rfl, fun kw h => by cases h⟩
theorem ck_q_comb : ckSs ⟨N_q_comb, fsA.take 35, 1048576⟩ 60 (defScope s_q_comb) (defBody s_q_comb) (B_q_comb 29 31 33) = true := by decide +kernel
theorem sc_q_comb : FnScope N_q_comb ["_law_p", "_law_fs", "_law_vs", "_law_m"] (defScope s_q_comb) := ⟨rfl, rfl, rfl, by decide +kernel, rfl, by decide +kernel, by decide +kernel⟩
theorem bd_q_comb (den : List D → Option (Bool × D × List D)) : Bnd "_law_comb" s_q_comb (g_q_comb den) := ⟨fun _ _ _ _ _ _ us hl => match us, hl with | [_, _, _, _], _ => rfl, fun kw h => by cases h⟩
theorem ck_q_level : ckSs ⟨N_q_level, fsA.take 36, 1048576⟩ 60 (defScope s_q_level) (defBody s_q_level) B_q_level = true := by decide +kernel
theorem sc_q_level : FnScope N_q_level ["_law_v", "_law_s"] (defScope s_q_level) := ⟨rfl, rfl, rfl, by decide +kernel, rfl, by decide +kernel, by decide +kernel⟩
theorem bd_q_level (den : List D → Option (Bool × D × List D)) : Bnd "_law_level" s_q_level (g_q_level den) := ⟨fun _ _ _ _ _ _ us hl => match us, hl with | [_, _], _ => rfl, fun kw h => by cases h⟩
theorem ck_q_top : ckSs ⟨N_q_top, fsA.take 37, 1048576⟩ 60 (defScope s_q_top) (defBody s_q_top) (B_q_top 36) = true := by decide +kernel
theorem sc_q_top : FnScope N_q_top ["_law_v", "_law_s"] (defScope s_q_top) := ⟨rfl, rfl, rfl, by decide +kernel, rfl, by decide +kernel, by decide +kernel⟩
theorem bd_q_top (den : List D → Option (Bool × D × List D)) : Bnd "_law_top" s_q_top (g_q_top den) := ⟨fun _ _ _ _ _ _ us hl => match us, hl with | [_, _], _ => rfl, fun kw h => by cases h⟩
theorem ck_q_even_row : ckSs ⟨N_q_even_row, fsA.take 38, 1048576⟩ 60 (defScope s_q_even_row) (defBody s_q_even_row) (B_q_even 17) = true := by decide +kernel
theorem sc_q_even_row : FnScope N_q_even_row ["_law_bag_here", "_law_p", "_law_s"] (defScope s_q_even_row) := ⟨rfl, rfl, rfl, by decide +kernel, rfl, by decide +kernel, by decide +kernel⟩
theorem bd_q_even_row (den : List D → Option (Bool × D × List D)) : Bnd "_law_even_row" s_q_even_row (g_q_even_row den) := ⟨fun _ _ _ _ _ _ us hl => match us, hl with | [_, _, _], _ => rfl, fun kw h => by cases h⟩
theorem ck_q_lead_by_top : ckSs ⟨N_q_lead_by_top, fsA.take 39, 1048576⟩ 60 (defScope s_q_lead_by_top) (defBody s_q_lead_by_top) (B_q_lead 37) = true := by decide +kernel
theorem sc_q_lead_by_top : FnScope N_q_lead_by_top ["_law_v", "_law_s"] (defScope s_q_lead_by_top) := ⟨rfl, rfl, rfl, by decide +kernel, rfl, by decide +kernel, by decide +kernel⟩
theorem bd_q_lead_by_top (den : List D → Option (Bool × D × List D)) : Bnd "_law_lead_by_top" s_q_lead_by_top (g_q_lead_by_top den) := ⟨fun _ _ _ _ _ _ us hl => match us, hl with | [_, _], _ => rfl, fun kw h => by cases h⟩
theorem ck_q_measured_so : ckSs ⟨N_q_measured_so, fsA.take 40, 1048576⟩ 60 (defScope s_q_measured_so) (defBody s_q_measured_so) (B_q_measured 12 14 15 11 19 29 37 39) = true := by decide +kernel
theorem sc_q_measured_so : FnScope N_q_measured_so ["_law_v", "_law_s"] (defScope s_q_measured_so) := ⟨rfl, rfl, rfl, by decide +kernel, rfl, by decide +kernel, by decide +kernel⟩
theorem bd_q_measured_so (den : List D → Option (Bool × D × List D)) : Bnd "_law_measured_so" s_q_measured_so (g_q_measured_so den) := ⟨fun _ _ _ _ _ _ us hl => match us, hl with | [_, _], _ => rfl, fun kw h => by cases h⟩
theorem ck_law : ckSs ⟨N_law, fsA.take 41, 1048576⟩ 60 (defScope s_law) (defBody s_law) B_law = true := by decide +kernel
theorem sc_law : FnScope N_law ["_law_script"] (defScope s_law) := ⟨rfl, rfl, rfl, by decide +kernel, rfl, by decide +kernel, by decide +kernel⟩
theorem bd_law (den : List D → Option (Bool × D × List D)) : Bnd "law" s_law (g_law den) := ⟨fun _ _ _ _ _ _ us hl => match us, hl with | [_], _ => rfl, fun kw h => by cases h⟩
theorem tab : Tab (fsA.take 41) := { a4 := At.of rfl rfl, a5 := At.of rfl rfl, a6 := At.of rfl rfl, a7 := At.of rfl rfl, a8 := At.of rfl rfl, a9 := At.of rfl rfl, a10 := At.of rfl rfl, a11 := At.of rfl rfl, a16 := At.of rfl rfl, a17 := At.of rfl rfl, a18 := At.of rfl rfl, a19 := At.of rfl rfl, a21 := At.of rfl rfl, a26 := At.of rfl rfl, a27 := At.of rfl rfl, a28 := At.of rfl rfl, a29 := At.of rfl rfl, a30 := At.of rfl rfl, a31 := At.of rfl rfl, a32 := At.of rfl rfl, a33 := At.of rfl rfl, a34 := At.of rfl rfl, a35 := At.of rfl rfl, a38 := At.of rfl rfl, a40 := At.of rfl rfl, k4 := fun _  => kAt_of rfl rfl rfl rfl rfl, k5 := fun _ _  => kAt_of rfl rfl rfl rfl rfl, k6 := fun _ _ _  => kAt_of rfl rfl rfl rfl rfl, k7 := fun _ _ _  => kAt_of rfl rfl rfl rfl rfl, k8 := fun _ _ _  => kAt_of rfl rfl rfl rfl rfl, k9 := fun _ _ _  => kAt_of rfl rfl rfl rfl rfl, k10 := fun _ _ _  => kAt_of rfl rfl rfl rfl rfl }
end K07
set_option Elab.async false
set_option linter.all false
set_option maxRecDepth 100000
set_option maxHeartbeats 8000000
namespace K07
open PySem PySem.Spec PyProof.Rows L2 Fz W1
/-! ### the head -/
def dd_form_of : He.DefD := ⟨("form_of", none), "form_of", "form_of", defArgs s_form_of, defBody s_form_of, defScope s_form_of, [], []⟩
def dd_add : He.DefD := ⟨("add", none), "add", "add", defArgs s_add, defBody s_add, defScope s_add, [], []⟩
def dd_subtract : He.DefD := ⟨("subtract", none), "subtract", "subtract", defArgs s_subtract, defBody s_subtract, defScope s_subtract, [], []⟩
def dd_multiply : He.DefD := ⟨("multiply", none), "multiply", "multiply", defArgs s_multiply, defBody s_multiply, defScope s_multiply, [], []⟩
def dd_zero_row : He.DefD := ⟨("zero_row", none), "zero_row", "zero_row", defArgs s_zero_row, defBody s_zero_row, defScope s_zero_row, [], []⟩
def dd_unit_row : He.DefD := ⟨("unit_row", none), "unit_row", "unit_row", defArgs s_unit_row, defBody s_unit_row, defScope s_unit_row, [], []⟩
def dd_add_rows : He.DefD := ⟨("add_rows", none), "add_rows", "add_rows", defArgs s_add_rows, defBody s_add_rows, defScope s_add_rows, [], []⟩
def dd_subtract_rows : He.DefD := ⟨("subtract_rows", none), "subtract_rows", "subtract_rows", defArgs s_subtract_rows, defBody s_subtract_rows, defScope s_subtract_rows, [], []⟩
def dd_row_times : He.DefD := ⟨("row_times", none), "row_times", "row_times", defArgs s_row_times, defBody s_row_times, defScope s_row_times, [], []⟩
def dd_product_of : He.DefD := ⟨("product_of", none), "product_of", "product_of", defArgs s_product_of, defBody s_product_of, defScope s_product_of, [], []⟩
def dd_combined : He.DefD := ⟨("combined", none), "combined", "combined", defArgs s_combined, defBody s_combined, defScope s_combined, [], []⟩
def dd_level_of : He.DefD := ⟨("level_of", none), "level_of", "level_of", defArgs s_level_of, defBody s_level_of, defScope s_level_of, [], []⟩
def dd_height_of : He.DefD := ⟨("height_of", none), "height_of", "height_of", defArgs s_height_of, defBody s_height_of, defScope s_height_of, [], []⟩
def dd_last_at : He.DefD := ⟨("_last_at", none), "_last_at", "_last_at", defArgs s_last_at, defBody s_last_at, defScope s_last_at, [], []⟩
def dd_top_of : He.DefD := ⟨("top_of", none), "top_of", "top_of", defArgs s_top_of, defBody s_top_of, defScope s_top_of, [], []⟩
def dd_lead_of : He.DefD := ⟨("lead_of", none), "lead_of", "lead_of", defArgs s_lead_of, defBody s_lead_of, defScope s_lead_of, [], []⟩
def dd_q_bag : He.DefD := ⟨("_law_bag", none), "_law_bag", "_law_bag", defArgs s_q_bag, defBody s_q_bag, defScope s_q_bag, [], []⟩
def dd_q_draw : He.DefD := ⟨("_law_draw", none), "_law_draw", "_law_draw", defArgs s_q_draw, defBody s_q_draw, defScope s_q_draw, [], []⟩
def dd_q_of : He.DefD := ⟨("_law_of", none), "_law_of", "_law_of", defArgs s_q_of, defBody s_q_of, defScope s_q_of, [], []⟩
def dd_q_same : He.DefD := ⟨("_law_same", none), "_law_same", "_law_same", defArgs s_q_same, defBody s_q_same, defScope s_q_same, [], []⟩
def dd_q_primes : He.DefD := ⟨("_law_primes", none), "_law_primes", "_law_primes", defArgs s_q_primes, defBody s_q_primes, defScope s_q_primes, [], []⟩
def dd_q_prime : He.DefD := ⟨("_law_prime", none), "_law_prime", "_law_prime", defArgs s_q_prime, defBody s_q_prime, defScope s_q_prime, [], []⟩
def dd_q_trim : He.DefD := ⟨("_law_trim", none), "_law_trim", "_law_trim", defArgs s_q_trim, defBody s_q_trim, defScope s_q_trim, [], []⟩
def dd_q_plus : He.DefD := ⟨("_law_plus", none), "_law_plus", "_law_plus", defArgs s_q_plus, defBody s_q_plus, defScope s_q_plus, [], []⟩
def dd_q_minus : He.DefD := ⟨("_law_minus", none), "_law_minus", "_law_minus", defArgs s_q_minus, defBody s_q_minus, defScope s_q_minus, [], []⟩
def dd_q_mul : He.DefD := ⟨("_law_mul", none), "_law_mul", "_law_mul", defArgs s_q_mul, defBody s_q_mul, defScope s_q_mul, [], []⟩
def dd_q_form : He.DefD := ⟨("_law_form", none), "_law_form", "_law_form", defArgs s_q_form, defBody s_q_form, defScope s_q_form, [], []⟩
def dd_q_row : He.DefD := ⟨("_law_row", none), "_law_row", "_law_row", defArgs s_q_row, defBody s_q_row, defScope s_q_row, [], []⟩
def dd_q_lifts : He.DefD := ⟨("_law_lifts", none), "_law_lifts", "_law_lifts", defArgs s_q_lifts, defBody s_q_lifts, defScope s_q_lifts, [], []⟩
def dd_q_none : He.DefD := ⟨("_law_none", none), "_law_none", "_law_none", defArgs s_q_none, defBody s_q_none, defScope s_q_none, [], []⟩
def dd_q_unit : He.DefD := ⟨("_law_unit", none), "_law_unit", "_law_unit", defArgs s_q_unit, defBody s_q_unit, defScope s_q_unit, [], []⟩
def dd_q_rplus : He.DefD := ⟨("_law_rplus", none), "_law_rplus", "_law_rplus", defArgs s_q_rplus, defBody s_q_rplus, defScope s_q_rplus, [], []⟩
def dd_q_rminus : He.DefD := ⟨("_law_rminus", none), "_law_rminus", "_law_rminus", defArgs s_q_rminus, defBody s_q_rminus, defScope s_q_rminus, [], []⟩
def dd_q_rtimes : He.DefD := ⟨("_law_rtimes", none), "_law_rtimes", "_law_rtimes", defArgs s_q_rtimes, defBody s_q_rtimes, defScope s_q_rtimes, [], []⟩
def dd_q_dot : He.DefD := ⟨("_law_dot", none), "_law_dot", "_law_dot", defArgs s_q_dot, defBody s_q_dot, defScope s_q_dot, [], []⟩
def dd_q_comb : He.DefD := ⟨("_law_comb", none), "_law_comb", "_law_comb", defArgs s_q_comb, defBody s_q_comb, defScope s_q_comb, [], []⟩
def dd_q_level : He.DefD := ⟨("_law_level", none), "_law_level", "_law_level", defArgs s_q_level, defBody s_q_level, defScope s_q_level, [], []⟩
def dd_q_top : He.DefD := ⟨("_law_top", none), "_law_top", "_law_top", defArgs s_q_top, defBody s_q_top, defScope s_q_top, [], []⟩
def dd_q_even_row : He.DefD := ⟨("_law_even_row", none), "_law_even_row", "_law_even_row", defArgs s_q_even_row, defBody s_q_even_row, defScope s_q_even_row, [], []⟩
def dd_q_lead_by_top : He.DefD := ⟨("_law_lead_by_top", none), "_law_lead_by_top", "_law_lead_by_top", defArgs s_q_lead_by_top, defBody s_q_lead_by_top, defScope s_q_lead_by_top, [], []⟩
def dd_q_measured_so : He.DefD := ⟨("_law_measured_so", none), "_law_measured_so", "_law_measured_so", defArgs s_q_measured_so, defBody s_q_measured_so, defScope s_q_measured_so, [], []⟩
def dd_law : He.DefD := ⟨("law", none), "law", "law", defArgs s_law, defBody s_law, defScope s_law, [], []⟩
def fnL : List He.DefD := dd_form_of :: dd_add :: dd_subtract :: dd_multiply :: dd_zero_row :: dd_unit_row :: dd_add_rows :: dd_subtract_rows :: dd_row_times :: dd_product_of :: dd_combined :: dd_level_of :: dd_height_of :: dd_last_at :: dd_top_of :: dd_lead_of :: dd_q_bag :: dd_q_draw :: dd_q_of :: dd_q_same :: dd_q_primes :: dd_q_prime :: dd_q_trim :: dd_q_plus :: dd_q_minus :: dd_q_mul :: dd_q_form :: dd_q_row :: dd_q_lifts :: dd_q_none :: dd_q_unit :: dd_q_rplus :: dd_q_rminus :: dd_q_rtimes :: dd_q_dot :: dd_q_comb :: dd_q_level :: dd_q_top :: dd_q_even_row :: dd_q_lead_by_top :: dd_q_measured_so :: dd_law :: []
def faL : List He.Fa := (.glo "form_of" : He.Fa) :: (.glo "add" : He.Fa) :: (.glo "subtract" : He.Fa) :: (.glo "multiply" : He.Fa) :: (.glo "zero_row" : He.Fa) :: (.glo "unit_row" : He.Fa) :: (.glo "add_rows" : He.Fa) :: (.glo "subtract_rows" : He.Fa) :: (.glo "row_times" : He.Fa) :: (.glo "product_of" : He.Fa) :: (.glo "combined" : He.Fa) :: (.glo "level_of" : He.Fa) :: (.glo "height_of" : He.Fa) :: (.glo "_last_at" : He.Fa) :: (.glo "top_of" : He.Fa) :: (.glo "lead_of" : He.Fa) :: (.glo "_law_bag" : He.Fa) :: (.glo "_law_draw" : He.Fa) :: (.glo "_law_of" : He.Fa) :: (.glo "_law_same" : He.Fa) :: (.glo "_law_primes" : He.Fa) :: (.glo "_law_prime" : He.Fa) :: (.glo "_law_trim" : He.Fa) :: (.glo "_law_plus" : He.Fa) :: (.glo "_law_minus" : He.Fa) :: (.glo "_law_mul" : He.Fa) :: (.glo "_law_form" : He.Fa) :: (.glo "_law_row" : He.Fa) :: (.glo "_law_lifts" : He.Fa) :: (.glo "_law_none" : He.Fa) :: (.glo "_law_unit" : He.Fa) :: (.glo "_law_rplus" : He.Fa) :: (.glo "_law_rminus" : He.Fa) :: (.glo "_law_rtimes" : He.Fa) :: (.glo "_law_dot" : He.Fa) :: (.glo "_law_comb" : He.Fa) :: (.glo "_law_level" : He.Fa) :: (.glo "_law_top" : He.Fa) :: (.glo "_law_even_row" : He.Fa) :: (.glo "_law_lead_by_top" : He.Fa) :: (.glo "_law_measured_so" : He.Fa) :: (.glo "law" : He.Fa) :: (.free "len" : He.Fa) :: (.free "int" : He.Fa) :: (.free "abs" : He.Fa) :: (.free "list" : He.Fa) :: (.free "tuple" : He.Fa) :: (.free "all" : He.Fa) :: (.free "any" : He.Fa) :: (.free "max" : He.Fa) :: (.free "min" : He.Fa) :: (.free "sum" : He.Fa) :: (.free "isinstance" : He.Fa) :: (.free "range" : He.Fa) :: (.free "enumerate" : He.Fa) :: (.free "zip" : He.Fa) :: (.free "reversed" : He.Fa) :: (.free "bool" : He.Fa) :: (.free "str" : He.Fa) :: []
abbrev RR : PySem.W.OpenRow := PySem.W.OpenLaw.row PySem.Challenge.rw_freetops_k07_rows_measured
abbrev hk : PySem.W.Hook := He.hookD 4 faL fnL
def ob (s : PySem.W.SharedT) : He.AlD := He.obsDG 4 faL fnL (HandSHeadRun.getT s)
theorem ob_eq (s : PySem.W.SharedT) : ob s = hk.obs s.abs := He.obsDG_eq (HandSHeadRun.getT_eq s)
def loose : List Str := ("form_of" : Str) :: ("add" : Str) :: ("subtract" : Str) :: ("multiply" : Str) :: ("zero_row" : Str) :: ("unit_row" : Str) :: ("add_rows" : Str) :: ("subtract_rows" : Str) :: ("row_times" : Str) :: ("product_of" : Str) :: ("combined" : Str) :: ("level_of" : Str) :: ("height_of" : Str) :: ("_last_at" : Str) :: ("top_of" : Str) :: ("lead_of" : Str) :: ("_law_bag" : Str) :: ("_law_draw" : Str) :: ("_law_of" : Str) :: ("_law_same" : Str) :: ("_law_primes" : Str) :: ("_law_prime" : Str) :: ("_law_trim" : Str) :: ("_law_plus" : Str) :: ("_law_minus" : Str) :: ("_law_mul" : Str) :: ("_law_form" : Str) :: ("_law_row" : Str) :: ("_law_lifts" : Str) :: ("_law_none" : Str) :: ("_law_unit" : Str) :: ("_law_rplus" : Str) :: ("_law_rminus" : Str) :: ("_law_rtimes" : Str) :: ("_law_dot" : Str) :: ("_law_comb" : Str) :: ("_law_level" : Str) :: ("_law_top" : Str) :: ("_law_even_row" : Str) :: ("_law_lead_by_top" : Str) :: ("_law_measured_so" : Str) :: []
theorem run (w : World) : HandSHeadRun.RunEq RR (PySem.W.view RR.prog [44]) hk ob 4000 loose w := by
  intro os
  kernel_rfl
end K07
set_option Elab.async false
set_option linter.all false
set_option maxRecDepth 100000
set_option maxHeartbeats 8000000
namespace K07
open PySem PySem.Spec PyProof.Rows L2 Fz W1
theorem facts {P : Program} {w : World} {K : PySem.W.Frag} {h : Heap} {mg : Str → Option Value} {f : Addr} (X : K.In h) (G : h.Ns mainGlobals mg) (hfa : mg ("law" : Str) = some (.ref f)) (c : He.SaysD faL fnL K) :
    ∃ fd : FuncData, (∀ (s : Shared) (v : Value), BindsTo s fd ⟨[v], []⟩ [("_law_script", v)]) ∧ ∀ base : Heap, K.In base → base.Ns mainGlobals mg → FnOk P w K mg base CX0 46 f fd ["_law_script"] (spD K (g_law d_law)) := by
  have hb : ∀ y, bltNames.contains y = true → mg y = none := by
    intro y hy
    simp only [bltNames, List.contains_cons, List.contains_nil, Bool.or_false, Bool.or_eq_true, beq_iff_eq] at hy
    rcases hy with rfl | rfl | rfl | rfl | rfl | rfl | rfl | rfl | rfl | rfl | rfl | rfl | rfl | rfl | rfl | rfl | rfl
    · exact He.free_ok X G (c.fact 42 (f := .free "len") rfl)
    · exact He.free_ok X G (c.fact 43 (f := .free "int") rfl)
    · exact He.free_ok X G (c.fact 44 (f := .free "abs") rfl)
    · exact He.free_ok X G (c.fact 45 (f := .free "list") rfl)
    · exact He.free_ok X G (c.fact 46 (f := .free "tuple") rfl)
    · exact He.free_ok X G (c.fact 47 (f := .free "all") rfl)
    · exact He.free_ok X G (c.fact 48 (f := .free "any") rfl)
    · exact He.free_ok X G (c.fact 49 (f := .free "max") rfl)
    · exact He.free_ok X G (c.fact 50 (f := .free "min") rfl)
    · exact He.free_ok X G (c.fact 51 (f := .free "sum") rfl)
    · exact He.free_ok X G (c.fact 52 (f := .free "isinstance") rfl)
    · exact He.free_ok X G (c.fact 53 (f := .free "range") rfl)
    · exact He.free_ok X G (c.fact 54 (f := .free "enumerate") rfl)
    · exact He.free_ok X G (c.fact 55 (f := .free "zip") rfl)
    · exact He.free_ok X G (c.fact 56 (f := .free "reversed") rfl)
    · exact He.free_ok X G (c.fact 57 (f := .free "bool") rfl)
    · exact He.free_ok X G (c.fact 58 (f := .free "str") rfl)
  obtain ⟨fd0, F0⟩ := c.def_ 0 (d := dd_form_of) rfl
  have m0 := He.glo_ok X G (c.fact 0 (f := .glo "form_of") rfl)
  obtain ⟨fd1, F1⟩ := c.def_ 1 (d := dd_add) rfl
  have m1 := He.glo_ok X G (c.fact 1 (f := .glo "add") rfl)
  obtain ⟨fd2, F2⟩ := c.def_ 2 (d := dd_subtract) rfl
  have m2 := He.glo_ok X G (c.fact 2 (f := .glo "subtract") rfl)
  obtain ⟨fd3, F3⟩ := c.def_ 3 (d := dd_multiply) rfl
  have m3 := He.glo_ok X G (c.fact 3 (f := .glo "multiply") rfl)
  obtain ⟨fd4, F4⟩ := c.def_ 4 (d := dd_zero_row) rfl
  have m4 := He.glo_ok X G (c.fact 4 (f := .glo "zero_row") rfl)
  obtain ⟨fd5, F5⟩ := c.def_ 5 (d := dd_unit_row) rfl
  have m5 := He.glo_ok X G (c.fact 5 (f := .glo "unit_row") rfl)
  obtain ⟨fd6, F6⟩ := c.def_ 6 (d := dd_add_rows) rfl
  have m6 := He.glo_ok X G (c.fact 6 (f := .glo "add_rows") rfl)
  obtain ⟨fd7, F7⟩ := c.def_ 7 (d := dd_subtract_rows) rfl
  have m7 := He.glo_ok X G (c.fact 7 (f := .glo "subtract_rows") rfl)
  obtain ⟨fd8, F8⟩ := c.def_ 8 (d := dd_row_times) rfl
  have m8 := He.glo_ok X G (c.fact 8 (f := .glo "row_times") rfl)
  obtain ⟨fd9, F9⟩ := c.def_ 9 (d := dd_product_of) rfl
  have m9 := He.glo_ok X G (c.fact 9 (f := .glo "product_of") rfl)
  obtain ⟨fd10, F10⟩ := c.def_ 10 (d := dd_combined) rfl
  have m10 := He.glo_ok X G (c.fact 10 (f := .glo "combined") rfl)
  obtain ⟨fd11, F11⟩ := c.def_ 11 (d := dd_level_of) rfl
  have m11 := He.glo_ok X G (c.fact 11 (f := .glo "level_of") rfl)
  obtain ⟨fd12, F12⟩ := c.def_ 12 (d := dd_height_of) rfl
  have m12 := He.glo_ok X G (c.fact 12 (f := .glo "height_of") rfl)
  obtain ⟨fd13, F13⟩ := c.def_ 13 (d := dd_last_at) rfl
  have m13 := He.glo_ok X G (c.fact 13 (f := .glo "_last_at") rfl)
  obtain ⟨fd14, F14⟩ := c.def_ 14 (d := dd_top_of) rfl
  have m14 := He.glo_ok X G (c.fact 14 (f := .glo "top_of") rfl)
  obtain ⟨fd15, F15⟩ := c.def_ 15 (d := dd_lead_of) rfl
  have m15 := He.glo_ok X G (c.fact 15 (f := .glo "lead_of") rfl)
  obtain ⟨fd16, F16⟩ := c.def_ 16 (d := dd_q_bag) rfl
  have m16 := He.glo_ok X G (c.fact 16 (f := .glo "_law_bag") rfl)
  obtain ⟨fd17, F17⟩ := c.def_ 17 (d := dd_q_draw) rfl
  have m17 := He.glo_ok X G (c.fact 17 (f := .glo "_law_draw") rfl)
  obtain ⟨fd18, F18⟩ := c.def_ 18 (d := dd_q_of) rfl
  have m18 := He.glo_ok X G (c.fact 18 (f := .glo "_law_of") rfl)
  obtain ⟨fd19, F19⟩ := c.def_ 19 (d := dd_q_same) rfl
  have m19 := He.glo_ok X G (c.fact 19 (f := .glo "_law_same") rfl)
  obtain ⟨fd20, F20⟩ := c.def_ 20 (d := dd_q_primes) rfl
  have m20 := He.glo_ok X G (c.fact 20 (f := .glo "_law_primes") rfl)
  obtain ⟨fd21, F21⟩ := c.def_ 21 (d := dd_q_prime) rfl
  have m21 := He.glo_ok X G (c.fact 21 (f := .glo "_law_prime") rfl)
  obtain ⟨fd22, F22⟩ := c.def_ 22 (d := dd_q_trim) rfl
  have m22 := He.glo_ok X G (c.fact 22 (f := .glo "_law_trim") rfl)
  obtain ⟨fd23, F23⟩ := c.def_ 23 (d := dd_q_plus) rfl
  have m23 := He.glo_ok X G (c.fact 23 (f := .glo "_law_plus") rfl)
  obtain ⟨fd24, F24⟩ := c.def_ 24 (d := dd_q_minus) rfl
  have m24 := He.glo_ok X G (c.fact 24 (f := .glo "_law_minus") rfl)
  obtain ⟨fd25, F25⟩ := c.def_ 25 (d := dd_q_mul) rfl
  have m25 := He.glo_ok X G (c.fact 25 (f := .glo "_law_mul") rfl)
  obtain ⟨fd26, F26⟩ := c.def_ 26 (d := dd_q_form) rfl
  have m26 := He.glo_ok X G (c.fact 26 (f := .glo "_law_form") rfl)
  obtain ⟨fd27, F27⟩ := c.def_ 27 (d := dd_q_row) rfl
  have m27 := He.glo_ok X G (c.fact 27 (f := .glo "_law_row") rfl)
  obtain ⟨fd28, F28⟩ := c.def_ 28 (d := dd_q_lifts) rfl
  have m28 := He.glo_ok X G (c.fact 28 (f := .glo "_law_lifts") rfl)
  obtain ⟨fd29, F29⟩ := c.def_ 29 (d := dd_q_none) rfl
  have m29 := He.glo_ok X G (c.fact 29 (f := .glo "_law_none") rfl)
  obtain ⟨fd30, F30⟩ := c.def_ 30 (d := dd_q_unit) rfl
  have m30 := He.glo_ok X G (c.fact 30 (f := .glo "_law_unit") rfl)
  obtain ⟨fd31, F31⟩ := c.def_ 31 (d := dd_q_rplus) rfl
  have m31 := He.glo_ok X G (c.fact 31 (f := .glo "_law_rplus") rfl)
  obtain ⟨fd32, F32⟩ := c.def_ 32 (d := dd_q_rminus) rfl
  have m32 := He.glo_ok X G (c.fact 32 (f := .glo "_law_rminus") rfl)
  obtain ⟨fd33, F33⟩ := c.def_ 33 (d := dd_q_rtimes) rfl
  have m33 := He.glo_ok X G (c.fact 33 (f := .glo "_law_rtimes") rfl)
  obtain ⟨fd34, F34⟩ := c.def_ 34 (d := dd_q_dot) rfl
  have m34 := He.glo_ok X G (c.fact 34 (f := .glo "_law_dot") rfl)
  obtain ⟨fd35, F35⟩ := c.def_ 35 (d := dd_q_comb) rfl
  have m35 := He.glo_ok X G (c.fact 35 (f := .glo "_law_comb") rfl)
  obtain ⟨fd36, F36⟩ := c.def_ 36 (d := dd_q_level) rfl
  have m36 := He.glo_ok X G (c.fact 36 (f := .glo "_law_level") rfl)
  obtain ⟨fd37, F37⟩ := c.def_ 37 (d := dd_q_top) rfl
  have m37 := He.glo_ok X G (c.fact 37 (f := .glo "_law_top") rfl)
  obtain ⟨fd38, F38⟩ := c.def_ 38 (d := dd_q_even_row) rfl
  have m38 := He.glo_ok X G (c.fact 38 (f := .glo "_law_even_row") rfl)
  obtain ⟨fd39, F39⟩ := c.def_ 39 (d := dd_q_lead_by_top) rfl
  have m39 := He.glo_ok X G (c.fact 39 (f := .glo "_law_lead_by_top") rfl)
  obtain ⟨fd40, F40⟩ := c.def_ 40 (d := dd_q_measured_so) rfl
  have m40 := He.glo_ok X G (c.fact 40 (f := .glo "_law_measured_so") rfl)
  obtain ⟨fd41, F41⟩ := c.def_ 41 (d := dd_law) rfl
  have m41 := He.glo_ok X G (c.fact 41 (f := .glo "law") rfl)
  have e := hfa.symm.trans m41
  cases e
  refine ⟨fd41, fun s v => FunD.bindsA (ps := ["_law_script"]) F41 (bd_law d_law).b s [v] rfl, fun base _ _ => ?_⟩
  have G0 : Good P w K mg base 0 (fsA.take 0) := Good.nil
  have E0 : Env1 P w K mg base 1 "form_of" (g_form_of d_form_of) := def_env (st := s_form_of) m0 F0 sc_form_of (bd_form_of _) hb G0 ck_form_of (fun ds z h => ⟨60, run_form_of rfl h⟩) rfl
  have G1 : Good P w K mg base 1 (fsA.take 1) := Good.push G0 E0
  have E1 : Env1 P w K mg base 2 "add" (g_add d_add) := def_env (st := s_add) m1 F1 sc_add (bd_add _) hb G1 ck_add (fun ds z h => ⟨60, run_add rfl (At.of rfl rfl) h⟩) rfl
  have G2 : Good P w K mg base 2 (fsA.take 2) := Good.push G1 E1
  have E2 : Env1 P w K mg base 3 "subtract" (g_subtract d_subtract) := def_env (st := s_subtract) m2 F2 sc_subtract (bd_subtract _) hb G2 ck_subtract (fun ds z h => ⟨60, run_subtract rfl (At.of rfl rfl) h⟩) rfl
  have G3 : Good P w K mg base 3 (fsA.take 3) := Good.push G2 E2
  have E3 : Env1 P w K mg base 4 "multiply" (g_multiply d_multiply) := def_env (st := s_multiply) m3 F3 sc_multiply (bd_multiply _) hb G3 ck_multiply (fun ds z h => ⟨60, run_multiply rfl (At.of rfl rfl) h⟩) rfl
  have G4 : Good P w K mg base 4 (fsA.take 4) := Good.push G3 E3
  have E4 : Env1 P w K mg base 5 "zero_row" (g_zero_row d_zero_row) := def_env (st := s_zero_row) m4 F4 sc_zero_row (bd_zero_row _) hb G4 ck_zero_row (fun ds z h => ⟨60, run_zero_row rfl h⟩) rfl
  have G5 : Good P w K mg base 5 (fsA.take 5) := Good.push G4 E4
  have E5 : Env1 P w K mg base 6 "unit_row" (g_unit_row d_unit_row) := def_env (st := s_unit_row) m5 F5 sc_unit_row (bd_unit_row _) hb G5 ck_unit_row (fun ds z h => ⟨60, run_unit_row rfl h⟩) rfl
  have G6 : Good P w K mg base 6 (fsA.take 6) := Good.push G5 E5
  have E6 : Env1 P w K mg base 7 "add_rows" (g_add_rows d_add_rows) := def_env (st := s_add_rows) m6 F6 sc_add_rows (bd_add_rows _) hb G6 ck_add_rows (fun ds z h => ⟨60, run_add_rows rfl (At.of rfl rfl) h⟩) rfl
  have G7 : Good P w K mg base 7 (fsA.take 7) := Good.push G6 E6
  have E7 : Env1 P w K mg base 8 "subtract_rows" (g_subtract_rows d_sub_rows) := def_env (st := s_subtract_rows) m7 F7 sc_subtract_rows (bd_subtract_rows _) hb G7 ck_subtract_rows (fun ds z h => ⟨60, run_sub_rows rfl (At.of rfl rfl) h⟩) rfl
  have G8 : Good P w K mg base 8 (fsA.take 8) := Good.push G7 E7
  have E8 : Env1 P w K mg base 9 "row_times" (g_row_times d_row_times) := def_env (st := s_row_times) m8 F8 sc_row_times (bd_row_times _) hb G8 ck_row_times (fun ds z h => ⟨60, run_row_times rfl (At.of rfl rfl) h⟩) rfl
  have G9 : Good P w K mg base 9 (fsA.take 9) := Good.push G8 E8
  have E9 : Env1 P w K mg base 10 "product_of" (g_product_of d_product) := def_env (st := s_product_of) m9 F9 sc_product_of (bd_product_of _) hb G9 ck_product_of (fun ds z h => ⟨60, run_product rfl (At.of rfl rfl) (At.of rfl rfl) h⟩) rfl
  have G10 : Good P w K mg base 10 (fsA.take 10) := Good.push G9 E9
  have E10 : Env1 P w K mg base 11 "combined" (g_combined d_combined) := def_env (st := s_combined) m10 F10 sc_combined (bd_combined _) hb G10 ck_combined (fun ds z h => ⟨60, run_combined rfl (At.of rfl rfl) (At.of rfl rfl) (At.of rfl rfl) h⟩) rfl
  have G11 : Good P w K mg base 11 (fsA.take 11) := Good.push G10 E10
  have E11 : Env1 P w K mg base 12 "level_of" (g_level_of d_level_of) := def_env (st := s_level_of) m11 F11 sc_level_of (bd_level_of _) hb G11 ck_level_of (fun ds z h => ⟨60, run_level rfl h⟩) rfl
  have G12 : Good P w K mg base 12 (fsA.take 12) := Good.push G11 E11
  have E12 : Env1 P w K mg base 13 "height_of" (g_height_of d_height_of) := def_env (st := s_height_of) m12 F12 sc_height_of (bd_height_of _) hb G12 ck_height_of (fun ds z h => ⟨60, run_height rfl (At.of rfl rfl) h⟩) rfl
  have G13 : Good P w K mg base 13 (fsA.take 13) := Good.push G12 E12
  have E13 : Env1 P w K mg base 14 "_last_at" (g_last_at d_last_at) := def_env (st := s_last_at) m13 F13 sc_last_at (bd_last_at _) hb G13 ck_last_at (fun ds z h => ⟨60, run_last_at rfl h⟩) rfl
  have G14 : Good P w K mg base 14 (fsA.take 14) := Good.push G13 E13
  have E14 : Env1 P w K mg base 15 "top_of" (g_top_of d_top_of) := def_env (st := s_top_of) m14 F14 sc_top_of (bd_top_of _) hb G14 ck_top_of (fun ds z h => ⟨60, run_top rfl (At.of rfl rfl) (At.of rfl rfl) h⟩) rfl
  have G15 : Good P w K mg base 15 (fsA.take 15) := Good.push G14 E14
  have E15 : Env1 P w K mg base 16 "lead_of" (g_lead_of d_lead_of) := def_env (st := s_lead_of) m15 F15 sc_lead_of (bd_lead_of _) hb G15 ck_lead_of (fun ds z h => ⟨60, run_lead rfl (At.of rfl rfl) h⟩) rfl
  have G16 : Good P w K mg base 16 (fsA.take 16) := Good.push G15 E15
  have E16 : Env1 P w K mg base 17 "_law_bag" (g_q_bag d_bag) := def_env (st := s_q_bag) m16 F16 sc_q_bag (bd_q_bag _) hb G16 ck_q_bag (fun ds z h => ⟨60, run_bag rfl h⟩) rfl
  have G17 : Good P w K mg base 17 (fsA.take 17) := Good.push G16 E16
  have E17 : Env1 P w K mg base 18 "_law_draw" (g_q_draw d_draw) := def_env (st := s_q_draw) m17 F17 sc_q_draw (bd_q_draw _) hb G17 ck_q_draw (fun ds z h => ⟨60, run_draw rfl h⟩) rfl
  have G18 : Good P w K mg base 18 (fsA.take 18) := Good.push G17 E17
  have E18 : Env1 P w K mg base 19 "_law_of" (g_q_of d_of) := def_env (st := s_q_of) m18 F18 sc_q_of (bd_q_of _) hb G18 ck_q_of (fun ds z h => ⟨60, run_of' rfl (At.of rfl rfl) h⟩) rfl
  have G19 : Good P w K mg base 19 (fsA.take 19) := Good.push G18 E18
  have V19 : Env1 P w K mg base 20 "_law_same" (g_q_same fun _ => none) := void_env (st := s_q_same) m19 F19 sc_q_same (bd_q_same _) (fun _ => rfl) rfl
  have H19_0 := Good.push G19 V19
  have E19_0 : Env1 P w K mg base 21 "_law_same" (g_q_same (d_same 0)) := def_env (st := s_q_same) m19 F19 sc_q_same (bd_q_same _) hb H19_0 ck_q_same_0 (fun ds z h => ⟨60, run_same rfl (fun q => absurd rfl q) h⟩) rfl
  have H19_1 := Good.push (Good.upn 1 G19) E19_0
  have E19_1 : Env1 P w K mg base 22 "_law_same" (g_q_same (d_same 1)) := def_env (st := s_q_same) m19 F19 sc_q_same (bd_q_same _) hb H19_1 ck_q_same_1 (fun ds z h => ⟨60, run_same rfl (fun _ => (At.of rfl rfl)) h⟩) rfl
  have H19_2 := Good.push (Good.upn 2 G19) E19_1
  have E19_2 : Env1 P w K mg base 23 "_law_same" (g_q_same (d_same 2)) := def_env (st := s_q_same) m19 F19 sc_q_same (bd_q_same _) hb H19_2 ck_q_same_2 (fun ds z h => ⟨60, run_same rfl (fun _ => (At.of rfl rfl)) h⟩) rfl
  have H19_3 := Good.push (Good.upn 3 G19) E19_2
  have E19_3 : Env1 P w K mg base 24 "_law_same" (g_q_same (d_same 3)) := def_env (st := s_q_same) m19 F19 sc_q_same (bd_q_same _) hb H19_3 ck_q_same_3 (fun ds z h => ⟨60, run_same rfl (fun _ => (At.of rfl rfl)) h⟩) rfl
  have G20 : Good P w K mg base 24 (fsA.take 20) := Good.push (Good.upn 4 G19) E19_3
  have E20 : Env1 P w K mg base 25 "_law_primes" (g_q_primes d_primes) := def_env (st := s_q_primes) m20 F20 sc_q_primes (bd_q_primes _) hb G20 ck_q_primes (fun ds z h => ⟨60, run_primes rfl h⟩) rfl
  have G21 : Good P w K mg base 25 (fsA.take 21) := Good.push G20 E20
  have E21 : Env1 P w K mg base 26 "_law_prime" (g_q_prime d_prime) := def_env (st := s_q_prime) m21 F21 sc_q_prime (bd_q_prime _) hb G21 ck_q_prime (fun ds z h => ⟨60, run_prime rfl (At.of rfl rfl) (At.of rfl rfl) (At.of rfl rfl) h⟩) rfl
  have G22 : Good P w K mg base 26 (fsA.take 22) := Good.push G21 E21
  have E22 : Env1 P w K mg base 27 "_law_trim" (g_q_trim d_trim) := def_env (st := s_q_trim) m22 F22 sc_q_trim (bd_q_trim _) hb G22 ck_q_trim (fun ds z h => ⟨60, run_trim rfl h⟩) rfl
  have G23 : Good P w K mg base 27 (fsA.take 23) := Good.push G22 E22
  have E23 : Env1 P w K mg base 28 "_law_plus" (g_q_plus d_add) := def_env (st := s_q_plus) m23 F23 sc_q_plus (bd_q_plus _) hb G23 ck_q_plus (fun ds z h => ⟨60, run_plus rfl (At.of rfl rfl) h⟩) rfl
  have G24 : Good P w K mg base 28 (fsA.take 24) := Good.push G23 E23
  have E24 : Env1 P w K mg base 29 "_law_minus" (g_q_minus d_subtract) := def_env (st := s_q_minus) m24 F24 sc_q_minus (bd_q_minus _) hb G24 ck_q_minus (fun ds z h => ⟨60, run_minus rfl (At.of rfl rfl) h⟩) rfl
  have G25 : Good P w K mg base 29 (fsA.take 25) := Good.push G24 E24
  have E25 : Env1 P w K mg base 30 "_law_mul" (g_q_mul d_multiply) := def_env (st := s_q_mul) m25 F25 sc_q_mul (bd_q_mul _) hb G25 ck_q_mul (fun ds z h => ⟨60, run_mul rfl (At.of rfl rfl) h⟩) rfl
  have G26 : Good P w K mg base 30 (fsA.take 26) := Good.push G25 E25
  have E26 : Env1 P w K mg base 31 "_law_form" (g_q_form d_form) := def_env (st := s_q_form) m26 F26 sc_q_form (bd_q_form _) hb G26 ck_q_form (fun ds z h => ⟨60, run_form rfl (At.of rfl rfl) (At.of rfl rfl) h⟩) rfl
  have G27 : Good P w K mg base 31 (fsA.take 27) := Good.push G26 E26
  have E27 : Env1 P w K mg base 32 "_law_row" (g_q_row d_q_row) := def_env (st := s_q_row) m27 F27 sc_q_row (bd_q_row _) hb G27 ck_q_row (fun ds z h => ⟨60, run_q_row rfl (At.of rfl rfl) h⟩) rfl
  have G28 : Good P w K mg base 32 (fsA.take 28) := Good.push G27 E27
  have E28 : Env1 P w K mg base 33 "_law_lifts" (g_q_lifts d_q_lifts) := def_env (st := s_q_lifts) m28 F28 sc_q_lifts (bd_q_lifts _) hb G28 ck_q_lifts (fun ds z h => ⟨60, run_q_lifts rfl (At.of rfl rfl) (At.of rfl rfl) h⟩) rfl
  have G29 : Good P w K mg base 33 (fsA.take 29) := Good.push G28 E28
  have E29 : Env1 P w K mg base 34 "_law_none" (g_q_none d_zero_row) := def_env (st := s_q_none) m29 F29 sc_q_none (bd_q_none _) hb G29 ck_q_none (fun ds z h => ⟨60, run_q_none rfl h⟩) rfl
  have G30 : Good P w K mg base 34 (fsA.take 30) := Good.push G29 E29
  have E30 : Env1 P w K mg base 35 "_law_unit" (g_q_unit d_unit_row) := def_env (st := s_q_unit) m30 F30 sc_q_unit (bd_q_unit _) hb G30 ck_q_unit (fun ds z h => ⟨60, run_unit_row rfl h⟩) rfl
  have G31 : Good P w K mg base 35 (fsA.take 31) := Good.push G30 E30
  have E31 : Env1 P w K mg base 36 "_law_rplus" (g_q_rplus d_add_rows) := def_env (st := s_q_rplus) m31 F31 sc_q_rplus (bd_q_rplus _) hb G31 ck_q_rplus (fun ds z h => ⟨60, run_add_rows rfl (At.of rfl rfl) h⟩) rfl
  have G32 : Good P w K mg base 36 (fsA.take 32) := Good.push G31 E31
  have E32 : Env1 P w K mg base 37 "_law_rminus" (g_q_rminus d_sub_rows) := def_env (st := s_q_rminus) m32 F32 sc_q_rminus (bd_q_rminus _) hb G32 ck_q_rminus (fun ds z h => ⟨60, run_sub_rows rfl (At.of rfl rfl) h⟩) rfl
  have G33 : Good P w K mg base 37 (fsA.take 33) := Good.push G32 E32
  have E33 : Env1 P w K mg base 38 "_law_rtimes" (g_q_rtimes d_row_times) := def_env (st := s_q_rtimes) m33 F33 sc_q_rtimes (bd_q_rtimes _) hb G33 ck_q_rtimes (fun ds z h => ⟨60, run_rtimes rfl (At.of rfl rfl) h⟩) rfl
  have G34 : Good P w K mg base 38 (fsA.take 34) := Good.push G33 E33
  have E34 : Env1 P w K mg base 39 "_law_dot" (g_q_dot d_product) := def_env (st := s_q_dot) m34 F34 sc_q_dot (bd_q_dot _) hb G34 ck_q_dot (fun ds z h => ⟨60, run_product rfl (At.of rfl rfl) (At.of rfl rfl) h⟩) rfl
  have G35 : Good P w K mg base 39 (fsA.take 35) := Good.push G34 E34
  have E35 : Env1 P w K mg base 40 "_law_comb" (g_q_comb d_q_comb) := def_env (st := s_q_comb) m35 F35 sc_q_comb (bd_q_comb _) hb G35 ck_q_comb (fun ds z h => ⟨60, run_q_comb rfl (At.of rfl rfl) (At.of rfl rfl) (At.of rfl rfl) h⟩) rfl
  have G36 : Good P w K mg base 40 (fsA.take 36) := Good.push G35 E35
  have E36 : Env1 P w K mg base 41 "_law_level" (g_q_level d_q_level) := def_env (st := s_q_level) m36 F36 sc_q_level (bd_q_level _) hb G36 ck_q_level (fun ds z h => ⟨60, run_q_level rfl h⟩) rfl
  have G37 : Good P w K mg base 41 (fsA.take 37) := Good.push G36 E36
  have E37 : Env1 P w K mg base 42 "_law_top" (g_q_top d_q_top) := def_env (st := s_q_top) m37 F37 sc_q_top (bd_q_top _) hb G37 ck_q_top (fun ds z h => ⟨60, run_q_top rfl (At.of rfl rfl) h⟩) rfl
  have G38 : Good P w K mg base 42 (fsA.take 38) := Good.push G37 E37
  have E38 : Env1 P w K mg base 43 "_law_even_row" (g_q_even_row d_q_even) := def_env (st := s_q_even_row) m38 F38 sc_q_even_row (bd_q_even_row _) hb G38 ck_q_even_row (fun ds z h => ⟨60, run_q_even rfl (At.of rfl rfl) h⟩) rfl
  have G39 : Good P w K mg base 43 (fsA.take 39) := Good.push G38 E38
  have E39 : Env1 P w K mg base 44 "_law_lead_by_top" (g_q_lead_by_top d_q_lead) := def_env (st := s_q_lead_by_top) m39 F39 sc_q_lead_by_top (bd_q_lead_by_top _) hb G39 ck_q_lead_by_top (fun ds z h => ⟨60, run_q_lead rfl (At.of rfl rfl) h⟩) rfl
  have G40 : Good P w K mg base 44 (fsA.take 40) := Good.push G39 E39
  have E40 : Env1 P w K mg base 45 "_law_measured_so" (g_q_measured_so d_q_measured) := def_env (st := s_q_measured_so) m40 F40 sc_q_measured_so (bd_q_measured_so _) hb G40 ck_q_measured_so (fun ds z h => ⟨60, run_measured rfl (At.of rfl rfl) (At.of rfl rfl) (At.of rfl rfl) (At.of rfl rfl) (At.of rfl rfl) (At.of rfl rfl) (At.of rfl rfl) (At.of rfl rfl) (fun _ _ => kAt_of rfl rfl rfl rfl rfl) (fun _ _ => kAt_of rfl rfl rfl rfl rfl) (fun _ _ => kAt_of rfl rfl rfl rfl rfl) (fun _ _ => kAt_of rfl rfl rfl rfl rfl) h⟩) rfl
  have G41 : Good P w K mg base 45 (fsA.take 41) := Good.push G40 E40
  exact def_fn (st := s_law) (fn := g_law d_law) F41 sc_law hb G41 ck_law (fun ds z h => ⟨100, run_law rfl tab h⟩)
end K07
set_option Elab.async false
set_option linter.all false
set_option maxRecDepth 100000
set_option maxHeartbeats 8000000
open PySem PySem.W PySem.Calls PyProof.Rows
set_option maxHeartbeats 0 in
theorem PySem.Challenge.cw_freetops_k07_rows_measured_holds : PySem.Challenge.rw_freetops_k07_rows_measured.Holds := by
  w_on; o_law
  refine HandSHeadRun.head_any (r := OpenLaw.row PySem.Challenge.rw_freetops_k07_rows_measured) (q := view (OpenLaw.row PySem.Challenge.rw_freetops_k07_rows_measured).prog [44]) (H := K07.hk) (ob := K07.ob) (M := 4000) (loose := K07.loose) (d := HandSHeadRun.topDef (OpenLaw.row PySem.Challenge.rw_freetops_k07_rows_measured).prog 44) (kwd := []) K07.ob_eq
    (by kernel_rfl) (fun s => by kernel_rfl) K07.run (by kernel_rfl) (by kernel_rfl) (by kernel_rfl) (by rfl) (by first | assumption | decide +kernel) (by decide +kernel) ⟨rfl, rfl, rfl, rfl, rfl, by decide +kernel⟩ ?hw ?hc
  case hw => w_witness2
  case hc =>
    refine L2.walk_ofE (l := PySem.Challenge.rw_freetops_k07_rows_measured) (n := 63) (k := 46) (x := "_law_script") (CX := L2.CX0) rfl (by decide) (by kernel_rfl) ⟨rfl, by decide, by decide⟩ ?F (fun _ _ _ _ z => z)
    intro w mg fa h Y G hmg0
    obtain ⟨K, KX, c⟩ := Y
    have hmg : mg ("law" : PySem.Str) = some (.ref fa) := by
      have e : (HandSHeadRun.topDef (OpenLaw.row PySem.Challenge.rw_freetops_k07_rows_measured).prog 44).name = ("law" : PySem.Str) := by kernel_rfl
      rw [← e]
      exact hmg0
    obtain ⟨fd, hb, hF⟩ := K07.facts (P := (PySem.Challenge.rw_freetops_k07_rows_measured).prog) (w := w) KX G hmg c
    exact ⟨K, fd, Fz.spD K (K07.g_law K07.d_law), KX, hb, fun H a ns hl hO hS => Fz.law_in rfl rfl K07.law_den H a ns hl hO hS, hF⟩
