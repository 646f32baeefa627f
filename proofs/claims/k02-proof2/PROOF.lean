import PyProof.Rows.All
import Wide.All
import OpenK.AllK
import Wide.FinOn
import HandS.ForMost
import HandS.Flow
import HandS.Wide
import HandS.TupAny
import HandS.TupMul
import HandS.Zip
import HandS.Rev
import HandS.IsInst
import HandS.Evl
import KE.GoesEnum
import PyProof.FactsAll.tuple_2
import HandS.Deep
import KE.GoesMore
import HandS.RevRange
import HandS.Defaults
import HandS.Style
import KE.KStateDown
import HandS.Ends
import HandS.More
import HandS.Words
import HandS.WordsExc
import HandS.Head0
import HandS.Head1
import HandS.Head2
import HandS.HeadEnd
import HandS.HeadHook1
import HandS.HeadHook2
import PySem.Challenge.RW_freetops_k02_forms_reckoned
set_option Elab.async false
set_option linter.all false
set_option maxRecDepth 100000
set_option maxHeartbeats 2000000
/-! Fz: what a def's text computes on plain data, once and for all. Part A: the wishes, the data, the state. -/
namespace Fz
open PySem PySem.Spec PyProof.Rows L2

/-! ### the best reading of each piece of syntax -/
section
variable (X : Cx)
def wE (e : Expr) : TE := fun σ H Q => ∃ t, PE X e t ∧ t σ H Q
def wT (e : Expr) : TT := fun σ H Q => ∃ t, PT X e t ∧ t σ H Q
def wW (e : Expr) : TT := fun σ H Q => ∃ t, PW X e t ∧ t σ H Q
def wA (es : List Expr) : TA := fun σ H Q => ∃ t, PA X es t ∧ t σ H Q
def wK (ks : List Keyword) : TA := fun σ H Q => ∃ t, PK X ks t ∧ t σ H Q
def wO (e : Option Expr) : TO := fun σ H Q => ∃ t, PO X e t ∧ t σ H Q
def wS (st : Stmt) : TS := fun D σ H => ∃ t, PS X st t ∧ t D σ H
def wSs (st : List Stmt) : TS := fun D σ H => ∃ t, PSs X st t ∧ t D σ H
def wI (tg it : Expr) : TI := fun σ H Q => ∃ t, PI X tg it t ∧ t σ H Q
def wG (tg : Expr) : TG := fun v σ H Q => ∃ t, PG X tg t ∧ t v σ H Q
variable {X}
theorem pe_w {e : Expr} : PE X e (wE X e) := ⟨fun pins s σ H Q I ⟨_, p, q⟩ => p.run pins s σ H Q I q⟩
theorem pt_w {e : Expr} : PT X e (wT X e) := ⟨fun pins s σ H Q I ⟨_, p, q⟩ => p.run pins s σ H Q I q⟩
theorem pw_w {e : Expr} : PW X e (wW X e) := ⟨fun wh pins s σ H Q I ⟨_, p, q⟩ => p.run wh pins s σ H Q I q⟩
theorem pa_w {es : List Expr} : PA X es (wA X es) := ⟨fun pos pins s σ H Q I ⟨_, p, q⟩ => p.run pos pins s σ H Q I q⟩
theorem pk_w {es : List Keyword} : PK X es (wK X es) := ⟨fun pos pins s σ H Q I ⟨_, p, q⟩ => p.run pos pins s σ H Q I q⟩
theorem po_w {e : Option Expr} : PO X e (wO X e) := ⟨fun pins s σ H Q I ⟨_, p, q⟩ => p.run pins s σ H Q I q⟩
theorem ps_w {st : Stmt} : PS X st (wS X st) := ⟨fun pins s σ H D I ⟨_, p, q⟩ => p.run pins s σ H D I q⟩
theorem pss_w {st : List Stmt} : PSs X st (wSs X st) := ⟨fun pins s σ H D I ⟨_, p, q⟩ => p.run pins s σ H D I q⟩
theorem pi_w {tg it : Expr} : PI X tg it (wI X tg it) := ⟨fun pins s σ H Q I ⟨_, p, q⟩ => p.run pins s σ H Q I q⟩
theorem pg_w {tg : Expr} : PG X tg (wG X tg) := ⟨fun pins s σ H v u Q I r ⟨_, p, q⟩ => p.run pins s σ H v u Q I r q⟩
end

/-! ### plain data on the abstract heap -/
abbrev D := PyData
abbrev Ex (G H : Hp) : Prop := Evl.Ex G H
theorem rd_ex {G H : Hp} {a : Addr} {u : HO} (e : Ex G H) (h : Rd G a u) : Rd H a u := Evl.ex_rd e h
mutual
inductive Rp (K : PySem.W.Frag) (G : Hp) : V → D → Prop
  | non : Rp K G .non .none
  | bl (b : Bool) : Rp K G (.bl b) (.bool b)
  | int (i : Int) : Rp K G (.int i) (.int i)
  | str (x : Str) : Rp K G (.str x) (.str x)
  | lst {a : Addr} {xs : List V} {ds : List D} : Rd G a (.lst xs) → Rps K G xs ds → Rp K G (.ref a) (.list ds)
  | tup {a : Addr} {xs : List V} {ds : List D} : SqT K G a xs → Rps K G xs ds → Rp K G (.ref a) (.tuple ds)
  /-- a list that is only cut: the script -/
  | scr {a : Addr} {xs : List V} {ds : List D} : SqL K G a xs → Rps K G xs ds → Rp K G (.ref a) (.dict [(.none, .list ds)])
inductive Rps (K : PySem.W.Frag) (G : Hp) : List V → List D → Prop
  | nil : Rps K G [] []
  | cons {v : V} {vs : List V} {d : D} {ds : List D} : Rp K G v d → Rps K G vs ds → Rps K G (v :: vs) (d :: ds)
end
section
variable {K : PySem.W.Frag} {G H : Hp}
mutual
theorem Rp.mono (e : Ex G H) : ∀ {v : V} {d : D}, Rp K G v d → Rp K H v d
  | _, _, .non => .non
  | _, _, .bl b => .bl b
  | _, _, .int i => .int i
  | _, _, .str x => .str x
  | _, _, .lst h r => .lst (rd_ex e h) (Rps.mono e r)
  | _, _, .tup h r => .tup (Evl.ex_t e h) (Rps.mono e r)
  | _, _, .scr h r => .scr (Evl.ex_l e h) (Rps.mono e r)
theorem Rps.mono (e : Ex G H) : ∀ {vs : List V} {ds : List D}, Rps K G vs ds → Rps K H vs ds
  | _, _, .nil => .nil
  | _, _, .cons h r => .cons (Rp.mono e h) (Rps.mono e r)
end
mutual
theorem Rp.dp (e : Ex G H) : ∀ {v : V} {d : D}, d.canLay0 = true → Rp K G v d → Dp K H v d
  | _, _, _, .non => .non
  | _, _, _, .bl b => .bl b
  | _, _, _, .int i => .int i
  | _, _, _, .str x => .str x
  | _, _, c, .lst h r => .lst (.inl (rd_ex e h)) (Rps.dp e (by simpa [PyData.canLay0] using c) r)
  | _, _, c, .tup h r => .tup (Evl.ex_t e h) (Rps.dp e (by simpa [PyData.canLay0] using c) r)
  | _, _, c, .scr h r => by simp [PyData.canLay0] at c
theorem Rps.dp (e : Ex G H) : ∀ {vs : List V} {ds : List D}, PyData.canLayAll0 ds = true → Rps K G vs ds → DpAll K H vs ds
  | _, _, _, .nil => .nil
  | _, _, c, .cons h r => by
    rw [PyData.canLayAll0, Bool.and_eq_true] at c
    exact .cons (Rp.dp e c.1 h) (Rps.dp e c.2 r)
end
theorem Rps.length : ∀ {vs : List V} {ds : List D}, Rps K G vs ds → vs.length = ds.length
  | _, _, .nil => rfl
  | _, _, .cons _ r => by rw [List.length_cons, List.length_cons, r.length]
theorem Rps.get : ∀ {vs : List V} {ds : List D} {i : Nat} {d : D}, Rps K G vs ds → ds[i]? = some d → ∃ v, vs[i]? = some v ∧ Rp K G v d
  | _, _, _, _, .nil, h => by simp at h
  | _, _, 0, _, .cons h _, e => by simp at e; subst e; exact ⟨_, rfl, h⟩
  | _, _, i + 1, _, .cons _ r, e => by simp at e; obtain ⟨v, h1, h2⟩ := r.get e; exact ⟨v, by simpa using h1, h2⟩
theorem Rps.of : ∀ {vs : List V} {ds : List D} {i : Nat} {v : V}, Rps K G vs ds → vs[i]? = some v → ∃ d, ds[i]? = some d ∧ Rp K G v d
  | _, _, _, _, .nil, h => by simp at h
  | _, _, 0, _, .cons h _, e => by simp at e; subst e; exact ⟨_, rfl, h⟩
  | _, _, i + 1, _, .cons _ r, e => by simp at e; obtain ⟨d, h1, h2⟩ := r.of e; exact ⟨d, by simpa using h1, h2⟩
theorem Rps.append : ∀ {vs us : List V} {ds es : List D}, Rps K G vs ds → Rps K G us es → Rps K G (vs ++ us) (ds ++ es)
  | _, _, _, _, .nil, s => s
  | _, _, _, _, .cons h r, s => .cons h (r.append s)
theorem Rps.set : ∀ {vs : List V} {ds : List D} {v : V} {d : D} (i : Nat), Rps K G vs ds → Rp K G v d → Rps K G (vs.set i v) (ds.set i d)
  | _, _, _, _, _, .nil, _ => .nil
  | _, _, _, _, 0, .cons _ r, q => .cons q r
  | _, _, _, _, i + 1, .cons h r, q => .cons h (r.set i q)
theorem Rps.take : ∀ {vs : List V} {ds : List D} (n : Nat), Rps K G vs ds → Rps K G (vs.take n) (ds.take n)
  | _, _, 0, _ => by rw [List.take_zero, List.take_zero]; exact .nil
  | _, _, _ + 1, .nil => .nil
  | _, _, n + 1, .cons h r => .cons h (r.take n)
theorem Rps.drop : ∀ {vs : List V} {ds : List D} (n : Nat), Rps K G vs ds → Rps K G (vs.drop n) (ds.drop n)
  | _, _, 0, r => r
  | _, _, _ + 1, .nil => .nil
  | _, _, n + 1, .cons _ r => r.drop n
theorem Rps.dropLast : ∀ {vs : List V} {ds : List D}, Rps K G vs ds → Rps K G vs.dropLast ds.dropLast
  | _, _, .nil => .nil
  | _, _, .cons _ .nil => .nil
  | _, _, .cons h (.cons h2 r) => .cons h (Rps.dropLast (.cons h2 r))
theorem Rps.reverse {vs : List V} {ds : List D} (h : Rps K G vs ds) : Rps K G vs.reverse ds.reverse := by
  match vs, ds, h with
  | _, _, .nil => exact .nil
  | v :: vs, d :: ds, .cons h r =>
    rw [List.reverse_cons, List.reverse_cons]
    exact (Rps.reverse r).append (.cons h .nil)
theorem Rps.rep {vs : List V} {ds : List D} (h : Rps K G vs ds) : ∀ k : Nat, Rps K G (List.replicate k vs).flatten (List.replicate k ds).flatten
  | 0 => .nil
  | k + 1 => by
    rw [List.replicate_succ, List.replicate_succ, List.flatten_cons, List.flatten_cons]
    exact h.append (h.rep k)
end

/-! ### the state: slots that hold data, slots that own a list, the bag -/
inductive Sl where
  | no
  | val (d : D)
  | own (l : List D)
  | bag
structure En where
  sl : List Sl
  bg : List D
def SlR (K : PySem.W.Frag) (G H : Hp) (ρ : Addr → Option Nat) (β : Option Addr) (i : Nat) (o : Option (Option V)) : Sl → Prop
  | .no => True
  | .val d => ∃ v, o = some (some v) ∧ Rp K G v d
  | .own l => ∃ a vs, o = some (some (.ref a)) ∧ ρ a = some (i + 1) ∧ H a = some (.lst vs) ∧ Rps K G vs l
  | .bag => ∃ a, β = some a ∧ o = some (some (.ref a))
structure R (K : PySem.W.Frag) (β : Option Addr) (G H : Hp) (ρ : Addr → Option Nat) (σ : L2.St) (e : En) : Prop where
  len : σ.length = e.sl.length
  ex : Ex G H
  ow : ∀ a, ρ a ≠ none → G a = none ∧ H a ≠ none
  sl : ∀ i s, e.sl[i]? = some s → SlR K G H ρ β i σ[i]? s
  bg : ∀ a, β = some a → ρ a = some 0 ∧ ∃ vs, H a = some (.lst vs) ∧ Rps K G vs e.bg
structure Fr (G H : Hp) (ρ : Addr → Option Nat) (G' H' : Hp) (ρ' : Addr → Option Nat) : Prop where
  ex : Ex G G'
  keep : ∀ a o, H a = some o → ρ a = none → H' a = some o ∧ ρ' a = none ∧ (G a = none → G' a = none)
  dom : ∀ a, H' a = none → H a = none
section
variable {K : PySem.W.Frag} {β : Option Addr} {G H G' H' G2 H2 : Hp} {ρ ρ' ρ2 : Addr → Option Nat} {σ : L2.St} {e : En}
theorem Fr.refl : Fr G H ρ G H ρ := ⟨Evl.Ex.refl G, fun a o h r => ⟨h, r, id⟩, fun _ h => h⟩
theorem Fr.trans (a : Fr G H ρ G' H' ρ') (b : Fr G' H' ρ' G2 H2 ρ2) : Fr G H ρ G2 H2 ρ2 :=
  ⟨a.ex.trans b.ex, fun p o h r => by
    obtain ⟨h1, r1, g1⟩ := a.keep p o h r
    obtain ⟨h2, r2, g2⟩ := b.keep p o h1 r1
    exact ⟨h2, r2, fun z => g2 (g1 z)⟩, fun p h => a.dom p (b.dom p h)⟩
/-- a value: plain data, or a list that nobody holds yet -/
def VR (K : PySem.W.Frag) (H0 G H : Hp) (ρ : Addr → Option Nat) (d : D) (v : V) : Bool → Prop
  | false => Rp K G v d
  | true => ∃ a l vs, v = .ref a ∧ d = .list l ∧ H0 a = none ∧ G a = none ∧ ρ a = none ∧ H a = some (.lst vs) ∧ Rps K G vs l
theorem SlR.mono {i : Nat} {o : Option (Option V)} {s : Sl} (x : Ex G G') (hh : ∀ a, ρ a ≠ none → H' a = H a) (h : SlR K G H ρ β i o s) : SlR K G' H' ρ β i o s := by
  cases s with
  | no => exact h
  | bag => exact h
  | val d => obtain ⟨v, h1, h2⟩ := h; exact ⟨v, h1, h2.mono x⟩
  | own l =>
    obtain ⟨a, vs, h1, h2, h3, h4⟩ := h
    exact ⟨a, vs, h1, h2, (hh a (by rw [h2]; simp)).trans h3, h4.mono x⟩
/-- a new object that nobody owns -/
theorem R.grow {p : Addr} {o : HO} (r : R K β G H ρ σ e) (hp : H p = none) : R K β G (upd H p o) ρ σ e := by
  have ne : ∀ a, ρ a ≠ none → a ≠ p := fun a h z => (r.ow a h).2 (by rw [z]; exact hp)
  refine ⟨r.len, fun a u h => ?_, fun a h => ⟨(r.ow a h).1, ?_⟩, fun i s h => (r.sl i s h).mono (Evl.Ex.refl G) fun a h => upd_ne (ne a h), fun a h => ?_⟩
  · have := r.ex a u h
    rw [upd_ne (ne_of_none this hp)]
    exact this
  · rw [upd_ne (ne a h)]
    exact (r.ow a h).2
  · obtain ⟨h1, vs, h2, h3⟩ := r.bg a h
    exact ⟨h1, vs, by rw [upd_ne (ne a (by rw [h1]; simp))]; exact h2, h3⟩
theorem Fr.grow {p : Addr} {o : HO} (hp : H p = none) : Fr G H ρ G (upd H p o) ρ :=
  ⟨Evl.Ex.refl G, fun a u h r => ⟨by rw [upd_ne (ne_of_none h hp)]; exact h, r, id⟩, fun a h => by
    by_cases z : a = p
    · rw [z]; exact hp
    · rw [upd_ne z] at h; exact h⟩
theorem R.free {p : Addr} (r : R K β G H ρ σ e) (hp : H p = none) : ρ p = none ∧ G p = none := by
  constructor
  · by_cases h : ρ p = none
    · exact h
    · exact absurd hp (r.ow p h).2
  · cases h : G p with
    | none => rfl
    | some o => rw [r.ex p o h] at hp; cases hp
/-- what stands in H and is nobody's may be locked -/
theorem R.lock {p : Addr} {o : HO} (r : R K β G H ρ σ e) (hp : H p = some o) (hg : G p = none) (hr : ρ p = none) : R K β (upd G p o) H ρ σ e := by
  have x : Ex G (upd G p o) := Evl.Ex.new hg
  refine ⟨r.len, fun a u h => ?_, fun a h => ⟨?_, (r.ow a h).2⟩, fun i s h => (r.sl i s h).mono x fun _ _ => rfl, fun a h => ?_⟩
  · by_cases z : a = p
    · subst z
      rw [upd_same] at h
      rw [hp, h]
    · rw [upd_ne z] at h
      exact r.ex a u h
  · rw [upd_ne (fun z => h (by rw [z]; exact hr))]
    exact (r.ow a h).1
  · obtain ⟨h1, vs, h2, h3⟩ := r.bg a h
    exact ⟨h1, vs, h2, h3.mono x⟩
theorem Fr.lock {p : Addr} {o : HO} (f : Fr G H ρ G' H' ρ') (hp : H p = none) (hg : G' p = none) : Fr G H ρ (upd G' p o) H' ρ' :=
  ⟨f.ex.trans (Evl.Ex.new hg), fun a u h r => by
    obtain ⟨h1, h2, h3⟩ := f.keep a u h r
    exact ⟨h1, h2, fun z => by rw [upd_ne (ne_of_none h hp)]; exact h3 z⟩, f.dom⟩
end
end Fz
set_option Elab.async false
set_option linter.all false
set_option maxRecDepth 100000
set_option maxHeartbeats 2000000
/-! Fz, part B: what expressions evaluate to. -/
namespace Fz
open PySem PySem.Spec PyProof.Rows L2

def isStar : Expr → Bool
  | .Starred .. => true
  | _ => false
def isSet : Expr → Bool
  | .Set .. => true
  | _ => false
def isSlice : Expr → Bool
  | .Slice .. => true
  | _ => false
theorem star_ok {e : Expr} {es : List Expr} {env : Env} (h : isStar e = false) : starEach (e :: es) env = (false, eval e env) :: starEach es env := by
  cases e <;> first | rfl | cases h
theorem stars_ok {pos : Pos} {env : Env} : ∀ {es : List Expr}, es.all (fun e => !isStar e) = true → (backTo pos (starEach es env)).any (·.1) = false
  | [], _ => rfl
  | e :: es, h => by
    rw [List.all_cons, Bool.and_eq_true] at h
    have h1 : isStar e = false := by simpa using h.1
    rw [star_ok h1]
    have ih := stars_ok (pos := pos) (env := env) h.2
    unfold backTo at ih ⊢
    rw [List.map_cons, List.any_cons, ih]
    rfl
theorem mark_ok {op : CmpOp} {b : Expr} (h : isSet b = false) : behindInMarks op b = false := by
  cases b <;> first | rfl | cases h
theorem ix_ok {b : Expr} (h : isSlice b = false) : PlainIx b := by
  intro o i
  cases b <;> first | rfl | cases h

abbrev Own := Addr → Option Nat
section
variable {X : Cx} {β : Option Addr}
def Den (X : Cx) (β : Option Addr) (e : Expr) (a : En) (o : Bool) (d : D) (b : En) : Prop :=
  ∀ (G H : Hp) (ρ : Own) (σ : L2.St) (Q : VK), R X.K β G H ρ σ a →
    (∀ v G' H' ρ', Fr G H ρ G' H' ρ' → R X.K β G' H' ρ' σ b → VR X.K H G' H' ρ' d v o → Q v H') → wE X e σ H Q
def DenA (X : Cx) (β : Option Addr) (es : List Expr) (a : En) (ds : List D) (b : En) : Prop :=
  ∀ (G H : Hp) (ρ : Own) (σ : L2.St) (Q : List V → Hp → Prop), R X.K β G H ρ σ a →
    (∀ vs G' H' ρ', Fr G H ρ G' H' ρ' → R X.K β G' H' ρ' σ b → Rps X.K G' vs ds → Q vs H') → wA X es σ H Q
def DenT (X : Cx) (β : Option Addr) (e : Expr) (a : En) (k : Bool) (b : En) : Prop :=
  ∀ (G H : Hp) (ρ : Own) (σ : L2.St) (Q : Bool → Hp → Prop), R X.K β G H ρ σ a →
    (∀ G' H' ρ', Fr G H ρ G' H' ρ' → R X.K β G' H' ρ' σ b → Q k H') → wT X e σ H Q
/-- a new list that is held is locked -/
theorem Den.fz {e : Expr} {a b : En} {o : Bool} {d : D} (h : Den X β e a o d b) : Den X β e a false d b := by
  cases o with
  | false => exact h
  | true =>
    intro G H ρ σ Q r q
    refine h G H ρ σ Q r fun v G' H' ρ' f r' x => ?_
    obtain ⟨p, l, vs, rfl, rfl, h0, hg, hr, hh, hv⟩ := x
    exact q _ (upd G' p (.lst vs)) H' ρ' (f.lock h0 hg) (r'.lock hh hg hr) (.lst (.inl upd_same) (hv.mono (Evl.Ex.new hg)))

/-! the ends of what makes a value -/
section
variable {K : PySem.W.Frag} {G H : Hp} {ρ : Own} {σ : L2.St} {e : En} {Q : VK}
/-- the continuation at a state -/
def Kn (K : PySem.W.Frag) (β : Option Addr) (G H : Hp) (ρ : Own) (σ : L2.St) (b : En) (o : Bool) (d : D) (Q : VK) : Prop :=
  ∀ v G' H' ρ', Fr G H ρ G' H' ρ' → R K β G' H' ρ' σ b → VR K H G' H' ρ' d v o → Q v H'
theorem Kn.at {o : Bool} {d : D} {b : En} {G1 H1 : Hp} {ρ1 : Own} (q : Kn K β G H ρ σ b o d Q) (f : Fr G H ρ G1 H1 ρ1) : Kn K β G1 H1 ρ1 σ b o d Q := fun v G' H' ρ' f' r' x => by
  refine q v G' H' ρ' (f.trans f') r' ?_
  cases o with
  | false => exact x
  | true =>
    obtain ⟨p, l, vs, h1, h2, h3, h4⟩ := x
    exact ⟨p, l, vs, h1, h2, f.dom p h3, h4⟩
theorem R.newL {vs : List V} {l : List D} (r : R K β G H ρ σ e) (hv : Rps K G vs l) (q : Kn K β G H ρ σ e true (.list l) Q) : ∀ p, H p = none → Q (.ref p) (upd H p (.lst vs)) := fun p hp =>
  q _ G _ ρ (.grow hp) (r.grow hp) ⟨p, l, vs, rfl, rfl, hp, (r.free hp).2, (r.free hp).1, upd_same, hv⟩
theorem R.newT {vs : List V} {l : List D} (r : R K β G H ρ σ e) (hv : Rps K G vs l) (q : Kn K β G H ρ σ e false (.tuple l) Q) : ∀ p, H p = none → Q (.ref p) (upd H p (.tup vs)) := fun p hp => by
  have hg := (r.free hp).2
  refine q _ (upd G p (.tup vs)) _ ρ ((Fr.grow hp).lock hp hg) ((r.grow hp).lock upd_same hg (r.free hp).1) ?_
  exact .tup (.inl (.inl upd_same)) (hv.mono (Evl.Ex.new hg))
theorem R.flat {d : D} {v : V} (r : R K β G H ρ σ e) (q : Kn K β G H ρ σ e false d Q) (h : Rp K G v d) : Q v H := q v G H ρ .refl r h
end

/-! ### names and constants -/
theorem den_int {i : Int} {j : Nat} {pos : Pos} {a : En} : Den X β (.Constant (.int i) j pos) a false (.int i) a := fun G H ρ σ Q r q => ⟨_, pe_int, r.flat q (.int i)⟩
theorem den_bl {b : Bool} {j : Nat} {pos : Pos} {a : En} : Den X β (.Constant (.bool b) j pos) a false (.bool b) a := fun G H ρ σ Q r q => ⟨_, pe_bl, r.flat q (.bl b)⟩
theorem den_non {j : Nat} {pos : Pos} {a : En} : Den X β (.Constant .none j pos) a false .none a := fun G H ρ σ Q r q => ⟨_, pe_non, r.flat q .non⟩
theorem den_str {x : Str} {j : Nat} {pos : Pos} {a : En} : Den X β (.Constant (.str x) j pos) a false (.str x) a := fun G H ρ σ Q r q => ⟨_, pe_str, r.flat q (.str x)⟩
/-- a name as a value: its list is locked -/
def lockS (a : En) (i : Nat) : Option (D × En) :=
  match a.sl[i]? with
  | some (.val d) => some (d, a)
  | some (.own l) => some (.list l, { a with sl := a.sl.set i (.val (.list l)) })
  | _ => none
theorem den_name {x : Str} {pos : Pos} {i : Nat} {a b : En} {d : D} (hN : X.N[i]? = some x) (hv : Vis X.env.scope x) (hd : (x == ("__debug__" : Str)) = false) (hcd : (x == ("__classdict__" : Str)) = false) (h : lockS a i = some (d, b)) : Den X β (.Name x pos) a false d b := by
  intro G H ρ σ Q r q
  unfold lockS at h
  cases e : a.sl[i]? with
  | none => rw [e] at h; cases h
  | some s =>
    rw [e] at h
    have w := r.sl i s e
    cases s with
    | no => cases h
    | bag => cases h
    | val d0 =>
      cases h
      obtain ⟨v, h1, h2⟩ := w
      exact ⟨_, pe_var hN hv hd hcd, v, h1, r.flat q h2⟩
    | own l =>
      cases h
      obtain ⟨p, vs, h1, h2, h3, h4⟩ := w
      refine ⟨_, pe_var hN hv hd hcd, .ref p, h1, ?_⟩
      have hg : G p = none := (r.ow p (by rw [h2]; simp)).1
      have x : Ex G (upd G p (.lst vs)) := Evl.Ex.new hg
      refine q (.ref p) (upd G p (.lst vs)) H (fun z => if z = p then none else ρ z) ⟨x, fun z o hz hr => ?_, fun _ k => k⟩ ?_ (.lst (.inl upd_same) (h4.mono x))
      · have ne : z ≠ p := fun k => by rw [k, h2] at hr; cases hr
        exact ⟨hz, by simp [ne, hr], fun g => by rw [upd_ne ne]; exact g⟩
      · refine ⟨by rw [r.len]; simp, fun z u hz => ?_, fun z hz => ?_, fun j s hj => ?_, fun z hz => ?_⟩
        · by_cases k : z = p
          · subst k; rw [upd_same] at hz; rw [← hz]; exact h3
          · rw [upd_ne k] at hz; exact r.ex z u hz
        · have ne : z ≠ p := fun k => hz (by simp [k])
          simp only [ne, if_false] at hz
          exact ⟨by rw [upd_ne ne]; exact (r.ow z hz).1, (r.ow z hz).2⟩
        · by_cases k : j = i
          · subst k
            have hl : j < a.sl.length := (List.getElem?_eq_some_iff.mp e).1
            simp only [List.getElem?_set, if_true, hl] at hj
            cases hj
            exact ⟨_, h1, .lst (.inl upd_same) (h4.mono x)⟩
          · simp only [List.getElem?_set, if_neg (Ne.symm k)] at hj
            have w := r.sl j s hj
            cases s with
            | no => trivial
            | bag => exact w
            | val d0 => obtain ⟨v, w1, w2⟩ := w; exact ⟨v, w1, w2.mono x⟩
            | own l' =>
              obtain ⟨p', vs', w1, w2, w3, w4⟩ := w
              have ne : p' ≠ p := fun z => by rw [z, h2] at w2; simp at w2; exact k w2.symm
              exact ⟨p', vs', w1, by simp [ne, w2], w3, w4.mono x⟩
        · obtain ⟨b1, ws, b2, b3⟩ := r.bg z hz
          have ne : z ≠ p := fun k => by rw [k, h2] at b1; simp at b1
          exact ⟨by simp [ne, b1], ws, b2, b3.mono x⟩

/-! ### arguments, displays -/
theorem dena_nil {a : En} : DenA X β [] a [] a := fun G H ρ σ Q r q => ⟨_, pa_nil, q [] G H ρ .refl r .nil⟩
theorem dena_cons {e : Expr} {es : List Expr} {a b c : En} {o : Bool} {d : D} {ds : List D} (hs : isStar e = false) (h1 : Den X β e a o d b) (h2 : DenA X β es b ds c) : DenA X β (e :: es) a (d :: ds) c := by
  intro G H ρ σ Q r q
  refine ⟨_, pa_cons pe_w pa_w (star_ok hs), h1.fz G H ρ σ _ r fun v G1 H1 ρ1 f1 r1 x1 => h2 G1 H1 ρ1 σ _ r1 fun vs G2 H2 ρ2 f2 r2 x2 => ?_⟩
  exact q (v :: vs) G2 H2 ρ2 (f1.trans f2) r2 (.cons (Rp.mono f2.ex x1) x2)
theorem len_ok {n : Nat} (h : n ≤ 1000000) : n ≤ sizeLine := Nat.le_trans h (by decide)
theorem den_list {es : List Expr} {pos : Pos} {a b : En} {ds : List D} (h : DenA X β es a ds b) (hl : ds.length ≤ 1000000) : Den X β (.List es pos) a true (.list ds) b := by
  intro G H ρ σ Q r q
  refine ⟨_, pe_lst pa_w, h G H ρ σ _ r fun vs G1 H1 ρ1 f1 r1 x1 => ⟨by rw [x1.length]; exact len_ok hl, r1.newL x1 (Kn.at q f1)⟩⟩
theorem den_tuple {es : List Expr} {k : Nat} {pos : Pos} {a b : En} {ds : List D} (h : DenA X β es a ds b) (hl : ds.length ≤ 1000000) : Den X β (.Tuple es k pos) a false (.tuple ds) b := by
  intro G H ρ σ Q r q
  refine ⟨_, pe_tup pa_w, h G H ρ σ _ r fun vs G1 H1 ρ1 f1 r1 x1 => ⟨by rw [x1.length]; exact len_ok hl, r1.newT x1 (Kn.at q f1)⟩⟩

/-! ### operators by values -/
/-- the left value: plain data, or a list just made -/
def VL (K : PySem.W.Frag) (G H : Hp) (x : V) (d : D) : Bool → Prop
  | false => Rp K G x d
  | true => ∃ a l vs, x = .ref a ∧ d = .list l ∧ H a = some (.lst vs) ∧ Rps K G vs l
theorem VR.keep {H0 G H G' H' : Hp} {ρ ρ' : Own} {d : D} {v : V} {o : Bool} (x : VR X.K H0 G H ρ d v o) (f : Fr G H ρ G' H' ρ') : VL X.K G' H' v d o := by
  cases o with
  | false => exact Rp.mono f.ex x
  | true =>
    obtain ⟨a, l, vs, h1, h2, h3, h4, h5, h6, h7⟩ := x
    exact ⟨a, l, vs, h1, h2, (f.keep a _ h6 h5).1, h7.mono f.ex⟩
def V2 (X : Cx) (β : Option Addr) (b : En) (r : R2) (o1 : Bool) (d1 d2 : D) (o : Bool) (d : D) : Prop :=
  ∀ (G H : Hp) (ρ : Own) (σ : L2.St) (x y : V) (Q : VK), R X.K β G H ρ σ b → VL X.K G H x d1 o1 → Rp X.K G y d2 → Kn X.K β G H ρ σ b o d Q → r x y H Q
theorem den_bin {op : Operator} {r : R2} {l e : Expr} {pos : Pos} {a b c : En} {o1 o2 o : Bool} {d1 d2 d : D} (ho : OpR X (binaryOp op) r) (h1 : Den X β l a o1 d1 b) (h2 : Den X β e b o2 d2 c) (hv : V2 X β c r o1 d1 d2 o d) : Den X β (.BinOp l op e pos) a o d c := by
  intro G H ρ σ Q r0 q
  refine ⟨_, pe_op ho pe_w pe_w, h1 G H ρ σ _ r0 fun x G1 H1 ρ1 f1 r1 x1 => h2.fz G1 H1 ρ1 σ _ r1 fun y G2 H2 ρ2 f2 r2 x2 => ?_⟩
  exact hv G2 H2 ρ2 σ x y Q r2 (x1.keep f2) x2 (Kn.at q (f1.trans f2))
theorem den_cmp {op : CmpOp} {r : R2} {l e : Expr} {pos : Pos} {a b c : En} {o1 o2 o : Bool} {d1 d2 d : D} (hm : isSet e = false) (ho : OpR X (compareOp op) r) (h1 : Den X β l a o1 d1 b) (h2 : Den X β e b o2 d2 c) (hv : V2 X β c r o1 d1 d2 o d) :
    Den X β (.Compare l [op] [e] pos) a o d c := by
  intro G H ρ σ Q r0 q
  refine ⟨_, pe_cmpR ho pe_w pe_w (mark_ok hm), h1 G H ρ σ _ r0 fun x G1 H1 ρ1 f1 r1 x1 => h2.fz G1 H1 ρ1 σ _ r1 fun y G2 H2 ρ2 f2 r2 x2 => ?_⟩
  exact hv G2 H2 ρ2 σ x y Q r2 (x1.keep f2) x2 (Kn.at q (f1.trans f2))
def V1 (X : Cx) (β : Option Addr) (b : En) (r : V → Hp → VK → Prop) (d1 : D) (o : Bool) (d : D) : Prop :=
  ∀ (G H : Hp) (ρ : Own) (σ : L2.St) (x : V) (Q : VK), R X.K β G H ρ σ b → Rp X.K G x d1 → Kn X.K β G H ρ σ b o d Q → r x H Q
theorem den_un {op : UnaryOp} {r : V → Hp → VK → Prop} {e : Expr} {pos : Pos} {a b : En} {o1 o : Bool} {d1 d : D} (ho : UnR X (unaryOp op) r) (h1 : Den X β e a o1 d1 b) (hv : V1 X β b r d1 o d) : Den X β (.UnaryOp op e pos) a o d b := by
  intro G H ρ σ Q r0 q
  refine ⟨_, pe_un ho pe_w, h1.fz G H ρ σ _ r0 fun x G1 H1 ρ1 f1 r1 x1 => ?_⟩
  exact hv G1 H1 ρ1 σ x Q r1 x1 (Kn.at q f1)
def VA (X : Cx) (β : Option Addr) (b : En) (r : List V → Hp → VK → Prop) (ds : List D) (o : Bool) (d : D) : Prop :=
  ∀ (G H : Hp) (ρ : Own) (σ : L2.St) (xs : List V) (Q : VK), R X.K β G H ρ σ b → Rps X.K G xs ds → Kn X.K β G H ρ σ b o d Q → r xs H Q
theorem den_callB {id : String} {r : List V → Hp → VK → Prop} {x : Str} {p pos : Pos} {e : Expr} {es : List Expr} {a b : En} {ds : List D} {o : Bool} {d : D} (hs : (e :: es).all (fun e => !isStar e) = true) (hc : CallR X (.builtin id) r) (hg : Gl X x) (hm : X.mg x = none)
    (hv : bootBuiltins x = some (.builtin id)) (hn : x ≠ "__name__") (hdb : (x == ("__debug__" : Str)) = false) (ha : DenA X β (e :: es) a ds b) (h : VA X β b r ds o d) : Den X β (.Call (.Name x p) (e :: es) [] pos) a o d b := by
  intro G H ρ σ Q r0 q
  rw [List.all_cons, Bool.and_eq_true] at hs
  refine ⟨_, pe_callB hc hg hm hv pa_w hn hdb (star_ok (by simpa using hs.1)) (stars_ok hs.2), ha G H ρ σ _ r0 fun vs G1 H1 ρ1 f1 r1 x1 => ?_⟩
  exact h G1 H1 ρ1 σ vs Q r1 x1 (Kn.at q f1)
theorem den_callTy {id : String} {r : List V → Hp → VK → Prop} {x : Str} {p pos : Pos} {e : Expr} {es : List Expr} {a b : En} {ds : List D} {o : Bool} {d : D} (hs : (e :: es).all (fun e => !isStar e) = true) (hc : CallR X (.type id) r) (hg : Gl X x) (hm : X.mg x = none)
    (hv : bootBuiltins x = some (.type id)) (hn : x ≠ "__name__") (hdb : (x == ("__debug__" : Str)) = false) (ha : DenA X β (e :: es) a ds b) (h : VA X β b r ds o d) : Den X β (.Call (.Name x p) (e :: es) [] pos) a o d b := by
  intro G H ρ σ Q r0 q
  rw [List.all_cons, Bool.and_eq_true] at hs
  refine ⟨_, pe_callTy hc hg hm hv pa_w hn hdb (star_ok (by simpa using hs.1)) (stars_ok hs.2), ha G H ρ σ _ r0 fun vs G1 H1 ρ1 f1 r1 x1 => ?_⟩
  exact h G1 H1 ρ1 σ vs Q r1 x1 (Kn.at q f1)
end
end Fz
set_option Elab.async false
set_option linter.all false
set_option maxRecDepth 100000
set_option maxHeartbeats 4000000
/-! Fz, part C: operators and built-ins, by values. -/
namespace Fz
open PySem PySem.Spec PyProof.Rows L2

/-! ### a tuple times an int at or below 1 -/
theorem tup_times_few (l : Addr) (its : Array Value) (n : Nat) (dd : Option Addr) (sl : Array (Option Value)) (x : Int) (u : Tok)
    (c0 : (decide (x < -(2 ^ 63)) || decide (x ≥ 2 ^ 63)) = false) (c1 : (its.isEmpty || x == 1) = false) (c2 : (decide (x ≤ 0) || its.isEmpty) = true) :
    Meets (Builtin.«tuple.__mul__» ⟨[.ref l, .int x u], []⟩) (fun _ RR s => s.heap.get? l = some { cls := .type "tuple", dict := dd, data := .seq its n, slots := sl } ∧
      RR (.ok (.ret (Value.ref s.heap.objs.size))) { s with heap := s.heap.push { cls := Value.type "tuple", data := Data.seq #[] }, toks := s.toks }) :=
  .of_wp fun prog w A RR s h => by
    obtain ⟨hp, g, d, tk, os⟩ := s
    obtain ⟨hl, h⟩ := h
    have f1 := AutoSeq1.idx_int
    wp_walk using wpAny_loadPart' hl
    repeat (first
      | (refine wpAny_ite_false (decide_eq_false (by rw [c0]; exact Bool.false_ne_true)) ?_; wp_walk using wpAny_loadPart' hl)
      | (refine wpAny_ite_false (decide_eq_false (by rw [c1]; exact Bool.false_ne_true)) ?_; wp_walk using wpAny_loadPart' hl)
      | (refine wpAny_ite_true (decide_eq_true c2) ?_; wp_walk using wpAny_loadPart' hl)
      | (refine wpAny_ite_false (decide_eq_false (by decide)) ?_; wp_walk using wpAny_loadPart' hl))
    exact ⟨_, rfl, h⟩
theorem tup_times_same (l : Addr) (its : Array Value) (n : Nat) (dd : Option Addr) (sl : Array (Option Value)) (x : Int) (u : Tok)
    (c0 : (decide (x < -(2 ^ 63)) || decide (x ≥ 2 ^ 63)) = false) (c1 : (its.isEmpty || x == 1) = true) :
    Meets (Builtin.«tuple.__mul__» ⟨[.ref l, .int x u], []⟩) (fun _ RR s => s.heap.get? l = some { cls := .type "tuple", dict := dd, data := .seq its n, slots := sl } ∧
      RR (.ok (.ret (Value.ref l))) s) :=
  .of_wp fun prog w A RR s h => by
    obtain ⟨hp, g, d, tk, os⟩ := s
    obtain ⟨hl, h⟩ := h
    have f1 := AutoSeq1.idx_int
    wp_walk using wpAny_loadPart' hl
    repeat (first
      | (refine wpAny_ite_false (decide_eq_false (by rw [c0]; exact Bool.false_ne_true)) ?_; wp_walk using wpAny_loadPart' hl)
      | (refine wpAny_ite_true (decide_eq_true c1) ?_; wp_walk using wpAny_loadPart' hl))
    exact ⟨_, rfl, h⟩

section
variable {X : Cx}
/-- t * k, any t, any k of a thousand at most -/
def rTimes (K : PySem.W.Frag) : R2 := fun x y H Q => ∃ l k xs, x = .ref l ∧ y = .int k ∧ SqT K H l xs ∧ -(2 ^ 62) < k ∧ k ≤ 1000 ∧ xs.length ≤ 1000 ∧
  ((xs = [] ∨ k = 1) → Q (.ref l) H) ∧ (¬ (xs = [] ∨ k = 1) → ∀ p, H p = none → Q (.ref p) (upd H p (.tup (List.replicate k.toNat xs).flatten)))
theorem op_times : OpR X (binaryOp .Mult) (rTimes X.K) := by
  intro pins s σ H x y v u Q I rx ry h
  obtain ⟨l, k, xs, rfl, rfl, hT, k1, k2, hz, q1, q2⟩ := h
  by_cases big : xs ≠ [] ∧ 2 ≤ k
  · refine op_repT pins s σ H _ _ v u Q I rx ry ⟨l, k, xs, rfl, rfl, hT, big.1, big.2, k2, hz, q2 ?_⟩
    rintro (e | e)
    · exact big.1 e
    · rw [e] at big; exact absurd big.2 (by decide)
  · cases rx
    obtain ⟨t, rfl⟩ := ry
    obtain ⟨its, r, ⟨⟨cls, dd, data, sl⟩, ho, hc, n, hd⟩, hs⟩ := I.tuple hT
    simp only at hc hd
    subst hc hd
    have hle : its.length = xs.length := r.length.symm
    have he : its.toArray.isEmpty = xs.isEmpty := by
      have z := isEmpty_of r
      cases h1 : its.toArray.isEmpty <;> cases h2 : xs.isEmpty <;> simp_all
    have c0 : (decide (k < -(2 ^ 63)) || decide (k ≥ 2 ^ 63)) = false := by
      rw [decide_eq_false (by omega), decide_eq_false (by omega)] <;> rfl
    by_cases same : xs = [] ∨ k = 1
    · have c1 : (its.toArray.isEmpty || k == 1) = true := by
        rw [he]
        rcases same with e | e
        · rw [e]; rfl
        · rw [e]; simp
      refine wpAny_binaryOp_repeat_ref (T := "tuple") (U := "int") (by decide) ⟨_, ho, rfl⟩ (fun s' => typeIs_int s' k t) noFill_tuple_mul F.fills_int_mul F.slot_int_rmul repeat_tuple F.slot_int_index.lookup
        (call_meets F.slot_int_rmul (typeIs_int s k t) F.entry_int_rmul (F.args_int_rmul_2 _ _) (int_rmul_tuple k t l its.toArray n dd sl)
          ⟨ho, rfl, ⟨_, ho, rfl⟩, call_meets F.slot_tuple_mul ⟨_, ho, rfl⟩ F.entry_tuple_mul (F.args_tuple_mul_2 _ _) (tup_times_same l its.toArray n dd sl k t c0 c1) ⟨ho, ?_⟩⟩)
      exact ⟨.ref l, H, I, rfl, q1 same⟩
    · have hne : xs ≠ [] := fun e => same (.inl e)
      have k0 : k ≤ 0 := by
        have a : ¬ 2 ≤ k := fun z => big ⟨hne, z⟩
        have b : k ≠ 1 := fun z => same (.inr z)
        omega
      have hi : its.toArray.isEmpty = false := by
        rw [he]
        cases xs with
        | nil => exact absurd rfl hne
        | cons a b => rfl
      have c1 : (its.toArray.isEmpty || k == 1) = false := by
        rw [hi, Bool.false_or]
        exact beq_eq_false_iff_ne.mpr (by omega)
      have c2 : (decide (k ≤ 0) || its.toArray.isEmpty) = true := by
        rw [decide_eq_true k0]; rfl
      refine wpAny_binaryOp_repeat_ref (T := "tuple") (U := "int") (by decide) ⟨_, ho, rfl⟩ (fun s' => typeIs_int s' k t) noFill_tuple_mul F.fills_int_mul F.slot_int_rmul repeat_tuple F.slot_int_index.lookup
        (call_meets F.slot_int_rmul (typeIs_int s k t) F.entry_int_rmul (F.args_int_rmul_2 _ _) (int_rmul_tuple k t l its.toArray n dd sl)
          ⟨ho, rfl, ⟨_, ho, rfl⟩, call_meets F.slot_tuple_mul ⟨_, ho, rfl⟩ F.entry_tuple_mul (F.args_tuple_mul_2 _ _) (tup_times_few l its.toArray n dd sl k t c0 c1 c2) ⟨ho, ?_⟩⟩)
      have e0 : (List.replicate k.toNat xs).flatten = [] := by
        have : k.toNat = 0 := by omega
        rw [this]; rfl
      have q3 := q2 same s.heap.objs.size (I.hok.fresh (Nat.le_refl _))
      rw [e0] at q3
      exact ⟨.ref s.heap.objs.size, _, I.laid (t' := s.toks) (o := .tup []) (fun b ob q => Heap.get?_push_of_some _ q) (Nat.le_refl _) ⟨Nat.zero_le _, [], .nil, IsTup.new _ _⟩, rfl, q3⟩

/-- two lists that are read, tracked or locked, end to end -/
theorem rd_list {pins : List (Addr × Obj)} {σ : L2.St} {H : Hp} {s : Shared} {l : Addr} {xs : List V} (I : Inv X pins σ H s) (h : Rd H l (.lst xs)) :
    xs.length ≤ sizeLine ∧ ∃ (its : List Value) (n : Nat), Vals xs its ∧ s.heap.get? l = some { cls := .type "list", data := .seq its.toArray n } := by
  rcases h with h | ⟨o, h⟩
  · obtain ⟨z, its, n, r, e⟩ := I.hok l _ h
    exact ⟨z, its, n, r, e⟩
  · obtain ⟨_, z, its, n, r, e⟩ := I.hok l _ h
    exact ⟨z, its, n, r, e⟩
def rJoin : R2 := fun x y H Q => ∃ l b xs zs, x = .ref l ∧ y = .ref b ∧ Rd H l (.lst xs) ∧ Rd H b (.lst zs) ∧ xs.length + zs.length ≤ sizeLine ∧ ∀ p, H p = none → Q (.ref p) (upd H p (.lst (xs ++ zs)))
theorem op_join : OpR X (binaryOp .Add) rJoin := by
  intro pins s σ H x y v u Q I rx ry h
  obtain ⟨l, b, xs, zs, rfl, rfl, h1, h2, hz, q⟩ := h
  cases rx
  cases ry
  obtain ⟨z1, i1, n1, r1, e1⟩ := rd_list I h1
  obtain ⟨z2, i2, n2, r2, e2⟩ := rd_list I h2
  refine PySem.P.add_list e1 e2 ?_ (by rw [List.size_toArray, List.size_toArray, ← r1.length, ← r2.length]; exact hz)
  rw [show i1.toArray ++ i2.toArray = (i1 ++ i2).toArray by simp]
  exact ⟨.ref _, _, I.lnew (t' := s.toks) (r1.append r2) (by rw [List.length_append]; exact hz), rfl, q _ I.fresh⟩
end

/-! ### operators as a function of data -/
def mulB (i j : Int) : Bool := decide (i.natAbs.log2 + j.natAbs.log2 < 1000000)
def divB (j : Int) : Bool := decide (0 < j) && decide (j.natAbs.log2 < 9000)
def szB (n : Nat) : Bool := decide (n ≤ 1000000)
def posB (j : Int) : Bool := decide (0 < j)
def powB (i j : Int) : Bool := decide (0 ≤ j ∧ j ≤ 1000000 ∧ i.natAbs < 2 ^ 64)
def repB (n : Nat) (k : Int) : Bool := decide (-(2 ^ 62) < k ∧ k < 2 ^ 62 ∧ n * k.toNat ≤ 1000000)
def timB (n : Nat) (k : Int) : Bool := decide (-(2 ^ 62) < k ∧ k ≤ 1000 ∧ n ≤ 1000)
theorem szB_le {n : Nat} (h : szB n = true) : n ≤ 1000000 := of_decide_eq_true h
theorem len_okB {n : Nat} (h : szB n = true) : n ≤ sizeLine := len_ok (szB_le h)
def binD : Operator → Bool → D → D → Option (Bool × D)
  | .Add, _, .int i, .int j => some (false, .int (i + j))
  | .Add, _, .list a, .list b => if szB (a.length + b.length) then some (true, .list (a ++ b)) else none
  | .Add, _, .tuple a, .tuple b => if szB (a.length + b.length) then some (false, .tuple (a ++ b)) else none
  | .Add, _, .str a, .str b => if szB (a.length + b.length) then some (false, .str (a ++ b)) else none
  | .Sub, _, .int i, .int j => some (false, .int (i - j))
  | .Mult, _, .int i, .int j => if mulB i j then some (false, .int (i * j)) else none
  | .Mult, true, .list a, .int k => if repB a.length k then some (true, .list (List.replicate k.toNat a).flatten) else none
  | .Mult, _, .tuple a, .int k => if timB a.length k then some (false, .tuple (List.replicate k.toNat a).flatten) else none
  | .FloorDiv, _, .int i, .int j => if divB j then some (false, .int (i / j)) else none
  | .Mod, _, .int i, .int j => if posB j then some (false, .int (i % j)) else none
  | .Pow, _, .int i, .int j => if powB i j then some (false, .int (i ^ j.toNat)) else none
  | _, _, _, _ => none
section
variable {X : Cx} {β : Option Addr}
theorem rd_of {K : PySem.W.Frag} {G H : Hp} {x : V} {l : List D} {o : Bool} (e : Ex G H) (h : VL K G H x (.list l) o) : ∃ a vs, x = .ref a ∧ Rd H a (.lst vs) ∧ Rps K G vs l := by
  cases o with
  | false =>
    cases (show Rp K G x (.list l) from h) with
    | lst h1 h2 => exact ⟨_, _, rfl, rd_ex e h1, h2⟩
  | true =>
    obtain ⟨a, l', vs, h1, h2, h3, h4⟩ := h
    cases h2
    exact ⟨a, vs, h1, .inl h3, h4⟩
theorem rp_of {K : PySem.W.Frag} {G H : Hp} {x : V} {d : D} {o : Bool} (hd : ∀ l, d ≠ .list l) (h : VL K G H x d o) : Rp K G x d := by
  cases o with
  | false => exact h
  | true => obtain ⟨a, l', vs, h1, h2, h3, h4⟩ := h; exact absurd h2 (hd l')
theorem v2_int {C : Int → Int → Prop} {g : Int → Int → V} {d : D} {i j : Int} {o : Bool} {b : En} (hc : C i j) (hg : ∀ K G, Rp K G (g i j) d) : V2 X β b (rI C g) o (.int i) (.int j) false d := fun G H ρ σ x y Q r vx vy q => by
  cases rp_of (by intro l z; cases z) vx
  cases vy
  exact ⟨i, j, rfl, rfl, hc, r.flat q (hg _ _)⟩
theorem v2_int0 {g : Int → Int → V} {d : D} {i j : Int} {o : Bool} {b : En} (hg : ∀ K G, Rp K G (g i j) d) : V2 X β b (rI0 g) o (.int i) (.int j) false d := fun G H ρ σ x y Q r vx vy q => by
  cases rp_of (by intro l z; cases z) vx
  cases vy
  exact ⟨i, j, rfl, rfl, r.flat q (hg _ _)⟩
theorem bin_ok {op : Operator} {o1 o : Bool} {d1 d2 d : D} {b : En} (h : binD op o1 d1 d2 = some (o, d)) : ∃ r, OpR X (binaryOp op) r ∧ V2 X β b r o1 d1 d2 o d := by
  unfold binD at h
  split at h
  · cases h; exact ⟨_, op_add, v2_int0 fun _ _ => .int _⟩
  · split at h
    · rename_i hl
      cases h
      refine ⟨_, op_join, fun G H ρ σ x y Q r vx vy q => ?_⟩
      obtain ⟨p, vs, rfl, h1, h2⟩ := rd_of r.ex vx
      cases vy with
      | lst h3 h4 => exact ⟨_, _, _, _, rfl, rfl, h1, rd_ex r.ex h3, by rw [h2.length, h4.length]; exact len_okB hl, r.newL (h2.append h4) q⟩
    · cases h
  · split at h
    · rename_i hl
      cases h
      refine ⟨_, op_catA, fun G H ρ σ x y Q r vx vy q => ?_⟩
      cases rp_of (by intro l z; cases z) vx with
      | tup h1 h2 =>
        cases vy with
        | tup h3 h4 =>
          refine ⟨_, _, _, _, rfl, rfl, Evl.ex_t r.ex h1, Evl.ex_t r.ex h3, by rw [h2.length, h4.length]; exact len_okB hl, fun e => ?_, fun _ e => ?_, fun _ _ => r.newT (h2.append h4) q⟩
          · subst e
            cases h2
            exact r.flat q (.tup h3 h4)
          · subst e
            cases h4
            exact r.flat q (by rw [List.append_nil]; exact .tup h1 h2)
    · cases h
  · split at h
    · rename_i hl
      cases h
      refine ⟨_, op_add_str, fun G H ρ σ x y Q r vx vy q => ?_⟩
      cases rp_of (by intro l z; cases z) vx
      cases vy
      exact ⟨_, _, rfl, rfl, len_okB hl, r.flat q (.str _)⟩
    · cases h
  · cases h; exact ⟨_, op_sub, v2_int0 fun _ _ => .int _⟩
  · split at h
    · rename_i hc
      cases h
      unfold mulB at hc
      rw [decide_eq_true_eq] at hc
      exact ⟨_, op_mulW, v2_int (show CMulW _ _ from hc) fun _ _ => .int _⟩
    · cases h
  · split at h
    · rename_i hc
      cases h
      have hc := of_decide_eq_true hc
      refine ⟨_, op_rep, fun G H ρ σ x y Q r vx vy q => ?_⟩
      obtain ⟨p, l', vs, rfl, e, h3, h4⟩ := vx
      cases e
      cases vy
      exact ⟨_, _, _, rfl, rfl, h3, by omega, by omega, by rw [h4.length]; exact len_ok hc.2.2, r.newL (h4.rep _) q⟩
    · cases h
  · split at h
    · rename_i hc
      cases h
      have hc := of_decide_eq_true hc
      refine ⟨_, op_times, fun G H ρ σ x y Q r vx vy q => ?_⟩
      cases rp_of (by intro l z; cases z) vx with
      | tup h1 h2 =>
        cases vy
        refine ⟨_, _, _, rfl, rfl, Evl.ex_t r.ex h1, hc.1, hc.2.1, by rw [h2.length]; exact hc.2.2, fun e => ?_, fun _ => r.newT (h2.rep _) q⟩
        rcases e with e | e
        · subst e
          cases h2
          refine r.flat q ?_
          rw [show ∀ n : Nat, (List.replicate n ([] : List D)).flatten = [] from fun n => by simp]
          exact .tup h1 .nil
        · subst e
          refine r.flat q ?_
          rw [show (List.replicate (1 : Int).toNat _).flatten = _ from by rw [show (1 : Int).toNat = 1 from rfl, List.replicate_one, List.flatten_singleton]]
          exact .tup h1 h2
    · cases h
  · split at h
    · rename_i hc
      cases h
      unfold divB at hc
      rw [Bool.and_eq_true, decide_eq_true_eq, decide_eq_true_eq] at hc
      exact ⟨_, op_fdivW, v2_int (show CDivW _ _ from hc) fun _ _ => .int _⟩
    · cases h
  · split at h
    · rename_i hc
      cases h
      exact ⟨_, op_mod, v2_int (of_decide_eq_true hc) fun _ _ => .int _⟩
    · cases h
  · split at h
    · rename_i hc
      cases h
      have hc := of_decide_eq_true hc
      exact ⟨_, op_pow, v2_int (C := CPow) hc fun _ _ => .int _⟩
    · cases h
  · cases h
end
end Fz
set_option Elab.async false
set_option linter.all false
set_option maxRecDepth 100000
set_option maxHeartbeats 4000000
/-! Fz, part D: comparisons, truth, subscripts, slices, built-in functions. -/
namespace Fz
open PySem PySem.Spec PyProof.Rows L2

/-! ### comparisons -/
def shp (d : D) : Bool := SeqAt.shaped d
def cmpD : CmpOp → D → D → Option Bool
  | .Eq, d, e => if shp d && shp e then some (PyData.eqv d e) else none
  | .NotEq, d, e => if shp d && shp e then some (!PyData.eqv d e) else none
  | .Lt, .int i, .int j => some (decide (i < j))
  | .LtE, .int i, .int j => some (decide (i ≤ j))
  | .Gt, .int i, .int j => some (decide (j < i))
  | .GtE, .int i, .int j => some (decide (j ≤ i))
  | .Is, .none, .none => some true
  | .Is, .tuple _, .none => some false
  | .Is, .list _, .none => some false
  | .Is, .int _, .none => some false
  | .Is, .bool _, .none => some false
  | .Is, .str _, .none => some false
  | .IsNot, .none, .none => some false
  | .IsNot, .tuple _, .none => some true
  | .IsNot, .list _, .none => some true
  | .IsNot, .int _, .none => some true
  | .IsNot, .bool _, .none => some true
  | .IsNot, .str _, .none => some true
  | .In, d, .list l => if shp d && shp (.list l) then some (l.any fun z => PyData.eqv z d) else none
  | .NotIn, d, .list l => if shp d && shp (.list l) then some (!l.any fun z => PyData.eqv z d) else none
  | _, _, _ => none
section
variable {X : Cx} {β : Option Addr}
theorem vl_dp {G H : Hp} {x : V} {d : D} {o : Bool} (e : Ex G H) (c : shp d = true) (h : VL X.K G H x d o) : Dp X.K H x d := by
  have c' := SeqAt.canLay_of_shaped c
  cases o with
  | false => exact Rp.dp e c' h
  | true =>
    obtain ⟨a, l, vs, rfl, rfl, h3, h4⟩ := h
    exact .lst (.inl (.inl h3)) (Rps.dp e (by simpa [PyData.canLay0] using c') h4)
theorem vl_non {K : PySem.W.Frag} {G H : Hp} {x : V} {d : D} {o : Bool} (h : VL K G H x d o) (hd : d ≠ .none) : decide (x = .non) = false := by
  cases o with
  | false => cases (show Rp K G x d from h) <;> first | rfl | exact absurd rfl hd
  | true => obtain ⟨a, l, vs, rfl, _⟩ := h; rfl
theorem cmp_ok {k : Nat} {op : CmpOp} {o1 : Bool} {d1 d2 : D} {c : Bool} {b : En} (hr : Room k X.A) (h : cmpD op d1 d2 = some c) : ∃ r, OpR X (compareOp op) r ∧ V2 X β b r o1 d1 d2 false (.bool c) := by
  have hu : X.A.units + 65 < cLine := by have := hr.un; omega
  unfold cmpD at h
  split at h
  · split at h
    · rename_i hc
      cases h
      rw [Bool.and_eq_true] at hc
      exact ⟨_, op_eqD (by omega), fun G H ρ σ x y Q r vx vy q => ⟨_, _, vl_dp r.ex hc.1 vx, Rp.dp r.ex (SeqAt.canLay_of_shaped hc.2) vy, hc.1, hc.2, r.flat q (.bl _)⟩⟩
    · cases h
  · split at h
    · rename_i hc
      cases h
      rw [Bool.and_eq_true] at hc
      exact ⟨_, op_neD (by omega), fun G H ρ σ x y Q r vx vy q => ⟨_, _, vl_dp r.ex hc.1 vx, Rp.dp r.ex (SeqAt.canLay_of_shaped hc.2) vy, hc.1, hc.2, r.flat q (.bl _)⟩⟩
    · cases h
  · cases h; exact ⟨_, op_lt, v2_int0 fun _ _ => .bl _⟩
  · cases h; exact ⟨_, op_le, v2_int0 fun _ _ => .bl _⟩
  · cases h; exact ⟨_, op_gt, v2_int0 fun _ _ => .bl _⟩
  · cases h; exact ⟨_, op_ge, v2_int0 fun _ _ => .bl _⟩
  · cases h
    refine ⟨_, op_isN, fun G H ρ σ x y Q r vx vy q => ?_⟩
    cases vy
    cases rp_of (by intro l z; cases z) vx
    exact ⟨rfl, r.flat q (.bl _)⟩
  · cases h
    refine ⟨_, op_isN, fun G H ρ σ x y Q r vx vy q => ?_⟩
    cases vy
    refine ⟨rfl, ?_⟩
    rw [vl_non vx (fun z => nomatch z)]
    exact r.flat q (.bl _)
  · cases h
    refine ⟨_, op_isN, fun G H ρ σ x y Q r vx vy q => ?_⟩
    cases vy
    refine ⟨rfl, ?_⟩
    rw [vl_non vx (fun z => nomatch z)]
    exact r.flat q (.bl _)
  · cases h
    refine ⟨_, op_isN, fun G H ρ σ x y Q r vx vy q => ?_⟩
    cases vy
    refine ⟨rfl, ?_⟩
    rw [vl_non vx (fun z => nomatch z)]
    exact r.flat q (.bl _)
  · cases h
    refine ⟨_, op_isN, fun G H ρ σ x y Q r vx vy q => ?_⟩
    cases vy
    refine ⟨rfl, ?_⟩
    rw [vl_non vx (fun z => nomatch z)]
    exact r.flat q (.bl _)
  · cases h
    refine ⟨_, op_isN, fun G H ρ σ x y Q r vx vy q => ?_⟩
    cases vy
    refine ⟨rfl, ?_⟩
    rw [vl_non vx (fun z => nomatch z)]
    exact r.flat q (.bl _)
  · cases h
    refine ⟨_, op_notN, fun G H ρ σ x y Q r vx vy q => ?_⟩
    cases vy
    cases rp_of (by intro l z; cases z) vx
    exact ⟨rfl, r.flat q (.bl _)⟩
  · cases h
    refine ⟨_, op_notN, fun G H ρ σ x y Q r vx vy q => ?_⟩
    cases vy
    refine ⟨rfl, ?_⟩
    rw [vl_non vx (fun z => nomatch z)]
    exact r.flat q (.bl _)
  · cases h
    refine ⟨_, op_notN, fun G H ρ σ x y Q r vx vy q => ?_⟩
    cases vy
    refine ⟨rfl, ?_⟩
    rw [vl_non vx (fun z => nomatch z)]
    exact r.flat q (.bl _)
  · cases h
    refine ⟨_, op_notN, fun G H ρ σ x y Q r vx vy q => ?_⟩
    cases vy
    refine ⟨rfl, ?_⟩
    rw [vl_non vx (fun z => nomatch z)]
    exact r.flat q (.bl _)
  · cases h
    refine ⟨_, op_notN, fun G H ρ σ x y Q r vx vy q => ?_⟩
    cases vy
    refine ⟨rfl, ?_⟩
    rw [vl_non vx (fun z => nomatch z)]
    exact r.flat q (.bl _)
  · cases h
    refine ⟨_, op_notN, fun G H ρ σ x y Q r vx vy q => ?_⟩
    cases vy
    refine ⟨rfl, ?_⟩
    rw [vl_non vx (fun z => nomatch z)]
    exact r.flat q (.bl _)
  · split at h
    · rename_i hc
      cases h
      rw [Bool.and_eq_true] at hc
      exact ⟨_, op_inD (by omega), fun G H ρ σ x y Q r vx vy q => ⟨_, _, vl_dp r.ex hc.1 vx, Rp.dp r.ex (SeqAt.canLay_of_shaped hc.2) vy, hc.1, hc.2, r.flat q (.bl _)⟩⟩
    · cases h
  · split at h
    · rename_i hc
      cases h
      rw [Bool.and_eq_true] at hc
      exact ⟨_, op_notInD (by omega), fun G H ρ σ x y Q r vx vy q => ⟨_, _, vl_dp r.ex hc.1 vx, Rp.dp r.ex (SeqAt.canLay_of_shaped hc.2) vy, hc.1, hc.2, r.flat q (.bl _)⟩⟩
    · cases h
  · cases h
end

/-! ### truth -/
def truD : D → Option Bool
  | .none => some false
  | .bool b => some b
  | .int i => some (i != 0)
  | .str x => if szB x.length then some ((x.length : Int) != 0) else none
  | .list l => some (!l.isEmpty)
  | .tuple l => some (!l.isEmpty)
  | .dict _ => none
theorem rps_empty {K : PySem.W.Frag} {G : Hp} {vs : List V} {l : List D} (h : Rps K G vs l) : vs.isEmpty = l.isEmpty := by cases h <;> rfl
theorem tru_of {K : PySem.W.Frag} {G H : Hp} {x : V} {d : D} {k : Bool} {o : Bool} (e : Ex G H) (hx : VL K G H x d o) (h : truD d = some k) : TruV K x H k := by
  cases o with
  | true =>
    obtain ⟨a, l, vs, rfl, rfl, h3, h4⟩ := hx
    cases h
    exact .inl ⟨vs, .inl (.inl h3), by rw [rps_empty h4]⟩
  | false =>
    cases (show Rp K G x d from hx) with
    | non => cases h; rfl
    | bl b => cases h; rfl
    | int i => cases h; rfl
    | str y =>
      have h : (if szB y.length then some ((y.length : Int) != 0) else none) = some k := h
      split at h
      · rename_i hl; cases h; exact ⟨len_okB hl, rfl⟩
      · cases h
    | lst h1 h2 => cases h; exact .inl ⟨_, .inl (rd_ex e h1), by rw [rps_empty h2]⟩
    | tup h1 h2 => cases h; exact .inr (.inl ⟨_, Evl.ex_t e h1, by rw [rps_empty h2]⟩)
    | scr h1 h2 => cases h

/-! ### subscripts, slices -/
def ixD : D → D → Option D
  | .list l, .int i => atI l i
  | .tuple l, .int i => atI l i
  | _, _ => none
theorem atI_rps {K : PySem.W.Frag} {G : Hp} {vs : List V} {l : List D} {i : Int} {d : D} (h : Rps K G vs l) (e : atI l i = some d) : ∃ v, atI vs i = some v ∧ Rp K G v d := by
  unfold atI at e ⊢
  rw [h.length]
  cases z : ixN l.length i with
  | none => rw [z] at e; cases e
  | some j => rw [z] at e; exact h.get e
def cutD (l : List D) (lo hi : Option Int) : List D := (l.drop (HT.sIx l.length 0 lo)).take (HT.sIx l.length l.length hi - HT.sIx l.length 0 lo)
theorem cut_rps {K : PySem.W.Frag} {G : Hp} {vs : List V} {l : List D} (lo hi : Option Int) (h : Rps K G vs l) : Rps K G (cutV vs lo hi) (cutD l lo hi) := by
  unfold cutV cutD
  rw [h.length]
  exact (h.drop _).take _
end Fz
set_option Elab.async false
set_option linter.all false
set_option maxRecDepth 100000
set_option maxHeartbeats 4000000
/-! Fz, part E: names that own lists, subscripts, slices, built-in functions, methods. -/
namespace Fz
open PySem PySem.Spec PyProof.Rows L2

def slotL (e : En) (i : Nat) : Option (List D) :=
  match e.sl[i]? with
  | some (.own l) => some l
  | some .bag => some e.bg
  | _ => none
def putL (e : En) (i : Nat) (l : List D) : En :=
  match e.sl[i]? with
  | some (.own _) => { e with sl := e.sl.set i (.own l) }
  | some .bag => { e with bg := l }
  | _ => e
section
variable {X : Cx} {β : Option Addr} {K : PySem.W.Frag} {G H : Hp} {ρ : Own} {σ : L2.St} {e : En}
theorem R.ownAt {i : Nat} {l : List D} (r : R K β G H ρ σ e) (h : slotL e i = some l) : ∃ p vs, σ[i]? = some (some (.ref p)) ∧ H p = some (.lst vs) ∧ Rps K G vs l ∧ ρ p ≠ none := by
  unfold slotL at h
  cases z : e.sl[i]? with
  | none => rw [z] at h; cases h
  | some s =>
    rw [z] at h
    have w := r.sl i s z
    cases s with
    | no => cases h
    | val d => cases h
    | own l' =>
      cases h
      obtain ⟨p, vs, h1, h2, h3, h4⟩ := w
      exact ⟨p, vs, h1, h3, h4, by rw [h2]; simp⟩
    | bag =>
      cases h
      obtain ⟨p, h1, h2⟩ := w
      obtain ⟨b1, vs, b2, b3⟩ := r.bg p h1
      exact ⟨p, vs, h2, b2, b3, by rw [b1]; simp⟩
theorem R.put {i : Nat} {l l' : List D} {p : Addr} {vs' : List V} (r : R K β G H ρ σ e) (h : slotL e i = some l) (hp : σ[i]? = some (some (.ref p))) (hv : Rps K G vs' l') :
    R K β G (upd H p (.lst vs')) ρ σ (putL e i l') ∧ Fr G H ρ G (upd H p (.lst vs')) ρ := by
  obtain ⟨p', vs, h1, h2, h3, h4⟩ := r.ownAt h
  rw [hp] at h1
  cases h1
  have hg : G p = none := (r.ow p h4).1
  constructor
  · have ex : Ex G (upd H p (.lst vs')) := r.ex.mut hg
    have ow : ∀ a, ρ a ≠ none → G a = none ∧ upd H p (.lst vs') a ≠ none := fun a ha => ⟨(r.ow a ha).1, by
      by_cases z : a = p
      · rw [z, upd_same]; simp
      · rw [upd_ne z]; exact (r.ow a ha).2⟩
    unfold slotL at h
    unfold putL
    cases z : e.sl[i]? with
    | none => rw [z] at h; cases h
    | some s =>
      rw [z] at h
      have w := r.sl i s z
      have hlt : i < e.sl.length := (List.getElem?_eq_some_iff.mp z).1
      cases s with
      | no => cases h
      | val d => cases h
      | own l0 =>
        obtain ⟨q, ws, w1, w2, w3, w4⟩ := w
        rw [hp] at w1
        cases w1
        refine ⟨by rw [r.len]; simp, ex, ow, fun j s hj => ?_, fun a ha => ?_⟩
        · by_cases k : j = i
          · subst k
            simp only [List.getElem?_set, if_true, hlt] at hj
            cases hj
            exact ⟨p, vs', hp, w2, upd_same, hv⟩
          · simp only [List.getElem?_set, if_neg (Ne.symm k)] at hj
            have w := r.sl j s hj
            cases s with
            | no => trivial
            | bag => exact w
            | val d0 => exact w
            | own l' =>
              obtain ⟨p', vs', w1, w2', w3, w4⟩ := w
              have ne : p' ≠ p := fun z => by rw [z, w2] at w2'; simp at w2'; exact k w2'.symm
              exact ⟨p', vs', w1, w2', by rw [upd_ne ne]; exact w3, w4⟩
        · obtain ⟨b1, ws', b2, b3⟩ := r.bg a ha
          have ne : a ≠ p := fun k => by rw [k, w2] at b1; simp at b1
          exact ⟨b1, ws', by rw [upd_ne ne]; exact b2, b3⟩
      | bag =>
        obtain ⟨q, w1, w2⟩ := w
        rw [hp] at w2
        cases w2
        obtain ⟨b1, ws', b2, b3⟩ := r.bg p w1
        refine ⟨r.len, ex, ow, fun j s hj => ?_, fun a ha => ?_⟩
        · have w := r.sl j s hj
          cases s with
          | no => trivial
          | bag => exact w
          | val d0 => exact w
          | own l' =>
            obtain ⟨p', vs', w1, w2', w3, w4⟩ := w
            have ne : p' ≠ p := fun z => by rw [z, b1] at w2'; simp at w2'
            exact ⟨p', vs', w1, w2', by rw [upd_ne ne]; exact w3, w4⟩
        · rw [w1] at ha
          cases ha
          exact ⟨b1, vs', upd_same, hv⟩
  · refine ⟨Evl.Ex.refl G, fun a o ha hr => ⟨?_, hr, id⟩, fun a ha => ?_⟩
    · rw [upd_ne (fun z => h4 (by rw [← z]; exact hr))]
      exact ha
    · by_cases z : a = p
      · rw [z, upd_same] at ha; cases ha
      · rw [upd_ne z] at ha; exact ha

/-- the address that a name holds -/
theorem peek {x : Str} {pos : Pos} {i : Nat} {v : V} {Q : VK} (hN : X.N[i]? = some x) (hv : Vis X.env.scope x) (hd : (x == ("__debug__" : Str)) = false) (hcd : (x == ("__classdict__" : Str)) = false) (hp : σ[i]? = some (some v)) (q : Q v H) : wE X (.Name x pos) σ H Q :=
  ⟨_, pe_var hN hv hd hcd, v, hp, q⟩

/-! ### a[i] -/
theorem rIx_ok {G H : Hp} {σ : L2.St} {b : En} {x y : V} {d1 d2 d : D} {o : Bool} {Q : VK} (r : R X.K β G H ρ σ b) (hx : VL X.K G H x d1 o) (hy : Rp X.K G y d2) (h : ixD d1 d2 = some d) (q : Kn X.K β G H ρ σ b false d Q) : rIx X.K x y H Q := by
  unfold ixD at h
  split at h
  · cases hy
    obtain ⟨p, vs, rfl, h1, h2⟩ := rd_of r.ex hx
    obtain ⟨v, e1, e2⟩ := atI_rps h2 h
    exact .inl ⟨p, vs, _, v, rfl, rfl, .inl h1, e1, r.flat q e2⟩
  · cases hy
    cases rp_of (by intro l z; cases z) hx with
    | tup h1 h2 =>
      obtain ⟨v, e1, e2⟩ := atI_rps h2 h
      exact .inr (.inl ⟨_, _, _, v, rfl, rfl, Evl.ex_t r.ex h1, e1, r.flat q e2⟩)
  · cases h
theorem den_ix {e1 e2 : Expr} {pos : Pos} {a b c : En} {o1 o2 : Bool} {d1 d2 d : D} (hs : isSlice e2 = false) (h1 : Den X β e1 a o1 d1 b) (h2 : Den X β e2 b o2 d2 c) (h : ixD d1 d2 = some d) : Den X β (.Subscript e1 e2 pos) a false d c := by
  intro G H ρ σ Q r0 q
  refine ⟨_, pe_ix ix_seq pe_w pe_w (ix_ok hs), h1 G H ρ σ _ r0 fun x G1 H1 ρ1 f1 r1 x1 => h2.fz G1 H1 ρ1 σ _ r1 fun y G2 H2 ρ2 f2 r2 x2 => ?_⟩
  exact rIx_ok r2 (x1.keep f2) x2 h (Kn.at q (f1.trans f2))
theorem den_ixN {x : Str} {e2 : Expr} {pos ps : Pos} {a b : En} {o2 : Bool} {d2 d : D} {i : Nat} {l l' : List D} (hN : X.N[i]? = some x) (hv : Vis X.env.scope x) (hd : (x == ("__debug__" : Str)) = false) (hcd : (x == ("__classdict__" : Str)) = false)
    (hs : isSlice e2 = false) (hl : slotL a i = some l) (h2 : Den X β e2 a o2 d2 b) (hl' : slotL b i = some l') (h : ixD (.list l') d2 = some d) : Den X β (.Subscript (.Name x ps) e2 pos) a false d b := by
  intro G H ρ σ Q r0 q
  obtain ⟨p, vs, p1, p2, p3, p4⟩ := r0.ownAt hl
  refine ⟨_, pe_ix ix_seq pe_w pe_w (ix_ok hs), peek hN hv hd hcd p1 (h2.fz G H ρ σ _ r0 fun y G2 H2 ρ2 f2 r2 x2 => ?_)⟩
  obtain ⟨p', vs', p1', p2', p3', p4'⟩ := r2.ownAt hl'
  rw [p1] at p1'
  cases p1'
  exact rIx_ok (o := true) r2 ⟨p, l', vs', rfl, rfl, p2', p3'⟩ x2 h (Kn.at q f2)

/-! ### a[lo:hi] -/
def DenO (X : Cx) (β : Option Addr) (e : Option Expr) (a : En) (i : Option Int) (b : En) : Prop :=
  ∀ (G H : Hp) (ρ : Own) (σ : L2.St) (Q : Option Int → Hp → Prop), R X.K β G H ρ σ a →
    (∀ G' H' ρ', Fr G H ρ G' H' ρ' → R X.K β G' H' ρ' σ b → Q i H') → wO X e σ H Q
theorem deno_none {a : En} : DenO X β none a none a := fun G H ρ σ Q r q => ⟨_, po_none, q G H ρ .refl r⟩
theorem deno_some {e : Expr} {a b : En} {o : Bool} {i : Int} (h : Den X β e a o (.int i) b) : DenO X β (some e) a (some i) b := fun G H ρ σ Q r q =>
  ⟨_, po_some pe_w, h.fz G H ρ σ _ r fun v G1 H1 ρ1 f1 r1 x1 => by cases (show Rp X.K G1 v (.int i) from x1); exact ⟨i, rfl, q G1 H1 ρ1 f1 r1⟩⟩
def slD : D → Option Int → Option Int → Option (Bool × D)
  | .list l, lo, hi => some (true, .list (cutD l lo hi))
  | .tuple l, lo, hi => some (false, .tuple (cutD l lo hi))
  | .dict [(.none, .list l)], lo, hi => some (true, .list (cutD l lo hi))
  | _, _, _ => none
def rCut (K : PySem.W.Frag) : V → Option Int → Option Int → Hp → VK → Prop := fun x lo hi H Q => rSlL K x lo hi H Q ∨ rSlA K x lo hi H Q
theorem sl_cut : L2.SlR X (rCut X.K) := sl_list.or sl_tupA
theorem cut_whole {l : List D} {lo hi : Option Int} (h1 : HT.sIx l.length 0 lo = 0) (h2 : HT.sIx l.length l.length hi = l.length) : cutD l lo hi = l := by
  unfold cutD
  rw [h1, h2, List.drop_zero, Nat.sub_zero, List.take_length]
theorem rCut_ok {G H : Hp} {σ : L2.St} {b : En} {x : V} {d1 d : D} {o1 o : Bool} {lo hi : Option Int} {Q : VK} (r : R X.K β G H ρ σ b) (hx : VL X.K G H x d1 o1) (h : slD d1 lo hi = some (o, d)) (q : Kn X.K β G H ρ σ b o d Q) : rCut X.K x lo hi H Q := by
  unfold slD at h
  split at h
  · cases h
    obtain ⟨p, vs, rfl, h1, h2⟩ := rd_of r.ex hx
    exact .inl ⟨p, vs, rfl, .inl h1, r.newL (cut_rps lo hi h2) q⟩
  · cases h
    cases rp_of (by intro l z; cases z) hx with
    | tup h1 h2 =>
      refine .inr ⟨_, _, rfl, Evl.ex_t r.ex h1, fun w => ?_, fun _ => r.newT (cut_rps lo hi h2) q⟩
      refine r.flat q ?_
      rw [h2.length] at w
      rw [cut_whole w.1 w.2]
      exact .tup h1 h2
  · cases h
    cases rp_of (by intro l z; cases z) hx with
    | scr h1 h2 => exact .inl ⟨_, _, rfl, Evl.ex_l r.ex h1, r.newL (cut_rps lo hi h2) q⟩
  · cases h
theorem den_sl {e1 : Expr} {lo hi : Option Expr} {pos p2 : Pos} {a b c c' : En} {o1 o : Bool} {d1 d : D} {i j : Option Int} (h1 : Den X β e1 a o1 d1 b) (h2 : DenO X β lo b i c) (h3 : DenO X β hi c j c') (h : slD d1 i j = some (o, d)) :
    Den X β (.Subscript e1 (.Slice lo hi none p2) pos) a o d c' := by
  intro G H ρ σ Q r0 q
  refine ⟨_, pe_slice sl_cut pe_w po_w po_w, h1 G H ρ σ _ r0 fun x G1 H1 ρ1 f1 r1 x1 => h2 G1 H1 ρ1 σ _ r1 fun G2 H2 ρ2 f2 r2 => h3 G2 H2 ρ2 σ _ r2 fun G3 H3 ρ3 f3 r3 => ?_⟩
  exact rCut_ok r3 (x1.keep (f2.trans f3)) h (Kn.at q ((f1.trans f2).trans f3))
theorem den_slN {x : Str} {lo hi : Option Expr} {pos p2 ps : Pos} {a b c : En} {o : Bool} {d : D} {i j : Option Int} {n : Nat} {l l' : List D} (hN : X.N[n]? = some x) (hv : Vis X.env.scope x) (hd : (x == ("__debug__" : Str)) = false) (hcd : (x == ("__classdict__" : Str)) = false)
    (hl : slotL a n = some l) (h2 : DenO X β lo a i b) (h3 : DenO X β hi b j c) (hl' : slotL c n = some l') (h : slD (.list l') i j = some (o, d)) : Den X β (.Subscript (.Name x ps) (.Slice lo hi none p2) pos) a o d c := by
  intro G H ρ σ Q r0 q
  obtain ⟨p, vs, p1, p2, p3, p4⟩ := r0.ownAt hl
  refine ⟨_, pe_slice sl_cut pe_w po_w po_w, peek hN hv hd hcd p1 (h2 G H ρ σ _ r0 fun G2 H2 ρ2 f2 r2 => h3 G2 H2 ρ2 σ _ r2 fun G3 H3 ρ3 f3 r3 => ?_)⟩
  obtain ⟨p', vs', p1', p2', p3', p4'⟩ := r3.ownAt hl'
  rw [p1] at p1'
  cases p1'
  exact rCut_ok (o1 := true) r3 ⟨p, l', vs', rfl, rfl, p2', p3'⟩ h (Kn.at q (f2.trans f3))

/-! ### built-in functions -/
inductive Bi where
  | len | int | abs | list | tuple | all | any | max | min | sum
  deriving DecidableEq
def allB : List D → Option (List Bool)
  | [] => some []
  | .bool b :: r => (allB r).map (b :: ·)
  | _ :: _ => none
def allI : List D → Option (List Int)
  | [] => some []
  | .int b :: r => (allI r).map (b :: ·)
  | _ :: _ => none
theorem allB_vs {vs : List V} {ds : List D} (h : Rps K G vs ds) : ∀ {bs : List Bool}, allB ds = some bs → vs = bs.map V.bl := by
  match vs, ds, h with
  | _, _, .nil => intro bs e; cases e; rfl
  | v :: vs, d :: ds, .cons h r =>
    intro bs e
    cases d with
    | bool b =>
      unfold allB at e
      cases z : allB ds with
      | none => rw [z] at e; cases e
      | some t =>
        rw [z] at e
        cases e
        cases h
        rw [allB_vs r z]
        rfl
    | _ => cases e
theorem allI_vs {vs : List V} {ds : List D} (h : Rps K G vs ds) : ∀ {bs : List Int}, allI ds = some bs → vs = bs.map V.int := by
  match vs, ds, h with
  | _, _, .nil => intro bs e; cases e; rfl
  | v :: vs, d :: ds, .cons h r =>
    intro bs e
    cases d with
    | int b =>
      unfold allI at e
      cases z : allI ds with
      | none => rw [z] at e; cases e
      | some t =>
        rw [z] at e
        cases e
        cases h
        rw [allI_vs r z]
        rfl
    | _ => cases e
def bltD : Bi → List D → Option (Bool × D)
  | .len, [.list l] => some (false, .int l.length)
  | .len, [.tuple l] => some (false, .int l.length)
  | .len, [.str x] => if szB x.length then some (false, .int x.length) else none
  | .int, [.int i] => some (false, .int i)
  | .int, [.bool b] => some (false, .int (if b then 1 else 0))
  | .abs, [.int i] => some (false, .int (if i < 0 then -i else i))
  | .list, [.list l] => some (true, .list l)
  | .list, [.tuple l] => some (true, .list l)
  | .tuple, [.list l] => some (false, .tuple l)
  | .tuple, [.tuple l] => some (false, .tuple l)
  | .all, [.list l] => (allB l).map fun bs => (false, .bool (bs.all id))
  | .any, [.list l] => (allB l).map fun bs => (false, .bool (bs.any id))
  | .max, [.int i, .int j] => some (false, .int (if j > i then j else i))
  | .min, [.int i, .int j] => some (false, .int (if j < i then j else i))
  | .sum, [.list l] => (allI l).map fun ns => (false, .int ns.sum)
  | _, _ => none
def biTab : List (Str × Bi) := [("len", .len), ("int", .int), ("abs", .abs), ("list", .list), ("tuple", .tuple), ("all", .all), ("any", .any), ("max", .max), ("min", .min), ("sum", .sum)]
def biOf (x : Str) : Option Bi := biTab.lookup x
theorem rps1 {vs : List V} {d : D} (h : Rps K G vs [d]) : ∃ v, vs = [v] ∧ Rp K G v d := by
  cases h with
  | cons h1 h2 => cases h2; exact ⟨_, rfl, h1⟩
theorem rps2 {vs : List V} {d d' : D} (h : Rps K G vs [d, d']) : ∃ v v', vs = [v, v'] ∧ Rp K G v d ∧ Rp K G v' d' := by
  cases h with
  | cons h1 h2 => obtain ⟨v, rfl, h3⟩ := rps1 h2; exact ⟨_, _, rfl, h1, h3⟩
end
end Fz
set_option Elab.async false
set_option linter.all false
set_option maxRecDepth 100000
set_option maxHeartbeats 4000000
/-! Fz, part F: calls of built-ins, isinstance, methods, tests. -/
namespace Fz
open PySem PySem.Spec PyProof.Rows L2
section
variable {X : Cx} {β : Option Addr}
def bootP (x : Str) : Bi → Prop
  | .len => bootBuiltins x = some (.builtin "len")
  | .int => bootBuiltins x = some (.type "int")
  | .abs => bootBuiltins x = some (.builtin "abs")
  | .list => bootBuiltins x = some (.type "list")
  | .tuple => bootBuiltins x = some (.type "tuple")
  | .all => bootBuiltins x = some (.builtin "all")
  | .any => bootBuiltins x = some (.builtin "any")
  | .max => bootBuiltins x = some (.builtin "max")
  | .min => bootBuiltins x = some (.builtin "min")
  | .sum => bootBuiltins x = some (.builtin "sum")
theorem boot_fun {x : Str} {k : Bi} (h : biOf x = some k) : x ≠ "__name__" ∧ (x == ("__debug__" : Str)) = false ∧ bootP x k := by
  have key : ∀ p ∈ biTab, p.1 ≠ ("__name__" : Str) ∧ (p.1 == ("__debug__" : Str)) = false ∧ bootP p.1 p.2 := by
    intro p hp
    simp only [biTab, List.mem_cons, List.not_mem_nil, or_false] at hp
    rcases hp with rfl | rfl | rfl | rfl | rfl | rfl | rfl | rfl | rfl | rfl <;> exact ⟨by decide, by decide, by unfold bootP; decide +kernel⟩
  exact key _ (PySem.mem_of_lookup h)
theorem den_blt {x : Str} {p pos : Pos} {e : Expr} {es : List Expr} {a b : En} {ds : List D} {o : Bool} {d : D} {k : Bi} (hs : (e :: es).all (fun e => !isStar e) = true) (hc : X.calm = true) (hg : Gl X x) (hm : X.mg x = none) (hk : biOf x = some k)
    (ha : DenA X β (e :: es) a ds b) (h : bltD k ds = some (o, d)) : Den X β (.Call (.Name x p) (e :: es) [] pos) a o d b := by
  obtain ⟨hn, hdb, hv⟩ := boot_fun hk
  unfold bltD at h
  split at h
  · cases h
    refine den_callB hs call_len_seq hg hm hv hn hdb ha fun G H ρ σ xs Q r hx q => ?_
    obtain ⟨v, rfl, h1⟩ := rps1 hx
    cases h1 with
    | lst h1 h2 => exact ⟨_, _, rfl, .inl (.inl (rd_ex r.ex h1)), by rw [h2.length]; exact r.flat q (.int _)⟩
  · cases h
    refine den_callB hs call_len_seq hg hm hv hn hdb ha fun G H ρ σ xs Q r hx q => ?_
    obtain ⟨v, rfl, h1⟩ := rps1 hx
    cases h1 with
    | tup h1 h2 => exact ⟨_, _, rfl, .inr (Evl.ex_t r.ex h1), by rw [h2.length]; exact r.flat q (.int _)⟩
  · split at h
    · rename_i hl
      cases h
      refine den_callB hs call_len_str hg hm hv hn hdb ha fun G H ρ σ xs Q r hx q => ?_
      obtain ⟨v, rfl, h1⟩ := rps1 hx
      cases h1
      exact ⟨_, rfl, len_okB hl, r.flat q (.int _)⟩
    · cases h
  · cases h
    refine den_callTy hs call_int1 hg hm hv hn hdb ha fun G H ρ σ xs Q r hx q => ?_
    obtain ⟨v, rfl, h1⟩ := rps1 hx
    cases h1
    exact .inl ⟨_, rfl, r.flat q (.int _)⟩
  · cases h
    refine den_callTy hs call_int1 hg hm hv hn hdb ha fun G H ρ σ xs Q r hx q => ?_
    obtain ⟨v, rfl, h1⟩ := rps1 hx
    cases h1
    exact .inr ⟨_, rfl, r.flat q (.int _)⟩
  · cases h
    refine den_callB hs call_abs hg hm hv hn hdb ha fun G H ρ σ xs Q r hx q => ?_
    obtain ⟨v, rfl, h1⟩ := rps1 hx
    cases h1
    exact ⟨_, rfl, r.flat q (.int _)⟩
  · cases h
    refine den_callTy hs call_list_of hg hm hv hn hdb ha fun G H ρ σ xs Q r hx q => ?_
    obtain ⟨v, rfl, h1⟩ := rps1 hx
    cases h1 with
    | lst h1 h2 => exact ⟨_, _, rfl, .inl (.inl (rd_ex r.ex h1)), r.newL h2 q⟩
  · cases h
    refine den_callTy hs call_list_of hg hm hv hn hdb ha fun G H ρ σ xs Q r hx q => ?_
    obtain ⟨v, rfl, h1⟩ := rps1 hx
    cases h1 with
    | tup h1 h2 => exact ⟨_, _, rfl, .inr (Evl.ex_t r.ex h1), r.newL h2 q⟩
  · cases h
    refine den_callTy hs call_tuple_of hg hm hv hn hdb ha fun G H ρ σ xs Q r hx q => ?_
    obtain ⟨v, rfl, h1⟩ := rps1 hx
    cases h1 with
    | lst h1 h2 => exact ⟨_, _, rfl, .inl ⟨.inl (rd_ex r.ex h1), r.newT h2 q⟩⟩
  · cases h
    refine den_callTy hs call_tuple_of hg hm hv hn hdb ha fun G H ρ σ xs Q r hx q => ?_
    obtain ⟨v, rfl, h1⟩ := rps1 hx
    cases h1 with
    | tup h1 h2 => exact ⟨_, _, rfl, .inr ⟨Evl.ex_t r.ex h1, r.flat q (.tup h1 h2)⟩⟩
  · rename_i l
    cases z : allB l with
    | none => rw [z] at h; cases h
    | some bs =>
      rw [z] at h
      cases h
      refine den_callB hs (cr_all hc) hg hm hv hn hdb ha fun G H ρ σ xs Q r hx q => ?_
      obtain ⟨v, rfl, h1⟩ := rps1 hx
      cases h1 with
      | lst h1 h2 =>
        rw [allB_vs h2 z] at h1
        exact ⟨_, bs, rfl, .inl (rd_ex r.ex h1), r.flat q (.bl _)⟩
  · rename_i l
    cases z : allB l with
    | none => rw [z] at h; cases h
    | some bs =>
      rw [z] at h
      cases h
      refine den_callB hs (cr_any hc) hg hm hv hn hdb ha fun G H ρ σ xs Q r hx q => ?_
      obtain ⟨v, rfl, h1⟩ := rps1 hx
      cases h1 with
      | lst h1 h2 =>
        rw [allB_vs h2 z] at h1
        exact ⟨_, bs, rfl, .inl (rd_ex r.ex h1), r.flat q (.bl _)⟩
  · cases h
    refine den_callB hs (call_max2 hc) hg hm hv hn hdb ha fun G H ρ σ xs Q r hx q => ?_
    obtain ⟨v, w, rfl, h1, h2⟩ := rps2 hx
    cases h1
    cases h2
    exact ⟨_, _, rfl, r.flat q (.int _)⟩
  · cases h
    refine den_callB hs (call_min2 hc) hg hm hv hn hdb ha fun G H ρ σ xs Q r hx q => ?_
    obtain ⟨v, w, rfl, h1, h2⟩ := rps2 hx
    cases h1
    cases h2
    exact ⟨_, _, rfl, r.flat q (.int _)⟩
  · rename_i l
    cases z : allI l with
    | none => rw [z] at h; cases h
    | some bs =>
      rw [z] at h
      cases h
      refine den_callB hs (cr_sum hc) hg hm hv hn hdb ha fun G H ρ σ xs Q r hx q => ?_
      obtain ⟨v, rfl, h1⟩ := rps1 hx
      cases h1 with
      | lst h1 h2 =>
        rw [allI_vs h2 z] at h1
        exact ⟨_, bs, rfl, .inl (rd_ex r.ex h1), r.flat q (.int _)⟩
  · cases h
/-- len of a name that owns a list -/
theorem den_lenN {x y : Str} {p pos py : Pos} {a : En} {i : Nat} {l : List D} (hg : Gl X x) (hm : X.mg x = none) (hk : biOf x = some .len) (hN : X.N[i]? = some y) (hv : Vis X.env.scope y) (hd : (y == ("__debug__" : Str)) = false) (hcd : (y == ("__classdict__" : Str)) = false)
    (hl : slotL a i = some l) : Den X β (.Call (.Name x p) [.Name y py] [] pos) a false (.int l.length) a := by
  obtain ⟨hn, hdb, hb⟩ := boot_fun hk
  intro G H ρ σ Q r0 q
  obtain ⟨p', vs, p1, p2, p3, p4⟩ := r0.ownAt hl
  refine ⟨_, pe_callB call_len_seq hg hm hb (pa_cons pe_w pa_nil) hn hdb, peek hN hv hd hcd p1 ?_⟩
  exact ⟨p', vs, rfl, .inl (.inl (.inl p2)), by rw [p3.length]; exact r0.flat q (.int _)⟩

/-! ### isinstance -/
def tyD : D → String
  | .none => "NoneType"
  | .bool _ => "bool"
  | .int _ => "int"
  | .str _ => "str"
  | .list _ => "list"
  | .tuple _ => "tuple"
  | .dict _ => "dict"
def noTag : D → Bool
  | .dict _ => false
  | _ => true
theorem tyx_of {K : PySem.W.Frag} {G H : Hp} {v : V} {d : D} (e : Ex G H) (hd : noTag d = true) (h : Rp K G v d) : TyX K H v (.type (tyD d)) := by
  cases h with
  | non => exact .base .non
  | bl b => exact .base (.bl b)
  | int i => exact .base (.int i)
  | str x => exact .base (.str x)
  | lst h1 h2 =>
    rcases rd_ex e h1 with z | ⟨o, z⟩
    · exact .base (.lst z)
    · exact .base (.frz z)
  | tup h1 h2 =>
    rcases Evl.ex_t e h1 with (z | ⟨o, z⟩) | ⟨o, its, n, z, c, _⟩
    · exact .base (.tup z)
    · exact .fTuple z
    · exact .kTuple z c
  | scr h1 h2 => cases hd
def isTy (a t : String) : Bool := a == t || (a == "bool" && t == "int")
def tyTab : List (Str × String) := [("int", "int"), ("bool", "bool"), ("str", "str"), ("list", "list"), ("tuple", "tuple")]
def tyOf (x : Str) : Option String := tyTab.lookup x
theorem ty_boot {x : Str} {t : String} (h : tyOf x = some t) : x ≠ "__name__" ∧ (x == ("__debug__" : Str)) = false ∧ bootBuiltins x = some (.type t) ∧ t ∈ ["int", "bool", "str", "list", "tuple"] := by
  have key : ∀ p ∈ tyTab, p.1 ≠ ("__name__" : Str) ∧ (p.1 == ("__debug__" : Str)) = false ∧ bootBuiltins p.1 = some (.type p.2) ∧ p.2 ∈ ["int", "bool", "str", "list", "tuple"] := by
    intro p hp
    simp only [tyTab, List.mem_cons, List.not_mem_nil, or_false] at hp
    rcases hp with rfl | rfl | rfl | rfl | rfl <;> exact ⟨by decide, by decide, by decide +kernel, by decide⟩
  exact key _ (PySem.mem_of_lookup h)
theorem kit_all {K : PySem.W.Frag} {d : D} {t : String} (h : t ∈ ["int", "bool", "str", "list", "tuple"]) : PySem.W.kitOne K (.type (tyD d)) (.type t) = some (isTy (tyD d) t) := by
  have key : ∀ a ∈ ["NoneType", "bool", "int", "str", "list", "tuple", "dict"], ∀ t ∈ ["int", "bool", "str", "list", "tuple"], kitB a t = some (isTy a t) := by decide +kernel
  exact kit_ty (key _ (by cases d <;> simp [tyD]) t h)
def isiD (d : D) (ts : List String) : Bool := ts.any fun t => isTy (tyD d) t
theorem kit_any {K : PySem.W.Frag} {d : D} : ∀ {ts : List String}, (∀ t ∈ ts, t ∈ ["int", "bool", "str", "list", "tuple"]) → PySem.W.kitAny K (.type (tyD d)) (ts.map Value.type) = some (isiD d ts)
  | [], _ => rfl
  | t :: ts, h => by
    refine kitAny_cons (kit_all (h t List.mem_cons_self)) (fun e => ?_) (fun e => ?_)
    · rw [kit_any (ts := ts) fun z hz => h z (List.mem_cons_of_mem _ hz)]
      unfold isiD
      rw [List.any_cons, e, Bool.false_or]
    · unfold isiD
      rw [List.any_cons, e, Bool.true_or]
/-- the classes that a name, or a tuple of names, stands for -/
def tyNames : List Expr → Option (List (Str × String))
  | [] => some []
  | .Name t _ :: r => match tyOf t, tyNames r with
    | some s, some l => some ((t, s) :: l)
    | _, _ => none
  | _ :: _ => none
theorem boot_isinstance : bootBuiltins "isinstance" = some (.builtin "isinstance") := by decide +kernel
theorem wA_types {σ : L2.St} : ∀ {es : List Expr} {l : List (Str × String)} {H : Hp} {Q : List V → Hp → Prop}, tyNames es = some l → (∀ p ∈ l, Gl X p.1 ∧ X.mg p.1 = none) → Q (l.map fun p => V.ty p.2) H → wA X es σ H Q
  | [], l, H, Q, h, _, q => by
    cases h
    exact ⟨_, pa_nil, q⟩
  | .Name t p :: r, l, H, Q, h, hg, q => by
    unfold tyNames at h
    cases z : tyOf t with
    | none => rw [z] at h; cases h
    | some s =>
      rw [z] at h
      cases z2 : tyNames r with
      | none => rw [z2] at h; cases h
      | some l' =>
        rw [z2] at h
        cases h
        obtain ⟨h1, h2, h3, h4⟩ := ty_boot z
        obtain ⟨g1, g2⟩ := hg (t, s) List.mem_cons_self
        refine ⟨_, pa_cons (pe_bltn (v := .ty s) g1 g2 h3 rfl h1 h2) pa_w, ?_⟩
        exact wA_types z2 (fun p hp => hg p (List.mem_cons_of_mem _ hp)) q
theorem vals_ty {ts : List String} : Paired ClsV (ts.map V.ty) (ts.map Value.type) := by
  induction ts with
  | nil => exact .nil
  | cons t ts ih => exact .cons (.ty t) ih
theorem den_isi1 {p pos pt : Pos} {e : Expr} {t : Str} {s : String} {a b : En} {o : Bool} {d : D} (hs : isStar e = false) (hg : Gl X "isinstance") (hm : X.mg "isinstance" = none) (h : tyOf t = some s) (h1 : Gl X t) (h2 : X.mg t = none) (hd : noTag d = true) (he : Den X β e a o d b) :
    Den X β (.Call (.Name "isinstance" p) [e, .Name t pt] [] pos) a false (.bool (isiD d [s])) b := by
  intro G H ρ σ Q r0 q
  obtain ⟨k1, k2, k3, k4⟩ := ty_boot h
  refine ⟨_, pe_callB call_isi hg hm boot_isinstance (pa_cons pe_w (pa_cons (pe_bltn (v := .ty s) h1 h2 k3 rfl k1 k2) pa_nil) (star_ok hs)) (by decide) (by decide) (star_ok hs), he.fz G H ρ σ _ r0 fun v G1 H1 ρ1 f1 r1 x1 => ?_⟩
  refine ⟨v, .ty s, .type (tyD d), .type s, isiD d [s], rfl, .ty s, tyx_of r1.ex hd x1, ?_, r1.flat (Kn.at q f1) (.bl _)⟩
  rw [kit_all k4]
  simp [isiD]
theorem den_isi {p pos pt : Pos} {k : Nat} {e : Expr} {es : List Expr} {l : List (Str × String)} {a b : En} {o : Bool} {d : D} (hs : isStar e = false) (hg : Gl X "isinstance") (hm : X.mg "isinstance" = none) (h : tyNames es = some l) (hl : l.length ≤ 100) (hall : ∀ p ∈ l, Gl X p.1 ∧ X.mg p.1 = none)
    (hty : ∀ p ∈ l, tyOf p.1 = some p.2) (hd : noTag d = true) (he : Den X β e a o d b) :
    Den X β (.Call (.Name "isinstance" p) [e, .Tuple es k pt] [] pos) a false (.bool (isiD d (l.map (·.2)))) b := by
  intro G H ρ σ Q r0 q
  refine ⟨_, pe_callB call_isiT hg hm boot_isinstance (pa_cons pe_w (pa_cons (pe_tup pa_w) pa_nil) (star_ok hs)) (by decide) (by decide) (star_ok hs), he.fz G H ρ σ _ r0 fun v G1 H1 ρ1 f1 r1 x1 => ?_⟩
  refine wA_types h hall ⟨len_ok (by rw [List.length_map]; omega), fun tp hp => ?_⟩
  have e2 : l.map (fun p => V.ty p.2) = (l.map (·.2)).map V.ty := by rw [List.map_map]; rfl
  refine ⟨v, tp, _, .type (tyD d), (l.map (·.2)).map Value.type, isiD d (l.map (·.2)), rfl, upd_same, by rw [e2]; exact vals_ty, tyx_of (r1.ex.trans (Evl.Ex.new hp)) hd x1, kit_any fun t ht => ?_, ?_⟩
  · obtain ⟨p, h1, rfl⟩ := List.mem_map.mp ht
    exact (ty_boot (hty p h1)).2.2.2
  · exact (r1.grow hp).flat (Kn.at q (f1.trans (.grow hp))) (.bl _)

/-! ### methods of a list that a name owns -/
theorem base_ok {x m : Str} {p : Pos} : attributeBase (.Name x p) m X.env (eval (.Name x p) X.env) = eval (.Name x p) X.env := rfl
section
variable {x m : Str} {px pa cp : Pos} {a b : En} {i : Nat} {l : List D}
theorem den_append {e : Expr} {o : Bool} {d : D} (hN : X.N[i]? = some x) (hv : Vis X.env.scope x) (hd : (x == ("__debug__" : Str)) = false) (hcd : (x == ("__classdict__" : Str)) = false) (hs : isStar e = false) (hln : (pa.endLine == cp.line) = true)
    (h0 : (slotL a i).isSome = true) (he : Den X β e a o d b) (hl : slotL b i = some l) (hz : l.length < 1000000) :
    Den X β (.Call (.Attribute (.Name x px) "append" pa) [e] [] cp) a false .none (putL b i (l ++ [d])) := by
  intro G H ρ σ Q r0 q
  obtain ⟨l0, h0⟩ := Option.isSome_iff_exists.mp h0
  obtain ⟨p, vs, p1, p2, p3, p4⟩ := r0.ownAt h0
  have st : starEach [e] X.env = (false, eval e X.env) :: starEach [] X.env := star_ok hs
  refine ⟨_, pe_bm PySem.F.plainAttrs_list PySem.F.slot_list_append PySem.F.type_list_append mt_append pe_w (pa_cons pe_w pa_nil st) base_ok (by rw [st]; rfl) hln st, peek hN hv hd hcd p1 ⟨.inl ⟨rfl, _, .inl (.inl p2)⟩, ?_⟩⟩
  refine he.fz G H ρ σ _ r0 fun v G1 H1 ρ1 f1 r1 x1 => ?_
  obtain ⟨p', vs', q1, q2, q3, q4⟩ := r1.ownAt hl
  rw [p1] at q1
  cases q1
  obtain ⟨r2, f2⟩ := r1.put hl p1 (q3.append (.cons (show Rp X.K G1 v d from x1) .nil))
  exact ⟨p, vs', v, rfl, rfl, q2, Nat.lt_of_lt_of_le (by rw [q3.length]; exact hz) (by decide), r2.flat (Kn.at q (f1.trans f2)) .non⟩
theorem den_pop {d : D} (hN : X.N[i]? = some x) (hv : Vis X.env.scope x) (hd : (x == ("__debug__" : Str)) = false) (hcd : (x == ("__classdict__" : Str)) = false) (hln : (pa.endLine == cp.line) = true)
    (hl : slotL a i = some l) (hz : l[l.length - 1]? = some d) : Den X β (.Call (.Attribute (.Name x px) "pop" pa) [] [] cp) a false d (putL a i l.dropLast) := by
  intro G H ρ σ Q r0 q
  obtain ⟨p, vs, p1, p2, p3, p4⟩ := r0.ownAt hl
  obtain ⟨v, v1, v2⟩ := p3.get hz
  refine ⟨_, pe_bm0 PySem.F.plainAttrs_list PySem.F.slot_list_pop PySem.F.type_list_pop mt_pop pe_w base_ok hln, peek hN hv hd hcd p1 ⟨.inl ⟨rfl, _, .inl (.inl p2)⟩, ?_⟩⟩
  obtain ⟨r2, f2⟩ := r0.put hl p1 p3.dropLast
  exact ⟨p, vs, v, rfl, rfl, p2, by rw [p3.length]; exact v1, r2.flat (Kn.at q f2) v2⟩
end

/-! ### tests -/
theorem dent_not {e : Expr} {pos : Pos} {a b : En} {k : Bool} (h : DenT X β e a k b) : DenT X β (.UnaryOp .Not e pos) a (!k) b := fun G H ρ σ Q r q => ⟨_, pt_not pt_w, h G H ρ σ _ r q⟩
def plainT : Expr → Bool
  | .UnaryOp .. | .BoolOp .. | .IfExp .. | .Compare .. => false
  | _ => true
theorem plainT_ok {e : Expr} (h : plainT e = true) (whole : Sem Value) : isTrue e X.env whole = (do let v ← whole; standAt e.pos; holding [v] (truthy v)) := by
  cases e <;> first | rfl | cases h
theorem dent_val {e : Expr} {a b : En} {o : Bool} {d : D} {k : Bool} (hp : plainT e = true) (h : Den X β e a o d b) (hk : truD d = some k) : DenT X β e a k b := fun G H ρ σ Q r q =>
  ⟨_, pt_truth pe_w (plainT_ok hp), h G H ρ σ _ r fun v G1 H1 ρ1 f1 r1 x1 => ⟨k, tru_of r1.ex (x1.keep .refl) hk, q G1 H1 ρ1 f1 r1⟩⟩
theorem dent_own {x : Str} {px : Pos} {a : En} {i : Nat} {l : List D} (hN : X.N[i]? = some x) (hv : Vis X.env.scope x) (hd : (x == ("__debug__" : Str)) = false) (hcd : (x == ("__classdict__" : Str)) = false) (hl : slotL a i = some l) : DenT X β (.Name x px) a (!l.isEmpty) a := by
  intro G H ρ σ Q r q
  obtain ⟨p, vs, p1, p2, p3, p4⟩ := r.ownAt hl
  exact ⟨_, pt_truth pe_w (plainT_ok rfl), peek hN hv hd hcd p1 ⟨_, .inl ⟨vs, .inl (.inl p2), by rw [rps_empty p3]⟩, q G H ρ .refl r⟩⟩
theorem dent_cmp {op : CmpOp} {r : R2} {l e : Expr} {pos : Pos} {a b c : En} {o1 o2 : Bool} {d1 d2 : D} {k : Bool} (hm : isSet e = false) (ho : OpR X (compareOp op) r) (h1 : Den X β l a o1 d1 b) (h2 : Den X β e b o2 d2 c) (hv : V2 X β c r o1 d1 d2 false (.bool k)) :
    DenT X β (.Compare l [op] [e] pos) a k c := by
  intro G H ρ σ Q r0 q
  refine ⟨_, pt_cmpR ho pe_w pe_w (mark_ok hm), h1 G H ρ σ _ r0 fun x G1 H1 ρ1 f1 r1 x1 => h2.fz G1 H1 ρ1 σ _ r1 fun y G2 H2 ρ2 f2 r2 x2 => ?_⟩
  refine hv G2 H2 ρ2 σ x y _ r2 (x1.keep f2) x2 fun v G' H' ρ' f' r' x' => ?_
  cases (show Rp X.K G' v (.bool k) from x')
  exact ⟨k, rfl, q G' H' ρ' ((f1.trans f2).trans f') r'⟩
/-- and, or, as tests: from the first operand on -/
theorem dent_bool1 {op : BoolOp} {e : Expr} {pos : Pos} {a b : En} {k : Bool} (h : DenT X β e a k b) : ∀ G H ρ σ Q, R X.K β G H ρ σ a → (∀ G' H' ρ', Fr G H ρ G' H' ρ' → R X.K β G' H' ρ' σ b → Q k H') → wW X (.BoolOp op [e] pos) σ H Q := fun G H ρ σ Q r q => by
  cases op with
  | And => exact ⟨_, pw_and1 pt_w, h G H ρ σ _ r q⟩
  | Or => exact ⟨_, pw_or1 pt_w, h G H ρ σ _ r q⟩
def DenW (X : Cx) (β : Option Addr) (e : Expr) (a : En) (k : Bool) (b : En) : Prop :=
  ∀ (G H : Hp) (ρ : Own) (σ : L2.St) (Q : Bool → Hp → Prop), R X.K β G H ρ σ a →
    (∀ G' H' ρ', Fr G H ρ G' H' ρ' → R X.K β G' H' ρ' σ b → Q k H') → wW X e σ H Q
theorem DenW.t {e : Expr} {a b : En} {k : Bool} (h : DenW X β e a k b) : DenT X β e a k b := fun G H ρ σ Q r q => ⟨_, PW.pt pw_w, h G H ρ σ _ r q⟩
/-- the first operand decides -/
theorem denw_short {op : BoolOp} {e e2 : Expr} {es : List Expr} {pos : Pos} {a b : En} {k : Bool} (h : DenT X β e a k b) (hk : k = match op with | .And => false | .Or => true) : DenW X β (.BoolOp op (e :: e2 :: es) pos) a k b := fun G H ρ σ Q r q => by
  cases op with
  | And =>
    have hk : k = false := hk
    subst hk
    exact ⟨_, pw_and pt_w pw_w, h G H ρ σ _ r fun G1 H1 ρ1 f1 r1 => by show Q false H1; exact q G1 H1 ρ1 f1 r1⟩
  | Or =>
    have hk : k = true := hk
    subst hk
    exact ⟨_, pw_or pt_w pw_w, h G H ρ σ _ r fun G1 H1 ρ1 f1 r1 => by show Q true H1; exact q G1 H1 ρ1 f1 r1⟩
theorem denw_on {op : BoolOp} {e e2 : Expr} {es : List Expr} {pos : Pos} {a b c : En} {k k2 : Bool} (h : DenT X β e a k b) (hk : k = match op with | .And => true | .Or => false) (h2 : DenW X β (.BoolOp op (e2 :: es) pos) b k2 c) : DenW X β (.BoolOp op (e :: e2 :: es) pos) a k2 c := fun G H ρ σ Q r q => by
  cases op with
  | And =>
    have hk : k = true := hk
    subst hk
    exact ⟨_, pw_and pt_w pw_w, h G H ρ σ _ r fun G1 H1 ρ1 f1 r1 => by
      show wW X _ σ H1 Q
      exact h2 G1 H1 ρ1 σ Q r1 fun G2 H2 ρ2 f2 r2 => q G2 H2 ρ2 (f1.trans f2) r2⟩
  | Or =>
    have hk : k = false := hk
    subst hk
    exact ⟨_, pw_or pt_w pw_w, h G H ρ σ _ r fun G1 H1 ρ1 f1 r1 => by
      show wW X _ σ H1 Q
      exact h2 G1 H1 ρ1 σ Q r1 fun G2 H2 ρ2 f2 r2 => q G2 H2 ρ2 (f1.trans f2) r2⟩
/-! .. as values that are bools -/
theorem den_bool1 {op : BoolOp} {e : Expr} {pos : Pos} {a b : En} {o : Bool} {d : D} (h : Den X β e a o d b) : Den X β (.BoolOp op [e] pos) a o d b := fun G H ρ σ Q r q => ⟨_, pe_one pe_w, h G H ρ σ _ r q⟩
theorem den_short {op : BoolOp} {e e2 : Expr} {es : List Expr} {pos : Pos} {a b : En} {o : Bool} {d : D} {k : Bool} (h : Den X β e a o d b) (ht : truD d = some k) (hk : k = match op with | .And => false | .Or => true) : Den X β (.BoolOp op (e :: e2 :: es) pos) a o d b := fun G H ρ σ Q r q => by
  cases op with
  | And =>
    have hk : k = false := hk
    subst hk
    exact ⟨_, pe_andT pe_w pe_w, h G H ρ σ _ r fun v G1 H1 ρ1 f1 r1 x1 => ⟨false, tru_of r1.ex (x1.keep .refl) ht, by show Q v H1; exact q v G1 H1 ρ1 f1 r1 x1⟩⟩
  | Or =>
    have hk : k = true := hk
    subst hk
    exact ⟨_, pe_orT pe_w pe_w, h G H ρ σ _ r fun v G1 H1 ρ1 f1 r1 x1 => ⟨true, tru_of r1.ex (x1.keep .refl) ht, by show Q v H1; exact q v G1 H1 ρ1 f1 r1 x1⟩⟩
theorem den_on {op : BoolOp} {e e2 : Expr} {es : List Expr} {pos : Pos} {a b c : En} {o o2 : Bool} {d d2 : D} {k : Bool} (h : Den X β e a o d b) (ht : truD d = some k) (hk : k = match op with | .And => true | .Or => false) (h2 : Den X β (.BoolOp op (e2 :: es) pos) b o2 d2 c) :
    Den X β (.BoolOp op (e :: e2 :: es) pos) a o2 d2 c := fun G H ρ σ Q r q => by
  cases op with
  | And =>
    have hk : k = true := hk
    subst hk
    refine ⟨_, pe_andT pe_w pe_w, h G H ρ σ _ r fun v G1 H1 ρ1 f1 r1 x1 => ⟨true, tru_of r1.ex (x1.keep .refl) ht, ?_⟩⟩
    show wE X _ σ H1 Q
    exact h2 G1 H1 ρ1 σ Q r1 (Kn.at q f1)
  | Or =>
    have hk : k = false := hk
    subst hk
    refine ⟨_, pe_orT pe_w pe_w, h G H ρ σ _ r fun v G1 H1 ρ1 f1 r1 x1 => ⟨false, tru_of r1.ex (x1.keep .refl) ht, ?_⟩⟩
    show wE X _ σ H1 Q
    exact h2 G1 H1 ρ1 σ Q r1 (Kn.at q f1)
theorem den_not {e : Expr} {pos : Pos} {a b : En} {o : Bool} {d : D} {k : Bool} (h : Den X β e a o d b) (ht : truD d = some k) : Den X β (.UnaryOp .Not e pos) a false (.bool (!k)) b := fun G H ρ σ Q r q =>
  ⟨_, pe_notT pe_w, h G H ρ σ _ r fun v G1 H1 ρ1 f1 r1 x1 => ⟨k, tru_of r1.ex (x1.keep .refl) ht, r1.flat (Kn.at q f1) (.bl _)⟩⟩
theorem den_neg {e : Expr} {pos : Pos} {a b : En} {o : Bool} {i : Int} (h : Den X β e a o (.int i) b) : Den X β (.UnaryOp .USub e pos) a false (.int (-i)) b :=
  den_un un_neg h fun G H ρ σ x Q r hx q => by
    cases hx
    exact ⟨i, rfl, r.flat q (.int _)⟩
theorem den_if {t e1 e2 : Expr} {pos : Pos} {a b c : En} {k : Bool} {o : Bool} {d : D} (h : DenT X β t a k b) (h1 : Den X β (if k then e1 else e2) b o d c) : Den X β (.IfExp t e1 e2 pos) a o d c := fun G H ρ σ Q r q => by
  refine ⟨_, pe_ifExp pt_w pe_w pe_w, h G H ρ σ _ r fun G1 H1 ρ1 f1 r1 => ?_⟩
  cases k with
  | true => exact h1 G1 H1 ρ1 σ Q r1 (Kn.at q f1)
  | false => exact h1 G1 H1 ρ1 σ Q r1 (Kn.at q f1)
end
end Fz
set_option Elab.async false
set_option linter.all false
set_option maxRecDepth 100000
set_option maxHeartbeats 4000000
/-! Fz, part G: what is walked: enumerate and zip over lists and tuples, from any count. -/
namespace Fz
open PySem PySem.Spec PyProof.Rows L2

/-! ### a list (true) or a tuple (false) that is read -/
def SqX (K : PySem.W.Frag) (H : Hp) (a : Addr) (xs : List V) : Bool → Prop
  | true => SqL K H a xs
  | false => SqT K H a xs
def isX (h : Heap) (a : Addr) (its : Array Value) : Bool → Prop
  | true => h.IsList a its
  | false => h.IsTuple a its
def itX (h : Heap) (it a : Addr) (i : Nat) : Bool → Prop
  | true => h.IsListIter it a i
  | false => h.IsTupleIter it a i
def obX (a : Addr) : Bool → Obj
  | true => { cls := .type "list_iterator", data := .fields #[.ref a, .int 0 0] }
  | false => { cls := .type "tuple_iterator", data := .fields #[.ref a, .int 0 0] }
section
variable {X : Cx} {pins : List (Addr × Obj)} {σ : L2.St} {H : Hp} {s : Shared} {a : Addr} {xs ys : List V}
theorem seqX (k : Bool) (I : Inv X pins σ H s) (h : SqX X.K H a xs k) : ∃ its : List Value, Vals xs its ∧ isX s.heap a its.toArray k ∧ xs.length ≤ sizeLine := by
  cases k with
  | true => obtain ⟨its, r, p, z⟩ := I.list h; exact ⟨its, r, p.isList, z⟩
  | false => exact I.tuple h
theorem injX (k : Bool) (I : Inv X pins σ H s) (h : SqX X.K H a xs k) (h' : SqX X.K H a ys k) : xs = ys := by
  cases k with
  | true => exact I.list_inj h h'
  | false => exact I.tuple_inj h h'
theorem isX_lt (k : Bool) {h : Heap} {its : Array Value} (p : isX h a its k) : a < h.objs.size := by
  cases k with
  | true => obtain ⟨o, ho, _⟩ := p; exact Heap.lt_size ho
  | false => obtain ⟨o, ho, _⟩ := p; exact Heap.lt_size ho
theorem drawsX {P : Program} {w : World} {A : Around} (k : Bool) (hh : A.handled = none) (it t : Addr) (hne : t ≠ it) (its : Array Value) : Draws P w A it [it, t] its.size (fun i v => its[i]? = some v) (fun i h => itX h it t i k ∧ isX h t its k) := by
  cases k with
  | true => exact Draws.list hh it t hne its
  | false => exact Draws.tuple hh it t hne its
theorem beginsX (k : Bool) (t : Addr) (its : Array Value) : Begins (.ref t) (obX t k) fun h => isX h t its k := by
  cases k with
  | true => exact begins_list t its
  | false => exact begins_tuple t its
theorem itX_new (k : Bool) {h : Heap} {it t : Addr} (e : h.get? it = some (obX t k)) : itX h it t 0 k := by
  cases k with
  | true => exact ⟨_, e, rfl, rfl⟩
  | false => exact ⟨_, e, rfl, rfl⟩
theorem itX_obj (k : Bool) {h : Heap} {it t : Addr} {i : Nat} (e : itX h it t i k) : ∃ o, h.get? it = some o ∧ ∀ v, o.data ≠ .cell v := by
  cases k with
  | true => obtain ⟨o, e, c, d⟩ := e; exact ⟨o, e, fun v z => by rw [d] at z; cases z⟩
  | false => obtain ⟨o, e, c, d⟩ := e; exact ⟨o, e, fun v z => by rw [d] at z; cases z⟩
theorem itX_at (k : Bool) {h h' : Heap} {it t : Addr} {i : Nat} (e : itX h it t i k) (q : ∀ o, h.get? it = some o → h'.get? it = some o) : itX h' it t i k := by
  cases k with
  | true => exact Heap.IsListIter.at e q
  | false => exact Heap.IsTupleIter.at e q
end

/-! ### enumerate(x, c) -/
def IteX (K : PySem.W.Frag) (k : Bool) (a : Addr) (c : Int) (n : Nat) : It :=
  ⟨fun i H => i < n ∧ ∃ xs : List V, SqX K H a xs k ∧ xs.length = n,
   fun i H v H' => ∃ T x, v = .ref T ∧ H T = none ∧ H' = upd H T (.tup [.int (c + (i : Nat)), x]) ∧ ∀ xs, SqX K H a xs k → xs[i]? = some x,
   fun i H => n ≤ i ∧ ∃ xs : List V, SqX K H a xs k ∧ xs.length = n⟩
theorem turn_enumX {P : Program} {w : World} {K : PySem.W.Frag} {elts : List Expr} {kk : Nat} {tpos : Pos} (k : Bool) (a e it : Addr) (c : Int) (n : Nat) (hei : e ≠ it) (hea : e ≠ a) (hai : a ≠ it) :
    Turn P w K (.Tuple elts kk tpos) (IteX K k a c n) [e, it] e (fun i h => i ≤ n ∧ (∃ old, IsEnum h e it (c + (i : Nat)) old) ∧ itX h it a i k) where
  mem := by simp
  obj := fun i h st b hb => by
    obtain ⟨_, ⟨old, he⟩, hit⟩ := st
    rcases List.mem_cons.mp hb with rfl | hb
    · exact ⟨_, he, fun v q => nomatch q⟩
    · rw [List.mem_singleton.mp hb]; exact itX_obj k hit
  keep := fun i h h' st q => let ⟨hn, ⟨old, he⟩, hit⟩ := st; ⟨hn, ⟨old, q e (by simp) _ he⟩, itX_at k hit fun o z => q it (by simp) o z⟩
  item := by
    intro X hP hw hK hc i pins s σ H E I hf st hg
    subst hP hw hK
    obtain ⟨_, ⟨old, he⟩, hit⟩ := st
    obtain ⟨hlt, xs, hq, hl⟩ := hg
    obtain ⟨its, rv, p, _⟩ := seqX k I hq
    have hl' := rv.length
    have W := WalksT.enumFrom (A := X.A) c (drawsX (P := X.prog) (w := X.w) (A := X.A.in1) k (I.ok.hd hc) it a hai its.toArray) e hei (by simp [hei, hea]) (by simp)
    refine W.item i s _ E (by rw [List.size_toArray]; omega) ⟨⟨old, he⟩, hit, p⟩ fun T vals h' tk hP hT hTup hMid hk => ?_
    refine ⟨_, rfl, W.go elts kk tpos i T _ _ E hMid fun h'' hSt hk2 => ?_⟩
    obtain ⟨t, u, hu, rfl⟩ := hP
    have hxs : i < xs.length := by omega
    obtain ⟨u', hu', ru⟩ := rv.get (List.getElem?_eq_getElem hxs)
    have hu0 : its[i]? = some u := by simpa using hu
    rw [hu'] at hu0
    cases hu0
    have hTup2 : h''.IsTuple T #[.int (c + (i : Int)) t, u] := by
      obtain ⟨o, h1, h2, h3⟩ := hTup
      exact ⟨o, hk2 T o (W.apart i T h' hMid) h1, h2, h3⟩
    have keep : ∀ b o, b ∉ [e, it] → s.heap.get? b = some o → h''.get? b = some o := fun b o hb z => hk2 b o hb (hk b o hb z)
    have I1 : Inv X pins σ (upd H T (.tup [.int (c + (i : Nat)), xs[i]])) { s with heap := h'', toks := tk } :=
      I.turnedNew keep hf hT ⟨by show 2 ≤ sizeLine; decide, [.int (c + (i : Int)) t, u], .cons ⟨_, rfl⟩ (.cons ru .nil), hTup2⟩
    refine ⟨.ref T, _, I1, rfl, ⟨T, xs[i], rfl, I.hok.fresh hT, rfl, fun ys hy => by rw [injX k I hy hq]; exact List.getElem?_eq_getElem hxs⟩, ⟨hlt, hSt.1, hSt.2.1⟩, fun b hb => ?_⟩
    have hbn := (hf b hb).1
    rw [upd_ne fun z => ?_]
    · exact hbn
    · exact W.apart i T h' hMid (z ▸ hb)
  done := by
    intro X hP hw hK hc i pins s σ H E I hf st hg
    subst hP hw hK
    obtain ⟨hle, ⟨old, he⟩, hit⟩ := st
    obtain ⟨hge, xs, hq, hl⟩ := hg
    have e1 : i = n := by omega
    subst e1
    obtain ⟨its, rv, p, _⟩ := seqX k I hq
    have hl' := rv.length
    have W := WalksT.enumFrom (A := X.A) c (drawsX (P := X.prog) (w := X.w) (A := X.A.in1) k (I.ok.hd hc) it a hai its.toArray) e hei (by simp [hei, hea]) (by simp)
    have e2 : its.toArray.size = i := by rw [List.size_toArray]; omega
    refine W.done s _ E (by rw [e2]; exact ⟨⟨old, he⟩, hit, p⟩) fun h' tk hk => ⟨rfl, I.turnedL hk hf⟩
  self := fun A i s Q E st h => let ⟨_, ⟨_, he⟩, _⟩ := st; wpAny_pyIter_enum he h
def iEnumX (K : PySem.W.Frag) (k : Bool) (ta : TA) : TI := fun σ H RR => ta σ H fun vs H1 => ∃ a c xs, vs = [.ref a, .int c] ∧ SqX K H1 a xs k ∧ -(2 ^ 63) ≤ c ∧ c < 2 ^ 63 ∧ RR (IteX K k a c xs.length) H1
theorem pi_enumX {X : Cx} {e e2 : Expr} {ta : TA} {p pos tpos : Pos} {elts : List Expr} {kk : Nat} (k : Bool) (hg : Gl X "enumerate") (hm : X.mg "enumerate" = none) (ha : PA X [e, e2] ta) (hs : starEach [e, e2] X.env = (false, eval e X.env) :: starEach [e2] X.env)
    (hpl : (backTo pos (starEach [e2] X.env)).any (·.1) = false) : PI X (.Tuple elts kk tpos) (.Call (.Name "enumerate" p) [e, e2] [] pos) (iEnumX X.K k ta) := by
  refine ⟨fun pins s σ H RR I h => ?_⟩
  refine Call_ (ld_blt I hg hm boot_enumerate (PyProof.Rows.callWith_type1 (thn (ha.run pos pins s σ H _ I h) fun us s1 ⟨vs, H1, I1, r1, q1⟩ => ?_) hs hpl))
  obtain ⟨a, c, xs, rfl, hq, c1, c2, q⟩ := q1
  obtain ⟨u1, u2, rfl, ru1, ru2⟩ := Vals.two r1
  cases ru1
  obtain ⟨t, rfl⟩ := ru2
  obtain ⟨its, rv, p', hz⟩ := seqX k I1 hq
  have la := isX_lt k p'
  refine enum_begins (beginsX k a its.toArray) p' c1 c2 fun h' he hob hsz hk => wpAny_pyIter_enum he ?_
  have I2 : Inv X pins σ H1 { s1 with heap := h' } := I1.kept (t' := s1.toks) hk
  refine ⟨s1.heap.objs.size + 1, [s1.heap.objs.size + 1, s1.heap.objs.size], _, _, H1, rfl, I2,
    turn_enumX k a (s1.heap.objs.size + 1) s1.heap.objs.size c xs.length (Nat.succ_ne_self _) (Nat.ne_of_gt (Nat.lt_succ_of_lt la)) (Nat.ne_of_lt la), ⟨Nat.zero_le _, ⟨.none, by rw [show c + ((0 : Nat) : Int) = c by omega]; exact he⟩, itX_new k hob⟩, fun b hb => ?_, q⟩
  have hle : s1.heap.objs.size ≤ b := by
    rcases List.mem_cons.mp hb with rfl | hb
    · exact Nat.le_succ _
    · rw [List.mem_singleton.mp hb]; exact Nat.le_refl _
  exact I1.fpOk hle (I1.hok.fresh hle)
/-! ### zip(x, y) -/
def ItzX (K : PySem.W.Frag) (k1 k2 : Bool) (a b : Addr) (n m : Nat) : It :=
  ⟨fun i H => i < min n m ∧ ∃ xs ys : List V, SqX K H a xs k1 ∧ SqX K H b ys k2 ∧ xs.length = n ∧ ys.length = m,
   fun i H v H' => ∃ T x y, v = .ref T ∧ H T = none ∧ H' = upd H T (.tup [x, y]) ∧ (∀ xs, SqX K H a xs k1 → xs[i]? = some x) ∧ ∀ ys, SqX K H b ys k2 → ys[i]? = some y,
   fun i H => min n m ≤ i ∧ ∃ xs ys : List V, SqX K H a xs k1 ∧ SqX K H b ys k2 ∧ xs.length = n ∧ ys.length = m⟩
structure Apart (z TI TO i1 i2 a b : Addr) : Prop where
  S : ZipSep2 z TI TO i1 i2 [i1, a] [i2, b]
  a1 : a ≠ i1
  b2 : b ≠ i2
theorem turn_zipX {P : Program} {w : World} {K : PySem.W.Frag} {elts : List Expr} {kk : Nat} {tpos : Pos} (k1 k2 : Bool) {z TI TO i1 i2 a b : Addr} (n m : Nat) (D : Apart z TI TO i1 i2 a b) :
    Turn P w K (.Tuple elts kk tpos) (ItzX K k1 k2 a b n m) [z, TI, TO, i1, i2] z (fun i h => i ≤ min n m ∧ IsZip h z TI TO .none ∧ IsTupOf2 h TI (.ref i1) (.ref i2) ∧ (∃ x y, IsTupOf2 h TO x y) ∧ itX h i1 a i k1 ∧ itX h i2 b i k2) where
  mem := by simp
  obj := fun i h st c hc => by
    obtain ⟨_, hz, hTI, ⟨x, y, hTO⟩, h1, h2⟩ := st
    simp only [List.mem_cons, List.not_mem_nil, or_false] at hc
    rcases hc with rfl | rfl | rfl | rfl | rfl
    · exact ⟨_, hz, fun v q => nomatch q⟩
    · exact ⟨_, hTI, fun v q => nomatch q⟩
    · exact ⟨_, hTO, fun v q => nomatch q⟩
    · exact itX_obj k1 h1
    · exact itX_obj k2 h2
  keep := fun i h h' st q => by
    obtain ⟨hn, hz, hTI, ⟨x, y, hTO⟩, h1, h2⟩ := st
    exact ⟨hn, q z (by simp) _ hz, q TI (by simp) _ hTI, ⟨x, y, q TO (by simp) _ hTO⟩, itX_at k1 h1 fun o e => q i1 (by simp) o e, itX_at k2 h2 fun o e => q i2 (by simp) o e⟩
  item := by
    intro X hP hw hK hc i pins s σ H E I hf st hg
    subst hP hw hK
    obtain ⟨_, hz, hTI, hTO, h1, h2⟩ := st
    obtain ⟨hlt, xs, ys, hqx, hqy, lx, ly⟩ := hg
    obtain ⟨its1, rv1, p1, _⟩ := seqX k1 I hqx
    obtain ⟨its2, rv2, p2, _⟩ := seqX k2 I hqy
    have l1 := rv1.length
    have l2 := rv2.length
    have W := WalksT.zipD2 (A := X.A) D.S (drawsX (P := X.prog) (w := X.w) (A := X.A.in1) k1 (I.ok.hd hc) i1 a D.a1 its1.toArray) (drawsX (P := X.prog) (w := X.w) (A := X.A.in1) k2 (I.ok.hd hc) i2 b D.b2 its2.toArray)
    refine W.item i s _ E (by rw [List.size_toArray, List.size_toArray]; omega) ⟨hz, hTI, hTO, ⟨h1, p1⟩, ⟨h2, p2⟩⟩ fun T vals h' tk hP hT hTup hMid hk => ?_
    refine ⟨_, rfl, W.go elts kk tpos i T _ _ E hMid fun h'' hSt hk2 => ?_⟩
    obtain ⟨u1, u2, hu1, hu2, rfl⟩ := hP
    have hx : i < xs.length := by omega
    have hy : i < ys.length := by omega
    obtain ⟨w1, e1, r1⟩ := rv1.get (List.getElem?_eq_getElem hx)
    obtain ⟨w2, e2, r2⟩ := rv2.get (List.getElem?_eq_getElem hy)
    have f1 : its1[i]? = some u1 := by simpa using hu1
    have f2 : its2[i]? = some u2 := by simpa using hu2
    rw [e1] at f1
    rw [e2] at f2
    obtain rfl : w1 = u1 := Option.some.inj f1
    obtain rfl : w2 = u2 := Option.some.inj f2
    have hTup2 : h''.IsTuple T #[w1, w2] := by
      obtain ⟨o, g1, g2, g3⟩ := hTup
      exact ⟨o, hk2 T o (W.apart i T h' hMid) g1, g2, g3⟩
    have sub : ∀ c, c ∉ [z, TI, TO, i1, i2] → c ∉ [z, TO, i1, i2] := fun c hn hm => hn (by
      simp only [List.mem_cons, List.not_mem_nil, or_false] at hm ⊢
      rcases hm with q | q | q | q <;> simp [q])
    have keep : ∀ c o, c ∉ [z, TI, TO, i1, i2] → s.heap.get? c = some o → h''.get? c = some o := fun c o hb q => hk2 c o (sub c hb) (hk c o (sub c hb) q)
    have I1 : Inv X pins σ (upd H T (.tup [xs[i], ys[i]])) { s with heap := h'', toks := tk } :=
      I.turnedNew keep hf hT ⟨by show 2 ≤ sizeLine; decide, [w1, w2], .cons r1 (.cons r2 .nil), hTup2⟩
    refine ⟨.ref T, _, I1, rfl, ⟨T, xs[i], ys[i], rfl, I.hok.fresh hT, rfl, fun l hy => by rw [injX k1 I hy hqx]; exact List.getElem?_eq_getElem hx, fun l hl => by rw [injX k2 I hl hqy]; exact List.getElem?_eq_getElem hy⟩,
      ⟨hlt, hSt.1, hSt.2.1, hSt.2.2.1, hSt.2.2.2.1.1, hSt.2.2.2.2.1⟩, fun c hcm => ?_⟩
    have hlT : c < s.heap.objs.size := by
      simp only [List.mem_cons, List.not_mem_nil, or_false] at hcm
      rcases hcm with q | q | q | q | q
      · rw [q]; exact Heap.lt_size hz
      · rw [q]; exact Heap.lt_size hTI
      · rw [q]; obtain ⟨x, y, hTO⟩ := hTO; exact Heap.lt_size hTO
      · rw [q]; obtain ⟨o, h, _⟩ := itX_obj k1 h1; exact Heap.lt_size h
      · rw [q]; obtain ⟨o, h, _⟩ := itX_obj k2 h2; exact Heap.lt_size h
    rw [upd_ne (Nat.ne_of_lt (Nat.lt_of_lt_of_le hlT hT))]
    exact (hf c hcm).1
  done := by
    intro X hP hw hK hc i pins s σ H E I hf st hg
    subst hP hw hK
    obtain ⟨hle, hz, hTI, hTO, h1, h2⟩ := st
    obtain ⟨hge, xs, ys, hqx, hqy, lx, ly⟩ := hg
    have e1 : i = min n m := by omega
    obtain ⟨its1, rv1, p1, _⟩ := seqX k1 I hqx
    obtain ⟨its2, rv2, p2, _⟩ := seqX k2 I hqy
    have l1 := rv1.length
    have l2 := rv2.length
    have W := WalksT.zipD2 (A := X.A) D.S (drawsX (P := X.prog) (w := X.w) (A := X.A.in1) k1 (I.ok.hd hc) i1 a D.a1 its1.toArray) (drawsX (P := X.prog) (w := X.w) (A := X.A.in1) k2 (I.ok.hd hc) i2 b D.b2 its2.toArray)
    have e2 : min its1.toArray.size its2.toArray.size = i := by rw [List.size_toArray, List.size_toArray]; omega
    have sub : ∀ c, c ∉ [z, TI, TO, i1, i2] → c ∉ [z, TO, i1, i2] := fun c hn hm => hn (by
      simp only [List.mem_cons, List.not_mem_nil, or_false] at hm ⊢
      rcases hm with q | q | q | q <;> simp [q])
    exact W.done s _ E (by rw [e2]; exact ⟨hz, hTI, hTO, ⟨h1, p1⟩, ⟨h2, p2⟩⟩) fun h' tk hk => ⟨rfl, I.turnedL (fun c o hb q => hk c o (sub c hb) q) hf⟩
  self := fun A i s Q E st h => wpAny_pyIter_zip st.2.1 h
def iZipX (K : PySem.W.Frag) (k1 k2 : Bool) (ta : TA) : TI := fun σ H RR => ta σ H fun vs H1 => ∃ a b xs ys, vs = [.ref a, .ref b] ∧ SqX K H1 a xs k1 ∧ SqX K H1 b ys k2 ∧ RR (ItzX K k1 k2 a b xs.length ys.length) H1
theorem pi_zipX {X : Cx} {e e2 : Expr} {ta : TA} {p pos tpos : Pos} {elts : List Expr} {kk : Nat} (k1 k2 : Bool) (hg : Gl X "zip") (hm : X.mg "zip" = none) (ha : PA X [e, e2] ta) (hs : starEach [e, e2] X.env = (false, eval e X.env) :: starEach [e2] X.env)
    (hpl : (backTo pos (starEach [e2] X.env)).any (·.1) = false) : PI X (.Tuple elts kk tpos) (.Call (.Name "zip" p) [e, e2] [] pos) (iZipX X.K k1 k2 ta) := by
  refine ⟨fun pins s σ H RR I h => ?_⟩
  refine Call_ (ld_blt I hg hm PyProof.Rows.boot_zip (PyProof.Rows.callWith_type1 (thn (ha.run pos pins s σ H _ I h) fun us s1 ⟨vs, H1, I1, r1, q1⟩ => ?_) hs hpl))
  obtain ⟨a, b, xs, ys, rfl, hqx, hqy, q⟩ := q1
  obtain ⟨u1, u2, rfl, ru1, ru2⟩ := Vals.two r1
  cases ru1
  cases ru2
  obtain ⟨its1, rv1, p1, _⟩ := seqX k1 I1 hqx
  obtain ⟨its2, rv2, p2, _⟩ := seqX k2 I1 hqy
  have la := isX_lt k1 p1
  have lb := isX_lt k2 p2
  refine zip_begins2 (beginsX k1 a its1.toArray) (beginsX k2 b its2.toArray) p1 p2 fun h' hz hTI hTO h1 h2 hsz hk => wpAny_pyIter_zip hz ?_
  have I2 : Inv X pins σ H1 { s1 with heap := h' } := I1.kept (t' := s1.toks) hk
  have ap : Apart (s1.heap.objs.size + 4) (s1.heap.objs.size + 2) (s1.heap.objs.size + 3) s1.heap.objs.size (s1.heap.objs.size + 1) a b :=
    ⟨zip_sep2 (fun c hc => by rw [List.mem_singleton.mp hc]; exact la) (fun c hc => by rw [List.mem_singleton.mp hc]; exact lb), Nat.ne_of_lt la, Nat.ne_of_lt (Nat.lt_succ_of_lt lb)⟩
  refine ⟨s1.heap.objs.size + 4, [s1.heap.objs.size + 4, s1.heap.objs.size + 2, s1.heap.objs.size + 3, s1.heap.objs.size, s1.heap.objs.size + 1], _, _, H1, rfl, I2, turn_zipX k1 k2 xs.length ys.length ap, ⟨Nat.zero_le _, hz, hTI, ⟨_, _, hTO⟩, itX_new k1 h1, itX_new k2 h2⟩, fun c hcm => ?_, q⟩
  have hle : s1.heap.objs.size ≤ c := by
    simp only [List.mem_cons, List.not_mem_nil, or_false] at hcm
    rcases hcm with q | q | q | q | q <;> rw [q]
    · exact Nat.le_add_right _ _
    · exact Nat.le_add_right _ _
    · exact Nat.le_add_right _ _
    · exact Nat.le_refl _
    · exact Nat.le_add_right _ _
  exact I1.fpOk hle (I1.hok.fresh hle)
end Fz
set_option Elab.async false
set_option linter.all false
set_option maxRecDepth 100000
set_option maxHeartbeats 4000000
/-! Fz, part H: what is walked, as a list of data. -/
namespace Fz
open PySem PySem.Spec PyProof.Rows L2 AutoSeq1

/-! ### enumerate(x) of a list or a tuple -/
theorem enum_new_one {v : Value} {o : Obj} {P : Heap → Prop} (B : Begins v o P) :
    Meets (Builtin.«enumerate.__new__» ⟨[.type "enumerate", v], []⟩) (fun _ RR s => P s.heap ∧
      RR (.ok (.ret (.ref (s.heap.push o).objs.size))) { s with heap := (s.heap.push o).push { cls := .type "enumerate", data := .fields #[.none, .bool false, .ref s.heap.objs.size, rawInt 0, .none, .none] } }) :=
  .of_wp fun prog w A RR s h => by
    obtain ⟨hp, g, d, tk, os⟩ := s
    obtain ⟨h1, h⟩ := h
    have hsub := sub_enumerate
    have q1 : ∀ {A' : Around} {E : Value → Shared → Prop} {Q : Value → Shared → Prop}, Q (.ref hp.objs.size) ⟨hp.push o, g, d, tk, os⟩ → wpAny (model prog w) A' (pyIter v) Q E ⟨hp, g, d, tk, os⟩ :=
      fun q => B.iter prog w _ _ ⟨hp, g, d, tk, os⟩ _ h1 q
    wp_walk using q1
    refine wpAny_stack_any fun st => wpAny_pure ?_
    split
    · rename_i c _ _ _ _ _
      cases (c == Value.type "enumerate") <;> (wp_walk using q1) <;> exact ⟨_, rfl, h⟩
    · wp_walk using q1
      exact ⟨_, rfl, h⟩
theorem enum_one {prog : Program} {w : World} {A : Around} {E : Value → Shared → Prop} {s : Shared} {v : Value} {o : Obj} {P : Heap → Prop} {Q : Value → Shared → Prop} (B : Begins v o P) (h1 : P s.heap)
    (h : ∀ h', IsEnum h' (s.heap.objs.size + 1) s.heap.objs.size 0 .none → h'.get? s.heap.objs.size = some o → h'.objs.size = s.heap.objs.size + 2 →
      (∀ b o, s.heap.get? b = some o → h'.get? b = some o) → Q (.ref (s.heap.objs.size + 1)) { s with heap := h' }) :
    wpAny (model prog w) A (call (.type "enumerate") [v]) Q E s := by
  refine callType_new F.called_enumerate (by decide) (F.typeCall_enumerate_1 _) (F.newCall_enumerate_1 _) (fun obj => F.args_object_init_2 obj _) F.entry_enumerate_new (enum_new_one B) ⟨h1, ?_⟩
  have hz : (s.heap.push o).objs.size = s.heap.objs.size + 1 := Heap.size_push ..
  show _ ∧ _
  rw [hz]
  have he := Heap.get?_push_size (s.heap.push o) (o := { cls := .type "enumerate", data := .fields #[.none, .bool false, .ref s.heap.objs.size, rawInt 0, .none, .none] }) rfl
  rw [hz] at he
  exact ⟨⟨_, he, rfl⟩, h _ he (Heap.get?_push_of_some _ (Heap.get?_push_size _ B.free)) (by rw [Heap.size_push, hz]) fun b o x => Heap.get?_push_of_some _ (Heap.get?_push_of_some _ x)⟩
def iEnum1 (K : PySem.W.Frag) (k : Bool) (ta : TA) : TI := fun σ H RR => ta σ H fun vs H1 => ∃ a xs, vs = [.ref a] ∧ SqX K H1 a xs k ∧ RR (IteX K k a 0 xs.length) H1
theorem pi_enum1 {X : Cx} {e : Expr} {ta : TA} {p pos tpos : Pos} {elts : List Expr} {kk : Nat} (k : Bool) (hg : Gl X "enumerate") (hm : X.mg "enumerate" = none) (ha : PA X [e] ta) (hs : starEach [e] X.env = (false, eval e X.env) :: starEach [] X.env) :
    PI X (.Tuple elts kk tpos) (.Call (.Name "enumerate" p) [e] [] pos) (iEnum1 X.K k ta) := by
  refine ⟨fun pins s σ H RR I h => ?_⟩
  refine Call_ (ld_blt I hg hm boot_enumerate (PyProof.Rows.callWith_type1 (thn (ha.run pos pins s σ H _ I h) fun us s1 ⟨vs, H1, I1, r1, q1⟩ => ?_) hs rfl))
  obtain ⟨a, xs, rfl, hq, q⟩ := q1
  obtain ⟨u1, rfl, ru1⟩ := Vals.one r1
  cases ru1
  obtain ⟨its, rv, p', hz⟩ := seqX k I1 hq
  have la := isX_lt k p'
  refine enum_one (beginsX k a its.toArray) p' fun h' he hob hsz hk => wpAny_pyIter_enum he ?_
  have I2 : Inv X pins σ H1 { s1 with heap := h' } := I1.kept (t' := s1.toks) hk
  refine ⟨s1.heap.objs.size + 1, [s1.heap.objs.size + 1, s1.heap.objs.size], _, _, H1, rfl, I2,
    turn_enumX k a (s1.heap.objs.size + 1) s1.heap.objs.size 0 xs.length (Nat.succ_ne_self _) (Nat.ne_of_gt (Nat.lt_succ_of_lt la)) (Nat.ne_of_lt la), ⟨Nat.zero_le _, ⟨.none, by rw [show (0 : Int) + ((0 : Nat) : Int) = 0 by omega]; exact he⟩, itX_new k hob⟩, fun b hb => ?_, q⟩
  have hle : s1.heap.objs.size ≤ b := by
    rcases List.mem_cons.mp hb with rfl | hb
    · exact Nat.le_succ _
    · rw [List.mem_singleton.mp hb]; exact Nat.le_refl _
  exact I1.fpOk hle (I1.hok.fresh hle)

end Fz
set_option Elab.async false
set_option linter.all false
set_option maxRecDepth 100000
set_option maxHeartbeats 4000000
/-! Fz, part I: what is walked, as a list of data; loops and comprehensions. -/
namespace Fz
open PySem PySem.Spec PyProof.Rows L2

/-! ### a walk over data -/
structure Wk (K : PySem.W.Frag) (J : It) (ds : List D) (G : Hp) : Prop where
  stop : ∀ i G1 H, Ex G G1 → Ex G1 H → i = ds.length → J.stop i H
  go : ∀ i G1 H, Ex G G1 → Ex G1 H → i < ds.length → J.go i H
  yld : ∀ i d G1 H x H', Ex G G1 → Ex G1 H → ds[i]? = some d → J.yld i H x H' →
    (H' = H ∧ Rp K G1 x d) ∨ ∃ T vs l, x = .ref T ∧ H T = none ∧ H' = upd H T (.tup vs) ∧ d = .tuple l ∧ Rps K G1 vs l
def DenI (X : Cx) (β : Option Addr) (tg it : Expr) (a : En) (ds : List D) (b : En) : Prop :=
  ∀ (G H : Hp) (ρ : Own) (σ : L2.St) (Q : It → Hp → Prop), R X.K β G H ρ σ a →
    (∀ J G' H' ρ', Fr G H ρ G' H' ρ' → R X.K β G' H' ρ' σ b → Wk X.K J ds G' → Q J H') → wI X tg it σ H Q
section
variable {X : Cx} {β : Option Addr} {K : PySem.W.Frag} {G : Hp}
def seqD : D → Option (Bool × List D)
  | .list l => some (true, l)
  | .tuple l => some (false, l)
  | _ => none
theorem seq_rp {v : V} {d : D} {k : Bool} {l : List D} (h : Rp K G v d) (e : seqD d = some (k, l)) : ∃ a vs, v = .ref a ∧ Rps K G vs l ∧ SqX K G a vs k := by
  cases h with
  | lst h1 h2 => cases e; exact ⟨_, _, rfl, h2, .inl h1⟩
  | tup h1 h2 => cases e; exact ⟨_, _, rfl, h2, h1⟩
  | _ => cases e
theorem sqx_mono {H : Hp} {a : Addr} {vs : List V} (e : Ex G H) : ∀ {k : Bool}, SqX K G a vs k → SqX K H a vs k
  | true, h => Evl.ex_l e h
  | false, h => Evl.ex_t e h
theorem wk_seq {a : Addr} {vs : List V} {l : List D} (k : Bool) (h : SqX K G a vs k) (r : Rps K G vs l) : Wk K (if k then Itl K a else Itt K a) l G := by
  have key : ∀ {i : Nat} {d : D} {G1 : Hp}, Ex G G1 → l[i]? = some d → ∃ v, vs[i]? = some v ∧ Rp K G1 v d := fun e q => by
    obtain ⟨v, h1, h2⟩ := r.get q
    exact ⟨v, h1, h2.mono e⟩
  cases k with
  | true =>
    refine ⟨fun i G1 H e1 e2 hi => ⟨vs, sqx_mono (k := true) (e1.trans e2) h, by rw [r.length, hi]; exact Nat.le_refl _⟩, fun i G1 H e1 e2 hi => ?_, fun i d G1 H x H' e1 e2 hd hy => ?_⟩
    · have : i < vs.length := by rw [r.length]; exact hi
      exact ⟨vs, vs[i], sqx_mono (k := true) (e1.trans e2) h, List.getElem?_eq_getElem this⟩
    · obtain ⟨rfl, hy⟩ := hy
      obtain ⟨v, h1, h2⟩ := key e1 hd
      have := hy vs (sqx_mono (k := true) (e1.trans e2) h)
      rw [h1] at this
      cases this
      exact .inl ⟨rfl, h2⟩
  | false =>
    refine ⟨fun i G1 H e1 e2 hi => ⟨vs, sqx_mono (k := false) (e1.trans e2) h, by rw [r.length, hi]; exact Nat.le_refl _⟩, fun i G1 H e1 e2 hi => ?_, fun i d G1 H x H' e1 e2 hd hy => ?_⟩
    · have : i < vs.length := by rw [r.length]; exact hi
      exact ⟨vs, vs[i], sqx_mono (k := false) (e1.trans e2) h, List.getElem?_eq_getElem this⟩
    · obtain ⟨rfl, hy⟩ := hy
      obtain ⟨v, h1, h2⟩ := key e1 hd
      have := hy vs (sqx_mono (k := false) (e1.trans e2) h)
      rw [h1] at this
      cases this
      exact .inl ⟨rfl, h2⟩
theorem deni_seq {tg e : Expr} {a b : En} {o k : Bool} {d : D} {l : List D} (h : Den X β e a o d b) (hk : seqD d = some (k, l)) : DenI X β tg e a l b := by
  intro G H ρ σ Q r q
  cases k with
  | true =>
    refine ⟨_, pi_list pe_w, h.fz G H ρ σ _ r fun v G1 H1 ρ1 f1 r1 x1 => ?_⟩
    obtain ⟨p, vs, rfl, h1, h2⟩ := seq_rp (show Rp X.K G1 v d from x1) hk
    exact ⟨p, rfl, ⟨vs, sqx_mono (k := true) r1.ex h2⟩, q _ G1 H1 ρ1 f1 r1 (wk_seq true h2 h1)⟩
  | false =>
    refine ⟨_, pi_tup pe_w, h.fz G H ρ σ _ r fun v G1 H1 ρ1 f1 r1 x1 => ?_⟩
    obtain ⟨p, vs, rfl, h1, h2⟩ := seq_rp (show Rp X.K G1 v d from x1) hk
    exact ⟨p, rfl, ⟨vs, sqx_mono (k := false) r1.ex h2⟩, q _ G1 H1 ρ1 f1 r1 (wk_seq false h2 h1)⟩
def strD (x : Str) : List D := x.cps.toList.map fun c => .str ⟨#[c]⟩
theorem deni_str {tg e : Expr} {a b : En} {o : Bool} {x : Str} (h : Den X β e a o (.str x) b) : DenI X β tg e a (strD x) b := by
  intro G H ρ σ Q r q
  refine ⟨_, pi_str pe_w, h.fz G H ρ σ _ r fun v G1 H1 ρ1 f1 r1 x1 => ?_⟩
  cases (show Rp X.K G1 v (.str x) from x1)
  refine ⟨x, rfl, q _ G1 H1 ρ1 f1 r1 ⟨fun i G2 H2 e1 e2 hi => ?_, fun i G2 H2 e1 e2 hi => ?_, fun i d G2 H2 y H' e1 e2 hd hy => ?_⟩⟩
  · show x.cps.size ≤ i
    rw [hi]; simp [strD]
  · show i < x.cps.size
    simpa [strD] using hi
  · obtain ⟨rfl, c, hc, rfl⟩ := hy
    have : (strD x)[i]? = some (.str ⟨#[c]⟩) := by
      unfold strD
      rw [List.getElem?_map, Array.getElem?_toList, hc]
      rfl
    rw [this] at hd
    cases hd
    exact .inl ⟨rfl, .str _⟩
/-! ranges -/
def rngD (lo : Int) (n : Nat) : List D := (List.range n).map fun (i : Nat) => .int (lo + (i : Int))
theorem rngD_len (lo : Int) (n : Nat) : (rngD lo n).length = n := by simp [rngD]
theorem rngD_get {lo : Int} {n i : Nat} {d : D} (h : (rngD lo n)[i]? = some d) : d = .int (lo + (i : Int)) := by
  unfold rngD at h
  rw [List.getElem?_map] at h
  cases z : (List.range n)[i]? with
  | none => rw [z] at h; cases h
  | some j =>
    rw [z] at h
    cases h
    have := List.getElem?_eq_some_iff.mp z
    obtain ⟨h1, h2⟩ := this
    rw [List.getElem_range] at h2
    rw [h2]
theorem wk_rng {lo : Int} {n : Nat} : Wk K (Itr lo n) (rngD lo n) G := by
  refine ⟨fun i G1 H e1 e2 hi => ?_, fun i G1 H e1 e2 hi => ?_, fun i d G1 H x H' e1 e2 hd hy => ?_⟩
  · show n ≤ i
    rw [hi, rngD_len]; exact Nat.le_refl _
  · show i < n
    rw [rngD_len] at hi; exact hi
  · obtain ⟨rfl, rfl⟩ := hy
    rw [rngD_get hd]
    exact .inl ⟨rfl, .int _⟩
def b62 (i : Int) : Bool := decide (-(2 ^ 62) ≤ i) && decide (i < 2 ^ 62)
theorem b62_ok {i : Int} (h : b62 i = true) : -(2 ^ 62) ≤ i ∧ i < 2 ^ 62 := by
  unfold b62 at h
  rw [Bool.and_eq_true, decide_eq_true_eq, decide_eq_true_eq] at h
  exact h
theorem deni_rng1 {tg e : Expr} {p pos : Pos} {a b : En} {i : Int} (hs : isStar e = false) (hg : Gl X "range") (hm : X.mg "range" = none) (h : DenA X β [e] a [.int i] b) (hi : b62 i = true) : DenI X β tg (.Call (.Name "range" p) [e] [] pos) a (rngD 0 i.toNat) b := by
  intro G H ρ σ Q r q
  refine ⟨_, pi_range1 hg hm pa_w (star_ok hs), h G H ρ σ _ r fun vs G1 H1 ρ1 f1 r1 x1 => ?_⟩
  obtain ⟨v, rfl, h1⟩ := rps1 x1
  cases h1
  exact ⟨i, rfl, (b62_ok hi).1, (b62_ok hi).2, q _ G1 H1 ρ1 f1 r1 wk_rng⟩
theorem deni_rng2 {tg e e2 : Expr} {p pos : Pos} {a b : En} {i j : Int} (hs : isStar e = false) (hs2 : isStar e2 = false) (hg : Gl X "range") (hm : X.mg "range" = none) (h : DenA X β [e, e2] a [.int i, .int j] b) (hi : b62 i = true) (hj : b62 j = true) :
    DenI X β tg (.Call (.Name "range" p) [e, e2] [] pos) a (rngD i (j - i).toNat) b := by
  intro G H ρ σ Q r q
  refine ⟨_, pi_range2 hg hm pa_w (by rw [star_ok hs, star_ok hs2]; rfl) (star_ok hs2), h G H ρ σ _ r fun vs G1 H1 ρ1 f1 r1 x1 => ?_⟩
  obtain ⟨v, w, rfl, h1, h2⟩ := rps2 x1
  cases h1
  cases h2
  exact ⟨i, j, rfl, ⟨(b62_ok hi).1, (b62_ok hi).2, (b62_ok hj).1, (b62_ok hj).2⟩, q _ G1 H1 ρ1 f1 r1 wk_rng⟩

theorem deni_rng3 {tg e e2 e3 : Expr} {p pos : Pos} {a b : En} {i j : Int} (hs : [e, e2, e3].all (fun e => !isStar e) = true) (hg : Gl X "range") (hm : X.mg "range" = none) (h : DenA X β [e, e2, e3] a [.int i, .int j, .int (-1)] b) (hi : b62 i = true) (hj : b62 j = true) :
    DenI X β tg (.Call (.Name "range" p) [e, e2, e3] [] pos) a (((List.range (i - j).toNat).map fun (m : Nat) => .int (i - (m : Int)))) b := by
  intro G H ρ σ Q r q
  have hs1 := hs
  rw [List.all_cons, Bool.and_eq_true] at hs
  refine ⟨_, pi_range3 hg hm pa_w (star_ok (by simpa using hs.1)) (stars_ok hs.2), h G H ρ σ _ r fun vs G1 H1 ρ1 f1 r1 x1 => ?_⟩
  cases x1 with
  | cons h1 x1 =>
    obtain ⟨v, w, rfl, h2, h3⟩ := rps2 x1
    cases h1
    cases h2
    cases h3
    refine ⟨i, j, -1, (i - j).toNat, rfl, RgC.neg (b62_ok hi).1 (b62_ok hi).2 (b62_ok hj).1 (b62_ok hj).2, q _ G1 H1 ρ1 f1 r1 ⟨fun m G1 H e1 e2 hm => ?_, fun m G1 H e1 e2 hm => ?_, fun m d G1 H x H' e1 e2 hd hy => ?_⟩⟩
    · show _ ≤ m
      rw [hm]; simp
    · show m < _
      simpa using hm
    · obtain ⟨rfl, rfl⟩ := hy
      rw [List.getElem?_map] at hd
      cases z : (List.range (i - j).toNat)[m]? with
      | none => rw [z] at hd; cases hd
      | some m' =>
        rw [z] at hd
        cases hd
        obtain ⟨h1, h2⟩ := List.getElem?_eq_some_iff.mp z
        rw [List.getElem_range] at h2
        subst h2
        refine .inl ⟨rfl, ?_⟩
        rw [show i + (m : Int) * -1 = i - (m : Int) by omega]
        exact .int _
/-! enumerate, zip -/
def enumD (c : Int) : List D → List D
  | [] => []
  | d :: l => .tuple [.int c, d] :: enumD (c + 1) l
theorem enumD_len : ∀ (l : List D) (c : Int), (enumD c l).length = l.length
  | [], _ => rfl
  | d :: l, c => by unfold enumD; rw [List.length_cons, List.length_cons, enumD_len l]
theorem enumD_get : ∀ {l : List D} {c : Int} {i : Nat} {d : D}, (enumD c l)[i]? = some d → ∃ e, l[i]? = some e ∧ d = .tuple [.int (c + (i : Int)), e]
  | [], _, _, _, h => by simp [enumD] at h
  | e :: l, c, 0, d, h => by
    simp only [enumD, List.getElem?_cons_zero, Option.some.injEq] at h
    exact ⟨e, rfl, by rw [← h]; simp⟩
  | e :: l, c, i + 1, d, h => by
    simp only [enumD, List.getElem?_cons_succ] at h
    obtain ⟨e', h1, h2⟩ := enumD_get h
    refine ⟨e', by simpa using h1, ?_⟩
    rw [h2, show c + 1 + (i : Int) = c + ((i + 1 : Nat) : Int) by omega]
theorem wk_enum {a : Addr} {vs : List V} {l : List D} {c : Int} (k : Bool) (h : SqX K G a vs k) (r : Rps K G vs l) : Wk K (IteX K k a c vs.length) (enumD c l) G := by
  refine ⟨fun i G1 H e1 e2 hi => ⟨by rw [hi, enumD_len, r.length]; exact Nat.le_refl _, vs, sqx_mono (e1.trans e2) h, rfl⟩, fun i G1 H e1 e2 hi => ⟨by rw [enumD_len] at hi; rw [r.length]; exact hi, vs, sqx_mono (e1.trans e2) h, rfl⟩, fun i d G1 H x H' e1 e2 hd hy => ?_⟩
  obtain ⟨T, y, rfl, hT, rfl, hy⟩ := hy
  obtain ⟨e, he, rfl⟩ := enumD_get hd
  obtain ⟨v, v1, v2⟩ := r.get he
  have := hy vs (sqx_mono (e1.trans e2) h)
  rw [v1] at this
  cases this
  exact .inr ⟨T, _, _, rfl, hT, rfl, rfl, .cons (.int _) (.cons (v2.mono e1) .nil)⟩
theorem deni_enum1 {e : Expr} {elts : List Expr} {kk : Nat} {tpos p pos : Pos} {a b : En} {d : D} {l : List D} {k : Bool} (hs : isStar e = false) (hg : Gl X "enumerate") (hm : X.mg "enumerate" = none) (h : DenA X β [e] a [d] b) (hk : seqD d = some (k, l)) :
    DenI X β (.Tuple elts kk tpos) (.Call (.Name "enumerate" p) [e] [] pos) a (enumD 0 l) b := by
  intro G H ρ σ Q r q
  refine ⟨_, pi_enum1 k hg hm pa_w (star_ok hs), h G H ρ σ _ r fun vs G1 H1 ρ1 f1 r1 x1 => ?_⟩
  obtain ⟨v, rfl, h1⟩ := rps1 x1
  obtain ⟨p', ws, rfl, h2, h3⟩ := seq_rp h1 hk
  exact ⟨p', ws, rfl, sqx_mono r1.ex h3, q _ G1 H1 ρ1 f1 r1 (wk_enum k h3 h2)⟩
theorem deni_enum2 {e e2 : Expr} {elts : List Expr} {kk : Nat} {tpos p pos : Pos} {a b : En} {d : D} {c : Int} {l : List D} {k : Bool} (hs : isStar e = false) (hs2 : isStar e2 = false) (hg : Gl X "enumerate") (hm : X.mg "enumerate" = none) (h : DenA X β [e, e2] a [d, .int c] b) (hk : seqD d = some (k, l)) (hc : b62 c = true) :
    DenI X β (.Tuple elts kk tpos) (.Call (.Name "enumerate" p) [e, e2] [] pos) a (enumD c l) b := by
  intro G H ρ σ Q r q
  refine ⟨_, pi_enumX k hg hm pa_w (star_ok hs) (stars_ok (by simp [hs2])), h G H ρ σ _ r fun vs G1 H1 ρ1 f1 r1 x1 => ?_⟩
  obtain ⟨v, w, rfl, h1, h0⟩ := rps2 x1
  cases h0
  obtain ⟨p', ws, rfl, h2, h3⟩ := seq_rp h1 hk
  have := b62_ok hc
  exact ⟨p', c, ws, rfl, sqx_mono r1.ex h3, by omega, by omega, q _ G1 H1 ρ1 f1 r1 (wk_enum k h3 h2)⟩
def zipD : List D → List D → List D
  | d :: l, e :: m => .tuple [d, e] :: zipD l m
  | _, _ => []
theorem zipD_len : ∀ (l m : List D), (zipD l m).length = min l.length m.length
  | [], m => by simp [zipD]
  | d :: l, [] => by simp [zipD]
  | d :: l, e :: m => by unfold zipD; rw [List.length_cons, List.length_cons, List.length_cons, zipD_len l m]; omega
theorem zipD_get : ∀ {l m : List D} {i : Nat} {d : D}, (zipD l m)[i]? = some d → ∃ e f, l[i]? = some e ∧ m[i]? = some f ∧ d = .tuple [e, f]
  | [], m, _, _, h => by simp [zipD] at h
  | d :: l, [], _, _, h => by simp [zipD] at h
  | e :: l, f :: m, 0, d, h => by
    simp only [zipD, List.getElem?_cons_zero, Option.some.injEq] at h
    exact ⟨e, f, rfl, rfl, h.symm⟩
  | e :: l, f :: m, i + 1, d, h => by
    simp only [zipD, List.getElem?_cons_succ] at h
    obtain ⟨e', f', h1, h2, h3⟩ := zipD_get h
    exact ⟨e', f', by simpa using h1, by simpa using h2, h3⟩
theorem deni_zip {e e2 : Expr} {elts : List Expr} {kk : Nat} {tpos p pos : Pos} {a b : En} {d d2 : D} {l m : List D} {k k2 : Bool} (hs : isStar e = false) (hs2 : isStar e2 = false) (hg : Gl X "zip") (hm : X.mg "zip" = none) (h : DenA X β [e, e2] a [d, d2] b) (hk : seqD d = some (k, l)) (hk2 : seqD d2 = some (k2, m)) :
    DenI X β (.Tuple elts kk tpos) (.Call (.Name "zip" p) [e, e2] [] pos) a (zipD l m) b := by
  intro G H ρ σ Q r q
  refine ⟨_, pi_zipX k k2 hg hm pa_w (star_ok hs) (stars_ok (by simp [hs2])), h G H ρ σ _ r fun vs G1 H1 ρ1 f1 r1 x1 => ?_⟩
  obtain ⟨v, w, rfl, h1, h0⟩ := rps2 x1
  obtain ⟨p1, ws, rfl, h2, h3⟩ := seq_rp h1 hk
  obtain ⟨p2, us, rfl, h4, h5⟩ := seq_rp h0 hk2
  refine ⟨p1, p2, ws, us, rfl, sqx_mono r1.ex h3, sqx_mono r1.ex h5, q _ G1 H1 ρ1 f1 r1 ⟨fun i G2 H2 e1 e2 hi => ⟨?_, ws, us, sqx_mono (e1.trans e2) h3, sqx_mono (e1.trans e2) h5, rfl, rfl⟩, fun i G2 H2 e1 e2 hi => ⟨?_, ws, us, sqx_mono (e1.trans e2) h3, sqx_mono (e1.trans e2) h5, rfl, rfl⟩, fun i d G2 H2 x H' e1 e2 hd hy => ?_⟩⟩
  · rw [hi, zipD_len, h2.length, h4.length]; exact Nat.le_refl _
  · rw [zipD_len] at hi; rw [h2.length, h4.length]; exact hi
  · obtain ⟨T, x, y, rfl, hT, rfl, hx, hy⟩ := hy
    obtain ⟨e, f, g1, g2, rfl⟩ := zipD_get hd
    obtain ⟨v1, w1, w2⟩ := h2.get g1
    obtain ⟨v2, w3, w4⟩ := h4.get g2
    have t1 := hx ws (sqx_mono (e1.trans e2) h3)
    have t2 := hy us (sqx_mono (e1.trans e2) h5)
    rw [w1] at t1
    rw [w3] at t2
    cases t1
    cases t2
    exact .inr ⟨T, _, _, rfl, hT, rfl, rfl, .cons (w2.mono e1) (.cons (w4.mono e1) .nil)⟩
/-! reversed(x) -/
theorem deni_rev {tg e : Expr} {p pos : Pos} {a b : En} {o k : Bool} {d : D} {l : List D} (hs : isStar e = false) (hg : Gl X "reversed") (hm : X.mg "reversed" = none) (h : Den X β e a o d b) (hk : seqD d = some (k, l)) : DenI X β tg (.Call (.Name "reversed" p) [e] [] pos) a l.reverse b := by
  intro G H ρ σ Q r q
  refine ⟨_, RT.pi_revA hg hm pe_w (star_ok hs), h.fz G H ρ σ _ r fun v G1 H1 ρ1 f1 r1 x1 => ?_⟩
  obtain ⟨p', vs, rfl, h1, h2⟩ := seq_rp (show Rp X.K G1 v d from x1) hk
  have key : ∀ {i : Nat} {d : D} {G2 : Hp}, Ex G1 G2 → l.reverse[i]? = some d → ∃ v, vs[vs.length - 1 - i]? = some v ∧ Rp X.K G2 v d := fun {i d G2} e q => by
    have hi : i < l.length := by have := (List.getElem?_eq_some_iff.mp q).1; simpa using this
    rw [List.getElem?_reverse hi] at q
    obtain ⟨v, w1, w2⟩ := h1.get q
    exact ⟨v, by rw [h1.length]; exact w1, w2.mono e⟩
  refine ⟨p', vs, rfl, ?_⟩
  cases k with
  | true =>
    refine .inl ⟨Evl.ex_l r1.ex h2, q _ G1 H1 ρ1 f1 r1 ⟨fun i G2 H2 e1 e2 hi => ?_, fun i G2 H2 e1 e2 hi => ?_, fun i d G2 H2 x H' e1 e2 hd hy => ?_⟩⟩
    · show _ ≤ i
      rw [hi, List.length_reverse, h1.length]; exact Nat.le_refl _
    · rw [List.length_reverse] at hi
      have hi' : i < vs.length := by rw [h1.length]; exact hi
      exact ⟨hi', vs, vs[vs.length - 1 - i]'(by omega), Evl.ex_l (e1.trans e2) h2, List.getElem?_eq_getElem _⟩
    · obtain ⟨rfl, hy⟩ := hy
      obtain ⟨v, w1, w2⟩ := key e1 hd
      have t := hy vs (Evl.ex_l (e1.trans e2) h2)
      rw [w1] at t
      cases t
      exact .inl ⟨rfl, w2⟩
  | false =>
    refine .inr ⟨Evl.ex_t r1.ex h2, q _ G1 H1 ρ1 f1 r1 ⟨fun i G2 H2 e1 e2 hi => ?_, fun i G2 H2 e1 e2 hi => ?_, fun i d G2 H2 x H' e1 e2 hd hy => ?_⟩⟩
    · show _ ≤ i
      rw [hi, List.length_reverse, h1.length]; exact Nat.le_refl _
    · rw [List.length_reverse] at hi
      have hi' : i < vs.length := by rw [h1.length]; exact hi
      exact ⟨hi', vs, vs[vs.length - 1 - i]'(by omega), Evl.ex_t (e1.trans e2) h2, List.getElem?_eq_getElem _⟩
    · obtain ⟨rfl, hy⟩ := hy
      obtain ⟨v, w1, w2⟩ := key e1 hd
      have t := hy vs (Evl.ex_t (e1.trans e2) h2)
      rw [w1] at t
      cases t
      exact .inl ⟨rfl, w2⟩
end
end Fz
set_option Elab.async false
set_option linter.all false
set_option maxRecDepth 100000
set_option maxHeartbeats 4000000
/-! Fz, part J: stores, targets, statements. -/
namespace Fz
open PySem PySem.Spec PyProof.Rows L2

inductive SR where
  | nx (e : En)
  | rt (o : Bool) (d : D) (e : En)
  | bk (e : En)
  | ct (e : En)
def slotOf (o : Bool) (d : D) : Sl := match o, d with
  | true, .list l => .own l
  | _, d => .val d
def setS (e : En) (i : Nat) (o : Bool) (d : D) : En := { e with sl := e.sl.set i (slotOf o d) }
section
variable {K : PySem.W.Frag} {β : Option Addr} {G H G0 H0 : Hp} {ρ ρ0 : Own} {σ : L2.St} {e : En}
theorem R.store {i : Nat} {o : Bool} {d : D} {v : V} (r : R K β G H ρ σ e) (hi : i < e.sl.length) (x : VR K H0 G H ρ d v o) (f : Fr G0 H0 ρ0 G H ρ) :
    ∃ ρ', R K β G H ρ' (σ.set i (some v)) (setS e i o d) ∧ Fr G0 H0 ρ0 G H ρ' := by
  have hσ : i < σ.length := by rw [r.len]; exact hi
  cases o with
  | false =>
    refine ⟨ρ, ⟨by simp [setS, r.len], r.ex, r.ow, fun j s hj => ?_, r.bg⟩, f⟩
    by_cases k : j = i
    · subst k
      simp only [setS, List.getElem?_set, if_true, hi, slotOf] at hj
      cases hj
      refine ⟨v, by simp [hσ], x⟩
    · simp only [setS, List.getElem?_set, if_neg (Ne.symm k)] at hj
      have w := r.sl j s hj
      simp only [List.getElem?_set, if_neg (Ne.symm k)]
      exact w
  | true =>
    obtain ⟨p, l, vs, rfl, rfl, h0, hg, hr, hh, hv⟩ := x
    refine ⟨fun z => if z = p then some (i + 1) else ρ z, ⟨by simp [setS, r.len], r.ex, fun z hz => ?_, fun j s hj => ?_, fun z hz => ?_⟩, ⟨f.ex, fun z u hz hρ => ?_, f.dom⟩⟩
    · by_cases k : z = p
      · subst k; exact ⟨hg, by rw [hh]; simp⟩
      · simp only [k, if_false] at hz; exact r.ow z hz
    · by_cases k : j = i
      · subst k
        simp only [setS, List.getElem?_set, if_true, hi, slotOf] at hj
        cases hj
        exact ⟨p, vs, by simp [hσ], by simp, hh, hv⟩
      · simp only [setS, List.getElem?_set, if_neg (Ne.symm k)] at hj
        have w := r.sl j s hj
        simp only [List.getElem?_set, if_neg (Ne.symm k)]
        cases s with
        | no => trivial
        | val d => exact w
        | bag => exact w
        | own l' =>
          obtain ⟨p', vs', w1, w2, w3, w4⟩ := w
          have ne : p' ≠ p := fun z => by rw [z, hr] at w2; cases w2
          exact ⟨p', vs', w1, by simp [ne, w2], w3, w4⟩
    · obtain ⟨b1, ws, b2, b3⟩ := r.bg z hz
      have ne : z ≠ p := fun k => by rw [k, hr] at b1; cases b1
      exact ⟨by simp [ne, b1], ws, b2, b3⟩
    · obtain ⟨h1, h2, h3⟩ := f.keep z u hz hρ
      have ne : z ≠ p := fun k => by rw [k, h0] at hz; cases hz
      exact ⟨h1, by simp [ne, h2], h3⟩
theorem R.storeV {i : Nat} {d : D} {v : V} (r : R K β G H ρ σ e) (hi : i < e.sl.length) (x : Rp K G v d) : R K β G H ρ (σ.set i (some v)) (setS e i false d) := by
  have hσ : i < σ.length := by rw [r.len]; exact hi
  refine ⟨by simp [setS, r.len], r.ex, r.ow, fun j s hj => ?_, r.bg⟩
  by_cases k : j = i
  · subst k
    simp only [setS, List.getElem?_set, if_true, hi, slotOf] at hj
    cases hj
    exact ⟨v, by simp [hσ], x⟩
  · simp only [setS, List.getElem?_set, if_neg (Ne.symm k)] at hj
    have w := r.sl j s hj
    simp only [List.getElem?_set, if_neg (Ne.symm k)]
    exact w

/-! ### targets: a name, or a tuple of names -/
inductive Tg where
  | one (i : Nat)
  | tup (l : List Nat)
def Tg.ix : Tg → List Nat
  | .one i => [i]
  | .tup l => l
def gNames : List Nat → TGs
  | [] => gNil
  | i :: l => gCons (gName i) (gNames l)
def gOf (K : PySem.W.Frag) : Tg → TG
  | .one i => gName i
  | .tup l => gTup K l.length (gNames l)
def stAll (e : En) : List Nat → List D → Option En
  | [], [] => some e
  | i :: l, d :: ds => if i < e.sl.length then stAll (setS e i false d) l ds else none
  | _, _ => none
def stT (e : En) (t : Tg) (d : D) : Option En :=
  match t with
  | .one i => if i < e.sl.length then some (setS e i false d) else none
  | .tup l => match d with
    | .tuple ds => stAll e l ds
    | _ => none
theorem gNames_ok : ∀ {l : List Nat} {ds : List D} {vs : List V} {σ : L2.St} {e e1 : En} {Q : L2.St → Hp → Prop}, R K β G H ρ σ e → Rps K G vs ds → stAll e l ds = some e1 →
    (∀ σ1, R K β G H ρ σ1 e1 → σ1.length = σ.length → (∀ j, j ∉ l → σ1[j]? = σ[j]?) → Q σ1 H) → gNames l vs σ H Q ∧ vs.length = l.length
  | [], [], _, σ, e, e1, Q, r, .nil, h, q => by
    cases h
    exact ⟨⟨rfl, q σ r rfl fun _ _ => rfl⟩, rfl⟩
  | i :: l, d :: ds, _, σ, e, e1, Q, r, .cons hv hr, h, q => by
    unfold stAll at h
    split at h
    · rename_i hi
      have key := gNames_ok (Q := Q) (r.storeV hi hv) hr h fun σ1 r1 l1 a1 => q σ1 r1 (by rw [l1]; simp) fun j hj => by
        rw [List.mem_cons, not_or] at hj
        rw [a1 j hj.2]
        simp only [List.getElem?_set, if_neg (Ne.symm hj.1)]
      exact ⟨⟨_, _, rfl, key.1⟩, by rw [List.length_cons, List.length_cons, key.2]⟩
    · cases h
  | [], _ :: _, _, _, _, _, _, _, _, h, _ => by cases h
  | _ :: _, [], _, _, _, _, _, _, _, h, _ => by cases h
theorem gOf_ok {t : Tg} {d : D} {v : V} {e1 : En} {Q : L2.St → Hp → Prop} (r : R K β G H ρ σ e) (hv : Rp K G v d) (h : stT e t d = some e1)
    (q : ∀ σ1, R K β G H ρ σ1 e1 → σ1.length = σ.length → (∀ j, j ∉ t.ix → σ1[j]? = σ[j]?) → Q σ1 H) : gOf K t v σ H Q := by
  cases t with
  | one i =>
    unfold stT at h
    simp only at h
    split at h
    · rename_i hi
      cases h
      refine q _ (r.storeV hi hv) (by simp) fun j hj => ?_
      have : j ≠ i := fun z => hj (by simp [Tg.ix, z])
      simp only [List.getElem?_set, if_neg (Ne.symm this)]
    · cases h
  | tup l =>
    cases d with
    | tuple ds =>
      cases hv with
      | tup h1 h2 =>
        have key := gNames_ok r h2 h q
        exact ⟨_, _, rfl, Evl.ex_t r.ex h1, key.2, key.1⟩
    | _ => cases h
end

section
variable {X : Cx} {β : Option Addr}
/-- the names of a target and their slots -/
def idxOf (N : List Str) (x : Str) : Option Nat := N.findIdx? (· == x)
theorem idxOf_get {N : List Str} {x : Str} {i : Nat} (h : idxOf N x = some i) : N[i]? = some x := by
  unfold idxOf at h
  rw [List.findIdx?_eq_some_iff_getElem] at h
  obtain ⟨h1, h2, h3⟩ := h
  rw [List.getElem?_eq_getElem h1]
  simp at h2
  rw [h2]
def tgNames (N : List Str) : List Expr → Option (List (Str × Nat))
  | [] => some []
  | .Name x _ :: r => match idxOf N x, tgNames N r with
    | some i, some l => some ((x, i) :: l)
    | _, _ => none
  | _ :: _ => none
def tgOf (N : List Str) : Expr → Option (Tg × List (Str × Nat))
  | .Name x _ => (idxOf N x).map fun i => (.one i, [(x, i)])
  | .Tuple es _ _ => (tgNames N es).map fun l => (.tup (l.map (·.2)), l)
  | _ => none
/-- what storing to a name asks of the context -/
def StOk (X : Cx) (x : Str) : Prop := Loc X.env.scope x ∧ (X.fn x = true ∨ X.env.scope.names.lookup x = some .local)
theorem pgs_names {nd : X.N.Nodup} : ∀ {es : List Expr} {l : List (Str × Nat)}, tgNames X.N es = some l → (∀ p ∈ l, StOk X p.1) → PGs X es (gNames (l.map (·.2))) ∧ (assignEach es X.env).length = l.length ∧ (assignEach es X.env).findIdx? (·.1) = none
  | [], l, h, _ => by cases h; exact ⟨pgs_nil, rfl, rfl⟩
  | .Name x p :: r, l, h, hs => by
    unfold tgNames at h
    cases z : idxOf X.N x with
    | none => rw [z] at h; cases h
    | some i =>
      rw [z] at h
      cases z2 : tgNames X.N r with
      | none => rw [z2] at h; cases h
      | some l' =>
        rw [z2] at h
        cases h
        obtain ⟨k1, k2, k3⟩ := pgs_names (nd := nd) z2 fun p hp => hs p (List.mem_cons_of_mem _ hp)
        obtain ⟨s1, s2⟩ := hs (x, i) List.mem_cons_self
        refine ⟨pgs_cons (pg_name nd (idxOf_get z) s1 s2) k1, ?_, ?_⟩
        · show (assignEach r X.env).length + 1 = l'.length + 1
          rw [k2]
        · show List.findIdx? (·.1) ((false, assign (.Name x p) X.env) :: assignEach r X.env) = none
          rw [List.findIdx?_cons, if_neg (by simp), k3]
          rfl
theorem pg_tg {tg : Expr} {t : Tg} {l : List (Str × Nat)} (nd : X.N.Nodup) (hc : X.calm = true) (h : tgOf X.N tg = some (t, l)) (hs : ∀ p ∈ l, StOk X p.1) : PG X tg (gOf X.K t) := by
  unfold tgOf at h
  split at h
  · rename_i x p
    cases z : idxOf X.N x with
    | none => rw [z] at h; cases h
    | some i =>
      rw [z] at h
      cases h
      obtain ⟨s1, s2⟩ := hs (x, i) List.mem_cons_self
      exact pg_name nd (idxOf_get z) s1 s2
  · rename_i es k p
    cases z : tgNames X.N es with
    | none => rw [z] at h; cases h
    | some l' =>
      rw [z] at h
      cases h
      obtain ⟨k1, k2, k3⟩ := pgs_names (nd := nd) z hs
      exact pg_tup hc k1 (by rw [k2, List.length_map]) k3
  · cases h

/-! ### statements -/
def PostS (K : PySem.W.Frag) (β : Option Addr) (G H : Hp) (ρ : Own) (Dn : Ends) : SR → Prop
  | .nx b => ∀ G' H' ρ' σ', Fr G H ρ G' H' ρ' → R K β G' H' ρ' σ' b → Dn.nx σ' H'
  | .bk b => ∀ G' H' ρ' σ', Fr G H ρ G' H' ρ' → R K β G' H' ρ' σ' b → Dn.bk σ' H'
  | .ct b => ∀ G' H' ρ' σ', Fr G H ρ G' H' ρ' → R K β G' H' ρ' σ' b → Dn.ct σ' H'
  | .rt o d b => ∀ v G' H' ρ' σ', Fr G H ρ G' H' ρ' → R K β G' H' ρ' σ' b → VR K H G' H' ρ' d v o → Dn.rt v H'
theorem VR.back {K : PySem.W.Frag} {H0 H1 G H : Hp} {ρ : Own} {d : D} {v : V} {o : Bool} (x : VR K H1 G H ρ d v o) (f : ∀ p, H1 p = none → H0 p = none) : VR K H0 G H ρ d v o := by
  cases o with
  | false => exact x
  | true => obtain ⟨p, l, vs, h1, h2, h3, h4⟩ := x; exact ⟨p, l, vs, h1, h2, f p h3, h4⟩
theorem PostS.at {K : PySem.W.Frag} {G H G1 H1 : Hp} {ρ ρ1 : Own} {Dn : Ends} {r : SR} (q : PostS K β G H ρ Dn r) (f : Fr G H ρ G1 H1 ρ1) : PostS K β G1 H1 ρ1 Dn r := by
  cases r with
  | nx b => exact fun G' H' ρ' σ' f' r' => q G' H' ρ' σ' (f.trans f') r'
  | bk b => exact fun G' H' ρ' σ' f' r' => q G' H' ρ' σ' (f.trans f') r'
  | ct b => exact fun G' H' ρ' σ' f' r' => q G' H' ρ' σ' (f.trans f') r'
  | rt o d b => exact fun v G' H' ρ' σ' f' r' x => q v G' H' ρ' σ' (f.trans f') r' (x.back f.dom)
def DenS (X : Cx) (β : Option Addr) (st : Stmt) (a : En) (r : SR) : Prop :=
  ∀ (G H : Hp) (ρ : Own) (σ : L2.St) (Dn : Ends), R X.K β G H ρ σ a → PostS X.K β G H ρ Dn r → wS X st Dn σ H
def DenSs (X : Cx) (β : Option Addr) (st : List Stmt) (a : En) (r : SR) : Prop :=
  ∀ (G H : Hp) (ρ : Own) (σ : L2.St) (Dn : Ends), R X.K β G H ρ σ a → PostS X.K β G H ρ Dn r → wSs X st Dn σ H
theorem denss_nil {a : En} : DenSs X β [] a (.nx a) := fun G H ρ σ Dn r q => ⟨_, pss_nil, q G H ρ σ .refl r⟩
theorem denss_cons {st : Stmt} {rest : List Stmt} {a b : En} {r : SR} (h1 : DenS X β st a (.nx b)) (h2 : DenSs X β rest b r) : DenSs X β (st :: rest) a r := fun G H ρ σ Dn r0 q =>
  ⟨_, pss_cons ps_w pss_w, h1 G H ρ σ _ r0 fun G1 H1 ρ1 σ1 f1 r1 => h2 G1 H1 ρ1 σ1 Dn r1 (q.at f1)⟩
theorem denss_stop {st : Stmt} {rest : List Stmt} {a : En} {r : SR} (hr : ∀ b, r ≠ .nx b) (h1 : DenS X β st a r) : DenSs X β (st :: rest) a r := fun G H ρ σ Dn r0 q => by
  refine ⟨_, pss_cons ps_w pss_w, h1 G H ρ σ _ r0 ?_⟩
  cases r with
  | nx b => exact absurd rfl (hr b)
  | bk b => exact q
  | ct b => exact q
  | rt o d b => exact q
theorem dens_pass {pos : Pos} {a : En} : DenS X β (.Pass pos) a (.nx a) := fun G H ρ σ Dn r q => ⟨_, ps_pass, q G H ρ σ .refl r⟩
theorem dens_break {pos : Pos} {a : En} : DenS X β (.Break pos) a (.bk a) := fun G H ρ σ Dn r q => ⟨_, ps_break, q G H ρ σ .refl r⟩
theorem dens_continue {pos : Pos} {a : En} : DenS X β (.Continue pos) a (.ct a) := fun G H ρ σ Dn r q => ⟨_, ps_continue, q G H ρ σ .refl r⟩
theorem dens_ret {e : Expr} {pos : Pos} {a b : En} {o : Bool} {d : D} (h : Den X β e a o d b) : DenS X β (.Return (some e) pos) a (.rt o d b) := fun G H ρ σ Dn r q =>
  ⟨_, ps_ret pe_w, h G H ρ σ _ r fun v G1 H1 ρ1 f1 r1 x1 => q v G1 H1 ρ1 σ f1 r1 x1⟩
theorem dens_retN {pos : Pos} {a : En} : DenS X β (.Return none pos) a (.rt false .none a) := fun G H ρ σ Dn r q => ⟨_, ps_retN, q .non G H ρ σ .refl r .non⟩
theorem dens_if {t : Expr} {A B : List Stmt} {pos : Pos} {a b : En} {k : Bool} {r : SR} (h : DenT X β t a k b) (h1 : DenSs X β (if k then A else B) b r) : DenS X β (.If t A B pos) a r := fun G H ρ σ Dn r0 q => by
  refine ⟨_, ps_if pt_w pss_w pss_w, h G H ρ σ _ r0 fun G1 H1 ρ1 f1 r1 => ?_⟩
  cases k with
  | true => exact h1 G1 H1 ρ1 σ Dn r1 (q.at f1)
  | false => exact h1 G1 H1 ρ1 σ Dn r1 (q.at f1)
def isComp : Expr → Bool
  | .ListComp .. | .SetComp .. | .DictComp .. => true
  | _ => false
theorem swaps_ok {e : Expr} {t : Option Expr} {n : Nat} {env : Env} (h : isComp e = false) : swapsWith e t n env = pure false := by
  cases e <;> first | rfl | cases h
theorem dens_expr {e : Expr} {pos : Pos} {a b : En} {o : Bool} {d : D} (hc : isComp e = false) (h : Den X β e a o d b) : DenS X β (.Expr e pos) a (.nx b) := fun G H ρ σ Dn r q =>
  ⟨_, ps_expr pe_w (swaps_ok hc), h G H ρ σ _ r fun v G1 H1 ρ1 f1 r1 x1 => q G1 H1 ρ1 σ f1 r1⟩
theorem dens_set {x : Str} {px pos : Pos} {e : Expr} {a b : En} {o : Bool} {d : D} {i : Nat} (nd : X.N.Nodup) (hN : idxOf X.N x = some i) (hs : StOk X x) (hsw : swapsWith e (some (.Name x px)) pos.line X.env = pure false) (hi : i < b.sl.length) (h : Den X β e a o d b) :
    DenS X β (.Assign [.Name x px] e pos) a (.nx (setS b i o d)) := fun G H ρ σ Dn r q => by
  refine ⟨_, ps_set nd (idxOf_get hN) hs.1 pe_w hsw hs.2, h G H ρ σ _ r fun v G1 H1 ρ1 f1 r1 x1 => ?_⟩
  obtain ⟨ρ2, r2, f2⟩ := r1.store hi x1 f1
  exact q G1 H1 ρ2 _ f2 r2
theorem dens_tg {tg e : Expr} {pos : Pos} {a b c : En} {o : Bool} {d : D} {t : Tg} {l : List (Str × Nat)} (nd : X.N.Nodup) (hc : X.calm = true) (ht : tgOf X.N tg = some (t, l)) (hs : ∀ p ∈ l, StOk X p.1)
    (h1 : swapsWithSole [tg] e pos.line X.env = pure false) (h2 : swappedStores [tg] e X.env = pure none) (h3 : (assignEach [tg] X.env).map (·.2) = [assign tg X.env]) (h : Den X β e a o d b) (hst : stT b t d = some c) :
    DenS X β (.Assign [tg] e pos) a (.nx c) := fun G H ρ σ Dn r q => by
  refine ⟨_, ps_asg pe_w (pg_tg nd hc ht hs) h1 h2 h3, h.fz G H ρ σ _ r fun v G1 H1 ρ1 f1 r1 x1 => ?_⟩
  exact gOf_ok r1 x1 hst fun σ1 r2 _ _ => q G1 H1 ρ1 σ1 f1 r2
/-- x[i] = e, x a name that owns a list -/
theorem put_ok {o i : Expr} {pos : Pos} (h : isSlice i = false) (v : Value) : assign (.Subscript o i pos) X.env v = (do
    let ov ← holding [v] (eval o X.env); let iv ← holding [v, ov] (eval i X.env); standAt pos; holding [v, ov, iv] (setItem ov iv v); release [v, ov, iv] []) := by
  cases i <;> first | rfl | cases h
theorem dens_put {x : Str} {px pp pos : Pos} {e ei : Expr} {a b c : En} {o o2 : Bool} {d : D} {k : Int} {i j : Nat} {l : List D} (hN : idxOf X.N x = some i) (hv : Vis X.env.scope x) (hd : (x == ("__debug__" : Str)) = false) (hcd : (x == ("__classdict__" : Str)) = false)
    (hsl : isSlice ei = false) (hsw : swapsWith e (some (.Subscript (.Name x px) ei pp)) pos.line X.env = pure false) (h : Den X β e a o d b) (h2 : Den X β ei b o2 (.int k) c) (hb : (slotL b i).isSome = true) (hl : slotL c i = some l) (hj : ixN l.length k = some j) :
    DenS X β (.Assign [.Subscript (.Name x px) ei pp] e pos) a (.nx (putL c i (l.set j d))) := fun G H ρ σ Dn r q => by
  refine ⟨_, ps_asg pe_w (pg_sub pe_w pe_w set_list (put_ok hsl)) hsw rfl rfl, h.fz G H ρ σ _ r fun v G1 H1 ρ1 f1 r1 x1 => ?_⟩
  obtain ⟨l0, hb⟩ := Option.isSome_iff_exists.mp hb
  obtain ⟨p, vs, p1, p2, p3, p4⟩ := r1.ownAt hb
  refine peek (idxOf_get hN) hv hd hcd p1 (h2.fz G1 H1 ρ1 σ _ r1 fun y G2 H2 ρ2 f2 r2 x2 => ?_)
  cases (show Rp X.K G2 y (.int k) from x2)
  obtain ⟨p', vs', q1, q2, q3, q4⟩ := r2.ownAt hl
  rw [p1] at q1
  cases q1
  obtain ⟨r3, f3⟩ := r2.put hl p1 (q3.set j (Rp.mono f2.ex x1))
  exact ⟨p, vs', k, j, rfl, rfl, q2, by rw [q3.length]; exact hj, q G2 _ ρ2 σ ((f1.trans f2).trans f3) r3⟩

/-! ### while -/
def whileL (t : En → Option (Bool × En)) (f : En → Option SR) : Nat → En → Option SR
  | 0, _ => none
  | n + 1, e => match t e with
    | none => none
    | some (false, e1) => some (.nx e1)
    | some (true, e1) => match f e1 with
      | some (.nx e2) => whileL t f n e2
      | some (.ct e2) => whileL t f n e2
      | some (.bk e2) => some (.nx e2)
      | some (.rt o d e2) => some (.rt o d e2)
      | none => none
theorem dens_while {c : Expr} {body : List Stmt} {pos : Pos} {a : En} {r : SR} {n : Nat} {t : En → Option (Bool × En)} {f : En → Option SR} (hp : PassesOwn (model X.prog X.w) X.A X.env X.xe)
    (ht : ∀ e k e1, t e = some (k, e1) → DenT X β c e k e1) (hf : ∀ e r, f e = some r → DenSs X β body e r) (h : whileL t f n a = some r) : DenS X β (.While c body [] pos) a r := fun G H ρ σ Dn r0 q => by
  refine ⟨_, ps_while hp pt_w pss_w, fun m σ' H' => ∃ e G' ρ', Fr G H ρ G' H' ρ' ∧ R X.K β G' H' ρ' σ' e ∧ whileL t f m e = some r, ⟨n, a, G, ρ, .refl, r0, h⟩, ?_⟩
  rintro m σ1 H1 ⟨e, G1, ρ1, f1, r1, h1⟩
  cases m with
  | zero => cases h1
  | succ m =>
    unfold whileL at h1
    cases z : t e with
    | none => rw [z] at h1; cases h1
    | some ke =>
      obtain ⟨k, e1⟩ := ke
      rw [z] at h1
      refine ht e k e1 z G1 H1 ρ1 σ1 _ r1 fun G2 H2 ρ2 f2 r2 => ?_
      cases k with
      | false =>
        cases h1
        exact q G2 H2 ρ2 σ1 (f1.trans f2) r2
      | true =>
        refine ⟨fun σ' H' => ∃ e G' ρ', Fr G H ρ G' H' ρ' ∧ R X.K β G' H' ρ' σ' e ∧ whileL t f m e = some r, fun σ' H' w => ⟨m, Nat.lt_succ_self m, w⟩, ?_⟩
        cases z2 : f e1 with
        | none => simp only [z2] at h1; cases h1
        | some rr =>
          simp only [z2] at h1
          refine hf e1 rr z2 G2 H2 ρ2 σ1 _ r2 ?_
          cases rr with
          | nx e2 => exact fun G3 H3 ρ3 σ3 f3 r3 => ⟨e2, G3, ρ3, (f1.trans f2).trans f3, r3, h1⟩
          | ct e2 => exact fun G3 H3 ρ3 σ3 f3 r3 => ⟨e2, G3, ρ3, (f1.trans f2).trans f3, r3, h1⟩
          | bk e2 => cases h1; exact fun G3 H3 ρ3 σ3 f3 r3 => q G3 H3 ρ3 σ3 ((f1.trans f2).trans f3) r3
          | rt o d e2 => cases h1; exact fun v G3 H3 ρ3 σ3 f3 r3 x3 => q v G3 H3 ρ3 σ3 ((f1.trans f2).trans f3) r3 (x3.back (f1.trans f2).dom)

/-! ### for -/
def forL (f : D → En → Option SR) : List D → En → Option SR
  | [], e => some (.nx e)
  | d :: ds, e => match f d e with
    | some (.nx e2) => forL f ds e2
    | some (.ct e2) => forL f ds e2
    | some (.bk e2) => some (.nx e2)
    | some (.rt o d e2) => some (.rt o d e2)
    | none => none
/-- the item of a turn, locked -/
theorem Wk.turn {K : PySem.W.Frag} {J : It} {ds : List D} {G0 G H : Hp} {ρ : Own} {σ : L2.St} {e : En} {i : Nat} {d : D} {x : V} {H' : Hp} (w : Wk K J ds G0) (e0 : Ex G0 G) (r : R K β G H ρ σ e) (hd : ds[i]? = some d) (hy : J.yld i H x H') :
    ∃ G', Fr G H ρ G' H' ρ ∧ R K β G' H' ρ σ e ∧ Rp K G' x d := by
  rcases w.yld i d G H x H' e0 r.ex hd hy with ⟨rfl, h⟩ | ⟨T, vs, l, rfl, hT, rfl, rfl, h⟩
  · exact ⟨G, .refl, r, h⟩
  · have hg := (r.free hT).2
    exact ⟨upd G T (.tup vs), (Fr.grow hT).lock hT hg, (r.grow hT).lock upd_same hg (r.free hT).1, .tup (.inl (.inl upd_same)) (h.mono (Evl.Ex.new hg))⟩
theorem dens_for {tg it : Expr} {body : List Stmt} {pos : Pos} {a b : En} {r : SR} {ds : List D} {t : Tg} {l : List (Str × Nat)} {f : D → En → Option SR} (hp : PassesOwn (model X.prog X.w) X.A X.env X.xe) (nd : X.N.Nodup) (hc : X.calm = true)
    (ht : tgOf X.N tg = some (t, l)) (hs : ∀ p ∈ l, StOk X p.1) (hset : isSet it = false) (hi : DenI X β tg it a ds b) (hf : ∀ d e r, f d e = some r → ∃ e1, stT e t d = some e1 ∧ DenSs X β body e1 r) (h : forL f ds b = some r) :
    DenS X β (.For tg it body [] pos) a r := fun G H ρ σ Dn r0 q => by
  refine ⟨_, ps_for hp hc pi_w (pg_tg nd hc ht hs) pss_w (fun x => by cases it <;> first | rfl | cases hset), hi G H ρ σ _ r0 fun J G1 H1 ρ1 f1 r1 wk => ?_⟩
  refine ⟨fun i m σ' H' => m = ds.length - i ∧ i ≤ ds.length ∧ ∃ e G' ρ', Fr G1 H1 ρ1 G' H' ρ' ∧ R X.K β G' H' ρ' σ' e ∧ forL f (ds.drop i) e = some r, ⟨ds.length, by simp, Nat.zero_le _, b, G1, ρ1, .refl, r1, h⟩, ?_⟩
  rintro i m σ2 H2 ⟨rfl, hle, e, G2, ρ2, f2, r2, h2⟩
  by_cases hlt : i < ds.length
  · have hd : ds[i]? = some ds[i] := List.getElem?_eq_getElem hlt
    rw [List.drop_eq_getElem_cons hlt] at h2
    unfold forL at h2
    refine .inr ⟨wk.go i G2 H2 f2.ex r2.ex hlt, fun σ' H' => i + 1 ≤ ds.length ∧ ∃ e G' ρ', Fr G1 H1 ρ1 G' H' ρ' ∧ R X.K β G' H' ρ' σ' e ∧ forL f (ds.drop (i + 1)) e = some r,
      fun σ' H' w => ⟨ds.length - (i + 1), by omega, rfl, w.1, w.2⟩, fun x H' hy => ?_⟩
    obtain ⟨G3, f3, r3, x3⟩ := wk.turn f2.ex r2 hd hy
    cases z : f ds[i] e with
    | none => rw [z] at h2; cases h2
    | some rr =>
      obtain ⟨e1, st, hb⟩ := hf _ _ _ z
      refine gOf_ok r3 x3 st fun σ4 r4 _ _ => hb G3 H' ρ2 σ4 _ r4 ?_
      rw [z] at h2
      have F : Fr G1 H1 ρ1 G3 H' ρ2 := f2.trans f3
      cases rr with
      | nx e2 => exact fun G5 H5 ρ5 σ5 f5 r5 => ⟨hlt, e2, G5, ρ5, F.trans f5, r5, h2⟩
      | ct e2 => exact fun G5 H5 ρ5 σ5 f5 r5 => ⟨hlt, e2, G5, ρ5, F.trans f5, r5, h2⟩
      | bk e2 => cases h2; exact fun G5 H5 ρ5 σ5 f5 r5 => q G5 H5 ρ5 σ5 ((f1.trans F).trans f5) r5
      | rt o d e2 => cases h2; exact fun v G5 H5 ρ5 σ5 f5 r5 x5 => q v G5 H5 ρ5 σ5 ((f1.trans F).trans f5) r5 (x5.back (f1.trans F).dom)
  · have e1 : i = ds.length := by omega
    subst e1
    rw [List.drop_length] at h2
    cases h2
    exact .inl ⟨wk.stop _ G2 H2 f2.ex r2.ex rfl, q G2 H2 ρ2 σ2 (f1.trans f2) r2⟩
end
end Fz
set_option Elab.async false
set_option linter.all false
set_option maxRecDepth 100000
set_option maxHeartbeats 4000000
/-! Fz, part K: list comprehensions. -/
namespace Fz
open PySem PySem.Spec PyProof.Rows L2

theorem wipe_get (σ : L2.St) : ∀ (vs : List Nat) (j : Nat), j ∉ vs → (wipe σ vs)[j]? = σ[j]?
  | [], _, _ => rfl
  | v :: vs, j, h => by
    rw [List.mem_cons, not_or] at h
    unfold wipe
    rw [List.getElem?_set_ne (Ne.symm h.1), wipe_get σ vs j h.2]
theorem wipe_at (σ : L2.St) : ∀ (vs : List Nat) (j : Nat), j ∈ vs → j < σ.length → (wipe σ vs)[j]? = some none
  | [], _, h, _ => by cases h
  | v :: vs, j, h, hl => by
    unfold wipe
    by_cases e : v = j
    · subst e
      rw [List.getElem?_set_self (by rw [wipe_length]; exact hl)]
    · rw [List.getElem?_set_ne e]
      rcases List.mem_cons.mp h with h | h
      · exact absurd h.symm e
      · exact wipe_at σ vs j h hl
theorem wipe_same {σ τ : L2.St} {vs : List Nat} (hl : σ.length = τ.length) (h : ∀ j, j ∉ vs → σ[j]? = τ[j]?) : wipe σ vs = wipe τ vs := by
  apply List.ext_getElem?
  intro j
  by_cases m : j ∈ vs
  · by_cases hj : j < σ.length
    · rw [wipe_at σ vs j m hj, wipe_at τ vs j m (by rw [← hl]; exact hj)]
    · rw [List.getElem?_eq_none (by rw [wipe_length]; omega), List.getElem?_eq_none (by rw [wipe_length]; omega)]
  · rw [wipe_get σ vs j m, wipe_get τ vs j m, h j m]

def wipeS (sl : List Sl) : List Nat → List Sl
  | [] => sl
  | v :: vs => (wipeS sl vs).set v .no
def wipeE (e : En) (vs : List Nat) : En := { e with sl := wipeS e.sl vs }
def restS (old new : List Sl) : List Nat → List Sl
  | [] => new
  | v :: vs => (restS old new vs).set v (old.getD v .no)
def restE (old new : En) (vs : List Nat) : En := { new with sl := restS old.sl new.sl vs }
theorem wipeS_len (sl : List Sl) : ∀ vs : List Nat, (wipeS sl vs).length = sl.length
  | [] => rfl
  | v :: vs => by unfold wipeS; rw [List.length_set, wipeS_len sl vs]
theorem restS_len (old new : List Sl) : ∀ vs : List Nat, (restS old new vs).length = new.length
  | [] => rfl
  | v :: vs => by unfold restS; rw [List.length_set, restS_len old new vs]
theorem wipeS_get {sl : List Sl} : ∀ {vs : List Nat} {j : Nat} {s : Sl}, (wipeS sl vs)[j]? = some s → s = .no ∨ (j ∉ vs ∧ sl[j]? = some s)
  | [], _, _, h => .inr ⟨by simp, h⟩
  | v :: vs, j, s, h => by
    unfold wipeS at h
    by_cases e : v = j
    · subst e
      rw [List.getElem?_set] at h
      simp only [if_true] at h
      split at h
      · exact .inl (Option.some.inj h).symm
      · cases h
    · rw [List.getElem?_set_ne e] at h
      rcases wipeS_get h with k | ⟨k1, k2⟩
      · exact .inl k
      · exact .inr ⟨by rw [List.mem_cons, not_or]; exact ⟨Ne.symm e, k1⟩, k2⟩
theorem restS_get {old new : List Sl} : ∀ {vs : List Nat} {j : Nat} {s : Sl}, (restS old new vs)[j]? = some s → (j ∈ vs ∧ s = old.getD j .no) ∨ (j ∉ vs ∧ new[j]? = some s)
  | [], _, _, h => .inr ⟨by simp, h⟩
  | v :: vs, j, s, h => by
    unfold restS at h
    by_cases e : v = j
    · subst e
      rw [List.getElem?_set] at h
      simp only [if_true] at h
      split at h
      · exact .inl ⟨List.mem_cons_self, (Option.some.inj h).symm⟩
      · cases h
    · rw [List.getElem?_set_ne e] at h
      rcases restS_get h with ⟨k1, k2⟩ | ⟨k1, k2⟩
      · exact .inl ⟨List.mem_cons_of_mem _ k1, k2⟩
      · exact .inr ⟨by rw [List.mem_cons, not_or]; exact ⟨Ne.symm e, k1⟩, k2⟩
def plainS : Sl → Bool
  | .no => true
  | .val _ => true
  | _ => false
section
variable {K : PySem.W.Frag} {β : Option Addr} {G H G' H' : Hp} {ρ ρ' : Own} {σ τ : L2.St} {e e' : En}
theorem R.wiped {vs : List Nat} (r : R K β G H ρ σ e) : R K β G H ρ (wipe σ vs) (wipeE e vs) := by
  refine ⟨by rw [wipe_length, r.len]; exact (wipeS_len _ _).symm, r.ex, r.ow, fun j s hj => ?_, r.bg⟩
  rcases wipeS_get hj with rfl | ⟨h1, h2⟩
  · trivial
  · rw [wipe_get σ vs j h1]
    exact r.sl j s h2
theorem R.rest {vs : List Nat} (r : R K β G H ρ σ e) (x : Ex G G') (hp : ∀ v ∈ vs, plainS (e.sl.getD v .no) = true) (r' : R K β G' H' ρ' τ e') (hl : τ.length = σ.length) (ha : ∀ j, j ∉ vs → τ[j]? = σ[j]?) : R K β G' H' ρ' σ (restE e e' vs) := by
  refine ⟨?_, r'.ex, r'.ow, fun j s hj => ?_, r'.bg⟩
  · show σ.length = (restS e.sl e'.sl vs).length
    rw [restS_len, ← r'.len, hl]
  · rcases restS_get hj with ⟨h1, h2⟩ | ⟨h1, h2⟩
    · subst h2
      have p := hp j h1
      cases z : e.sl[j]? with
      | none => rw [List.getD_eq_getElem?_getD, z]; trivial
      | some s0 =>
        have w := r.sl j s0 z
        rw [List.getD_eq_getElem?_getD, z] at p ⊢
        simp only [Option.getD_some] at p ⊢
        cases s0 with
        | no => trivial
        | val d => obtain ⟨v, w1, w2⟩ := w; exact ⟨v, w1, w2.mono x⟩
        | own l => cases p
        | bag => cases p
    · have w := r'.sl j s h2
      rw [← ha j h1]
      exact w
end

/-- the comprehension's loop -/
def lcL (f : D → En → Option (Option D × En)) : List D → En → Option (List D × En)
  | [], e => some ([], e)
  | d :: ds, e => match f d e with
    | none => none
    | some (o, e1) => match lcL f ds e1 with
      | none => none
      | some (l, e2) => some (o.toList ++ l, e2)
section
variable {X : Cx} {β : Option Addr}
/-- a context of the comprehension's block -/
abbrev Bl (X : Cx) (scope : Scope) (s : Shared) (H : Hp) (C : Addr) (cl : List (Str × Addr)) (fp : List Addr) : Cx := X.blk s H scope (compEnvC scope cl C X.env) fp
def DenTs (X : Cx) (β : Option Addr) (es : List Expr) (a : En) (k : Bool) (b : En) : Prop :=
  ∀ (G H : Hp) (ρ : Own) (σ : L2.St) (Q : Bool → Hp → Prop), R X.K β G H ρ σ a →
    (∀ G' H' ρ', Fr G H ρ G' H' ρ' → R X.K β G' H' ρ' σ b → Q k H') → ∃ t, PTs X es t ∧ t σ H Q
theorem dents_nil {a : En} : DenTs X β [] a true a := fun G H ρ σ Q r q => ⟨_, pts_nil, q G H ρ .refl r⟩
theorem dents_one {e : Expr} {a b : En} {k : Bool} (h : DenT X β e a k b) : DenTs X β [e] a k b := fun G H ρ σ Q r q => ⟨_, pts_one pt_w, h G H ρ σ Q r q⟩
/-- one turn: the target, the tests, the element, in the block's contexts -/
def TurnC (X : Cx) (β : Option Addr) (scope : Scope) (t : Tg) (vs : List Nat) (ifs : List Expr) (elt : Expr) (d : D) (e : En) (o : Option D) (e' : En) : Prop :=
  (∀ v ∈ vs, plainS (e.sl.getD v .no) = true) ∧ ∃ e1 k e2, stT (wipeE e vs) t d = some e1 ∧ (∀ s H C cl fp, DenTs (Bl X scope s H C cl fp) β ifs e1 k e2) ∧
    match k with
    | false => o = none ∧ e' = restE e e2 vs
    | true => ∃ e3 d', (∀ s H C cl fp, Den (Bl X scope s H C cl fp) β elt e2 false d' e3) ∧ o = some d' ∧ e' = restE e e3 vs
def wTs (X : Cx) (scope : Scope) (ifs : List Expr) : TT := fun σ H Q => ∀ s H0 C cl fp, ∃ t, PTs (Bl X scope s H0 C cl fp) ifs t ∧ t σ H Q
def wEs (X : Cx) (scope : Scope) (e : Expr) : TE := fun σ H Q => ∀ s H0 C cl fp, wE (Bl X scope s H0 C cl fp) e σ H Q
theorem read_lc {tg it elt : Expr} {ifs : List Expr} {scope : Scope} {a b c : En} {ds l : List D} {t : Tg} {vs : List Nat} {f : D → En → Option (Option D × En)} (hv : ∀ j ∈ t.ix, j ∈ vs) (hi : DenI X β tg it a ds b)
    (hf : ∀ d e o e', f d e = some (o, e') → TurnC X β scope t vs ifs elt d e o e') (h : lcL f ds b = some (l, c)) (hl : ds.length ≤ 1000000) {G H : Hp} {ρ : Own} {σ : L2.St} {Q : VK} (r : R X.K β G H ρ σ a) (q : Kn X.K β G H ρ σ c true (.list l) Q) :
    tLc (wI X tg it) (gOf X.K t) (wTs X scope ifs) (wEs X scope elt) vs σ H Q := by
  refine hi G H ρ σ _ r fun J G1 H1 ρ1 f1 r1 wk => fun Dn hDn => ?_
  have gD : ρ1 Dn = none ∧ G1 Dn = none := r1.free hDn
  refine ⟨fun i m H' => m = ds.length - i ∧ i ≤ ds.length ∧ ∃ e G' ρ' acc done rest, Fr G1 H1 ρ1 G' H' ρ' ∧ R X.K β G' H' ρ' σ e ∧ G' Dn = none ∧ ρ' Dn = none ∧ H' Dn = some (.lst acc) ∧ Rps X.K G' acc done ∧ done.length ≤ i ∧ lcL f (ds.drop i) e = some (rest, c) ∧ l = done ++ rest,
    ⟨ds.length, by simp, Nat.zero_le _, b, G1, ρ1, [], [], l, .grow hDn, r1.grow hDn, gD.2, gD.1, upd_same, .nil, Nat.le_refl _, h, rfl⟩, ?_⟩
  rintro i m H2 ⟨rfl, hle, e, G2, ρ2, acc, done, rest, f2, r2, g2, o2, h2, ha, hdl, hr, hlst⟩
  by_cases hlt : i < ds.length
  · have hd : ds[i]? = some ds[i] := List.getElem?_eq_getElem hlt
    rw [List.drop_eq_getElem_cons hlt] at hr
    unfold lcL at hr
    cases z : f ds[i] e with
    | none => rw [z] at hr; cases hr
    | some oe =>
      obtain ⟨o, e'⟩ := oe
      simp only [z] at hr
      cases z2 : lcL f (ds.drop (i + 1)) e' with
      | none => rw [z2] at hr; cases hr
      | some le =>
        obtain ⟨l2, e2'⟩ := le
        rw [z2] at hr
        simp only [Option.some.injEq, Prod.mk.injEq] at hr
        obtain ⟨hr1, hr2⟩ := hr
        subst hr2
        refine .inr ⟨wk.go i G2 H2 f2.ex r2.ex hlt, fun H' => i + 1 ≤ ds.length ∧ ∃ e G' ρ' acc done rest, Fr G1 H1 ρ1 G' H' ρ' ∧ R X.K β G' H' ρ' σ e ∧ G' Dn = none ∧ ρ' Dn = none ∧ H' Dn = some (.lst acc) ∧ Rps X.K G' acc done ∧ done.length ≤ i + 1 ∧ lcL f (ds.drop (i + 1)) e = some (rest, e2') ∧ l = done ++ rest,
          fun H' w => ⟨ds.length - (i + 1), by omega, rfl, w.1, w.2⟩, fun x H' hy => ?_⟩
        obtain ⟨hp, e1, k, e2, hst, htest, hk⟩ := hf _ _ _ _ z
        obtain ⟨G3, f3, r3, x3⟩ := wk.turn f2.ex r2 hd hy
        have rw3 := r3.wiped (vs := vs)
        refine gOf_ok rw3 x3 hst fun σ4 r4 l4 a4 => ⟨?_, ?_⟩
        · rw [wipe_same (σ := σ4) (τ := wipe σ vs) l4 fun j hj => a4 j fun hm => hj (hv j hm)]
          exact wipe_same (wipe_length σ vs) fun j hj => wipe_get σ vs j hj
        · intro s0 H0 C cl fp
          have l4' : σ4.length = σ.length := by rw [l4, wipe_length]
          have a4' : ∀ j, j ∉ vs → σ4[j]? = σ[j]? := fun j hj => by rw [a4 j fun hm => hj (hv j hm), wipe_get σ vs j hj]
          refine htest s0 H0 C cl fp G3 H' ρ2 σ4 _ r4 fun G5 H5 ρ5 f5 r5 => ?_
          have F5 : Fr G2 H2 ρ2 G5 H5 ρ5 := f3.trans f5
          cases k with
          | false =>
            obtain ⟨rfl, rfl⟩ := hk
            obtain ⟨d1, d2, d3⟩ := F5.keep Dn _ h2 o2
            exact ⟨hlt, _, G5, ρ5, acc, done, l2, f2.trans F5, r3.rest f5.ex hp r5 l4' a4', d3 g2, d2, d1, ha.mono F5.ex, Nat.le_succ_of_le hdl, z2, by rw [hlst, ← hr1]; rfl⟩
          | true =>
            obtain ⟨e3, d', hE, rfl, rfl⟩ := hk
            show wEs X scope elt σ4 H5 _
            intro s1 H1' C1 cl1 fp1
            refine hE s1 H1' C1 cl1 fp1 G5 H5 ρ5 σ4 _ r5 fun v G6 H6 ρ6 f6 r6 x6 => ?_
            have F6 : Fr G2 H2 ρ2 G6 H6 ρ6 := F5.trans f6
            obtain ⟨d1, d2, d3⟩ := F6.keep Dn _ h2 o2
            have r7 : R X.K β G6 H6 ρ6 σ (restE e e3 vs) := r3.rest (f5.trans f6).ex hp r6 l4' a4'
            have hacc : acc.length < sizeLine := by rw [(ha).length]; exact Nat.lt_of_le_of_lt hdl (Nat.lt_of_lt_of_le hlt (len_ok hl))
            have g6 : G6 Dn = none := d3 g2
            have upE : ∀ a, a ≠ Dn → upd H6 Dn (.lst (acc ++ [v])) a = H6 a := fun a h => upd_ne h
            have ne : ∀ a, ρ6 a ≠ none → a ≠ Dn := fun a h z => h (by rw [z]; exact d2)
            have r8 : R X.K β G6 (upd H6 Dn (.lst (acc ++ [v]))) ρ6 σ (restE e e3 vs) := by
              refine ⟨r7.len, r7.ex.mut g6, fun a h => ⟨(r7.ow a h).1, by rw [upE a (ne a h)]; exact (r7.ow a h).2⟩, fun j s hj => (r7.sl j s hj).mono (Evl.Ex.refl _) fun a h => upE a (ne a h), fun a h => ?_⟩
              obtain ⟨b1, ws, b2, b3⟩ := r7.bg a h
              exact ⟨b1, ws, by rw [upE a (ne a (by rw [b1]; simp))]; exact b2, b3⟩
            have ff : Fr G1 H1 ρ1 G6 H6 ρ6 := f2.trans F6
            refine ⟨acc, d1, hacc, hlt, _, G6, ρ6, acc ++ [v], done ++ [d'], l2, ⟨ff.ex, fun a u hu hr => ?_, fun a h => ?_⟩, r8, g6, d2, upd_same, (ha.mono F6.ex).append (.cons x6 .nil), by rw [List.length_append]; exact Nat.succ_le_succ hdl, z2, by rw [hlst, ← hr1]; simp⟩
            · obtain ⟨k1, k2, k3⟩ := ff.keep a u hu hr
              exact ⟨by rw [upE a (ne_of_none hu hDn)]; exact k1, k2, k3⟩
            · by_cases k : a = Dn
              · subst k; rw [upd_same] at h; cases h
              · rw [upE a k] at h; exact ff.dom a h
  · have e1 : i = ds.length := by omega
    subst e1
    rw [List.drop_length] at hr
    simp only [lcL, Option.some.injEq, Prod.mk.injEq] at hr
    obtain ⟨rfl, rfl⟩ := hr
    refine .inl ⟨wk.stop _ G2 H2 f2.ex r2.ex rfl, ?_⟩
    refine q (.ref Dn) G2 H2 ρ2 (f1.trans f2) r2 ⟨Dn, l, acc, rfl, rfl, f1.dom Dn hDn, g2, o2, h2, ?_⟩
    rw [hlst, List.append_nil]
    exact ha
theorem pts_all {scope : Scope} {ifs : List Expr} (s : Shared) (H : Hp) (C : Addr) (cl : List (Str × Addr)) (fp : List Addr) : PTs (Bl X scope s H C cl fp) ifs (wTs X scope ifs) :=
  ⟨fun pins s' σ H' Q I h => by obtain ⟨t, p, q⟩ := h s H C cl fp; exact p.run pins s' σ H' Q I q⟩
theorem pe_all {scope : Scope} {e : Expr} (s : Shared) (H : Hp) (C : Addr) (cl : List (Str × Addr)) (fp : List Addr) : PE (Bl X scope s H C cl fp) e (wEs X scope e) :=
  ⟨fun pins s' σ H' Q I h => by obtain ⟨t, p, q⟩ := h s H C cl fp; exact p.run pins s' σ H' Q I q⟩
theorem den_lc {tg it elt : Expr} {ifs : List Expr} {scope : Scope} {pos : Pos} {own : List (Str × Nat)} {a b c : En} {ds l : List D} {t : Tg} {tl : List (Str × Nat)} {f : D → En → Option (Option D × En)} (nd : X.N.Nodup) (hc : X.calm = true) (hset : isSet it = false)
    (ok : BlkOk X.N X.env.scope scope own) (ht : tgOf X.N tg = some (t, tl)) (hst : ∀ s H C cl fp, ∀ p ∈ tl, StOk (Bl X scope s H C cl fp) p.1) (hv : ∀ j ∈ t.ix, j ∈ own.map (·.2)) (hi : DenI X β tg it a ds b)
    (hf : ∀ d e o e', f d e = some (o, e') → TurnC X β scope t (own.map (·.2)) ifs elt d e o e') (h : lcL f ds b = some (l, c)) (hl : ds.length ≤ 1000000) : Den X β (.ListComp elt [⟨tg, it, ifs, 0⟩] scope pos) a true (.list l) c := fun G H ρ σ Q r q =>
  ⟨_, pe_lc hc nd pi_w ok (fun s H C cl fp => pg_tg (X := Bl X scope s H C cl fp) nd hc ht (hst s H C cl fp)) pts_all pe_all (fun x => by cases it <;> first | rfl | cases hset), read_lc hv hi hf h hl r q⟩
theorem dens_setLc {x : Str} {px spos : Pos} {i : Nat} {tg it elt : Expr} {ifs : List Expr} {scope : Scope} {pos : Pos} {own : List (Str × Nat)} {a b c : En} {ds l : List D} {t : Tg} {tl : List (Str × Nat)} {f : D → En → Option (Option D × En)} (nd : X.N.Nodup) (hc : X.calm = true) (hset : isSet it = false)
    (hN : idxOf X.N x = some i) (hx : X.env.scope.names.lookup x = some .local) (hsw : swapsWith (.ListComp elt [⟨tg, it, ifs, 0⟩] scope pos) (some (.Name x px)) spos.line X.env = pure true) (hic : i < c.sl.length)
    (ok : BlkOk X.N X.env.scope scope own) (ht : tgOf X.N tg = some (t, tl)) (hst : ∀ s H C cl fp, ∀ p ∈ tl, StOk (Bl X scope s H C cl fp) p.1) (hv : ∀ j ∈ t.ix, j ∈ own.map (·.2)) (hi : DenI X β tg it a ds b)
    (hf : ∀ d e o e', f d e = some (o, e') → TurnC X β scope t (own.map (·.2)) ifs elt d e o e') (h : lcL f ds b = some (l, c)) (hl : ds.length ≤ 1000000) :
    DenS X β (.Assign [.Name x px] (.ListComp elt [⟨tg, it, ifs, 0⟩] scope pos) spos) a (.nx (setS c i true (.list l))) := fun G H ρ σ Dn r q =>
  ⟨_, ps_setLc hc nd (idxOf_get hN) hx hsw pi_w ok (fun s H C cl fp => pg_tg (X := Bl X scope s H C cl fp) nd hc ht (hst s H C cl fp)) pts_all pe_all (fun x => by cases it <;> first | rfl | cases hset), read_lc hv hi hf h hl r fun v G1 H1 ρ1 f1 r1 x1 => by
    obtain ⟨ρ2, r2, f2⟩ := r1.store hic x1 f1
    exact q G1 H1 ρ2 _ f2 r2⟩
end
end Fz
set_option Elab.async false
set_option linter.all false
set_option maxRecDepth 100000
set_option maxHeartbeats 4000000
/-! Fz, part L: defs and their calls. -/
namespace Fz
open PySem PySem.Spec PyProof.Rows L2

/-- a way to call with keywords: so many by place, these names, where each parameter's value lies -/
structure Kw where
  n : Nat
  ks : List Str
  perm : List Nat
/-- what a def computes: parameters; whether the first one is a list that it may change; the function -/
structure Fn where
  ps : List Str
  io : Bool
  kws : List Kw
  den : List D → Option (Bool × D × List D)
def r0 (β : Option Addr) : Own := fun a => if β = some a then some 0 else none
def ArgR (K : PySem.W.Frag) (β : Option Addr) (G H : Hp) : Bool → List V → List D → Prop
  | false, vs, ds => β = none ∧ Rps K G vs ds
  | true, vs, ds => ∃ a bs ws vs' ds', β = some a ∧ vs = .ref a :: vs' ∧ ds = .list bs :: ds' ∧ G a = none ∧ H a = some (.lst ws) ∧ Rps K G ws bs ∧ Rps K G vs' ds'
def spD (K : PySem.W.Frag) (fn : Fn) : Sp := fun vs H Q _ => ∃ (G : Hp) (β : Option Addr) (ds : List D) (o : Bool) (d : D) (l : List D),
  fn.den ds = some (o, d, l) ∧ vs.length = fn.ps.length ∧ Ex G H ∧ ArgR K β G H fn.io vs ds ∧
  ∀ v G' H' ρ', Fr G H (r0 β) G' H' ρ' → Ex G' H' → (∀ a, β = some a → G' a = none ∧ ∃ ws, H' a = some (.lst ws) ∧ Rps K G' ws l) → VR K H G' H' ρ' d v o → Q v H'
def vals : List D → List Sl
  | [] => []
  | d :: l => .val d :: vals l
theorem vals_len : ∀ l, (vals l).length = l.length
  | [] => rfl
  | _ :: l => by unfold vals; rw [List.length_cons, List.length_cons, vals_len l]
theorem vals_get : ∀ {l : List D} {i : Nat} {s : Sl}, (vals l)[i]? = some s → ∃ d, l[i]? = some d ∧ s = .val d
  | [], _, _, h => by simp [vals] at h
  | d :: l, 0, s, h => by simp only [vals, List.getElem?_cons_zero, Option.some.injEq] at h; exact ⟨d, rfl, h.symm⟩
  | d :: l, i + 1, s, h => by simp only [vals, List.getElem?_cons_succ] at h; obtain ⟨e, h1, h2⟩ := vals_get h; exact ⟨e, by simpa using h1, h2⟩
/-- the slots at a def's start -/
def en0 (n : Nat) : Bool → List D → En
  | true, .list b :: r => ⟨.bag :: vals r ++ List.replicate (n - (r.length + 1)) .no, b⟩
  | _, ds => ⟨vals ds ++ List.replicate (n - ds.length) .no, []⟩
theorem rep_get {n i : Nat} {s : Sl} (h : (List.replicate n Sl.no)[i]? = some s) : s = .no := by
  rw [List.getElem?_replicate] at h
  split at h
  · exact (Option.some.inj h).symm
  · cases h
theorem start_get {N : List Str} {vs : List V} {i : Nat} {v : V} (h : vs[i]? = some v) : (L2.start N vs)[i]? = some (some v) := by
  have hi : i < vs.length := (List.getElem?_eq_some_iff.mp h).1
  unfold L2.start
  rw [List.getElem?_append_left (by simpa using hi), List.getElem?_map, h]
  rfl
theorem start_len {N : List Str} {vs : List V} (h : vs.length ≤ N.length) : (L2.start N vs).length = N.length := by
  unfold L2.start
  rw [List.length_append, List.length_map, List.length_replicate]
  omega
theorem start_R {K : PySem.W.Frag} {β : Option Addr} {G H : Hp} {N : List Str} {io : Bool} {vs : List V} {ds : List D} (hl : vs.length ≤ N.length) (ex : Ex G H) (h : ArgR K β G H io vs ds) : R K β G H (r0 β) (L2.start N vs) (en0 N.length io ds) := by
  cases io with
  | false =>
    obtain ⟨rfl, hr⟩ := h
    have e0 : en0 N.length false ds = ⟨vals ds ++ List.replicate (N.length - ds.length) .no, []⟩ := by cases ds <;> rfl
    rw [e0]
    refine ⟨?_, ex, fun a ha => absurd rfl ha, fun i s hs => ?_, fun a ha => by cases ha⟩
    · rw [start_len hl]
      show _ = (vals ds ++ List.replicate (N.length - ds.length) Sl.no).length
      rw [List.length_append, vals_len, List.length_replicate, ← hr.length]
      omega
    · have hs : (vals ds ++ List.replicate (N.length - ds.length) Sl.no)[i]? = some s := hs
      by_cases hi : i < (vals ds).length
      · rw [List.getElem?_append_left hi] at hs
        obtain ⟨d, h1, rfl⟩ := vals_get hs
        obtain ⟨v, h2, h3⟩ := hr.get h1
        exact ⟨v, start_get h2, h3⟩
      · rw [List.getElem?_append_right (by omega)] at hs
        rw [rep_get hs]
        trivial
  | true =>
    obtain ⟨a, bs, ws, vs', ds', rfl, rfl, rfl, hg, hh, hw, hr⟩ := h
    have e0 : en0 N.length true (.list bs :: ds') = ⟨.bag :: vals ds' ++ List.replicate (N.length - (ds'.length + 1)) .no, bs⟩ := rfl
    rw [e0]
    rw [List.length_cons] at hl
    refine ⟨?_, ex, fun b hb => ?_, fun i s hs => ?_, fun b hb => ?_⟩
    · rw [start_len (by rw [List.length_cons]; exact hl)]
      show _ = (Sl.bag :: vals ds' ++ List.replicate (N.length - (ds'.length + 1)) Sl.no).length
      rw [List.length_append, List.length_cons, vals_len, List.length_replicate, ← hr.length]
      omega
    · unfold r0 at hb
      by_cases k : some a = some b
      · cases k
        exact ⟨hg, by rw [hh]; simp⟩
      · rw [if_neg k] at hb; exact absurd rfl hb
    · have hs : (Sl.bag :: (vals ds' ++ List.replicate (N.length - (ds'.length + 1)) Sl.no))[i]? = some s := hs
      cases i with
      | zero => cases hs; exact ⟨a, rfl, start_get rfl⟩
      | succ i =>
        rw [List.getElem?_cons_succ] at hs
        by_cases hi : i < (vals ds').length
        · rw [List.getElem?_append_left hi] at hs
          obtain ⟨d, h1, rfl⟩ := vals_get hs
          obtain ⟨v, h2, h3⟩ := hr.get h1
          exact ⟨v, start_get (by rw [List.getElem?_cons_succ]; exact h2), h3⟩
        · rw [List.getElem?_append_right (by omega)] at hs
          rw [rep_get hs]
          trivial
    · cases hb
      exact ⟨by simp [r0], ws, hh, hw⟩

/-! ### a def by its body -/
/-- what a body's end hands back -/
def endD : SR → Option (Bool × D × List D)
  | .nx e => some (false, .none, e.bg)
  | .rt o d e => some (o, d, e.bg)
  | _ => none
/-- the context of a def's body -/
structure Ctx (P : Program) (w : World) (K : PySem.W.Frag) (mg : Str → Option Value) (base : Heap) (N : List Str) (k : Nat) (sc : Scope) (X : Cx) : Prop where
  prog : X.prog = P
  w : X.w = w
  K : X.K = K
  mg : X.mg = mg
  base : X.base = base
  N : X.N = N
  calm : X.calm = true
  room : Room k X.A
  sc : X.env.scope = sc
  fn : ∀ x, X.fn x = true
  po : PassesOwn (model X.prog X.w) X.A X.env X.xe
theorem fn_ok {P : Program} {w : World} {K : PySem.W.Frag} {mg : Str → Option Value} {base : Heap} {x qual : Str} {st : Stmt} {f : Addr} {fd : FuncData} {N : List Str} {k : Nat} {fn : Fn} (F : L2.Fun K x qual st f fd) (S : FnScope N fn.ps (defScope st))
    (hb : ∀ (X : Cx) (β : Option Addr), Ctx P w K mg base N k (defScope st) X → ∀ ds z, fn.den ds = some z → ∃ r, DenSs X β (defBody st) (en0 N.length fn.io ds) r ∧ endD r = some z) :
    FnOk P w K mg base CX0 (k + 1) f fd fn.ps (spD K fn) := by
  have hpl : fn.ps.length ≤ N.length := by have := congrArg List.length S.pre; rw [List.length_take] at this; omega
  refine F.ok S (fun vs H Q E h => ?_) (fun cdv A outer s H vs Q E hr h => ?_)
  · obtain ⟨G, β, ds, o, d, l, h1, h2, _⟩ := h
    exact h2
  · obtain ⟨G, β, ds, o, d, l, h1, h2, ex, ha, q⟩ := h
    obtain ⟨r, hd, he⟩ := hb (cxOf CX0 P w K mg base N qual (defScope st) f cdv A outer s H E).nox β ⟨rfl, rfl, rfl, rfl, rfl, rfl, rfl, hr, rfl, fun _ => rfl, PassesOwn.never⟩ ds _ h1
    refine ⟨_, pss_w, hd G H (r0 β) (L2.start N vs) _ (start_R (by rw [h2]; exact hpl) ex ha) ?_⟩
    cases r with
    | nx e =>
      cases he
      intro G' H' ρ' σ' f' r'
      refine q .non G' H' ρ' f' r'.ex (fun a e => ?_) .non
      obtain ⟨b1, ws, b2, b3⟩ := r'.bg a e
      exact ⟨(r'.ow a (by rw [b1]; simp)).1, ws, b2, b3⟩
    | rt o e b =>
      cases he
      intro v G' H' ρ' σ' f' r' x
      refine q v G' H' ρ' f' r'.ex (fun a e => ?_) x
      obtain ⟨b1, ws, b2, b3⟩ := r'.bg a e
      exact ⟨(r'.ow a (by rw [b1]; simp)).1, ws, b2, b3⟩
    | bk e => cases he
    | ct e => cases he

/-! ### the state behind a call -/
section
variable {K : PySem.W.Frag} {β : Option Addr} {G H G' H' : Hp} {ρ ρ' : Own} {σ : L2.St} {e : En}
theorem R.called (r : R K β G H ρ σ e) (f : Fr G H (r0 none) G' H' ρ') (ex : Ex G' H') : R K β G' H' ρ σ e ∧ Fr G H ρ G' H' ρ := by
  have kp : ∀ a, ρ a ≠ none → H' a = H a ∧ G' a = none := fun a ha => by
    obtain ⟨h1, h2⟩ := r.ow a ha
    cases z : H a with
    | none => exact absurd z h2
    | some u =>
      obtain ⟨k1, k2, k3⟩ := f.keep a u z rfl
      exact ⟨k1, k3 h1⟩
  refine ⟨⟨r.len, ex, fun a ha => ⟨(kp a ha).2, by rw [(kp a ha).1]; exact (r.ow a ha).2⟩, fun i s hs => (r.sl i s hs).mono f.ex fun a ha => (kp a ha).1, fun a ha => ?_⟩, ⟨f.ex, fun a u ha hr => ?_, f.dom⟩⟩
  · obtain ⟨b1, ws, b2, b3⟩ := r.bg a ha
    exact ⟨b1, ws, by rw [(kp a (by rw [b1]; simp)).1]; exact b2, b3.mono f.ex⟩
  · obtain ⟨k1, k2, k3⟩ := f.keep a u ha rfl
    exact ⟨k1, hr, k3⟩
theorem R.calledIo {i : Nat} {l l' : List D} {p : Addr} {vs' : List V} (r : R K β G H ρ σ e) (h : slotL e i = some l) (hp : σ[i]? = some (some (.ref p))) (f : Fr G H (r0 (some p)) G' H' ρ') (ex : Ex G' H')
    (hg : G' p = none) (hh : H' p = some (.lst vs')) (hv : Rps K G' vs' l') : R K β G' H' ρ σ (putL e i l') ∧ Fr G H ρ G' H' ρ := by
  obtain ⟨p', vs, h1, h2, h3, h4⟩ := r.ownAt h
  rw [hp] at h1
  cases h1
  have kp : ∀ a, ρ a ≠ none → a ≠ p → H' a = H a ∧ G' a = none := fun a ha ne => by
    obtain ⟨h1, h2⟩ := r.ow a ha
    cases z : H a with
    | none => exact absurd z h2
    | some u =>
      obtain ⟨k1, k2, k3⟩ := f.keep a u z (by simp [r0, Ne.symm ne])
      exact ⟨k1, k3 h1⟩
  -- the same slots over the heap behind the call, with p as it was
  have r1 : R K β G' (upd H' p (.lst vs)) ρ σ e := by
    refine ⟨r.len, ex.mut hg, fun a ha => ?_, fun j s hs => (r.sl j s hs).mono f.ex fun a ha => ?_, fun a ha => ?_⟩
    · by_cases z : a = p
      · rw [z]; exact ⟨hg, by rw [upd_same]; simp⟩
      · exact ⟨(kp a ha z).2, by rw [upd_ne z, (kp a ha z).1]; exact (r.ow a ha).2⟩
    · by_cases z : a = p
      · rw [z, upd_same, h2]
      · rw [upd_ne z, (kp a ha z).1]
    · obtain ⟨b1, ws, b2, b3⟩ := r.bg a ha
      refine ⟨b1, ws, ?_, b3.mono f.ex⟩
      by_cases z : a = p
      · rw [z] at b2 ⊢; rw [upd_same, ← h2, b2]
      · rw [upd_ne z, (kp a (by rw [b1]; simp) z).1]; exact b2
  obtain ⟨r2, _⟩ := r1.put h hp hv
  rw [upd_upd, show upd H' p (.lst vs') = H' from funext fun a => by
    by_cases z : a = p
    · rw [z, upd_same, hh]
    · rw [upd_ne z]] at r2
  refine ⟨r2, ⟨f.ex, fun a u ha hr => ?_, f.dom⟩⟩
  have ne : a ≠ p := fun z => h4 (by rw [← z]; exact hr)
  obtain ⟨k1, k2, k3⟩ := f.keep a u ha (by simp [r0, Ne.symm ne])
  exact ⟨k1, hr, k3⟩
end

/-! ### calls -/
def arr {α : Type} (perm : List Nat) (us ws : List α) : List α := perm.filterMap fun i => (us ++ ws)[i]?
theorem arr_rps {K : PySem.W.Frag} {G : Hp} {vs zs : List V} {ds es : List D} (h1 : Rps K G vs ds) (h2 : Rps K G zs es) : ∀ perm : List Nat, Rps K G (arr perm vs zs) (arr perm ds es)
  | [] => .nil
  | i :: perm => by
    have h := h1.append h2
    have ih := arr_rps h1 h2 perm
    unfold arr at ih ⊢
    rw [List.filterMap_cons, List.filterMap_cons]
    cases z : (ds ++ es)[i]? with
    | none =>
      have : (vs ++ zs)[i]? = none := by
        rw [List.getElem?_eq_none_iff] at z ⊢
        rw [h.length]; exact z
      rw [this]
      exact ih
    | some d =>
      obtain ⟨v, k1, k2⟩ := h.get z
      rw [k1]
      exact .cons k2 ih
theorem arr_vals {vs zs : List V} {us ws : List Value} (h1 : Vals vs us) (h2 : Vals zs ws) : ∀ perm : List Nat, Vals (arr perm vs zs) (arr perm us ws)
  | [] => .nil
  | i :: perm => by
    have h := h1.append h2
    have ih := arr_vals h1 h2 perm
    unfold arr at ih ⊢
    rw [List.filterMap_cons, List.filterMap_cons]
    cases z : (vs ++ zs)[i]? with
    | none => rw [h.none_of z]; exact ih
    | some v =>
      obtain ⟨u, k1, k2⟩ := h.get z
      rw [k1]
      exact .cons k2 ih
/-- a def of the text that a context can call -/
structure FnAt (X : Cx) (k : Nat) (x : Str) (fn : Fn) : Prop where
  ex : ∃ f fd, X.mg x = some (.ref f) ∧ PySem.W.keepIn X.K (.ref f) = true ∧ FnOk X.prog X.w X.K X.mg X.base CX0 k f fd fn.ps (spD X.K fn) ∧ Binds X.K fd fn.ps [] ∧
    ∀ kw ∈ fn.kws, KBn X.K fd fn.ps kw.n kw.ks (arr kw.perm) (arr kw.perm)
  nd : (x == ("__debug__" : Str)) = false
section
variable {X : Cx} {β : Option Addr} {k : Nat} {x : Str} {fn : Fn}
theorem sp_plain {b : En} {ds : List D} {o : Bool} {d : D} {l : List D} {G H : Hp} {ρ : Own} {σ : L2.St} {vs : List V} {Q : VK} {E : XK} (hio : fn.io = false) (hd : fn.den ds = some (o, d, l)) (hl : ds.length = fn.ps.length) (r : R X.K β G H ρ σ b) (hx : Rps X.K G vs ds) (q : Kn X.K β G H ρ σ b o d Q) : spD X.K fn vs H Q E := by
  refine ⟨G, none, ds, o, d, l, hd, by rw [hx.length]; exact hl, r.ex, by rw [hio]; exact ⟨rfl, hx⟩, fun v G' H' ρ' f ex _ x => ?_⟩
  obtain ⟨r', f'⟩ := r.called f ex
  refine q v G' H' ρ f' r' ?_
  cases o with
  | false => exact x
  | true =>
    obtain ⟨p, l', ws, h1, h2, h3, h4, h5, h6, h7⟩ := x
    exact ⟨p, l', ws, h1, h2, h3, h4, (r.free h3).1, h6, h7⟩
theorem den_call0 {p pos : Pos} {a : En} {o : Bool} {d : D} {l : List D} (F : FnAt X k x fn) (hr : Room k X.A) (hg : Gl X x) (hio : fn.io = false) (hd : fn.den [] = some (o, d, l)) (hl : fn.ps.length = 0) : Den X β (.Call (.Name x p) [] [] pos) a o d a := by
  intro G H ρ σ Q r q
  obtain ⟨f, fd, hm, hk, Fk, hb, _⟩ := F.ex
  exact ⟨_, pe_call0 (E := E0) Fk hr hg hm hk hb .nil pass0 F.nd, sp_plain (E := E0) hio hd hl.symm r .nil q⟩
theorem den_call {p pos : Pos} {e : Expr} {es : List Expr} {a b : En} {ds : List D} {o : Bool} {d : D} {l : List D} (F : FnAt X k x fn) (hr : Room k X.A) (hg : Gl X x) (hs : (e :: es).all (fun e => !isStar e) = true) (hio : fn.io = false) (ha : DenA X β (e :: es) a ds b) (hd : fn.den ds = some (o, d, l)) (hl : ds.length = fn.ps.length) :
    Den X β (.Call (.Name x p) (e :: es) [] pos) a o d b := by
  intro G H ρ σ Q r q
  obtain ⟨f, fd, hm, hk, Fk, hb, _⟩ := F.ex
  rw [List.all_cons, Bool.and_eq_true] at hs
  refine ⟨_, pe_call Fk hr hg hm hk hb .nil pass0 pa_w F.nd (star_ok (by simpa using hs.1)) (stars_ok hs.2), ha G H ρ σ _ r fun vs G1 H1 ρ1 f1 r1 x1 => ?_⟩
  rw [List.append_nil]
  exact sp_plain hio hd hl r1 x1 (Kn.at q f1)
/-- the first argument a list that the def may change -/
theorem den_callIo {y : Str} {p pos py : Pos} {es : List Expr} {a b : En} {i : Nat} {bs : List D} {ds : List D} {o : Bool} {d : D} {l : List D} (F : FnAt X k x fn) (hr : Room k X.A) (hg : Gl X x) (hs : es.all (fun e => !isStar e) = true) (hio : fn.io = true)
    (hN : X.N[i]? = some y) (hv : Vis X.env.scope y) (hdb : (y == ("__debug__" : Str)) = false) (hcd : (y == ("__classdict__" : Str)) = false) (h0 : (slotL a i).isSome = true) (ha : DenA X β es a ds b) (hb : slotL b i = some bs) (hd : fn.den (.list bs :: ds) = some (o, d, l)) (hl : ds.length + 1 = fn.ps.length) :
    Den X β (.Call (.Name x p) (.Name y py :: es) [] pos) a o d (putL b i l) := by
  intro G H ρ σ Q r q
  obtain ⟨f, fd, hm, hk, Fk, hbd, _⟩ := F.ex
  obtain ⟨l0, h0⟩ := Option.isSome_iff_exists.mp h0
  obtain ⟨p0, vs0, p1, p2, p3, p4⟩ := r.ownAt h0
  refine ⟨_, pe_call Fk hr hg hm hk hbd .nil pass0 (pa_cons pe_w pa_w) F.nd rfl (stars_ok hs), peek hN hv hdb hcd p1 (ha G H ρ σ _ r fun vs G1 H1 ρ1 f1 r1 x1 => ?_)⟩
  show spD X.K fn (V.ref p0 :: vs ++ []) H1 _ E0
  rw [List.append_nil]
  obtain ⟨p', ws, q1, q2, q3, q4⟩ := r1.ownAt hb
  rw [p1] at q1
  cases q1
  have hg1 : G1 p0 = none := (r1.ow p0 q4).1
  refine ⟨G1, some p0, .list bs :: ds, o, d, l, hd, by rw [List.length_cons, x1.length]; exact hl, r1.ex, by rw [hio]; exact ⟨p0, bs, ws, vs, ds, rfl, rfl, rfl, hg1, q2, q3, x1⟩, fun v G' H' ρ' f ex hbag x => ?_⟩
  obtain ⟨g', ws', k1, k2⟩ := hbag p0 rfl
  obtain ⟨r', f'⟩ := r1.calledIo hb p1 f ex g' k1 k2
  refine Kn.at q f1 v G' H' ρ1 f' r' ?_
  cases o with
  | false => exact x
  | true =>
    obtain ⟨p, l', ws, h1, h2, h3, h4, h5, h6, h7⟩ := x
    exact ⟨p, l', ws, h1, h2, h3, h4, (r1.free h3).1, h6, h7⟩

/-! ### calls with keywords -/
def kwNames : List Keyword → Option (List Str)
  | [] => some []
  | ⟨some x, _, _⟩ :: r => (kwNames r).map (x :: ·)
  | ⟨none, _, _⟩ :: _ => none
theorem kw_ok {pos : Pos} {env : Env} : ∀ {kws : List Keyword} {ks : List Str}, kwNames kws = some ks →
    (backToKw pos (keywordEach kws env)).all (·.1.isSome) = true ∧ (backToKw pos (keywordEach kws env)).filterMap (·.1) = ks ∧ (backToKw pos (keywordEach kws env)).any (·.1.isNone) = false
  | [], ks, h => by cases h; exact ⟨rfl, rfl, rfl⟩
  | ⟨some x, e, p⟩ :: r, ks, h => by
    unfold kwNames at h
    cases z : kwNames r with
    | none => rw [z] at h; cases h
    | some l =>
      rw [z] at h
      cases h
      obtain ⟨h1, h2, h3⟩ := kw_ok (pos := pos) (env := env) z
      unfold backToKw at h1 h2 h3 ⊢
      simp only [keywordEach, List.map_cons, List.all_cons, List.filterMap_cons, List.any_cons, h1, h2, h3, Option.isSome_some, Option.isNone_some, Bool.and_self, Bool.or_self, and_self]
  | ⟨none, e, p⟩ :: r, ks, h => by cases h
def DenK (X : Cx) (β : Option Addr) (kws : List Keyword) (a : En) (ds : List D) (b : En) : Prop :=
  ∀ (G H : Hp) (ρ : Own) (σ : L2.St) (Q : List V → Hp → Prop), R X.K β G H ρ σ a →
    (∀ vs G' H' ρ', Fr G H ρ G' H' ρ' → R X.K β G' H' ρ' σ b → Rps X.K G' vs ds → Q vs H') → wK X kws σ H Q
theorem denk_nil {a : En} : DenK X β [] a [] a := fun G H ρ σ Q r q => ⟨_, pk_nil, q [] G H ρ .refl r .nil⟩
theorem denk_cons {nm : Option Str} {e : Expr} {kp : Pos} {kws : List Keyword} {a b c : En} {o : Bool} {d : D} {ds : List D} (h1 : Den X β e a o d b) (h2 : DenK X β kws b ds c) : DenK X β (⟨nm, e, kp⟩ :: kws) a (d :: ds) c := by
  intro G H ρ σ Q r q
  refine ⟨_, pk_cons pe_w pk_w, h1.fz G H ρ σ _ r fun v G1 H1 ρ1 f1 r1 x1 => h2 G1 H1 ρ1 σ _ r1 fun vs G2 H2 ρ2 f2 r2 x2 => ?_⟩
  exact q (v :: vs) G2 H2 ρ2 (f1.trans f2) r2 (.cons (Rp.mono f2.ex x1) x2)
theorem pe_names {f : Addr} {fd : FuncData} {sp : Sp} {ps ks : List Str} {kws : List Keyword} {tk : TA} {p pos : Pos} {g : List Value → List Value → List Value} {gV : List V → List V → List V} (Fk : FnOk X.prog X.w X.K X.mg X.base CX0 k f fd ps sp) (hr : Room k X.A) (hg : Gl X x) (hm : X.mg x = some (.ref f)) (hk : PySem.W.keepIn X.K (.ref f) = true)
    (hb : KBn X.K fd ps 0 ks g gV) (hkw : PK X kws tk) (hn : kwNames kws = some ks) (hdb : (x == ("__debug__" : Str)) = false) :
    PE X (.Call (.Name x p) [] kws pos) (fun σ H Q => tk σ H fun zs H2 => zs.length = ks.length ∧ sp (gV [] zs) H2 Q E0) := by
  obtain ⟨h1, h2, h3⟩ := kw_ok (pos := pos) (env := X.env) hn
  refine ⟨fun pins s σ H Q I h => wpAny_Call_Name_kw (ld_glob I hg hm ?_ hdb)⟩
  refine PySem.W.callWith_KW0 (h₀ := X.base) I.ok.mod.kin hk h1 (thn (hkw.run pos pins s σ H _ I h) fun ws s2 ⟨zs, H2, I2, rz, l2, q2⟩ => ⟨I2.kIn, ?_⟩) (by rw [h3]; rfl)
  rw [h2]
  exact run_fnN (vs := []) Fk hr hb pass0 I2 .nil rz rfl l2 q2
theorem den_callK {p pos : Pos} {es : List Expr} {kws : List Keyword} {kw : Kw} {a b c : En} {ds es' : List D} {o : Bool} {d : D} {l : List D} (F : FnAt X k x fn) (hr : Room k X.A) (hg : Gl X x) (hs : es.all (fun e => !isStar e) = true) (hio : fn.io = false)
    (hkw : kw ∈ fn.kws) (hn : kwNames kws = some kw.ks) (hpos : es.length = kw.n) (ha : DenA X β es a ds b) (hA : ds.length = es.length) (hka : DenK X β kws b es' c) (hkl : es'.length = kw.ks.length)
    (hd : fn.den (arr kw.perm ds es') = some (o, d, l)) (hl : (arr kw.perm ds es').length = fn.ps.length) (h0 : es = [] → ds = [] ∧ a = b) : Den X β (.Call (.Name x p) es kws pos) a o d c := by
  intro G H ρ σ Q r q
  obtain ⟨f, fd, hm, hk, Fk, hb, hKw⟩ := F.ex
  have kb := hKw kw hkw
  cases es with
  | nil =>
    obtain ⟨rfl, rfl⟩ := h0 rfl
    have e0 : kw.n = 0 := hpos.symm
    rw [e0] at kb
    refine ⟨_, pe_names Fk hr hg hm hk kb pk_w hn F.nd, hka G H ρ σ _ r fun zs G2 H2 ρ2 f2 r2 x2 => ⟨by rw [x2.length]; exact hkl, ?_⟩⟩
    exact sp_plain hio hd hl r2 (arr_rps .nil x2 kw.perm) (Kn.at q f2)
  | cons e es =>
    obtain ⟨h1, h2, h3⟩ := kw_ok (pos := pos) (env := X.env) hn
    have hs0 := hs
    rw [List.all_cons, Bool.and_eq_true] at hs
    refine ⟨_, pe_callN Fk hr hg hm hk kb pass0 pa_w pk_w h1 h2 F.nd (star_ok (by simpa using hs.1)) (by rw [h3, stars_ok hs0]; rfl), ha G H ρ σ _ r fun vs G1 H1 ρ1 f1 r1 x1 => hka G1 H1 ρ1 σ _ r1 fun zs G2 H2 ρ2 f2 r2 x2 => ⟨by rw [x1.length, hA]; exact hpos, by rw [x2.length]; exact hkl, ?_⟩⟩
    exact sp_plain hio hd hl r2 (arr_rps (x1.mono f2.ex) x2 kw.perm) (Kn.at q (f1.trans f2))
end
end Fz
set_option Elab.async false
set_option linter.all false
set_option maxRecDepth 100000
set_option maxHeartbeats 4000000
/-! Fz, part M: the text with its names resolved; what it computes; how the text is resolved. -/
namespace Fz
open PySem PySem.Spec PyProof.Rows L2

mutual
inductive RE where
  | int (i : Int) | bl (b : Bool) | non | str (x : Str)
  | nm (i : Nat)
  | bin (op : Operator) (a b : RE)
  | neg (a : RE) | not (a : RE)
  | bop (op : BoolOp) (a b : RE)
  | ife (t : RT) (a b : RE)
  | cmp (op : CmpOp) (a b : RE)
  | ix (a b : RE) | ixn (i : Nat) (b : RE)
  | sl (a : RE) (lo hi : Option RE) | sln (i : Nat) (lo hi : Option RE)
  | blt (k : Bi) (es : List RE) | lenn (i : Nat)
  | isi (a : RE) (ts : List String)
  | lst (es : List RE) | tup (es : List RE)
  | app (j : Nat) (es : List RE) | appio (j i : Nat) (es : List RE) | appk (j m : Nat) (es ks : List RE)
  | lc (t : Tg) (vs : List Nat) (it : RI) (tt : Option RT) (e : RE)
  | push (i : Nat) (e : RE) | pop (i : Nat)
inductive RT where
  | nt (a : RT)
  | bop (op : BoolOp) (a b : RT)
  | cmp (op : CmpOp) (a b : RE)
  | val (e : RE)
  | nm (i : Nat)
inductive RI where
  | seq (e : RE) | rng (es : List RE) | enu (es : List RE) | zip (a b : RE) | rev (e : RE)
end
inductive RS where
  | set (i : Nat) (e : RE)
  | tgt (t : Tg) (e : RE)
  | par (is : List Nat) (es : List RE)
  | put (i : Nat) (ei e : RE)
  | ret (e : RE) | retn
  | ife (t : RT) (a b : List RS)
  | whl (t : RT) (b : List RS)
  | for (t : Tg) (it : RI) (b : List RS)
  | ex (e : RE)
  | pass | brk | cnt

/-- the defs that may be called; how far a while is followed -/
structure Tb where
  N : List Str
  fs : List (Str × Fn)
  W : Nat

/-! ### what it computes -/
def itemsD (o : D) : Option (List D) := match o with
  | .list l => some l
  | .tuple l => some l
  | .str x => some (strD x)
  | _ => none
def rngL : List D → Option (List D)
  | [.int i] => if b62 i then some (rngD 0 i.toNat) else none
  | [.int i, .int j] => if b62 i && b62 j then some (rngD i (j - i).toNat) else none
  | [.int i, .int j, .int c] => if b62 i && b62 j && (c == -1) then some ((List.range (i - j).toNat).map fun (m : Nat) => .int (i - (m : Int))) else none
  | _ => none
def enuL : List D → Option (List D)
  | [d] => (seqD d).map fun k => enumD 0 k.2
  | [d, .int c] => if b62 c then (seqD d).map fun k => enumD c k.2 else none
  | _ => none
def opStop (op : BoolOp) (k : Bool) : Bool := match op with
  | .And => !k
  | .Or => k
section
variable (T : Tb)
mutual
def evE : Nat → RE → En → Option (Bool × D × En)
  | 0, _, _ => none
  | _ + 1, .int i, e => some (false, .int i, e)
  | _ + 1, .bl b, e => some (false, .bool b, e)
  | _ + 1, .non, e => some (false, .none, e)
  | _ + 1, .str x, e => some (false, .str x, e)
  | _ + 1, .nm i, e => (lockS e i).bind fun p => some (false, p.1, p.2)
  | n + 1, .bin op a b, e => (evE n a e).bind fun p => (evE n b p.2.2).bind fun q => (binD op p.1 p.2.1 q.2.1).bind fun z => some (z.1, z.2, q.2.2)
  | n + 1, .neg a, e => (evE n a e).bind fun p => match p.2.1 with
    | .int i => some (false, .int (-i), p.2.2)
    | _ => none
  | n + 1, .not a, e => (evE n a e).bind fun p => (truD p.2.1).bind fun k => some (false, .bool (!k), p.2.2)
  | n + 1, .bop op a b, e => (evE n a e).bind fun p => (truD p.2.1).bind fun k => if opStop op k then some p else evE n b p.2.2
  | n + 1, .ife t a b, e => (evT n t e).bind fun p => if p.1 then evE n a p.2 else evE n b p.2
  | n + 1, .cmp op a b, e => (evE n a e).bind fun p => (evE n b p.2.2).bind fun q => (cmpD op p.2.1 q.2.1).bind fun k => some (false, .bool k, q.2.2)
  | n + 1, .ix a b, e => (evE n a e).bind fun p => (evE n b p.2.2).bind fun q => (ixD p.2.1 q.2.1).bind fun d => some (false, d, q.2.2)
  | n + 1, .ixn i b, e => match slotL e i with
    | some _ => (evE n b e).bind fun q => (slotL q.2.2 i).bind fun l => (ixD (.list l) q.2.1).bind fun d => some (false, d, q.2.2)
    | none => (lockS e i).bind fun p => (evE n b p.2).bind fun q => (ixD p.1 q.2.1).bind fun d => some (false, d, q.2.2)
  | n + 1, .sl a lo hi, e => (evE n a e).bind fun p => (evO n lo p.2.2).bind fun q => (evO n hi q.2).bind fun r => (slD p.2.1 q.1 r.1).bind fun z => some (z.1, z.2, r.2)
  | n + 1, .sln i lo hi, e => match slotL e i with
    | some _ => (evO n lo e).bind fun q => (evO n hi q.2).bind fun r => (slotL r.2 i).bind fun l => (slD (.list l) q.1 r.1).bind fun z => some (z.1, z.2, r.2)
    | none => (lockS e i).bind fun p => (evO n lo p.2).bind fun q => (evO n hi q.2).bind fun r => (slD p.1 q.1 r.1).bind fun z => some (z.1, z.2, r.2)
  | n + 1, .blt k es, e => (evA n es e).bind fun p => (bltD k p.1).bind fun z => some (z.1, z.2, p.2)
  | _ + 1, .lenn i, e => match slotL e i with
    | some l => some (false, .int l.length, e)
    | none => (lockS e i).bind fun p => (bltD .len [p.1]).bind fun z => some (z.1, z.2, p.2)
  | n + 1, .isi a ts, e => (evE n a e).bind fun p => if noTag p.2.1 then some (false, .bool (isiD p.2.1 ts), p.2.2) else none
  | n + 1, .lst es, e => (evA n es e).bind fun p => if szB p.1.length then some (true, .list p.1, p.2) else none
  | n + 1, .tup es, e => (evA n es e).bind fun p => if szB p.1.length then some (false, .tuple p.1, p.2) else none
  | n + 1, .app j es, e => (evA n es e).bind fun p => (T.fs[j]?).bind fun f => if f.2.io = false ∧ p.1.length = f.2.ps.length then (f.2.den p.1).bind fun z => some (z.1, z.2.1, p.2) else none
  | n + 1, .appio j i es, e => (slotL e i).bind fun _ => (evA n es e).bind fun p => (slotL p.2 i).bind fun bs => (T.fs[j]?).bind fun f =>
      if f.2.io = true ∧ p.1.length + 1 = f.2.ps.length then (f.2.den (.list bs :: p.1)).bind fun z => some (z.1, z.2.1, putL p.2 i z.2.2) else none
  | n + 1, .appk j m es ks, e => (evA n es e).bind fun p => (evA n ks p.2).bind fun q => (T.fs[j]?).bind fun f => (f.2.kws[m]?).bind fun kw =>
      if f.2.io = false ∧ p.1.length = es.length ∧ q.1.length = kw.ks.length ∧ (arr kw.perm p.1 q.1).length = f.2.ps.length then (f.2.den (arr kw.perm p.1 q.1)).bind fun z => some (z.1, z.2.1, q.2) else none
  | n + 1, .lc t vs it tt x, e => (evI n it e).bind fun p => if szB p.1.length then (lcL (evC n t vs tt x) p.1 p.2).bind fun z => some (true, .list z.1, z.2) else none
  | n + 1, .push i x, e => (slotL e i).bind fun _ => (evE n x e).bind fun p => (slotL p.2.2 i).bind fun l => if szB (l.length + 1) then some (false, .none, putL p.2.2 i (l ++ [p.2.1])) else none
  | _ + 1, .pop i, e => (slotL e i).bind fun l => (l[l.length - 1]?).bind fun d => some (false, d, putL e i l.dropLast)
/-- one turn of a comprehension -/
def evC : Nat → Tg → List Nat → Option RT → RE → D → En → Option (Option D × En)
  | 0, _, _, _, _, _, _ => none
  | n + 1, t, vs, tt, x, d, e => if vs.all (fun v => plainS (e.sl.getD v .no)) then
      (stT (wipeE e vs) t d).bind fun e1 => (evTo n tt e1).bind fun p => if p.1 then (evE n x p.2).bind fun q => some (some q.2.1, restE e q.2.2 vs) else some (none, restE e p.2 vs)
    else none
def evTo : Nat → Option RT → En → Option (Bool × En)
  | 0, _, _ => none
  | _ + 1, none, e => some (true, e)
  | n + 1, some t, e => evT n t e
def evO : Nat → Option RE → En → Option (Option Int × En)
  | 0, _, _ => none
  | _ + 1, none, e => some (none, e)
  | n + 1, some a, e => (evE n a e).bind fun p => match p.2.1 with
    | .int i => some (some i, p.2.2)
    | _ => none
def evA : Nat → List RE → En → Option (List D × En)
  | 0, _, _ => none
  | _ + 1, [], e => some ([], e)
  | n + 1, a :: es, e => (evE n a e).bind fun p => (evA n es p.2.2).bind fun q => some (p.2.1 :: q.1, q.2)
def evT : Nat → RT → En → Option (Bool × En)
  | 0, _, _ => none
  | n + 1, .nt a, e => (evT n a e).bind fun p => some (!p.1, p.2)
  | n + 1, .bop op a b, e => (evT n a e).bind fun p => if opStop op p.1 then some p else evT n b p.2
  | n + 1, .cmp op a b, e => (evE n a e).bind fun p => (evE n b p.2.2).bind fun q => (cmpD op p.2.1 q.2.1).bind fun k => some (k, q.2.2)
  | n + 1, .val a, e => (evE n a e).bind fun p => (truD p.2.1).bind fun k => some (k, p.2.2)
  | _ + 1, .nm i, e => match slotL e i with
    | some l => some (!l.isEmpty, e)
    | none => (lockS e i).bind fun p => (truD p.1).bind fun k => some (k, p.2)
def evI : Nat → RI → En → Option (List D × En)
  | 0, _, _ => none
  | n + 1, .seq a, e => (evE n a e).bind fun p => (itemsD p.2.1).bind fun l => some (l, p.2.2)
  | n + 1, .rng es, e => (evA n es e).bind fun p => (rngL p.1).bind fun l => some (l, p.2)
  | n + 1, .enu es, e => (evA n es e).bind fun p => (enuL p.1).bind fun l => some (l, p.2)
  | n + 1, .zip a b, e => (evE n a e).bind fun p => (evE n b p.2.2).bind fun q => (seqD p.2.1).bind fun l => (seqD q.2.1).bind fun m => some (zipD l.2 m.2, q.2.2)
  | n + 1, .rev a, e => (evE n a e).bind fun p => (seqD p.2.1).bind fun l => some (l.2.reverse, p.2.2)
end
mutual
def evS : Nat → RS → En → Option SR
  | 0, _, _ => none
  | n + 1, .set i a, e => (evE T n a e).bind fun p => if i < p.2.2.sl.length then some (.nx (setS p.2.2 i p.1 p.2.1)) else none
  | n + 1, .tgt t a, e => (evE T n a e).bind fun p => (stT p.2.2 t p.2.1).bind fun z => some (.nx z)
  | n + 1, .par is es, e => (evA T n es e).bind fun p => (stAll p.2 is p.1).bind fun z => some (.nx z)
  | n + 1, .put i b a, e => (evE T n a e).bind fun p => (slotL p.2.2 i).bind fun _ => (evE T n b p.2.2).bind fun q => match q.2.1 with
    | .int k => (slotL q.2.2 i).bind fun l => (ixN l.length k).bind fun j => some (.nx (putL q.2.2 i (l.set j p.2.1)))
    | _ => none
  | n + 1, .ret a, e => (evE T n a e).bind fun p => some (.rt p.1 p.2.1 p.2.2)
  | _ + 1, .retn, e => some (.rt false .none e)
  | n + 1, .ife t a b, e => (evT T n t e).bind fun p => if p.1 then evSs n a p.2 else evSs n b p.2
  | n + 1, .whl t b, e => whileL (evT T n t) (evSs n b) T.W e
  | n + 1, .for t it b, e => (evI T n it e).bind fun p => forL (fun d e => (stT e t d).bind fun e1 => evSs n b e1) p.1 p.2
  | n + 1, .ex a, e => (evE T n a e).bind fun p => some (.nx p.2.2)
  | _ + 1, .pass, e => some (.nx e)
  | _ + 1, .brk, e => some (.bk e)
  | _ + 1, .cnt, e => some (.ct e)
def evSs : Nat → List RS → En → Option SR
  | 0, _, _ => none
  | _ + 1, [], e => some (.nx e)
  | n + 1, s :: ss, e => (evS n s e).bind fun r => match r with
    | .nx e1 => evSs n ss e1
    | r => some r
end
end

/-! ### resolving -/
/-- the names of built-ins that the text uses -/
def bltNames : List Str := ["len", "int", "abs", "list", "tuple", "all", "any", "max", "min", "sum", "isinstance", "range", "enumerate", "zip", "reversed", "bool", "str"]
def nameOk (x : Str) : Bool := !(x == ("__debug__" : Str)) && !(x == ("__classdict__" : Str))
def slotN (T : Tb) (sc : Scope) (x : Str) : Option Nat := match sc.names.lookup x with
  | some .local => if nameOk x then idxOf T.N x else none
  | some .cell => if nameOk x then idxOf T.N x else none
  | some .free => if nameOk x then idxOf T.N x else none
  | _ => none
def isGl (sc : Scope) (x : Str) : Bool := match sc.names.lookup x with
  | some .globalImplicit => true
  | _ => false
def isBlt (sc : Scope) (x : Str) : Bool := isGl sc x && bltNames.contains x
def fnIx (T : Tb) (x : Str) : Option Nat := T.fs.findIdx? (fun p => p.1 == x)
def kwIx (kws : List Kw) (n : Nat) (ks : List Str) : Option Nat := kws.findIdx? (fun k => k.n == n && k.ks == ks)
def stoOk (raw : Scope) (x : Str) : Bool := match raw.names.lookup x with
  | some .local => true
  | some .cell => true
  | _ => false
end Fz
set_option Elab.async false
set_option linter.all false
set_option maxRecDepth 100000
set_option maxHeartbeats 4000000
/-! Fz, part N: a check that the resolved text is the text; contexts. -/
namespace Fz
open PySem PySem.Spec PyProof.Rows L2

def noStars (es : List Expr) : Bool := es.all fun e => !isStar e
def isIsi (sc : Scope) (f : Str) : Bool := isBlt sc f && (f == ("isinstance" : Str))
def tyBlt (sc : Scope) (l : List (Str × String)) : Bool := l.all fun p => isBlt sc p.1 && (tyOf p.1 == some p.2)
def fnBlt (sc : Scope) (f : Str) (x : Str) : Bool := isBlt sc f && (f == x)
section
variable (T : Tb)
mutual
def ckE : Nat → Scope → Expr → RE → Bool
  | 0, _, _, _ => false
  | n + 1, sc, e, r => match r with
    | .int j => match e with
      | .Constant (.int i) _ _ => i == j
      | _ => false
    | .bl c => match e with
      | .Constant (.bool b) _ _ => b == c
      | _ => false
    | .non => match e with
      | .Constant .none _ _ => true
      | _ => false
    | .str y => match e with
      | .Constant (.str x) _ _ => x == y
      | _ => false
    | .nm i => match e with
      | .Name x _ => slotN T sc x == some i
      | _ => false
    | .bin op' a b => match e with
      | .BinOp l op q _ => decide (op = op') && ckE n sc l a && ckE n sc q b
      | _ => false
    | .neg a => match e with
      | .UnaryOp .USub x _ => ckE n sc x a
      | _ => false
    | .not a => match e with
      | .UnaryOp .Not x _ => ckE n sc x a
      | _ => false
    | .bop op' a b => match e with
      | .BoolOp op [x, y] _ => decide (op = op') && ckE n sc x a && ckE n sc y b
      | .BoolOp op (x :: y :: z :: rest) pos => decide (op = op') && ckE n sc x a && ckE n sc (.BoolOp op (y :: z :: rest) pos) b
      | _ => false
    | .ife t a b => match e with
      | .IfExp c x y _ => ckT n sc c t && ckE n sc x a && ckE n sc y b
      | _ => false
    | .cmp op' a b => match e with
      | .Compare l [op] [q] _ => decide (op = op') && !isSet q && ckE n sc l a && ckE n sc q b
      | _ => false
    | .ix a b => match e with
      | .Subscript x i _ => !isSlice i && ckE n sc x a && ckE n sc i b
      | _ => false
    | .ixn j b => match e with
      | .Subscript (.Name x _) i _ => (slotN T sc x == some j) && !isSlice i && ckE n sc i b
      | _ => false
    | .sl a lo' hi' => match e with
      | .Subscript x (.Slice lo hi none _) _ => ckE n sc x a && ckO n sc lo lo' && ckO n sc hi hi'
      | _ => false
    | .sln j lo' hi' => match e with
      | .Subscript (.Name x _) (.Slice lo hi none _) _ => (slotN T sc x == some j) && ckO n sc lo lo' && ckO n sc hi hi'
      | _ => false
    | .blt k es => match e with
      | .Call (.Name f _) (a :: args) [] _ => isBlt sc f && (biOf f == some k) && noStars (a :: args) && ckA n sc (a :: args) es
      | _ => false
    | .lenn i => match e with
      | .Call (.Name f _) [.Name y _] [] _ => isBlt sc f && (biOf f == some .len) && (slotN T sc y == some i)
      | _ => false
    | .isi a ts => match e with
      | .Call (.Name f _) [x, .Name t _] [] _ => isIsi sc f && !isStar x && isBlt sc t && (match tyOf t with | some s => ts == [s] | none => false) && ckE n sc x a
      | .Call (.Name f _) [x, .Tuple es _ _] [] _ => isIsi sc f && !isStar x && (match tyNames es with | some l => tyBlt sc l && decide (l.length ≤ 100) && (ts == l.map (·.2)) | none => false) && ckE n sc x a
      | _ => false
    | .lst es => match e with
      | .List xs _ => noStars xs && ckA n sc xs es
      | _ => false
    | .tup es => match e with
      | .Tuple xs _ _ => noStars xs && ckA n sc xs es
      | _ => false
    | .app j es => match e with
      | .Call (.Name f _) args [] _ => isGl sc f && (match T.fs[j]? with | some p => p.1 == f | none => false) && noStars args && ckA n sc args es
      | _ => false
    | .appio j i es => match e with
      | .Call (.Name f _) (.Name y _ :: args) [] _ => isGl sc f && (match T.fs[j]? with | some p => p.1 == f | none => false) && (slotN T sc y == some i) && noStars args && ckA n sc args es
      | _ => false
    | .appk j m es ks => match e with
      | .Call (.Name f _) args kws _ => isGl sc f && (match T.fs[j]? with
          | some p => (p.1 == f) && (match p.2.kws[m]? with
            | some kw => (kw.n == args.length) && (kwNames kws == some kw.ks)
            | none => false)
          | none => false) && noStars args && ckA n sc args es && ckK n sc kws ks
      | _ => false
    | .lc t vs it' tt x => match e with
      | .ListComp elt [⟨tg, it, ifs, 0⟩] scope _ => !isSet it && (match tgOf T.N tg with
          | some (t', tl) => decide (t'.ix = t.ix) && (match t', t with | .one _, .one _ => true | .tup _, .tup _ => true | _, _ => false) && (tl.map (·.2) == vs) && (t.ix.all fun j => vs.contains j) && blkC T.N sc scope tl && tl.all (fun p => stoOk scope p.1)
          | none => false) && ckI n sc tg it it' && ckTo n (relS scope sc) ifs tt && ckE n (relS scope sc) elt x
      | _ => false
    | .push i a => match e with
      | .Call (.Attribute (.Name x _) m pa) [y] [] cp => (m == ("append" : Str)) && (slotN T sc x == some i) && !isStar y && (pa.endLine == cp.line) && ckE n sc y a
      | _ => false
    | .pop i => match e with
      | .Call (.Attribute (.Name x _) m pa) [] [] cp => (m == ("pop" : Str)) && (slotN T sc x == some i) && (pa.endLine == cp.line)
      | _ => false
def ckO : Nat → Scope → Option Expr → Option RE → Bool
  | 0, _, _, _ => false
  | _ + 1, _, none, none => true
  | n + 1, sc, some e, some r => ckE n sc e r
  | _ + 1, _, _, _ => false
def ckA : Nat → Scope → List Expr → List RE → Bool
  | 0, _, _, _ => false
  | _ + 1, _, [], [] => true
  | n + 1, sc, e :: es, r :: rs => ckE n sc e r && ckA n sc es rs
  | _ + 1, _, _, _ => false
def ckK : Nat → Scope → List Keyword → List RE → Bool
  | 0, _, _, _ => false
  | _ + 1, _, [], [] => true
  | n + 1, sc, ⟨_, e, _⟩ :: es, r :: rs => ckE n sc e r && ckK n sc es rs
  | _ + 1, _, _, _ => false
def ckTo : Nat → Scope → List Expr → Option RT → Bool
  | 0, _, _, _ => false
  | _ + 1, _, [], none => true
  | n + 1, sc, [e], some r => ckT n sc e r
  | _ + 1, _, _, _ => false
def ckT : Nat → Scope → Expr → RT → Bool
  | 0, _, _, _ => false
  | n + 1, sc, e, r => match r with
    | .nt a => match e with
      | .UnaryOp .Not x _ => ckT n sc x a
      | _ => false
    | .bop op' a b => match e with
      | .BoolOp op [x, y] _ => decide (op = op') && ckT n sc x a && ckT n sc y b
      | .BoolOp op (x :: y :: z :: rest) pos => decide (op = op') && ckT n sc x a && ckT n sc (.BoolOp op (y :: z :: rest) pos) b
      | _ => false
    | .cmp op' a b => match e with
      | .Compare l [op] [q] _ => decide (op = op') && !isSet q && ckE n sc l a && ckE n sc q b
      | _ => false
    | .val a => plainT e && ckE n sc e a
    | .nm i => match e with
      | .Name x _ => slotN T sc x == some i
      | _ => false
def ckI : Nat → Scope → Expr → Expr → RI → Bool
  | 0, _, _, _, _ => false
  | n + 1, sc, tg, e, r => match r with
    | .seq a => ckE n sc e a
    | .rng rs => match e with
      | .Call (.Name f _) args [] _ => fnBlt sc f "range" && noStars args && ckA n sc args rs
      | _ => false
    | .enu rs => match e, tg with
      | .Call (.Name f _) args [] _, .Tuple _ _ _ => fnBlt sc f "enumerate" && noStars args && ckA n sc args rs
      | _, _ => false
    | .zip a b => match e, tg with
      | .Call (.Name f _) [x, y] [] _, .Tuple _ _ _ => fnBlt sc f "zip" && !isStar x && !isStar y && ckE n sc x a && ckE n sc y b
      | _, _ => false
    | .rev a => match e with
      | .Call (.Name f _) [x] [] _ => fnBlt sc f "reversed" && !isStar x && ckE n sc x a
      | _ => false
end
end

/-! ### a context for a scope -/
structure Cok (T : Tb) (k : Nat) (sc : Scope) (X : Cx) : Prop where
  N : X.N = T.N
  nd : T.N.Nodup
  calm : X.calm = true
  room : Room k X.A
  sc : X.env.scope = sc
  blt : ∀ x, bltNames.contains x = true → X.mg x = none
  fns : ∀ (j : Nat) (p : Str × Fn), T.fs[j]? = some p → FnAt X k p.1 p.2
section
variable {T : Tb} {k : Nat} {sc : Scope} {X : Cx}
theorem Cok.slot (c : Cok T k sc X) {x : Str} {i : Nat} (h : slotN T sc x = some i) : idxOf X.N x = some i ∧ Vis X.env.scope x ∧ (x == ("__debug__" : Str)) = false ∧ (x == ("__classdict__" : Str)) = false := by
  have key : ∀ (q : sc.names.lookup x = some .local ∨ sc.names.lookup x = some .cell ∨ sc.names.lookup x = some .free), (if nameOk x then idxOf T.N x else none) = some i → idxOf X.N x = some i ∧ Vis X.env.scope x ∧ (x == ("__debug__" : Str)) = false ∧ (x == ("__classdict__" : Str)) = false := fun q h => by
    split at h
    · rename_i ok
      unfold nameOk at ok
      rw [Bool.and_eq_true] at ok
      exact ⟨by rw [c.N]; exact h, by rw [c.sc]; exact q, by simpa using ok.1, by simpa using ok.2⟩
    · cases h
  unfold slotN at h
  split at h
  · exact key (.inl (by assumption)) h
  · exact key (.inr (.inl (by assumption))) h
  · exact key (.inr (.inr (by assumption))) h
  · cases h
theorem Cok.gl (c : Cok T k sc X) {x : Str} (h : isGl sc x = true) : Gl X x := by
  unfold isGl at h
  split at h
  · rename_i q
    show X.env.scope.names.lookup x = some .globalImplicit
    rw [c.sc]; exact q
  · cases h
theorem Cok.bltG (c : Cok T k sc X) {x : Str} (h : isBlt sc x = true) : Gl X x ∧ X.mg x = none := by
  unfold isBlt at h
  rw [Bool.and_eq_true] at h
  exact ⟨c.gl h.1, c.blt x h.2⟩
theorem relS_look {scope sc : Scope} {x : Str} : (relS scope sc).names.lookup x = (scope.names.lookup x).map fun k => if (k == .free && sc.kind == .function && sc.names.lookup x == some .cell) then .cell else k := by
  show (scope.names.map fun p => match p with | (n, k) => if (k == .free && sc.kind == .function && sc.names.lookup n == some .cell) then (n, NameKind.cell) else (n, k)).lookup x = _
  induction scope.names with
  | nil => rfl
  | cons p r ih =>
    obtain ⟨y, k⟩ := p
    rw [List.map_cons]
    show List.lookup x ((if (k == .free && sc.kind == .function && sc.names.lookup y == some .cell) then (y, NameKind.cell) else (y, k)) :: _) = _
    have e2 : (if (k == .free && sc.kind == .function && sc.names.lookup y == some .cell) then (y, NameKind.cell) else (y, k)) = (y, if (k == .free && sc.kind == .function && sc.names.lookup y == some .cell) then NameKind.cell else k) := by
      split <;> rfl
    rw [e2, List.lookup_cons, List.lookup_cons]
    cases b : (x == y) with
    | true =>
      have : x = y := by simpa using b
      subst this
      rfl
    | false => exact ih
theorem Cok.bl (c : Cok T k sc X) (scope : Scope) (s : Shared) (H : Hp) (C : Addr) (cl : List (Str × Addr)) (fp : List Addr) : Cok T k (relS scope sc) (Bl X scope s H C cl fp) :=
  ⟨c.N, c.nd, c.calm, c.room, by rw [← c.sc]; rfl, c.blt, fun j p h => ⟨(c.fns j p h).ex, (c.fns j p h).nd⟩⟩
theorem stok_bl {scope : Scope} {s : Shared} {H : Hp} {C : Addr} {cl : List (Str × Addr)} {fp : List Addr} {x : Str} (h : stoOk scope x = true) : StOk (Bl X scope s H C cl fp) x := by
  unfold stoOk at h
  have look : (Bl X scope s H C cl fp).env.scope.names.lookup x = (scope.names.lookup x).map fun k => if (k == .free && X.env.scope.kind == .function && X.env.scope.names.lookup x == some .cell) then .cell else k := relS_look
  split at h
  · rename_i q
    rw [q] at look
    exact ⟨.inl look, .inr look⟩
  · rename_i q
    rw [q] at look
    refine ⟨.inr look, .inl ?_⟩
    show (scope.names.lookup x == some .cell) = true
    rw [q]; rfl
  · cases h
end
end Fz
set_option Elab.async false
set_option linter.all false
set_option maxRecDepth 100000
set_option maxHeartbeats 8000000
/-! Fz, part O: what is computed is what runs: expressions. -/
namespace Fz
open PySem PySem.Spec PyProof.Rows L2

structure Snd (T : Tb) (k n : Nat) : Prop where
  E : ∀ {sc : Scope} {X : Cx} {β : Option Addr} {e : Expr} {r : RE} {m : Nat} {a : En} {z : Bool × D × En}, Cok T k sc X → ckE T n sc e r = true → evE T m r a = some z → Den X β e a z.1 z.2.1 z.2.2
  A : ∀ {sc : Scope} {X : Cx} {β : Option Addr} {e : List Expr} {r : List RE} {m : Nat} {a : En} {z : List D × En}, Cok T k sc X → ckA T n sc e r = true → noStars e = true → evA T m r a = some z → DenA X β e a z.1 z.2 ∧ z.1.length = e.length ∧ r.length = e.length ∧ (e = [] → z.1 = [] ∧ a = z.2)
  Kw : ∀ {sc : Scope} {X : Cx} {β : Option Addr} {e : List Keyword} {r : List RE} {m : Nat} {a : En} {z : List D × En}, Cok T k sc X → ckK T n sc e r = true → evA T m r a = some z → DenK X β e a z.1 z.2
  O : ∀ {sc : Scope} {X : Cx} {β : Option Addr} {e : Option Expr} {r : Option RE} {m : Nat} {a : En} {z : Option Int × En}, Cok T k sc X → ckO T n sc e r = true → evO T m r a = some z → DenO X β e a z.1 z.2
  To : ∀ {sc : Scope} {X : Cx} {β : Option Addr} {e : List Expr} {r : Option RT} {m : Nat} {a : En} {z : Bool × En}, Cok T k sc X → ckTo T n sc e r = true → evTo T m r a = some z → DenTs X β e a z.1 z.2
  Tt : ∀ {sc : Scope} {X : Cx} {β : Option Addr} {e : Expr} {r : RT} {m : Nat} {a : En} {z : Bool × En}, Cok T k sc X → ckT T n sc e r = true → evT T m r a = some z → DenT X β e a z.1 z.2
  Tw : ∀ {sc : Scope} {X : Cx} {β : Option Addr} {e : Expr} {r : RT} {m : Nat} {a : En} {z : Bool × En}, Cok T k sc X → ckT T n sc e r = true → evT T m r a = some z → (∃ op es pos, e = .BoolOp op es pos) → DenW X β e a z.1 z.2
  I : ∀ {sc : Scope} {X : Cx} {β : Option Addr} {tg e : Expr} {r : RI} {m : Nat} {a : En} {z : List D × En}, Cok T k sc X → ckI T n sc tg e r = true → evI T m r a = some z → DenI X β tg e a z.1 z.2
section
variable {T : Tb} {k n : Nat}
theorem snd_zero : Snd T k 0 := by
  refine ⟨?_, ?_, ?_, ?_, ?_, ?_, ?_, ?_⟩ <;> intros <;> simp only [ckE, ckA, ckK, ckO, ckTo, ckT, ckI, Bool.false_eq_true] at * <;> contradiction
theorem stop_and : ∀ {op : BoolOp} {k : Bool}, opStop op k = true → k = match op with | .And => false | .Or => true
  | .And, false, _ => rfl
  | .And, true, h => by cases h
  | .Or, false, h => by cases h
  | .Or, true, _ => rfl
theorem stop_on : ∀ {op : BoolOp} {k : Bool}, ¬ opStop op k = true → k = match op with | .And => true | .Or => false
  | .And, false, h => absurd rfl h
  | .And, true, _ => rfl
  | .Or, false, _ => rfl
  | .Or, true, h => absurd rfl h
theorem idx_of {X : Cx} {sc : Scope} (c : Cok T k sc X) {x : Str} {i : Nat} (h : slotN T sc x = some i) : X.N[i]? = some x := idxOf_get (c.slot h).1
/-- a turn of a comprehension -/
theorem turn_ok {sc scope : Scope} {X : Cx} {β : Option Addr} {t : Tg} {vs : List Nat} {ifs : List Expr} {elt : Expr} {tt : Option RT} {x : RE} {m : Nat} {d : D} {e : En} {o : Option D} {e' : En} (S : Snd T k n) (c : Cok T k sc X) (h1 : ckTo T n (relS scope sc) ifs tt = true) (h2 : ckE T n (relS scope sc) elt x = true)
    (h : evC T m t vs tt x d e = some (o, e')) : TurnC X β scope t vs ifs elt d e o e' := by
  cases m with
  | zero => simp only [evC] at h; cases h
  | succ m =>
    simp only [evC] at h
    split at h
    · rename_i hp
      simp only [Option.bind_eq_some_iff] at h
      obtain ⟨e1, hst, p, ht, hk⟩ := h
      refine ⟨List.all_eq_true.mp hp, e1, p.1, p.2, hst, fun s H C cl fp => S.To (c.bl scope s H C cl fp) h1 ht, ?_⟩
      cases hk1 : p.1 with
      | false =>
        rw [hk1] at hk
        simp only [Bool.false_eq_true, if_false, Option.some.injEq, Prod.mk.injEq] at hk
        exact ⟨hk.1.symm, hk.2.symm⟩
      | true =>
        rw [hk1] at hk
        simp only [if_true, Option.bind_eq_some_iff, Option.some.injEq, Prod.mk.injEq] at hk
        obtain ⟨q, hq, k1, k2⟩ := hk
        exact ⟨q.2.2, q.2.1, fun s H C cl fp => (S.E (c.bl scope s H C cl fp) h2 hq).fz, k1.symm, k2.symm⟩
    · cases h
theorem snd_E (S : Snd T k n) {sc : Scope} {X : Cx} {β : Option Addr} {e : Expr} {r : RE} {m : Nat} {a : En} {z : Bool × D × En} (c : Cok T k sc X) (hc : ckE T (n + 1) sc e r = true) (hv : evE T m r a = some z) : Den X β e a z.1 z.2.1 z.2.2 := by
  cases m with
  | zero => simp only [evE] at hv; cases hv
  | succ m =>
  cases r with
  | int j =>
    simp only [ckE] at hc
    split at hc
    · simp only [evE, Option.some.injEq] at hv
      subst hv
      rw [beq_iff_eq] at hc
      subst hc
      exact den_int
    · cases hc
  | bl j =>
    simp only [ckE] at hc
    split at hc
    · simp only [evE, Option.some.injEq] at hv
      subst hv
      rw [beq_iff_eq] at hc
      subst hc
      exact den_bl
    · cases hc
  | non =>
    simp only [ckE] at hc
    split at hc
    · simp only [evE, Option.some.injEq] at hv
      subst hv
      exact den_non
    · cases hc
  | str j =>
    simp only [ckE] at hc
    split at hc
    · simp only [evE, Option.some.injEq] at hv
      subst hv
      rw [beq_iff_eq] at hc
      subst hc
      exact den_str
    · cases hc
  | nm i =>
    simp only [ckE] at hc
    split at hc
    · rw [beq_iff_eq] at hc
      simp only [evE, Option.bind_eq_some_iff, Option.some.injEq] at hv
      obtain ⟨p, hp, rfl⟩ := hv
      dsimp only
      obtain ⟨q1, q2, q3, q4⟩ := c.slot hc
      exact den_name (idxOf_get q1) q2 q3 q4 hp
    · cases hc
  | bin op' p q =>
    simp only [ckE] at hc
    split at hc
    · simp only [Bool.and_eq_true, decide_eq_true_eq] at hc
      obtain ⟨⟨rfl, h1⟩, h2⟩ := hc
      simp only [evE, Option.bind_eq_some_iff, Option.some.injEq] at hv
      obtain ⟨z1, e1, z2, e2, z3, e3, rfl⟩ := hv
      dsimp only
      obtain ⟨rr, ho, hr⟩ := bin_ok (X := X) (β := β) (b := z2.2.2) e3
      exact den_bin ho (S.E c h1 e1) (S.E c h2 e2) hr
    · cases hc
  | neg p =>
    simp only [ckE] at hc
    split at hc
    · simp only [evE, Option.bind_eq_some_iff] at hv
      obtain ⟨⟨o, d, b⟩, e1, hv⟩ := hv
      simp only at hv
      split at hv
      · cases hv
        exact den_neg (S.E c hc e1)
      · cases hv
    · cases hc
  | not p =>
    simp only [ckE] at hc
    split at hc
    · simp only [evE, Option.bind_eq_some_iff, Option.some.injEq] at hv
      obtain ⟨z1, e1, z2, e2, rfl⟩ := hv
      dsimp only
      exact den_not (S.E c hc e1) e2
    · cases hc
  | bop op' p q =>
    simp only [ckE] at hc
    split at hc
    · simp only [Bool.and_eq_true, decide_eq_true_eq] at hc
      obtain ⟨⟨rfl, h1⟩, h2⟩ := hc
      simp only [evE, Option.bind_eq_some_iff] at hv
      obtain ⟨z1, e1, z2, e2, hv⟩ := hv
      split at hv
      · rename_i hs
        cases hv
        try dsimp only
        exact den_short (S.E c h1 e1) e2 (stop_and hs)
      · rename_i hs
        exact den_on (S.E c h1 e1) e2 (stop_on hs) (den_bool1 (S.E c h2 hv))
    · simp only [Bool.and_eq_true, decide_eq_true_eq] at hc
      obtain ⟨⟨rfl, h1⟩, h2⟩ := hc
      simp only [evE, Option.bind_eq_some_iff] at hv
      obtain ⟨z1, e1, z2, e2, hv⟩ := hv
      split at hv
      · rename_i hs
        cases hv
        try dsimp only
        exact den_short (S.E c h1 e1) e2 (stop_and hs)
      · rename_i hs
        exact den_on (S.E c h1 e1) e2 (stop_on hs) (S.E c h2 hv)
    · cases hc
  | ife t p q =>
    simp only [ckE] at hc
    split at hc
    · simp only [Bool.and_eq_true] at hc
      obtain ⟨⟨h0, h1⟩, h2⟩ := hc
      simp only [evE, Option.bind_eq_some_iff] at hv
      obtain ⟨⟨kk, b⟩, e1, hv⟩ := hv
      cases kk with
      | true => exact den_if (k := true) (S.Tt c h0 e1) (S.E c h1 hv)
      | false => exact den_if (k := false) (S.Tt c h0 e1) (S.E c h2 hv)
    · cases hc
  | cmp op' p q =>
    simp only [ckE] at hc
    split at hc
    · simp only [Bool.and_eq_true, decide_eq_true_eq, Bool.not_eq_true'] at hc
      obtain ⟨⟨⟨rfl, h0⟩, h1⟩, h2⟩ := hc
      simp only [evE, Option.bind_eq_some_iff, Option.some.injEq] at hv
      obtain ⟨z1, e1, z2, e2, z3, e3, rfl⟩ := hv
      dsimp only
      obtain ⟨rr, ho, hr⟩ := cmp_ok (X := X) (β := β) (b := z2.2.2) (o1 := z1.1) c.room e3
      exact den_cmp h0 ho (S.E c h1 e1) (S.E c h2 e2) hr
    · cases hc
  | ix p q =>
    simp only [ckE] at hc
    split at hc
    · simp only [Bool.and_eq_true, Bool.not_eq_true'] at hc
      obtain ⟨⟨h0, h1⟩, h2⟩ := hc
      simp only [evE, Option.bind_eq_some_iff, Option.some.injEq] at hv
      obtain ⟨z1, e1, z2, e2, z3, e3, rfl⟩ := hv
      dsimp only
      exact den_ix h0 (S.E c h1 e1) (S.E c h2 e2) e3
    · cases hc
  | ixn i q =>
    simp only [ckE] at hc
    split at hc
    · simp only [Bool.and_eq_true, Bool.not_eq_true', beq_iff_eq] at hc
      obtain ⟨⟨h0, h1⟩, h2⟩ := hc
      obtain ⟨q1, q2, q3, q4⟩ := c.slot h0
      simp only [evE] at hv
      split at hv
      · rename_i l hl
        simp only [Option.bind_eq_some_iff, Option.some.injEq] at hv
        obtain ⟨z1, e1, z2, e2, z3, e3, rfl⟩ := hv
        dsimp only
        exact den_ixN (idxOf_get q1) q2 q3 q4 h1 hl (S.E c h2 e1) e2 e3
      · simp only [Option.bind_eq_some_iff, Option.some.injEq] at hv
        obtain ⟨z1, e1, z2, e2, z3, e3, rfl⟩ := hv
        dsimp only
        exact den_ix h1 (den_name (idxOf_get q1) q2 q3 q4 e1) (S.E c h2 e2) e3
    · cases hc
  | sl p lo hi =>
    simp only [ckE] at hc
    split at hc
    · simp only [Bool.and_eq_true] at hc
      obtain ⟨⟨h0, h1⟩, h2⟩ := hc
      simp only [evE, Option.bind_eq_some_iff, Option.some.injEq] at hv
      obtain ⟨z1, e1, z2, e2, z3, e3, z4, e4, rfl⟩ := hv
      dsimp only
      exact den_sl (S.E c h0 e1) (S.O c h1 e2) (S.O c h2 e3) e4
    · cases hc
  | sln i lo hi =>
    simp only [ckE] at hc
    split at hc
    · simp only [Bool.and_eq_true, beq_iff_eq] at hc
      obtain ⟨⟨h0, h1⟩, h2⟩ := hc
      obtain ⟨q1, q2, q3, q4⟩ := c.slot h0
      simp only [evE] at hv
      split at hv
      · rename_i l hl
        simp only [Option.bind_eq_some_iff, Option.some.injEq] at hv
        obtain ⟨z2, e2, z3, e3, z5, e5, z4, e4, rfl⟩ := hv
        dsimp only
        exact den_slN (idxOf_get q1) q2 q3 q4 hl (S.O c h1 e2) (S.O c h2 e3) e5 e4
      · simp only [Option.bind_eq_some_iff, Option.some.injEq] at hv
        obtain ⟨z1, e1, z2, e2, z3, e3, z4, e4, rfl⟩ := hv
        dsimp only
        exact den_sl (den_name (idxOf_get q1) q2 q3 q4 e1) (S.O c h1 e2) (S.O c h2 e3) e4
    · cases hc
  | blt kk es =>
    simp only [ckE] at hc
    split at hc
    · simp only [Bool.and_eq_true, beq_iff_eq] at hc
      obtain ⟨⟨⟨h0, h1⟩, h2⟩, h3⟩ := hc
      obtain ⟨g1, g2⟩ := c.bltG h0
      simp only [evE, Option.bind_eq_some_iff, Option.some.injEq] at hv
      obtain ⟨z1, e1, z2, e2, rfl⟩ := hv
      dsimp only
      exact den_blt h2 c.calm g1 g2 h1 (S.A c h3 h2 e1).1 e2
    · cases hc
  | lenn i =>
    simp only [ckE] at hc
    split at hc
    · simp only [Bool.and_eq_true, beq_iff_eq] at hc
      obtain ⟨⟨h0, h1⟩, h2⟩ := hc
      obtain ⟨g1, g2⟩ := c.bltG h0
      obtain ⟨q1, q2, q3, q4⟩ := c.slot h2
      simp only [evE] at hv
      split at hv
      · rename_i l hl
        cases hv
        try dsimp only
        exact den_lenN g1 g2 h1 (idxOf_get q1) q2 q3 q4 hl
      · simp only [Option.bind_eq_some_iff, Option.some.injEq] at hv
        obtain ⟨z1, e1, z2, e2, rfl⟩ := hv
        dsimp only
        exact den_blt rfl c.calm g1 g2 h1 (dena_cons rfl (den_name (idxOf_get q1) q2 q3 q4 e1) dena_nil) e2
    · cases hc
  | isi p ts =>
    simp only [ckE] at hc
    simp only [evE, Option.bind_eq_some_iff] at hv
    obtain ⟨z1, e1, hv⟩ := hv
    split at hv
    case isFalse => cases hv
    rename_i htag
    cases hv
    dsimp only
    have isx : ∀ {f : Str}, isIsi sc f = true → Gl X f ∧ X.mg f = none ∧ f = "isinstance" := fun {f} h => by
      unfold isIsi at h
      rw [Bool.and_eq_true, beq_iff_eq] at h
      exact ⟨(c.bltG h.1).1, (c.bltG h.1).2, h.2⟩
    split at hc
    · simp only [Bool.and_eq_true, Bool.not_eq_true'] at hc
      obtain ⟨⟨⟨⟨h0, h1⟩, h2⟩, h3⟩, h4⟩ := hc
      obtain ⟨g1, g2, rfl⟩ := isx h0
      obtain ⟨g3, g4⟩ := c.bltG h2
      split at h3
      · rename_i s hs
        rw [beq_iff_eq] at h3
        subst h3
        exact den_isi1 h1 g1 g2 hs g3 g4 htag (S.E c h4 e1)
      · cases h3
    · simp only [Bool.and_eq_true, Bool.not_eq_true'] at hc
      obtain ⟨⟨⟨h0, h1⟩, h3⟩, h4⟩ := hc
      obtain ⟨g1, g2, rfl⟩ := isx h0
      split at h3
      · rename_i l hl
        simp only [Bool.and_eq_true, decide_eq_true_eq, beq_iff_eq] at h3
        obtain ⟨⟨h5, h6⟩, rfl⟩ := h3
        unfold tyBlt at h5
        rw [List.all_eq_true] at h5
        refine den_isi h1 g1 g2 hl h6 (fun p hp => c.bltG ?_) (fun p hp => ?_) htag (S.E c h4 e1)
        · have := h5 p hp; rw [Bool.and_eq_true] at this; exact this.1
        · have := h5 p hp; rw [Bool.and_eq_true, beq_iff_eq] at this; exact this.2
      · cases h3
    · cases hc
  | lst es =>
    simp only [ckE] at hc
    split at hc
    · simp only [Bool.and_eq_true] at hc
      simp only [evE, Option.bind_eq_some_iff] at hv
      obtain ⟨z1, e1, hv⟩ := hv
      split at hv
      · rename_i hl
        cases hv
        try dsimp only
        exact den_list (S.A c hc.2 hc.1 e1).1 (szB_le hl)
      · cases hv
    · cases hc
  | tup es =>
    simp only [ckE] at hc
    split at hc
    · simp only [Bool.and_eq_true] at hc
      simp only [evE, Option.bind_eq_some_iff] at hv
      obtain ⟨z1, e1, hv⟩ := hv
      split at hv
      · rename_i hl
        cases hv
        try dsimp only
        exact den_tuple (S.A c hc.2 hc.1 e1).1 (szB_le hl)
      · cases hv
    · cases hc
  | app j es =>
    simp only [ckE] at hc
    split at hc
    · rename_i f p args pos
      simp only [Bool.and_eq_true] at hc
      obtain ⟨⟨⟨h0, h1⟩, h2⟩, h3⟩ := hc
      simp only [evE, Option.bind_eq_some_iff] at hv
      obtain ⟨z1, e1, ff, e2, hv⟩ := hv
      split at hv
      · rename_i hl
        simp only [Option.bind_eq_some_iff, Option.some.injEq] at hv
        obtain ⟨⟨o, d, l⟩, e3, rfl⟩ := hv
        dsimp only
        rw [e2] at h1
        simp only [beq_iff_eq] at h1
        subst h1
        obtain ⟨k1, k2, k3, k4⟩ := S.A (β := β) c h3 h2 e1
        cases args with
        | nil =>
          obtain ⟨w1, w2⟩ := k4 rfl
          rw [w1] at e3 hl
          subst w2
          exact den_call0 (c.fns j ff e2) c.room (c.gl h0) hl.1 e3 hl.2.symm
        | cons x xs => exact den_call (c.fns j ff e2) c.room (c.gl h0) h2 hl.1 k1 e3 hl.2
      · cases hv
    · cases hc
  | appio j i es =>
    simp only [ckE] at hc
    split at hc
    · rename_i f p y py args pos
      simp only [Bool.and_eq_true, beq_iff_eq] at hc
      obtain ⟨⟨⟨⟨h0, h1⟩, h4⟩, h2⟩, h3⟩ := hc
      obtain ⟨q1, q2, q3, q4⟩ := c.slot h4
      simp only [evE, Option.bind_eq_some_iff] at hv
      obtain ⟨l0, e0, z1, e1, bs, e4, ff, e2, hv⟩ := hv
      split at hv
      · rename_i hl
        simp only [Option.bind_eq_some_iff, Option.some.injEq] at hv
        obtain ⟨⟨o, d, l⟩, e3, rfl⟩ := hv
        dsimp only
        rw [e2] at h1
        simp only [beq_iff_eq] at h1
        subst h1
        exact den_callIo (c.fns j ff e2) c.room (c.gl h0) h2 hl.1 (idxOf_get q1) q2 q3 q4 (by rw [e0]; rfl) (S.A c h3 h2 e1).1 e4 e3 hl.2
      · cases hv
    · cases hc
  | appk j mm es ks =>
    simp only [ckE] at hc
    split at hc
    · rename_i f p args kws pos
      simp only [Bool.and_eq_true] at hc
      obtain ⟨⟨⟨⟨h0, h1⟩, h2⟩, h3⟩, h4⟩ := hc
      simp only [evE, Option.bind_eq_some_iff] at hv
      obtain ⟨z1, e1, z2, e2, ff, e3, kw, e4, hv⟩ := hv
      split at hv
      · rename_i hl
        simp only [Option.bind_eq_some_iff, Option.some.injEq] at hv
        obtain ⟨⟨o, d, l⟩, e5, rfl⟩ := hv
        dsimp only
        rw [e3] at h1
        simp only [Bool.and_eq_true, beq_iff_eq] at h1
        obtain ⟨h1, h5⟩ := h1
        subst h1
        rw [e4] at h5
        simp only [Bool.and_eq_true, beq_iff_eq] at h5
        obtain ⟨k1, k2, k3, k4⟩ := S.A (β := β) c h3 h2 e1
        exact den_callK (c.fns j ff e3) c.room (c.gl h0) h2 hl.1 (List.mem_of_getElem? e4) h5.2 h5.1.symm k1 (by rw [k2]) (S.Kw c h4 e2) hl.2.2.1 e5 hl.2.2.2 k4
      · cases hv
    · cases hc
  | lc t vs it' tt x =>
    simp only [ckE] at hc
    split at hc
    · rename_i elt tg it ifs scope pos
      simp only [Bool.and_eq_true, Bool.not_eq_true'] at hc
      obtain ⟨⟨⟨⟨h0, h1⟩, h2⟩, h3⟩, h4⟩ := hc
      split at h1
      · rename_i t' tl ht
        simp only [Bool.and_eq_true, decide_eq_true_eq, beq_iff_eq, List.all_eq_true] at h1
        obtain ⟨⟨⟨⟨⟨g1, g2⟩, g3⟩, g4⟩, g5⟩, g6⟩ := h1
        have et : t' = t := by
          cases t' <;> cases t <;> simp_all [Tg.ix]
        subst et
        subst g3
        simp only [evE, Option.bind_eq_some_iff] at hv
        obtain ⟨z1, e1, hv⟩ := hv
        split at hv
        · rename_i hl
          simp only [Option.bind_eq_some_iff, Option.some.injEq] at hv
          obtain ⟨z2, e2, rfl⟩ := hv
          dsimp only
          rw [← c.N] at ht
          exact den_lc (tl := tl) (own := tl) (by rw [c.N]; exact c.nd) c.calm h0 (blkOk_by (by rw [c.N, c.sc]; exact g5)) ht (fun s H C cl fp p hp => stok_bl (g6 p hp)) (fun j hj => by simpa using g4 j hj) (S.I c h2 e1)
            (fun d e o e' hh => turn_ok S c h3 h4 hh) e2 (szB_le hl)
        · cases hv
      · cases h1
    · cases hc
  | push i p =>
    simp only [ckE] at hc
    split at hc
    · simp only [Bool.and_eq_true, beq_iff_eq, Bool.not_eq_true'] at hc
      obtain ⟨⟨⟨⟨rfl, h1⟩, h2⟩, h3⟩, h4⟩ := hc
      obtain ⟨q1, q2, q3, q4⟩ := c.slot h1
      simp only [evE, Option.bind_eq_some_iff] at hv
      obtain ⟨l0, e0, z1, e1, l, e2, hv⟩ := hv
      split at hv
      · rename_i hl
        cases hv
        try dsimp only
        exact den_append (idxOf_get q1) q2 q3 q4 h2 (by rw [beq_iff_eq]; exact h3) (by rw [e0]; rfl) (S.E c h4 e1) e2 (szB_le hl)
      · cases hv
    · cases hc
  | pop i =>
    simp only [ckE] at hc
    split at hc
    · simp only [Bool.and_eq_true, beq_iff_eq] at hc
      obtain ⟨⟨rfl, h1⟩, h3⟩ := hc
      obtain ⟨q1, q2, q3, q4⟩ := c.slot h1
      simp only [evE, Option.bind_eq_some_iff, Option.some.injEq] at hv
      obtain ⟨l, e2, d, e3, rfl⟩ := hv
      dsimp only
      exact den_pop (idxOf_get q1) q2 q3 q4 (by rw [beq_iff_eq]; exact h3) e2 e3
    · cases hc
end
end Fz
set_option Elab.async false
set_option linter.all false
set_option maxRecDepth 100000
set_option maxHeartbeats 8000000
/-! Fz, part P: the other pieces, and all of them. -/
namespace Fz
open PySem PySem.Spec PyProof.Rows L2
section
variable {T : Tb} {k n : Nat}
theorem stars_cons {e : Expr} {es : List Expr} (h : noStars (e :: es) = true) : isStar e = false ∧ noStars es = true := by
  unfold noStars at h ⊢
  rw [List.all_cons, Bool.and_eq_true] at h
  exact ⟨by simpa using h.1, h.2⟩
theorem snd_A (S : Snd T k n) {sc : Scope} {X : Cx} {β : Option Addr} {e : List Expr} {r : List RE} {m : Nat} {a : En} {z : List D × En} (c : Cok T k sc X) (hc : ckA T (n + 1) sc e r = true) (hs : noStars e = true) (hv : evA T m r a = some z) :
    DenA X β e a z.1 z.2 ∧ z.1.length = e.length ∧ r.length = e.length ∧ (e = [] → z.1 = [] ∧ a = z.2) := by
  cases m with
  | zero => simp only [evA] at hv; cases hv
  | succ m =>
  cases e with
  | nil =>
    cases r with
    | nil =>
      simp only [evA, Option.some.injEq] at hv
      subst hv
      exact ⟨dena_nil, rfl, rfl, fun _ => ⟨rfl, rfl⟩⟩
    | cons y ys => simp only [ckA] at hc; cases hc
  | cons x xs =>
    cases r with
    | nil => simp only [ckA] at hc; cases hc
    | cons y ys =>
      simp only [ckA, Bool.and_eq_true] at hc
      simp only [evA, Option.bind_eq_some_iff, Option.some.injEq] at hv
      obtain ⟨z1, e1, z2, e2, rfl⟩ := hv
      obtain ⟨s1, s2⟩ := stars_cons hs
      obtain ⟨k1, k2, k3, k4⟩ := S.A (β := β) c hc.2 s2 e2
      exact ⟨dena_cons s1 (S.E c hc.1 e1) k1, by simp [k2], by simp [k3], fun h => by cases h⟩
theorem snd_K (S : Snd T k n) {sc : Scope} {X : Cx} {β : Option Addr} {e : List Keyword} {r : List RE} {m : Nat} {a : En} {z : List D × En} (c : Cok T k sc X) (hc : ckK T (n + 1) sc e r = true) (hv : evA T m r a = some z) : DenK X β e a z.1 z.2 := by
  cases m with
  | zero => simp only [evA] at hv; cases hv
  | succ m =>
  cases e with
  | nil =>
    cases r with
    | nil =>
      simp only [evA, Option.some.injEq] at hv
      subst hv
      exact denk_nil
    | cons y ys => simp only [ckK] at hc; cases hc
  | cons x xs =>
    obtain ⟨nm, x, kp⟩ := x
    cases r with
    | nil => simp only [ckK] at hc; cases hc
    | cons y ys =>
      simp only [ckK, Bool.and_eq_true] at hc
      simp only [evA, Option.bind_eq_some_iff, Option.some.injEq] at hv
      obtain ⟨z1, e1, z2, e2, rfl⟩ := hv
      exact denk_cons (S.E c hc.1 e1) (S.Kw c hc.2 e2)
theorem snd_O (S : Snd T k n) {sc : Scope} {X : Cx} {β : Option Addr} {e : Option Expr} {r : Option RE} {m : Nat} {a : En} {z : Option Int × En} (c : Cok T k sc X) (hc : ckO T (n + 1) sc e r = true) (hv : evO T m r a = some z) : DenO X β e a z.1 z.2 := by
  cases m with
  | zero => simp only [evO] at hv; cases hv
  | succ m =>
  cases e with
  | none =>
    cases r with
    | none =>
      simp only [evO, Option.some.injEq] at hv
      subst hv
      exact deno_none
    | some y => simp only [ckO] at hc; cases hc
  | some x =>
    cases r with
    | none => simp only [ckO] at hc; cases hc
    | some y =>
      simp only [ckO] at hc
      simp only [evO, Option.bind_eq_some_iff] at hv
      obtain ⟨⟨o, d, b⟩, e1, hv⟩ := hv
      dsimp only at hv
      split at hv
      · cases hv
        exact deno_some (S.E c hc e1)
      · cases hv
theorem snd_To (S : Snd T k n) {sc : Scope} {X : Cx} {β : Option Addr} {e : List Expr} {r : Option RT} {m : Nat} {a : En} {z : Bool × En} (c : Cok T k sc X) (hc : ckTo T (n + 1) sc e r = true) (hv : evTo T m r a = some z) : DenTs X β e a z.1 z.2 := by
  cases m with
  | zero => simp only [evTo] at hv; cases hv
  | succ m =>
  match e, r, hc with
  | [], none, hc =>
    simp only [evTo, Option.some.injEq] at hv
    subst hv
    exact dents_nil
  | [x], some y, hc =>
    simp only [ckTo] at hc
    simp only [evTo] at hv
    exact dents_one (S.Tt c hc hv)
  | [], some _, hc => exact absurd hc (show ¬ false = true from Bool.false_ne_true)
  | [_], none, hc => exact absurd hc (show ¬ false = true from Bool.false_ne_true)
  | _ :: _ :: _, none, hc => exact absurd hc (show ¬ false = true from Bool.false_ne_true)
  | _ :: _ :: _, some _, hc => exact absurd hc (show ¬ false = true from Bool.false_ne_true)
/-- and, or, by what is known of the operands -/
theorem snd_W (S : Snd T k n) {sc : Scope} {X : Cx} {β : Option Addr} {e : Expr} {r : RT} {m : Nat} {a : En} {z : Bool × En} (c : Cok T k sc X) (hc : ckT T (n + 1) sc e r = true) (hv : evT T m r a = some z) (hb : ∃ op es pos, e = .BoolOp op es pos) : DenW X β e a z.1 z.2 := by
  obtain ⟨op0, es0, pos0, rfl⟩ := hb
  cases m with
  | zero => simp only [evT] at hv; cases hv
  | succ m =>
  cases r with
  | bop op' p q =>
    simp only [ckT] at hc
    split at hc
    · rename_i x y he
      cases he
      simp only [Bool.and_eq_true, decide_eq_true_eq] at hc
      obtain ⟨⟨rfl, h1⟩, h2⟩ := hc
      simp only [evT, Option.bind_eq_some_iff] at hv
      obtain ⟨z1, e1, hv⟩ := hv
      split at hv
      · rename_i hs
        cases hv
        exact denw_short (S.Tt c h1 e1) (stop_and hs)
      · rename_i hs
        exact denw_on (S.Tt c h1 e1) (stop_on hs) (dent_bool1 (S.Tt c h2 hv))
    · rename_i x y w rest pos he
      cases he
      simp only [Bool.and_eq_true, decide_eq_true_eq] at hc
      obtain ⟨⟨rfl, h1⟩, h2⟩ := hc
      simp only [evT, Option.bind_eq_some_iff] at hv
      obtain ⟨z1, e1, hv⟩ := hv
      split at hv
      · rename_i hs
        cases hv
        exact denw_short (S.Tt c h1 e1) (stop_and hs)
      · rename_i hs
        exact denw_on (S.Tt c h1 e1) (stop_on hs) (S.Tw c h2 hv ⟨_, _, _, rfl⟩)
    · cases hc
  | nt p => simp only [ckT] at hc; cases hc
  | cmp op' p q => simp only [ckT] at hc; cases hc
  | val p => simp only [ckT, plainT, Bool.false_and] at hc; cases hc
  | nm i => simp only [ckT] at hc; cases hc
theorem snd_T (S : Snd T k n) {sc : Scope} {X : Cx} {β : Option Addr} {e : Expr} {r : RT} {m : Nat} {a : En} {z : Bool × En} (c : Cok T k sc X) (hc : ckT T (n + 1) sc e r = true) (hv : evT T m r a = some z) : DenT X β e a z.1 z.2 := by
  have hc0 := hc
  have hv0 := hv
  cases m with
  | zero => simp only [evT] at hv; cases hv
  | succ m =>
  cases r with
  | nt p =>
    simp only [ckT] at hc
    split at hc
    · simp only [evT, Option.bind_eq_some_iff, Option.some.injEq] at hv
      obtain ⟨z1, e1, rfl⟩ := hv
      exact dent_not (S.Tt c hc e1)
    · cases hc
  | bop op' p q =>
    refine (snd_W S c hc0 hv0 ?_).t
    simp only [ckT] at hc
    split at hc
    · exact ⟨_, _, _, rfl⟩
    · exact ⟨_, _, _, rfl⟩
    · cases hc
  | cmp op' p q =>
    simp only [ckT] at hc
    split at hc
    · simp only [Bool.and_eq_true, decide_eq_true_eq, Bool.not_eq_true'] at hc
      obtain ⟨⟨⟨rfl, h0⟩, h1⟩, h2⟩ := hc
      simp only [evT, Option.bind_eq_some_iff, Option.some.injEq] at hv
      obtain ⟨z1, e1, z2, e2, z3, e3, rfl⟩ := hv
      obtain ⟨rr, ho, hr⟩ := cmp_ok (X := X) (β := β) (b := z2.2.2) (o1 := z1.1) c.room e3
      exact dent_cmp h0 ho (S.E c h1 e1) (S.E c h2 e2) hr
    · cases hc
  | val p =>
    simp only [ckT, Bool.and_eq_true] at hc
    simp only [evT, Option.bind_eq_some_iff, Option.some.injEq] at hv
    obtain ⟨z1, e1, z2, e2, rfl⟩ := hv
    exact dent_val hc.1 (S.E c hc.2 e1) e2
  | nm i =>
    simp only [ckT] at hc
    split at hc
    · rw [beq_iff_eq] at hc
      obtain ⟨q1, q2, q3, q4⟩ := c.slot hc
      simp only [evT] at hv
      split at hv
      · rename_i l hl
        cases hv
        exact dent_own (idxOf_get q1) q2 q3 q4 hl
      · simp only [Option.bind_eq_some_iff, Option.some.injEq] at hv
        obtain ⟨z1, e1, z2, e2, rfl⟩ := hv
        exact dent_val rfl (den_name (idxOf_get q1) q2 q3 q4 e1) e2
    · cases hc
theorem fnb {sc : Scope} {X : Cx} {f x : Str} (c : Cok T k sc X) (h : fnBlt sc f x = true) : Gl X f ∧ X.mg f = none ∧ f = x := by
  unfold fnBlt at h
  rw [Bool.and_eq_true, beq_iff_eq] at h
  exact ⟨(c.bltG h.1).1, (c.bltG h.1).2, h.2⟩
theorem snd_I (S : Snd T k n) {sc : Scope} {X : Cx} {β : Option Addr} {tg e : Expr} {r : RI} {m : Nat} {a : En} {z : List D × En} (c : Cok T k sc X) (hc : ckI T (n + 1) sc tg e r = true) (hv : evI T m r a = some z) : DenI X β tg e a z.1 z.2 := by
  cases m with
  | zero => simp only [evI] at hv; cases hv
  | succ m =>
  cases r with
  | seq p =>
    simp only [ckI] at hc
    simp only [evI, Option.bind_eq_some_iff, Option.some.injEq] at hv
    obtain ⟨⟨o, d, b⟩, e1, l, e2, rfl⟩ := hv
    have h := S.E (β := β) c hc e1
    dsimp only at e2 h ⊢
    unfold itemsD at e2
    split at e2
    · cases e2; exact deni_seq h rfl
    · cases e2; exact deni_seq h rfl
    · cases e2; exact deni_str h
    · cases e2
  | rng rs =>
    simp only [ckI] at hc
    split at hc
    · rename_i f p args pos
      simp only [Bool.and_eq_true] at hc
      obtain ⟨⟨h0, h1⟩, h2⟩ := hc
      obtain ⟨g1, g2, rfl⟩ := fnb c h0
      simp only [evI, Option.bind_eq_some_iff, Option.some.injEq] at hv
      obtain ⟨⟨ds, b⟩, e1, l, e2, rfl⟩ := hv
      obtain ⟨k1, k2, k3, k4⟩ := S.A (β := β) c h2 h1 e1
      dsimp only at e2 k1 k2 ⊢
      unfold rngL at e2
      split at e2
      · rename_i i
        split at e2
        · rename_i hb
          cases e2
          obtain ⟨x, rfl⟩ : ∃ x, args = [x] := by
            match args, k2 with
            | [x], _ => exact ⟨x, rfl⟩
          exact deni_rng1 (stars_cons h1).1 g1 g2 k1 hb
        · cases e2
      · rename_i i j
        split at e2
        · rename_i hb
          cases e2
          rw [Bool.and_eq_true] at hb
          obtain ⟨x, y, rfl⟩ : ∃ x y, args = [x, y] := by
            match args, k2 with
            | [x, y], _ => exact ⟨x, y, rfl⟩
          exact deni_rng2 (stars_cons h1).1 (stars_cons (stars_cons h1).2).1 g1 g2 k1 hb.1 hb.2
        · cases e2
      · rename_i i j cc
        split at e2
        · rename_i hb
          cases e2
          simp only [Bool.and_eq_true, beq_iff_eq] at hb
          obtain ⟨⟨hb1, hb2⟩, rfl⟩ := hb
          obtain ⟨x, y, w, rfl⟩ : ∃ x y w, args = [x, y, w] := by
            match args, k2 with
            | [x, y, w], _ => exact ⟨x, y, w, rfl⟩
          exact deni_rng3 h1 g1 g2 k1 hb1 hb2
        · cases e2
      · cases e2
    · cases hc
  | enu rs =>
    simp only [ckI] at hc
    split at hc
    · rename_i f p args pos elts kk tpos
      simp only [Bool.and_eq_true] at hc
      obtain ⟨⟨h0, h1⟩, h2⟩ := hc
      obtain ⟨g1, g2, rfl⟩ := fnb c h0
      simp only [evI, Option.bind_eq_some_iff, Option.some.injEq] at hv
      obtain ⟨⟨ds, b⟩, e1, l, e2, rfl⟩ := hv
      obtain ⟨k1, k2, k3, k4⟩ := S.A (β := β) c h2 h1 e1
      dsimp only at e2 k1 k2 ⊢
      unfold enuL at e2
      split at e2
      · rename_i d
        cases hd : seqD d with
        | none => rw [hd] at e2; cases e2
        | some q =>
          rw [hd] at e2
          cases e2
          obtain ⟨x, rfl⟩ : ∃ x, args = [x] := by
            match args, k2 with
            | [x], _ => exact ⟨x, rfl⟩
          exact deni_enum1 (stars_cons h1).1 g1 g2 k1 hd
      · rename_i d cc
        split at e2
        · rename_i hb
          cases hd : seqD d with
          | none => rw [hd] at e2; cases e2
          | some q =>
            rw [hd] at e2
            cases e2
            obtain ⟨x, y, rfl⟩ : ∃ x y, args = [x, y] := by
              match args, k2 with
              | [x, y], _ => exact ⟨x, y, rfl⟩
            exact deni_enum2 (stars_cons h1).1 (stars_cons (stars_cons h1).2).1 g1 g2 k1 hd hb
        · cases e2
      · cases e2
    · cases hc
  | zip p q =>
    simp only [ckI] at hc
    split at hc
    · simp only [Bool.and_eq_true, Bool.not_eq_true'] at hc
      obtain ⟨⟨⟨⟨h0, h1⟩, h2⟩, h3⟩, h4⟩ := hc
      obtain ⟨g1, g2, rfl⟩ := fnb c h0
      simp only [evI, Option.bind_eq_some_iff, Option.some.injEq] at hv
      obtain ⟨z1, e1, z2, e2, l1, e3, l2, e4, rfl⟩ := hv
      exact deni_zip h1 h2 g1 g2 (dena_cons h1 (S.E c h3 e1) (dena_cons h2 (S.E c h4 e2) dena_nil)) e3 e4
    · cases hc
  | rev p =>
    simp only [ckI] at hc
    split at hc
    · simp only [Bool.and_eq_true, Bool.not_eq_true'] at hc
      obtain ⟨⟨h0, h1⟩, h3⟩ := hc
      obtain ⟨g1, g2, rfl⟩ := fnb c h0
      simp only [evI, Option.bind_eq_some_iff, Option.some.injEq] at hv
      obtain ⟨z1, e1, l1, e3, rfl⟩ := hv
      exact deni_rev h1 g1 g2 (S.E c h3 e1) e3
    · cases hc
theorem snd_all (T : Tb) (k : Nat) : ∀ n, Snd T k n
  | 0 => snd_zero
  | n + 1 => by
    have S := snd_all T k n
    exact ⟨fun c h v => snd_E S c h v, fun c h s v => snd_A S c h s v, fun c h v => snd_K S c h v, fun c h v => snd_O S c h v, fun c h v => snd_To S c h v, fun c h v => snd_T S c h v, fun c h v b => snd_W S c h v b, fun c h v => snd_I S c h v⟩
end
end Fz
set_option Elab.async false
set_option linter.all false
set_option maxRecDepth 100000
set_option maxHeartbeats 8000000
/-! Fz, part Q: statements, defs. -/
namespace Fz
open PySem PySem.Spec PyProof.Rows L2

def swNames (sc : Scope) (ts : List Expr) : List Str := ts.filterMap fun t => match t with
  | .Name x q => if sc.names.lookup x == some .local && q.line == (ts.head?.map (·.pos.line)).getD 0 then some x else none
  | _ => none
/-- what a pair of tuples is: none of the two ways | stored in order | from the right -/
def swF (sc : Scope) (ts vs : List Expr) : Option (Option (List Str)) :=
  if (!(ts.length == 2 || ts.length == 3) || vs.length != ts.length) = true then some none
  else if vs.any isStar = true then some none
  else if ((swNames sc ts).length != ts.length || (swNames sc ts).eraseDups.length != (swNames sc ts).length) = true then some none
  else if vs.all (foldedForSure 8) = true then some none
  else if vs.all (constantsAlone 8) = true then none
  else some (some (swNames sc ts))
theorem sw_tab {env : Env} {ts vs : List Expr} {k k2 : Nat} {p p2 : Pos} {r : Option (List Str)} (hk : env.scope.kind = .function) (h : swF env.scope ts vs = some r) : swappedStores [.Tuple ts k p] (.Tuple vs k2 p2) env = pure r := by
  have hb : env.blockKind = .function := by unfold Env.blockKind; rw [hk]; rfl
  unfold swappedStores
  unfold swF at h
  simp only [hb, bne_self_eq_false, Bool.or_false]
  have es : ∀ f : Expr → Bool, (∀ e, f e = isStar e) → vs.any f = vs.any isStar := fun f hf => by rw [show f = isStar from funext hf]
  have en : ∀ f : Expr → Option Str, (∀ t, f t = (match t with | .Name x q => if env.scope.names.lookup x == some .local && q.line == (ts.head?.map (·.pos.line)).getD 0 then some x else none | _ => none)) → ts.filterMap f = swNames env.scope ts := fun f hf => by rw [funext hf]; rfl
  split at h
  · rename_i c1
    cases h
    rw [if_pos c1]
  · rename_i c1
    rw [if_neg c1, es _ (fun e => by cases e <;> rfl)]
    split at h
    · rename_i c2
      cases h
      rw [if_pos c2]
    · rename_i c2
      rw [if_neg c2]
      split at h
      · rename_i c3
        cases h
        rw [en _ (fun e => by cases e <;> rfl), if_pos c3]
      · rename_i c3
        rw [en _ (fun e => by cases e <;> rfl), if_neg c3]
        split at h
        · rename_i c4
          cases h
          rw [if_pos c4]
        · rename_i c4
          rw [if_neg c4]
          split at h
          · cases h
          · rename_i c5
            cases h
            rw [if_neg c5]

section
variable {X : Cx} {β : Option Addr}
theorem dens_par2 {x y : Str} {e1 e2 : Expr} {px py pt pt2 pos : Pos} {kt k2 : Nat} {a b c : En} {ds : List D} {i j : Nat} (hc : X.calm = true) (nd : X.N.Nodup) (h1 : idxOf X.N x = some i) (h2 : idxOf X.N y = some j) (hij : i ≠ j)
    (hx : X.env.scope.names.lookup x = some .local) (hy : X.env.scope.names.lookup y = some .local) (hw : swappedStores [.Tuple [.Name x px, .Name y py] kt pt] (.Tuple [e1, e2] k2 pt2) X.env = pure (some [x, y]))
    (ha : DenA X β [e1, e2] a ds b) (hs : stAll b [i, j] ds = some c) : DenS X β (.Assign [.Tuple [.Name x px, .Name y py] kt pt] (.Tuple [e1, e2] k2 pt2) pos) a (.nx c) := fun G H ρ σ Dn r q => by
  refine ⟨_, ps_par hc nd (idxOf_get h1) (idxOf_get h2) hij hx hy pa_w hw rfl, ha G H ρ σ _ r fun vs G1 H1 ρ1 f1 r1 x1 => ?_⟩
  match ds, hs, x1 with
  | [d1, d2], hs, .cons (v := v) x1 (.cons (v := w) x2 .nil) =>
    simp only [stAll] at hs
    split at hs
    · rename_i hi
      split at hs
      · rename_i hj
        cases hs
        exact ⟨v, w, rfl, q G1 H1 ρ1 _ f1 ((r1.storeV hi x1).storeV hj x2)⟩
      · cases hs
    · cases hs
  | [_], hs, _ => simp [stAll] at hs
  | _ :: _ :: _ :: _, hs, _ => simp [stAll] at hs
theorem dens_par3 {x y u : Str} {e1 e2 e3 : Expr} {px py pu pt pt2 pos : Pos} {kt k2 : Nat} {a b c : En} {ds : List D} {i j l : Nat} (hc : X.calm = true) (nd : X.N.Nodup) (h1 : idxOf X.N x = some i) (h2 : idxOf X.N y = some j) (h3 : idxOf X.N u = some l) (hij : i ≠ j) (hil : i ≠ l) (hjl : j ≠ l)
    (hx : X.env.scope.names.lookup x = some .local) (hy : X.env.scope.names.lookup y = some .local) (hu : X.env.scope.names.lookup u = some .local)
    (hw : swappedStores [.Tuple [.Name x px, .Name y py, .Name u pu] kt pt] (.Tuple [e1, e2, e3] k2 pt2) X.env = pure (some [x, y, u]))
    (ha : DenA X β [e1, e2, e3] a ds b) (hs : stAll b [i, j, l] ds = some c) : DenS X β (.Assign [.Tuple [.Name x px, .Name y py, .Name u pu] kt pt] (.Tuple [e1, e2, e3] k2 pt2) pos) a (.nx c) := fun G H ρ σ Dn r q => by
  refine ⟨_, ps_par3 hc nd (idxOf_get h1) (idxOf_get h2) (idxOf_get h3) hij hil hjl hx hy hu pa_w hw rfl, ha G H ρ σ _ r fun vs G1 H1 ρ1 f1 r1 x1 => ?_⟩
  match ds, hs, x1 with
  | [d1, d2, d3], hs, .cons (v := v) x1 (.cons (v := w) x2 (.cons (v := v3) x3 .nil)) =>
    simp only [stAll] at hs
    split at hs
    · rename_i hi
      split at hs
      · rename_i hj
        split at hs
        · rename_i hl
          cases hs
          exact ⟨v, w, v3, rfl, q G1 H1 ρ1 _ f1 (((r1.storeV hi x1).storeV hj x2).storeV hl x3)⟩
        · cases hs
      · cases hs
    · cases hs
  | [_], hs, _ => simp [stAll] at hs
  | [_, _], hs, _ => simp [stAll] at hs
  | _ :: _ :: _ :: _ :: _, hs, _ => simp [stAll] at hs
end

/-! ### the check of statements -/
def locB (sc : Scope) (x : Str) : Bool := match sc.names.lookup x with
  | some .local => true
  | _ => false
theorem locB_ok {sc : Scope} {x : Str} (h : locB sc x = true) : sc.names.lookup x = some .local := by
  unfold locB at h
  split at h
  · assumption
  · cases h
def tgEq : Tg → Tg → Bool
  | .one i, .one j => i == j
  | .tup l, .tup m => l == m
  | _, _ => false
theorem tgEq_ok {t u : Tg} (h : tgEq t u = true) : t = u := by
  cases t <;> cases u <;> simp_all [tgEq]
def ckTg (T : Tb) (sc : Scope) (tg : Expr) (t : Tg) : Bool := match tgOf T.N tg with
  | some (t', tl) => tgEq t' t && tl.all fun p => stoOk sc p.1
  | none => false
def parN (T : Tb) (sc : Scope) (x : Str) (i : Nat) : Bool := (idxOf T.N x == some i) && locB sc x
section
variable (T : Tb)
mutual
def ckS : Nat → Scope → Stmt → RS → Bool
  | 0, _, _, _ => false
  | n + 1, sc, st, r => match r with
    | .set i a => match st with
      | .Assign [.Name x _] e _ => (idxOf T.N x == some i) && stoOk sc x && ckE T n sc e a
      | _ => false
    | .tgt t a => match st with
      | .Assign [.Tuple ts k p] e _ => ckTg T sc (.Tuple ts k p) t && (match e with
        | .Tuple vs _ _ => swF sc ts vs == some none
        | _ => true) && ckE T n sc e a
      | _ => false
    | .par is es => match st with
      | .Assign [.Tuple [.Name x px, .Name y py] _ _] (.Tuple [e1, e2] _ _) _ => (match is with
        | [i, j] => parN T sc x i && parN T sc y j && (i != j)
        | _ => false) && (swF sc [.Name x px, .Name y py] [e1, e2] == some (some [x, y])) && noStars [e1, e2] && ckA T n sc [e1, e2] es
      | .Assign [.Tuple [.Name x px, .Name y py, .Name u pu] _ _] (.Tuple [e1, e2, e3] _ _) _ => (match is with
        | [i, j, l] => parN T sc x i && parN T sc y j && parN T sc u l && (i != j) && (i != l) && (j != l)
        | _ => false) && (swF sc [.Name x px, .Name y py, .Name u pu] [e1, e2, e3] == some (some [x, y, u])) && noStars [e1, e2, e3] && ckA T n sc [e1, e2, e3] es
      | _ => false
    | .put i b a => match st with
      | .Assign [.Subscript (.Name x _) ei _] e _ => (slotN T sc x == some i) && !isSlice ei && !isComp e && ckE T n sc ei b && ckE T n sc e a
      | _ => false
    | .ret a => match st with
      | .Return (some e) _ => ckE T n sc e a
      | _ => false
    | .retn => match st with
      | .Return none _ => true
      | _ => false
    | .ife t A B => match st with
      | .If c p q _ => ckT T n sc c t && ckSs n sc p A && ckSs n sc q B
      | _ => false
    | .whl t b => match st with
      | .While c body [] _ => ckT T n sc c t && ckSs n sc body b
      | _ => false
    | .for t it b => match st with
      | .For tg iter body [] _ => ckTg T sc tg t && !isSet iter && ckI T n sc tg iter it && ckSs n sc body b
      | _ => false
    | .ex a => match st with
      | .Expr e _ => !isComp e && ckE T n sc e a
      | _ => false
    | .pass => match st with
      | .Pass _ => true
      | _ => false
    | .brk => match st with
      | .Break _ => true
      | _ => false
    | .cnt => match st with
      | .Continue _ => true
      | _ => false
def ckSs : Nat → Scope → List Stmt → List RS → Bool
  | 0, _, _, _ => false
  | _ + 1, _, [], [] => true
  | n + 1, sc, s :: ss, r :: rs => ckS n sc s r && ckSs n sc ss rs
  | _ + 1, _, _, _ => false
end
end
/-- a def's own context -/
structure Cos (T : Tb) (k : Nat) (sc : Scope) (X : Cx) : Prop where
  ok : Cok T k sc X
  kind : sc.kind = .function
  fn : ∀ x, X.fn x = true
  po : PassesOwn (model X.prog X.w) X.A X.env X.xe
section
variable {T : Tb} {k : Nat}
theorem Cos.sto {sc : Scope} {X : Cx} (c : Cos T k sc X) {x : Str} (h : stoOk sc x = true) : StOk X x := by
  unfold stoOk at h
  split at h
  · exact ⟨.inl (by rw [c.ok.sc]; assumption), .inl (c.fn x)⟩
  · exact ⟨.inr (by rw [c.ok.sc]; assumption), .inl (c.fn x)⟩
  · cases h
theorem Cos.tg {sc : Scope} {X : Cx} (c : Cos T k sc X) {tg : Expr} {t : Tg} (h : ckTg T sc tg t = true) : ∃ tl, tgOf X.N tg = some (t, tl) ∧ ∀ p ∈ tl, StOk X p.1 := by
  unfold ckTg at h
  split at h
  · rename_i t' tl ht
    rw [Bool.and_eq_true, List.all_eq_true] at h
    have := tgEq_ok h.1
    subst this
    exact ⟨tl, by rw [c.ok.N]; exact ht, fun p hp => c.sto (h.2 p hp)⟩
  · cases h
theorem Cos.par {sc : Scope} {X : Cx} (c : Cos T k sc X) {x : Str} {i : Nat} (h : parN T sc x i = true) : idxOf X.N x = some i ∧ X.env.scope.names.lookup x = some .local := by
  unfold parN at h
  rw [Bool.and_eq_true, beq_iff_eq] at h
  exact ⟨by rw [c.ok.N]; exact h.1, by rw [c.ok.sc]; exact locB_ok h.2⟩
theorem swaps_lc {elt : Expr} {gs : List Comprehension} {scope : Scope} {pos px : Pos} {x : Str} {l : Nat} {env : Env} : swapsWith (.ListComp elt gs scope pos) (some (.Name x px)) l env = pure (env.blockKind == .function && env.kindOf x == some .local && px.line == pos.line && !(scope.names.any fun p => p.1 == x && (p.2 == .local || p.2 == .cell))) := rfl
theorem swaps_tup {e : Expr} {ts : List Expr} {q : Nat} {p : Pos} {l : Nat} {env : Env} : swapsWithSole [.Tuple ts q p] e l env = pure false := by
  show swapsWith e (some (.Tuple ts q p)) l env = pure false
  cases e <;> rfl
theorem set_ok {n m : Nat} {sc : Scope} {X : Cx} {β : Option Addr} {x : Str} {px pos : Pos} {e : Expr} {r : RE} {i : Nat} {a : En} {z : Bool × D × En} (c : Cos T k sc X) (hi : idxOf T.N x = some i) (hs : stoOk sc x = true) (hc : ckE T n sc e r = true) (hv : evE T m r a = some z) (hl : i < z.2.2.sl.length) :
    DenS X β (.Assign [.Name x px] e pos) a (.nx (setS z.2.2 i z.1 z.2.1)) := by
  have hi' : idxOf X.N x = some i := by rw [c.ok.N]; exact hi
  have nd : X.N.Nodup := by rw [c.ok.N]; exact c.ok.nd
  have plain : swapsWith e (some (.Name x px)) pos.line X.env = pure false → DenS X β (.Assign [.Name x px] e pos) a (.nx (setS z.2.2 i z.1 z.2.1)) := fun h => dens_set nd hi' (c.sto hs) h hl ((snd_all T k n).E c.ok hc hv)
  by_cases hcomp : isComp e = false
  · exact plain (swaps_ok hcomp)
  · cases e with
    | ListComp elt gs scope epos =>
      cases hb : (X.env.blockKind == .function && X.env.kindOf x == some .local && px.line == epos.line && !(scope.names.any fun p => p.1 == x && (p.2 == .local || p.2 == .cell))) with
      | false => exact plain (by rw [swaps_lc, hb])
      | true =>
        have hx : X.env.scope.names.lookup x = some .local := by
          simp only [Bool.and_eq_true, beq_iff_eq] at hb
          exact hb.1.1.2
        cases n with
        | zero => simp only [ckE] at hc; cases hc
        | succ n =>
        cases r with
        | lc t vs it' tt y =>
          cases m with
          | zero => simp only [evE] at hv; cases hv
          | succ m =>
          have S := snd_all T k n
          simp only [ckE] at hc
          split at hc
          · rename_i elt' tg it ifs scope' pos' he
            cases he
            simp only [Bool.and_eq_true, Bool.not_eq_true'] at hc
            obtain ⟨⟨⟨⟨h0, h1⟩, h2⟩, h3⟩, h4⟩ := hc
            split at h1
            · rename_i t' tl ht
              simp only [Bool.and_eq_true, decide_eq_true_eq, beq_iff_eq, List.all_eq_true] at h1
              obtain ⟨⟨⟨⟨⟨g1, g2⟩, g3⟩, g4⟩, g5⟩, g6⟩ := h1
              have et : t' = t := by
                cases t' <;> cases t <;> simp_all [Tg.ix]
              subst et
              subst g3
              simp only [evE, Option.bind_eq_some_iff] at hv
              obtain ⟨z1, e1, hv⟩ := hv
              split at hv
              · rename_i hl1
                simp only [Option.bind_eq_some_iff, Option.some.injEq] at hv
                obtain ⟨z2, e2, rfl⟩ := hv
                dsimp only at hl ⊢
                rw [← c.ok.N] at ht
                exact dens_setLc (tl := tl) (own := tl) nd c.ok.calm h0 hi' hx (by rw [swaps_lc, hb]) hl (blkOk_by (by rw [c.ok.N, c.ok.sc]; exact g5)) ht (fun s H C cl fp p hp => stok_bl (g6 p hp)) (fun j hj => by simpa using g4 j hj) (S.I c.ok h2 e1)
                  (fun d e o e' hh => turn_ok S c.ok h3 h4 hh) e2 (szB_le hl1)
              · cases hv
            · cases h1
          · cases hc
        | _ => simp only [ckE] at hc; cases hc
    | SetComp _ _ _ _ =>
      cases n with
      | zero => simp only [ckE] at hc; cases hc
      | succ n => cases r <;> simp only [ckE] at hc <;> cases hc
    | DictComp _ _ _ _ _ =>
      cases n with
      | zero => simp only [ckE] at hc; cases hc
      | succ n => cases r <;> simp only [ckE] at hc <;> cases hc
    | _ => exact absurd rfl hcomp
end
end Fz
set_option Elab.async false
set_option linter.all false
set_option maxRecDepth 100000
set_option maxHeartbeats 8000000
/-! Fz, part R: statements and defs: what is computed is what runs. -/
namespace Fz
open PySem PySem.Spec PyProof.Rows L2
section
variable {T : Tb} {k : Nat}
structure SndS (T : Tb) (k n : Nat) : Prop where
  S : ∀ {sc : Scope} {X : Cx} {β : Option Addr} {st : Stmt} {r : RS} {m : Nat} {a : En} {z : SR}, Cos T k sc X → ckS T n sc st r = true → evS T m r a = some z → DenS X β st a z
  Ss : ∀ {sc : Scope} {X : Cx} {β : Option Addr} {st : List Stmt} {r : List RS} {m : Nat} {a : En} {z : SR}, Cos T k sc X → ckSs T n sc st r = true → evSs T m r a = some z → DenSs X β st a z
theorem sndS_S {n : Nat} (Sn : SndS T k n) {sc : Scope} {X : Cx} {β : Option Addr} {st : Stmt} {r : RS} {m : Nat} {a : En} {z : SR} (c : Cos T k sc X) (hc : ckS T (n + 1) sc st r = true) (hv : evS T m r a = some z) : DenS X β st a z := by
  have E := snd_all T k n
  have nd : X.N.Nodup := by rw [c.ok.N]; exact c.ok.nd
  cases m with
  | zero => simp only [evS] at hv; cases hv
  | succ m =>
  cases r with
  | set i p =>
    simp only [ckS] at hc
    split at hc
    · simp only [Bool.and_eq_true, beq_iff_eq] at hc
      simp only [evS, Option.bind_eq_some_iff] at hv
      obtain ⟨z1, e1, hv⟩ := hv
      split at hv
      · rename_i hl
        cases hv
        exact set_ok c hc.1.1 hc.1.2 hc.2 e1 hl
      · cases hv
    · cases hc
  | tgt t p =>
    simp only [ckS] at hc
    split at hc
    · rename_i ts kk pt e pos
      simp only [Bool.and_eq_true] at hc
      obtain ⟨⟨h0, h1⟩, h2⟩ := hc
      obtain ⟨tl, g1, g2⟩ := c.tg h0
      simp only [evS, Option.bind_eq_some_iff, Option.some.injEq] at hv
      obtain ⟨z1, e1, z2, e2, rfl⟩ := hv
      refine dens_tg nd c.ok.calm g1 g2 swaps_tup ?_ rfl (E.E c.ok h2 e1) e2
      split at h1
      · rw [beq_iff_eq] at h1
        exact sw_tab (by rw [c.ok.sc]; exact c.kind) (by rw [c.ok.sc]; exact h1)
      · rename_i hne
        cases e <;> first | rfl | exact absurd rfl (hne _ _ _)
    · cases hc
  | par is es =>
    simp only [ckS] at hc
    split at hc
    · simp only [Bool.and_eq_true] at hc
      obtain ⟨⟨⟨h0, h1⟩, h2⟩, h3⟩ := hc
      simp only [evS, Option.bind_eq_some_iff, Option.some.injEq] at hv
      obtain ⟨z1, e1, z2, e2, rfl⟩ := hv
      split at h0
      · rename_i i j
        simp only [Bool.and_eq_true, bne_iff_ne, ne_eq] at h0
        obtain ⟨⟨p1, p2⟩, p3⟩ := h0
        obtain ⟨q1, q2⟩ := c.par p1
        obtain ⟨q3, q4⟩ := c.par p2
        rw [beq_iff_eq] at h1
        exact dens_par2 c.ok.calm nd q1 q3 p3 q2 q4 (sw_tab (by rw [c.ok.sc]; exact c.kind) (by rw [c.ok.sc]; exact h1)) (E.A c.ok h3 h2 e1).1 e2
      · cases h0
    · simp only [Bool.and_eq_true] at hc
      obtain ⟨⟨⟨h0, h1⟩, h2⟩, h3⟩ := hc
      simp only [evS, Option.bind_eq_some_iff, Option.some.injEq] at hv
      obtain ⟨z1, e1, z2, e2, rfl⟩ := hv
      split at h0
      · rename_i i j l
        simp only [Bool.and_eq_true, bne_iff_ne, ne_eq] at h0
        obtain ⟨⟨⟨⟨⟨p1, p2⟩, p4⟩, p3⟩, p5⟩, p6⟩ := h0
        obtain ⟨q1, q2⟩ := c.par p1
        obtain ⟨q3, q4⟩ := c.par p2
        obtain ⟨q5, q6⟩ := c.par p4
        rw [beq_iff_eq] at h1
        exact dens_par3 c.ok.calm nd q1 q3 q5 p3 p5 p6 q2 q4 q6 (sw_tab (by rw [c.ok.sc]; exact c.kind) (by rw [c.ok.sc]; exact h1)) (E.A c.ok h3 h2 e1).1 e2
      · cases h0
    · cases hc
  | put i b p =>
    simp only [ckS] at hc
    split at hc
    · simp only [Bool.and_eq_true, beq_iff_eq, Bool.not_eq_true'] at hc
      obtain ⟨⟨⟨⟨h0, h1⟩, h2⟩, h3⟩, h4⟩ := hc
      obtain ⟨q1, q2, q3, q4⟩ := c.ok.slot h0
      simp only [evS, Option.bind_eq_some_iff] at hv
      obtain ⟨z1, e1, l0, e2, ⟨o2, d2, b2⟩, e3, hv⟩ := hv
      dsimp only at hv
      split at hv
      · simp only [Option.bind_eq_some_iff, Option.some.injEq] at hv
        obtain ⟨l, e4, j, e5, rfl⟩ := hv
        exact dens_put q1 q2 q3 q4 h1 (swaps_ok h2) (E.E c.ok h4 e1) (E.E c.ok h3 e3) (by rw [e2]; rfl) e4 e5
      · cases hv
    · cases hc
  | ret p =>
    simp only [ckS] at hc
    split at hc
    · simp only [evS, Option.bind_eq_some_iff, Option.some.injEq] at hv
      obtain ⟨z1, e1, rfl⟩ := hv
      exact dens_ret (E.E c.ok hc e1)
    · cases hc
  | retn =>
    simp only [ckS] at hc
    split at hc
    · simp only [evS, Option.some.injEq] at hv
      subst hv
      exact dens_retN
    · cases hc
  | ife t A B =>
    simp only [ckS] at hc
    split at hc
    · simp only [Bool.and_eq_true] at hc
      obtain ⟨⟨h0, h1⟩, h2⟩ := hc
      simp only [evS, Option.bind_eq_some_iff] at hv
      obtain ⟨⟨kk, b⟩, e1, hv⟩ := hv
      cases kk with
      | true => exact dens_if (k := true) (E.Tt c.ok h0 e1) (Sn.Ss c h1 hv)
      | false => exact dens_if (k := false) (E.Tt c.ok h0 e1) (Sn.Ss c h2 hv)
    · cases hc
  | whl t b =>
    simp only [ckS] at hc
    split at hc
    · simp only [Bool.and_eq_true] at hc
      simp only [evS] at hv
      exact dens_while c.po (fun e kk e1 h => E.Tt c.ok hc.1 h) (fun e rr h => Sn.Ss c hc.2 h) hv
    · cases hc
  | «for» t it b =>
    simp only [ckS] at hc
    split at hc
    · simp only [Bool.and_eq_true, Bool.not_eq_true'] at hc
      obtain ⟨⟨⟨h0, h1⟩, h2⟩, h3⟩ := hc
      obtain ⟨tl, g1, g2⟩ := c.tg h0
      simp only [evS, Option.bind_eq_some_iff] at hv
      obtain ⟨z1, e1, hv⟩ := hv
      refine dens_for c.po nd c.ok.calm g1 g2 h1 (E.I c.ok h2 e1) (fun d e rr h => ?_) hv
      simp only [Option.bind_eq_some_iff] at h
      obtain ⟨e2, w1, w2⟩ := h
      exact ⟨e2, w1, Sn.Ss c h3 w2⟩
    · cases hc
  | ex p =>
    simp only [ckS] at hc
    split at hc
    · simp only [Bool.and_eq_true, Bool.not_eq_true'] at hc
      simp only [evS, Option.bind_eq_some_iff, Option.some.injEq] at hv
      obtain ⟨z1, e1, rfl⟩ := hv
      exact dens_expr hc.1 (E.E c.ok hc.2 e1)
    · cases hc
  | pass =>
    simp only [ckS] at hc
    split at hc
    · simp only [evS, Option.some.injEq] at hv
      subst hv
      exact dens_pass
    · cases hc
  | brk =>
    simp only [ckS] at hc
    split at hc
    · simp only [evS, Option.some.injEq] at hv
      subst hv
      exact dens_break
    · cases hc
  | cnt =>
    simp only [ckS] at hc
    split at hc
    · simp only [evS, Option.some.injEq] at hv
      subst hv
      exact dens_continue
    · cases hc
theorem sndS_Ss {n : Nat} (Sn : SndS T k n) {sc : Scope} {X : Cx} {β : Option Addr} {st : List Stmt} {r : List RS} {m : Nat} {a : En} {z : SR} (c : Cos T k sc X) (hc : ckSs T (n + 1) sc st r = true) (hv : evSs T m r a = some z) : DenSs X β st a z := by
  cases m with
  | zero => simp only [evSs] at hv; cases hv
  | succ m =>
  cases st with
  | nil =>
    cases r with
    | nil =>
      simp only [evSs, Option.some.injEq] at hv
      subst hv
      exact denss_nil
    | cons y ys => exact absurd hc (show ¬ false = true from Bool.false_ne_true)
  | cons s ss =>
    cases r with
    | nil => exact absurd hc (show ¬ false = true from Bool.false_ne_true)
    | cons y ys =>
      simp only [ckSs, Bool.and_eq_true] at hc
      simp only [evSs, Option.bind_eq_some_iff] at hv
      obtain ⟨rr, e1, hv⟩ := hv
      cases rr with
      | nx e2 => exact denss_cons (Sn.S c hc.1 e1) (Sn.Ss c hc.2 hv)
      | rt o d e2 => cases hv; exact denss_stop (fun b h => by cases h) (Sn.S c hc.1 e1)
      | bk e2 => cases hv; exact denss_stop (fun b h => by cases h) (Sn.S c hc.1 e1)
      | ct e2 => cases hv; exact denss_stop (fun b h => by cases h) (Sn.S c hc.1 e1)
theorem sndS_all (T : Tb) (k : Nat) : ∀ n, SndS T k n
  | 0 => { S := fun _ h _ => absurd h (show ¬ false = true from Bool.false_ne_true), Ss := fun _ h _ => absurd h (show ¬ false = true from Bool.false_ne_true) }
  | n + 1 => ⟨fun c h v => sndS_S (sndS_all T k n) c h v, fun c h v => sndS_Ss (sndS_all T k n) c h v⟩

/-! ### a def of the text -/
/-- what a def of the module's text is at run time, for the table -/
structure Env1 (P : Program) (w : World) (K : PySem.W.Frag) (mg : Str → Option Value) (base : Heap) (k : Nat) (x : Str) (fn : Fn) : Prop where
  ex : ∃ f fd, mg x = some (.ref f) ∧ PySem.W.keepIn K (.ref f) = true ∧ FnOk P w K mg base CX0 k f fd fn.ps (spD K fn) ∧ Binds K fd fn.ps [] ∧
    ∀ kw ∈ fn.kws, KBn K fd fn.ps kw.n kw.ks (arr kw.perm) (arr kw.perm)
  nd : (x == ("__debug__" : Str)) = false
/-- the result of a def by its resolved body -/
def runD (T : Tb) (n : Nat) (io : Bool) (b : List RS) (ds : List D) : Option (Bool × D × List D) := (evSs T n b (en0 T.N.length io ds)).bind endD
theorem def_ok {P : Program} {w : World} {K : PySem.W.Frag} {mg : Str → Option Value} {base : Heap} {x qual : Str} {st : Stmt} {f : Addr} {fd : FuncData} {n : Nat} {fn : Fn} {b : List RS} (F : L2.Fun K x qual st f fd) (S : FnScope T.N fn.ps (defScope st))
    (hb : ∀ y, bltNames.contains y = true → mg y = none) (hf : ∀ (j : Nat) (p : Str × Fn), T.fs[j]? = some p → Env1 P w K mg base k p.1 p.2) (hc : ckSs T n (defScope st) (defBody st) b = true)
    (hd : ∀ ds z, fn.den ds = some z → ∃ m, runD T m fn.io b ds = some z) : FnOk P w K mg base CX0 (k + 1) f fd fn.ps (spD K fn) := by
  refine fn_ok F S fun X β C ds z hz => ?_
  obtain ⟨m, hm⟩ := hd ds z hz
  unfold runD at hm
  rw [Option.bind_eq_some_iff] at hm
  obtain ⟨r, h1, h2⟩ := hm
  obtain ⟨c1, c2, c3, c4, c5, c6, c7, c8, c9, c10, c11⟩ := C
  subst c1 c2 c3 c4 c5
  refine ⟨r, (sndS_all T k n).Ss ⟨⟨c6, S.nd, c7, c8, c9, hb, fun j p hp => ⟨(hf j p hp).ex, (hf j p hp).nd⟩⟩, S.kind, c10, c11⟩ hc h1, h2⟩
end
end Fz
set_option Elab.async false
set_option linter.all false
set_option maxRecDepth 100000
set_option maxHeartbeats 4000000
/-! Fz, part S: ints and lists of ints as data; steps; sizes. -/
namespace Fz
open PySem PySem.Spec PyProof.Rows L2
/-! ### lists of ints as data -/
def I (f : List Int) : List D := f.map PyData.int
@[simp] theorem I_len (f : List Int) : (I f).length = f.length := by simp [I]
@[simp] theorem I_nil : I [] = [] := rfl
@[simp] theorem I_cons (x : Int) (f : List Int) : I (x :: f) = .int x :: I f := rfl
@[simp] theorem I_app (f g : List Int) : I (f ++ g) = I f ++ I g := by simp [I]
@[simp] theorem I_emp (f : List Int) : (I f).isEmpty = f.isEmpty := by cases f <;> rfl
@[simp] theorem allI_I : ∀ f : List Int, allI (I f) = some f
  | [] => rfl
  | x :: f => by
    show (allI (I f)).map (x :: ·) = _
    rw [allI_I f]
    rfl
theorem I_get (f : List Int) (i : Nat) : (I f)[i]? = (f[i]?).map PyData.int := by simp [I]
theorem I_take (f : List Int) (i : Nat) : (I f).take i = I (f.take i) := by simp [I]
theorem I_drop (f : List Int) (i : Nat) : (I f).drop i = I (f.drop i) := by simp [I]
theorem I_set (f : List Int) (i : Nat) (x : Int) : (I f).set i (.int x) = I (f.set i x) := by simp [I]
theorem I_rev (f : List Int) : (I f).reverse = I f.reverse := by simp [I]
theorem zip_I : ∀ f g : List Int, zipD (I f) (I g) = (f.zip g).map fun q => .tuple [.int q.1, .int q.2]
  | [], _ => rfl
  | _ :: _, [] => rfl
  | x :: f, y :: g => by
    show PyData.tuple [.int x, .int y] :: zipD (I f) (I g) = PyData.tuple [.int x, .int y] :: ((f.zip g).map fun q => PyData.tuple [.int q.1, .int q.2])
    rw [zip_I f g]
/-! ### loops over typed lists -/
theorem lcL_pure {α : Type} {F : D → En → Option (Option D × En)} {e : En} (g : α → D) (h : α → D) : ∀ {xs : List α}, (∀ x ∈ xs, F (g x) e = some (some (h x), e)) → lcL F (xs.map g) e = some (xs.map h, e)
  | [], _ => rfl
  | x :: xs, H => by
    show lcL F (g x :: xs.map g) e = _
    unfold lcL
    rw [H x List.mem_cons_self]
    simp only
    rw [lcL_pure g h fun y hy => H y (List.mem_cons_of_mem _ hy)]
    rfl
theorem forL_fold {α γ : Type} {F : D → En → Option SR} (g : α → D) (st : γ → En) (k : γ → α → γ) (P : γ → Prop) : ∀ {xs : List α} {c : γ}, P c → (∀ x ∈ xs, ∀ c, P c → F (g x) (st c) = some (.nx (st (k c x))) ∧ P (k c x)) → forL F (xs.map g) (st c) = some (.nx (st (xs.foldl k c))) ∧ P (xs.foldl k c)
  | [], c, hc, _ => ⟨rfl, hc⟩
  | x :: xs, c, hc, H => by
    show forL F (g x :: xs.map g) (st c) = _ ∧ _
    unfold forL
    obtain ⟨h1, h2⟩ := H x List.mem_cons_self c hc
    rw [h1]
    exact forL_fold g st k P h2 fun y hy => H y (List.mem_cons_of_mem _ hy)
/-! ### steps -/
section
variable {T : Tb} {n : Nat} {e e1 e2 : En}
theorem while_step {t : En → Option (Bool × En)} {f : En → Option SR} {r : SR} (ht : t e = some (true, e1)) (hf : f e1 = some (.nx e2)) (h : whileL t f n e2 = some r) : whileL t f (n + 1) e = some r := by
  unfold whileL
  rw [ht]
  dsimp only
  rw [hf]
  exact h
theorem while_end {t : En → Option (Bool × En)} {f : En → Option SR} (ht : t e = some (false, e1)) : whileL t f (n + 1) e = some (.nx e1) := by
  unfold whileL
  rw [ht]
theorem ss_nx {s : RS} {ss : List RS} {r : SR} (h1 : evS T n s e = some (.nx e1)) (h2 : evSs T n ss e1 = some r) : evSs T (n + 1) (s :: ss) e = some r := by
  rw [evSs, h1]
  exact h2
theorem ss_rt {s : RS} {ss : List RS} {o : Bool} {d : D} (h1 : evS T n s e = some (.rt o d e1)) : evSs T (n + 1) (s :: ss) e = some (.rt o d e1) := by
  rw [evSs, h1]
  rfl
theorem s_whl {t : RT} {b : List RS} {r : SR} (h : whileL (evT T n t) (evSs T n b) T.W e = some r) : evS T (n + 1) (.whl t b) e = some r := h
theorem s_for {t : Tg} {it : RI} {b : List RS} {r : SR} {ds : List D} (hi : evI T n it e = some (ds, e1)) (h : forL (fun d e => (stT e t d).bind fun e1 => evSs T n b e1) ds e1 = some r) : evS T (n + 1) (.for t it b) e = some r := by
  rw [evS, hi]
  exact h
theorem s_set {i : Nat} {a : RE} {o : Bool} {d : D} (h : evE T n a e = some (o, d, e1)) (hl : i < e1.sl.length) : evS T (n + 1) (.set i a) e = some (.nx (setS e1 i o d)) := by
  rw [evS, h]
  show (if i < e1.sl.length then _ else _) = _
  rw [if_pos hl]
theorem s_ret {a : RE} {o : Bool} {d : D} (h : evE T n a e = some (o, d, e1)) : evS T (n + 1) (.ret a) e = some (.rt o d e1) := by
  rw [evS, h]
  rfl
theorem s_ife {t : RT} {A B : List RS} {k : Bool} {r : SR} (h : evT T n t e = some (k, e1)) (h2 : evSs T n (if k then A else B) e1 = some r) : evS T (n + 1) (.ife t A B) e = some r := by
  rw [evS, h]
  cases k <;> exact h2
theorem e_lc {t : Tg} {vs : List Nat} {it : RI} {tt : Option RT} {x : RE} {ds l : List D} (hi : evI T n it e = some (ds, e1)) (hl : szB ds.length = true) (h : lcL (evC T n t vs tt x) ds e1 = some (l, e2)) : evE T (n + 1) (.lc t vs it tt x) e = some (true, .list l, e2) := by
  rw [evE, hi]
  show (if szB ds.length then _ else _) = _
  rw [if_pos hl, h]
  rfl
theorem e_bin {op : Operator} {a b : RE} {o1 o2 o : Bool} {d1 d2 d : D} (h1 : evE T n a e = some (o1, d1, e1)) (h2 : evE T n b e1 = some (o2, d2, e2)) (h : binD op o1 d1 d2 = some (o, d)) : evE T (n + 1) (.bin op a b) e = some (o, d, e2) := by
  rw [evE, h1]
  show (evE T n b e1).bind _ = _
  rw [h2]
  show (binD op o1 d1 d2).bind _ = _
  rw [h]
  rfl
theorem e_blt {k : Bi} {es : List RE} {ds : List D} {o : Bool} {d : D} (h1 : evA T n es e = some (ds, e1)) (h : bltD k ds = some (o, d)) : evE T (n + 1) (.blt k es) e = some (o, d, e1) := by
  rw [evE, h1]
  show (bltD k ds).bind _ = _
  rw [h]
  rfl
theorem e_app {j : Nat} {es : List RE} {ds : List D} {o : Bool} {d : D} {l : List D} {p : Str × Fn} (h1 : evA T n es e = some (ds, e1)) (hf : T.fs[j]? = some p) (hio : p.2.io = false) (hl : ds.length = p.2.ps.length) (h : p.2.den ds = some (o, d, l)) : evE T (n + 1) (.app j es) e = some (o, d, e1) := by
  rw [evE, h1]
  show (T.fs[j]?).bind _ = _
  rw [hf]
  show (if _ ∧ _ then _ else _) = _
  rw [if_pos ⟨hio, hl⟩, h]
  rfl
theorem e_appio {j i : Nat} {es : List RE} {ds b0 bs l : List D} {o : Bool} {d : D} {p : Str × Fn} (h0 : slotL e i = some b0) (h1 : evA T n es e = some (ds, e1)) (hb : slotL e1 i = some bs) (hf : T.fs[j]? = some p) (hio : p.2.io = true) (hl : ds.length + 1 = p.2.ps.length) (h : p.2.den (.list bs :: ds) = some (o, d, l)) :
    evE T (n + 1) (.appio j i es) e = some (o, d, putL e1 i l) := by
  rw [evE, h0]
  show (evA T n es e).bind _ = _
  rw [h1]
  show (slotL e1 i).bind _ = _
  rw [hb]
  show (T.fs[j]?).bind _ = _
  rw [hf]
  show (if _ ∧ _ then _ else _) = _
  rw [if_pos ⟨hio, hl⟩, h]
  rfl
theorem a_cons {a : RE} {es : List RE} {o : Bool} {d : D} {ds : List D} (h1 : evE T n a e = some (o, d, e1)) (h2 : evA T n es e1 = some (ds, e2)) : evA T (n + 1) (a :: es) e = some (d :: ds, e2) := by
  rw [evA, h1]
  show (evA T n es e1).bind _ = _
  rw [h2]
  rfl
theorem a_nil : evA T (n + 1) [] e = some ([], e) := rfl
end

/-! ### sizes, by omega -/
theorem szB_of {n : Nat} (h : n ≤ 1000000) : szB n = true := decide_eq_true h
theorem posB_of {j : Int} (h : 0 < j) : posB j = true := decide_eq_true h
theorem b62_of {i : Int} (h1 : -4611686018427387904 ≤ i) (h2 : i < 4611686018427387904) : b62 i = true := by
  unfold b62
  rw [Bool.and_eq_true, decide_eq_true_eq, decide_eq_true_eq]
  exact ⟨by omega, by omega⟩
theorem mulB_of {x y : Int} (h1 : -1000000000000000000000000000000000000000000000000 < x) (h2 : x < 1000000000000000000000000000000000000000000000000) (h3 : -1000000000000000000000000000000000000000000000000 < y) (h4 : y < 1000000000000000000000000000000000000000000000000) : mulB x y = true := by
  unfold mulB
  rw [decide_eq_true_eq]
  exact wide_mul (a := 200) (b := 200) (by omega) (by omega) (by decide) (by decide) (by decide)
theorem divB_of {j : Int} (h : 0 < j) (h2 : j < 1000000000000000000000000000000000000000000000000) : divB j = true := by
  unfold divB
  rw [Bool.and_eq_true, decide_eq_true_eq, decide_eq_true_eq]
  exact wide_div (i := 0) (b := 200) h (by omega) (by decide) (by decide)
theorem powB_of {i j : Int} (h1 : 0 ≤ j) (h2 : j ≤ 1000000) (h3 : -18446744073709551616 < i) (h4 : i < 18446744073709551616) : powB i j = true := decide_eq_true ⟨h1, h2, by omega⟩
theorem repB_one {k : Int} (h1 : -4611686018427387904 < k) (h2 : k ≤ 1000000) : repB 1 k = true := decide_eq_true ⟨by omega, by omega, by omega⟩
theorem timB_one {k : Int} (h1 : -4611686018427387904 < k) (h2 : k ≤ 1000) : timB 1 k = true := decide_eq_true ⟨by omega, by omega, by omega⟩
theorem flat_one {α : Type} (x : α) : ∀ n : Nat, (List.replicate n [x]).flatten = List.replicate n x
  | 0 => rfl
  | n + 1 => by rw [List.replicate_succ, List.flatten_cons, flat_one x n]; rfl
theorem I_rep (x : Int) (n : Nat) : List.replicate n (PyData.int x) = I (List.replicate n x) := by simp [I]
/-! ### items -/
theorem atI_0 {α : Type} (l : List α) : atI l 0 = l[0]? := by
  unfold atI ixN
  cases l <;> simp
theorem atI_k {α : Type} (l : List α) (k : Nat) : atI l (k : Int) = l[k]? := by
  by_cases h : k < l.length
  · rw [List.getElem?_eq_getElem h]
    exact atI_nat (List.getElem?_eq_getElem h)
  · unfold atI ixN
    rw [if_pos (by omega), if_neg (by omega), List.getElem?_eq_none (by omega)]
    rfl
theorem atI_1 {α : Type} (l : List α) : atI l 1 = l[1]? := atI_k l 1
theorem atI_2 {α : Type} (l : List α) : atI l 2 = l[2]? := atI_k l 2
theorem atI_3 {α : Type} (l : List α) : atI l 3 = l[3]? := atI_k l 3
theorem atI_4 {α : Type} (l : List α) : atI l 4 = l[4]? := atI_k l 4
theorem atI_I {f : List Int} {i : Int} (h1 : 0 ≤ i) (h2 : i < f.length) : atI (I f) i = some (.int (f.getD i.toNat 0)) := by
  obtain ⟨k, rfl⟩ := Int.eq_ofNat_of_zero_le h1
  rw [atI_k, I_get]
  have hk : k < f.length := by omega
  rw [List.getElem?_eq_getElem hk, List.getD_eq_getElem?_getD, Int.toNat_natCast, List.getElem?_eq_getElem hk]
  rfl
theorem atI_last1 {α : Type} (l : List α) : atI l (-1) = l.getLast? := by
  rcases List.eq_nil_or_concat l with rfl | ⟨m, y, rfl⟩
  · rfl
  · rw [List.concat_eq_append, atI_last, List.getLast?_append]
    rfl
theorem I_last (f : List Int) : (I f).getLast? = (f.getLast?).map PyData.int := by simp [I]
theorem ixN_of {n : Nat} {i : Int} (h1 : 0 ≤ i) (h2 : i < n) : ixN n i = some i.toNat := by
  unfold ixN
  rw [if_pos h1, if_pos h2]
theorem cut_from {f : List Int} {i : Int} (h : 0 ≤ i) : Fz.cutD (I f) (some i) none = I (f.drop i.toNat) := by
  obtain ⟨n, rfl⟩ := Int.eq_ofNat_of_zero_le h
  unfold Fz.cutD
  rw [HT.sIx_nat, HT.sIx_none, I_len, I_drop, I_take, Int.toNat_natCast]
  congr 1
  rw [List.take_of_length_le (by rw [List.length_drop]; omega)]
  by_cases h : n ≤ f.length
  · rw [Nat.min_eq_left h]
  · rw [Nat.min_eq_right (by omega), List.drop_length, List.drop_eq_nil_of_le (by omega)]
theorem cut_to {f : List Int} {i : Int} (h : 0 ≤ i) : Fz.cutD (I f) none (some i) = I (f.take i.toNat) := by
  obtain ⟨n, rfl⟩ := Int.eq_ofNat_of_zero_le h
  unfold Fz.cutD
  rw [HT.sIx_nat, HT.sIx_none, I_len, List.drop_zero, Nat.sub_zero, I_take, Int.toNat_natCast]
  congr 1
  by_cases h : n ≤ f.length
  · rw [Nat.min_eq_left h]
  · rw [Nat.min_eq_right (by omega), List.take_length, List.take_of_length_le (by omega)]
/-! ### equality -/
theorem eqv_int (a b : Int) : PyData.eqv (.int a) (.int b) = (a == b) := rfl
theorem eqv_none : PyData.eqv .none .none = true := rfl
theorem shp_int (a : Int) : shp (.int a) = true := rfl
theorem shp_bool (a : Bool) : shp (.bool a) = true := rfl
theorem shp_none : shp .none = true := rfl
theorem eqvAll_I : ∀ f g : List Int, PyData.eqvAll (I f) (I g) = (f == g)
  | [], [] => rfl
  | [], _ :: _ => rfl
  | _ :: _, [] => rfl
  | x :: f, y :: g => by
    show (PyData.eqv (.int x) (.int y) && PyData.eqvAll (I f) (I g)) = _
    rw [eqvAll_I f g, eqv_int]
    rfl
theorem eqv_tup (f g : List Int) : PyData.eqv (.tuple (I f)) (.tuple (I g)) = (f == g) := eqvAll_I f g
theorem eqv_lst (f g : List Int) : PyData.eqv (.list (I f)) (.list (I g)) = (f == g) := eqvAll_I f g
theorem run_of {T : Tb} {io : Bool} {b : List RS} {ds : List D} {o : Bool} {d : D} {e : En} {n : Nat} (h : evSs T n b (en0 T.N.length io ds) = some (.rt o d e)) : runD T n io b ds = some (o, d, e.bg) := by
  unfold runD
  rw [h]
  rfl
theorem allI_eq {l : List D} {ns : List Int} (h : allI l = some ns) : l = I ns := by
  induction l generalizing ns with
  | nil => cases h; rfl
  | cons x l ih =>
    cases x with
    | int i =>
      unfold allI at h
      cases z : allI l with
      | none => rw [z] at h; cases h
      | some t => rw [z] at h; cases h; rw [ih z]; rfl
    | _ => cases h
theorem seqI {d : D} {q : Bool × List D} {ns : List Int} (_ : seqD d = some q) (h2 : allI q.2 = some ns) : q.2 = I ns := allI_eq h2
theorem items_of {d : D} {q : Bool × List D} (h : seqD d = some q) : itemsD d = some q.2 := by
  cases d <;> cases h <;> rfl
end Fz
set_option Elab.async false
set_option linter.all false
set_option maxRecDepth 100000
set_option maxHeartbeats 4000000
/-! Fz, part T: the evaluator's rows as equations, for a rewriter that goes outside in. -/
namespace Fz
open PySem PySem.Spec PyProof.Rows L2
/-- a bind whose second part a rewriter leaves alone till the first one is known: another argument's type speaks of it -/
def obind {α β : Type} (f : α → Option β) (_ : f = f) (a : Option α) : Option β := a.bind f
theorem bind_o {α β : Type} (a : Option α) (f : α → Option β) : a.bind f = obind f rfl a := rfl
theorem obind_some {α β : Type} (f : α → Option β) (h : f = f) (v : α) : obind f h (some v) = f v := rfl
def bodyF (T : Tb) (n : Nat) (t : Tg) (b : List RS) : D → En → Option SR := fun d e => (stT e t d).bind fun e1 => evSs T n b e1
def goOn (T : Tb) (n : Nat) (ss : List RS) (r : SR) : Option SR := match r with
    | .nx e1 => evSs T n ss e1
    | r => some r
section
variable {T : Tb} {n : Nat} {e : En}
theorem q_int {i : Int} : evE T (n + 1) (.int i) e = some (false, .int i, e) := rfl
theorem q_bl {b : Bool} : evE T (n + 1) (.bl b) e = some (false, .bool b, e) := rfl
theorem q_non : evE T (n + 1) .non e = some (false, .none, e) := rfl
theorem q_nm {i : Nat} : evE T (n + 1) (.nm i) e = (lockS e i).bind fun p => some (false, p.1, p.2) := rfl
theorem q_bin {op : Operator} {a b : RE} : evE T (n + 1) (.bin op a b) e = (evE T n a e).bind fun p => (evE T n b p.2.2).bind fun q => (binD op p.1 p.2.1 q.2.1).bind fun z => some (z.1, z.2, q.2.2) := rfl
def negD : D → Option D
  | .int i => some (.int (-i))
  | _ => none
theorem q_neg {a : RE} : evE T (n + 1) (.neg a) e = (evE T n a e).bind fun p => (negD p.2.1).bind fun d => some (false, d, p.2.2) := by
  rw [evE]
  congr 1
  funext p
  obtain ⟨o, d, e⟩ := p
  cases d <;> rfl
theorem q_negI {i : Int} : negD (.int i) = some (.int (-i)) := rfl
theorem q_not {a : RE} : evE T (n + 1) (.not a) e = (evE T n a e).bind fun p => (truD p.2.1).bind fun k => some (false, .bool (!k), p.2.2) := rfl
theorem q_bop {op : BoolOp} {a b : RE} : evE T (n + 1) (.bop op a b) e = (evE T n a e).bind fun p => (truD p.2.1).bind fun k => if opStop op k then some p else evE T n b p.2.2 := rfl
theorem q_ife {t : RT} {a b : RE} : evE T (n + 1) (.ife t a b) e = (evT T n t e).bind fun p => if p.1 then evE T n a p.2 else evE T n b p.2 := rfl
theorem q_cmp {op : CmpOp} {a b : RE} : evE T (n + 1) (.cmp op a b) e = (evE T n a e).bind fun p => (evE T n b p.2.2).bind fun q => (cmpD op p.2.1 q.2.1).bind fun k => some (false, .bool k, q.2.2) := rfl
theorem q_ix {a b : RE} : evE T (n + 1) (.ix a b) e = (evE T n a e).bind fun p => (evE T n b p.2.2).bind fun q => (ixD p.2.1 q.2.1).bind fun d => some (false, d, q.2.2) := rfl
/-- the slot of a name, whether it is own -/
def atS (e : En) (i : Nat) : Option (Bool × D × En) := match slotL e i with
  | some l => some (true, .list l, e)
  | none => (lockS e i).bind fun p => some (false, p.1, p.2)
def reS (e : En) (i : Nat) (o : Bool) (d : D) : Option D := match o with
  | true => (slotL e i).bind fun l => some (.list l)
  | false => some d
theorem q_ixn {i : Nat} {b : RE} : evE T (n + 1) (.ixn i b) e = (atS e i).bind fun p => (evE T n b p.2.2).bind fun q => (reS q.2.2 i p.1 p.2.1).bind fun l => (ixD l q.2.1).bind fun d => some (false, d, q.2.2) := by
  rw [evE]
  unfold atS
  cases slotL e i with
  | none => simp only; cases lockS e i <;> rfl
  | some l =>
    simp only [Option.bind_some]
    congr 1
    funext q
    show _ = ((slotL q.2.2 i).bind fun l => some (PyData.list l)).bind _
    cases slotL q.2.2 i <;> rfl
theorem q_sl {a : RE} {lo hi : Option RE} : evE T (n + 1) (.sl a lo hi) e = (evE T n a e).bind fun p => (evO T n lo p.2.2).bind fun q => (evO T n hi q.2).bind fun r => (slD p.2.1 q.1 r.1).bind fun z => some (z.1, z.2, r.2) := rfl
theorem q_sln {i : Nat} {lo hi : Option RE} : evE T (n + 1) (.sln i lo hi) e = (atS e i).bind fun p => (evO T n lo p.2.2).bind fun q => (evO T n hi q.2).bind fun r => (reS r.2 i p.1 p.2.1).bind fun l => (slD l q.1 r.1).bind fun z => some (z.1, z.2, r.2) := by
  rw [evE]
  unfold atS
  cases slotL e i with
  | none => simp only; cases lockS e i <;> rfl
  | some l =>
    simp only [Option.bind_some]
    congr 1
    funext q
    congr 1
    funext r
    show _ = ((slotL r.2 i).bind fun l => some (PyData.list l)).bind _
    cases slotL r.2 i <;> rfl
theorem q_blt {k : Bi} {es : List RE} : evE T (n + 1) (.blt k es) e = (evA T n es e).bind fun p => (bltD k p.1).bind fun z => some (z.1, z.2, p.2) := rfl
theorem q_lenn {i : Nat} : evE T (n + 1) (.lenn i) e = (atS e i).bind fun p => (bltD .len [p.2.1]).bind fun z => some (z.1, z.2, p.2.2) := by
  rw [evE]
  unfold atS
  cases slotL e i with
  | none => simp only; cases lockS e i <;> rfl
  | some l => rfl
theorem q_isi {a : RE} {ts : List String} : evE T (n + 1) (.isi a ts) e = (evE T n a e).bind fun p => if noTag p.2.1 then some (false, .bool (isiD p.2.1 ts), p.2.2) else none := rfl
theorem q_lst {es : List RE} : evE T (n + 1) (.lst es) e = (evA T n es e).bind fun p => if szB p.1.length then some (true, .list p.1, p.2) else none := rfl
theorem q_tup {es : List RE} : evE T (n + 1) (.tup es) e = (evA T n es e).bind fun p => if szB p.1.length then some (false, .tuple p.1, p.2) else none := rfl
/-- a call, from its promise -/
def callF (f : Str × Fn) (ds : List D) : Option (Bool × D) := if f.2.io = false ∧ ds.length = f.2.ps.length then (f.2.den ds).bind fun z => some (z.1, z.2.1) else none
theorem q_app {j : Nat} {es : List RE} : evE T (n + 1) (.app j es) e = (evA T n es e).bind fun p => (T.fs[j]?).bind fun f => (callF f p.1).bind fun z => some (z.1, z.2, p.2) := by
  rw [evE]
  congr 1
  funext p
  congr 1
  funext f
  unfold callF
  split
  · cases f.2.den p.1 <;> rfl
  · rfl
def callB (f : Str × Fn) (bs : List D) (ds : List D) : Option (Bool × D × List D) := if f.2.io = true ∧ ds.length + 1 = f.2.ps.length then f.2.den (.list bs :: ds) else none
theorem q_appio {j i : Nat} {es : List RE} : evE T (n + 1) (.appio j i es) e = (slotL e i).bind fun _ => (evA T n es e).bind fun p => (slotL p.2 i).bind fun bs => (T.fs[j]?).bind fun f => (callB f bs p.1).bind fun z => some (z.1, z.2.1, putL p.2 i z.2.2) := by
  rw [evE]
  congr 1
  funext _
  congr 1
  funext p
  congr 1
  funext bs
  congr 1
  funext f
  unfold callB
  split
  · rfl
  · rfl
def callK (f : Str × Fn) (m : Nat) (k : Nat) (as bs : List D) : Option (Bool × D) := (f.2.kws[m]?).bind fun kw => if f.2.io = false ∧ as.length = k ∧ bs.length = kw.ks.length ∧ (arr kw.perm as bs).length = f.2.ps.length then (f.2.den (arr kw.perm as bs)).bind fun z => some (z.1, z.2.1) else none
theorem q_appk {j m : Nat} {es ks : List RE} : evE T (n + 1) (.appk j m es ks) e = (evA T n es e).bind fun p => (evA T n ks p.2).bind fun q => (T.fs[j]?).bind fun f => (callK f m es.length p.1 q.1).bind fun z => some (z.1, z.2, q.2) := by
  rw [evE]
  congr 1
  funext p
  congr 1
  funext q
  congr 1
  funext f
  unfold callK
  cases f.2.kws[m]? with
  | none => rfl
  | some kw =>
    show (if _ then _ else _) = (if _ then _ else _ : Option _).bind _
    split
    · cases f.2.den (arr kw.perm p.1 q.1) <;> rfl
    · rfl
theorem q_lc {t : Tg} {vs : List Nat} {it : RI} {tt : Option RT} {x : RE} : evE T (n + 1) (.lc t vs it tt x) e = (evI T n it e).bind fun p => if szB p.1.length then (lcL (evC T n t vs tt x) p.1 p.2).bind fun z => some (true, .list z.1, z.2) else none := rfl
theorem q_push {i : Nat} {x : RE} : evE T (n + 1) (.push i x) e = (slotL e i).bind fun _ => (evE T n x e).bind fun p => (slotL p.2.2 i).bind fun l => if szB (l.length + 1) then some (false, .none, putL p.2.2 i (l ++ [p.2.1])) else none := rfl
theorem q_pop {i : Nat} : evE T (n + 1) (.pop i) e = (slotL e i).bind fun l => (l[l.length - 1]?).bind fun d => some (false, d, putL e i l.dropLast) := rfl
theorem q_evc {t : Tg} {vs : List Nat} {tt : Option RT} {x : RE} {d : D} : evC T (n + 1) t vs tt x d e = if vs.all (fun v => plainS (e.sl.getD v .no)) then (stT (wipeE e vs) t d).bind fun e1 => (evTo T n tt e1).bind fun p => if p.1 then (evE T n x p.2).bind fun q => some (some q.2.1, restE e q.2.2 vs) else some (none, restE e p.2 vs) else none := rfl
theorem q_to0 : evTo T (n + 1) none e = some (true, e) := rfl
theorem q_to1 {t : RT} : evTo T (n + 1) (some t) e = evT T n t e := rfl
def intD : D → Option Int
  | .int i => some i
  | _ => none
theorem q_o0 : evO T (n + 1) none e = some (none, e) := rfl
theorem q_o1 {a : RE} : evO T (n + 1) (some a) e = (evE T n a e).bind fun p => (intD p.2.1).bind fun i => some (some i, p.2.2) := by
  rw [evO]
  congr 1
  funext p
  obtain ⟨o, d, e⟩ := p
  cases d <;> rfl
theorem q_intD {i : Int} : intD (.int i) = some i := rfl
theorem q_a0 : evA T (n + 1) [] e = some ([], e) := rfl
theorem q_a1 {a : RE} {es : List RE} : evA T (n + 1) (a :: es) e = (evE T n a e).bind fun p => (evA T n es p.2.2).bind fun q => some (p.2.1 :: q.1, q.2) := rfl
theorem q_tnt {a : RT} : evT T (n + 1) (.nt a) e = (evT T n a e).bind fun p => some (!p.1, p.2) := rfl
theorem q_tbop {op : BoolOp} {a b : RT} : evT T (n + 1) (.bop op a b) e = (evT T n a e).bind fun p => if opStop op p.1 then some p else evT T n b p.2 := rfl
theorem q_tcmp {op : CmpOp} {a b : RE} : evT T (n + 1) (.cmp op a b) e = (evE T n a e).bind fun p => (evE T n b p.2.2).bind fun q => (cmpD op p.2.1 q.2.1).bind fun k => some (k, q.2.2) := rfl
theorem q_tval {a : RE} : evT T (n + 1) (.val a) e = (evE T n a e).bind fun p => (truD p.2.1).bind fun k => some (k, p.2.2) := rfl
theorem q_tnm {i : Nat} : evT T (n + 1) (.nm i) e = (atS e i).bind fun p => (truD p.2.1).bind fun k => some (k, p.2.2) := by
  rw [evT]
  unfold atS
  cases slotL e i with
  | none => simp only; cases lockS e i <;> rfl
  | some l => rfl
theorem q_iseq {a : RE} : evI T (n + 1) (.seq a) e = (evE T n a e).bind fun p => (itemsD p.2.1).bind fun l => some (l, p.2.2) := rfl
theorem q_irng {es : List RE} : evI T (n + 1) (.rng es) e = (evA T n es e).bind fun p => (rngL p.1).bind fun l => some (l, p.2) := rfl
theorem q_ienu {es : List RE} : evI T (n + 1) (.enu es) e = (evA T n es e).bind fun p => (enuL p.1).bind fun l => some (l, p.2) := rfl
theorem q_izip {a b : RE} : evI T (n + 1) (.zip a b) e = (evE T n a e).bind fun p => (evE T n b p.2.2).bind fun q => (seqD p.2.1).bind fun l => (seqD q.2.1).bind fun m => some (zipD l.2 m.2, q.2.2) := rfl
theorem q_irev {a : RE} : evI T (n + 1) (.rev a) e = (evE T n a e).bind fun p => (seqD p.2.1).bind fun l => some (l.2.reverse, p.2.2) := rfl
theorem q_sset {i : Nat} {a : RE} : evS T (n + 1) (.set i a) e = (evE T n a e).bind fun p => if i < p.2.2.sl.length then some (.nx (setS p.2.2 i p.1 p.2.1)) else none := rfl
theorem q_stgt {t : Tg} {a : RE} : evS T (n + 1) (.tgt t a) e = (evE T n a e).bind fun p => (stT p.2.2 t p.2.1).bind fun z => some (.nx z) := rfl
theorem q_spar {is : List Nat} {es : List RE} : evS T (n + 1) (.par is es) e = (evA T n es e).bind fun p => (stAll p.2 is p.1).bind fun z => some (.nx z) := rfl
theorem q_sput {i : Nat} {b a : RE} : evS T (n + 1) (.put i b a) e = (evE T n a e).bind fun p => (slotL p.2.2 i).bind fun _ => (evE T n b p.2.2).bind fun q => (intD q.2.1).bind fun k => (slotL q.2.2 i).bind fun l => (ixN l.length k).bind fun j => some (.nx (putL q.2.2 i (l.set j p.2.1))) := by
  rw [evS]
  congr 1
  funext p
  congr 1
  funext _
  congr 1
  funext q
  obtain ⟨o, d, e⟩ := q
  cases d <;> rfl
theorem q_sret {a : RE} : evS T (n + 1) (.ret a) e = (evE T n a e).bind fun p => some (.rt p.1 p.2.1 p.2.2) := rfl
theorem q_sretn : evS T (n + 1) .retn e = some (.rt false .none e) := rfl
theorem q_sife {t : RT} {a b : List RS} : evS T (n + 1) (.ife t a b) e = (evT T n t e).bind fun p => if p.1 then evSs T n a p.2 else evSs T n b p.2 := rfl
theorem q_swhl {t : RT} {b : List RS} : evS T (n + 1) (.whl t b) e = whileL (evT T n t) (evSs T n b) T.W e := rfl
theorem q_sfor {t : Tg} {it : RI} {b : List RS} : evS T (n + 1) (.for t it b) e = (evI T n it e).bind fun p => forL (bodyF T n t b) p.1 p.2 := rfl
theorem q_sex {a : RE} : evS T (n + 1) (.ex a) e = (evE T n a e).bind fun p => some (.nx p.2.2) := rfl
theorem q_spass : evS T (n + 1) .pass e = some (.nx e) := rfl
theorem q_sbrk : evS T (n + 1) .brk e = some (.bk e) := rfl
theorem q_scnt : evS T (n + 1) .cnt e = some (.ct e) := rfl
theorem q_ss0 : evSs T (n + 1) [] e = some (.nx e) := rfl
theorem q_ss1 {s : RS} {ss : List RS} : evSs T (n + 1) (s :: ss) e = (evS T n s e).bind (goOn T n ss) := by
  rw [evSs]
  congr 1
theorem q_gonx {ss : List RS} : goOn T n ss (.nx e) = evSs T n ss e := rfl
theorem q_gort {ss : List RS} {o : Bool} {d : D} : goOn T n ss (.rt o d e) = some (.rt o d e) := rfl
theorem q_gobk {ss : List RS} : goOn T n ss (.bk e) = some (.bk e) := rfl
theorem q_goct {ss : List RS} : goOn T n ss (.ct e) = some (.ct e) := rfl
/-! operators -/
theorem q_add {o : Bool} {i j : Int} : binD .Add o (.int i) (.int j) = some (false, .int (i + j)) := rfl
theorem q_addl {o : Bool} {a b : List D} : binD .Add o (.list a) (.list b) = if szB (a.length + b.length) then some (true, .list (a ++ b)) else none := rfl
theorem q_addt {o : Bool} {a b : List D} : binD .Add o (.tuple a) (.tuple b) = if szB (a.length + b.length) then some (false, .tuple (a ++ b)) else none := rfl
theorem q_sub {o : Bool} {i j : Int} : binD .Sub o (.int i) (.int j) = some (false, .int (i - j)) := rfl
theorem q_mul {o : Bool} {i j : Int} : binD .Mult o (.int i) (.int j) = if mulB i j then some (false, .int (i * j)) else none := by cases o <;> rfl
theorem q_mull {a : List D} {k : Int} : binD .Mult true (.list a) (.int k) = if repB a.length k then some (true, .list (List.replicate k.toNat a).flatten) else none := rfl
theorem q_mult {o : Bool} {a : List D} {k : Int} : binD .Mult o (.tuple a) (.int k) = if timB a.length k then some (false, .tuple (List.replicate k.toNat a).flatten) else none := by cases o <;> rfl
theorem q_div {o : Bool} {i j : Int} : binD .FloorDiv o (.int i) (.int j) = if divB j then some (false, .int (i / j)) else none := rfl
theorem q_mod {o : Bool} {i j : Int} : binD .Mod o (.int i) (.int j) = if posB j then some (false, .int (i % j)) else none := rfl
theorem q_pow {o : Bool} {i j : Int} : binD .Pow o (.int i) (.int j) = if powB i j then some (false, .int (i ^ j.toNat)) else none := rfl
theorem q_eq {d c : D} : cmpD .Eq d c = if shp d && shp c then some (PyData.eqv d c) else none := by cases d <;> rfl
theorem q_ne {d c : D} : cmpD .NotEq d c = if shp d && shp c then some (!PyData.eqv d c) else none := by cases d <;> rfl
theorem q_lt {i j : Int} : cmpD .Lt (.int i) (.int j) = some (decide (i < j)) := rfl
theorem q_le {i j : Int} : cmpD .LtE (.int i) (.int j) = some (decide (i ≤ j)) := rfl
theorem q_gt {i j : Int} : cmpD .Gt (.int i) (.int j) = some (decide (j < i)) := rfl
theorem q_ge {i j : Int} : cmpD .GtE (.int i) (.int j) = some (decide (j ≤ i)) := rfl
theorem q_is1 : cmpD .Is .none .none = some true := rfl
theorem q_is2 {l : List D} : cmpD .Is (.tuple l) .none = some false := rfl
theorem q_is3 {l : List D} : cmpD .Is (.list l) .none = some false := rfl
theorem q_is4 {i : Int} : cmpD .Is (.int i) .none = some false := rfl
theorem q_is5 {b : Bool} : cmpD .Is (.bool b) .none = some false := rfl
theorem q_tr0 : truD .none = some false := rfl
theorem q_trb {b : Bool} : truD (.bool b) = some b := rfl
theorem q_tri {i : Int} : truD (.int i) = some (i != 0) := rfl
theorem q_trl {l : List D} : truD (.list l) = some (!l.isEmpty) := rfl
theorem q_trt {l : List D} : truD (.tuple l) = some (!l.isEmpty) := rfl
theorem q_ixl {l : List D} {i : Int} : ixD (.list l) (.int i) = atI l i := rfl
theorem q_ixt {l : List D} {i : Int} : ixD (.tuple l) (.int i) = atI l i := rfl
theorem q_sll {l : List D} {lo hi : Option Int} : slD (.list l) lo hi = some (true, .list (Fz.cutD l lo hi)) := rfl
theorem q_slt {l : List D} {lo hi : Option Int} : slD (.tuple l) lo hi = some (false, .tuple (Fz.cutD l lo hi)) := rfl
theorem q_sls {l : List D} {lo hi : Option Int} : slD (.dict [(.none, .list l)]) lo hi = some (true, .list (Fz.cutD l lo hi)) := rfl
theorem q_lenl {l : List D} : bltD .len [.list l] = some (false, .int l.length) := rfl
theorem q_lent {l : List D} : bltD .len [.tuple l] = some (false, .int l.length) := rfl
theorem q_inti {i : Int} : bltD .int [.int i] = some (false, .int i) := rfl
theorem q_absi {i : Int} : bltD .abs [.int i] = some (false, .int (if i < 0 then -i else i)) := rfl
theorem q_lisl {l : List D} : bltD .list [.list l] = some (true, .list l) := rfl
theorem q_list {l : List D} : bltD .list [.tuple l] = some (true, .list l) := rfl
theorem q_tupl {l : List D} : bltD .tuple [.list l] = some (false, .tuple l) := rfl
theorem q_tupt {l : List D} : bltD .tuple [.tuple l] = some (false, .tuple l) := rfl
theorem q_all {l : List D} : bltD .all [.list l] = (allB l).bind fun bs => some (false, .bool (bs.all id)) := by
  show (allB l).map _ = _
  cases allB l <;> rfl
theorem q_max {i j : Int} : bltD .max [.int i, .int j] = some (false, .int (if j > i then j else i)) := rfl
theorem q_min {i j : Int} : bltD .min [.int i, .int j] = some (false, .int (if j < i then j else i)) := rfl
theorem q_itl {l : List D} : itemsD (.list l) = some l := rfl
theorem q_itt {l : List D} : itemsD (.tuple l) = some l := rfl
theorem q_seql {l : List D} : seqD (.list l) = some (true, l) := rfl
theorem q_seqt {l : List D} : seqD (.tuple l) = some (false, l) := rfl
theorem q_rng1 {i : Int} : rngL [.int i] = if b62 i then some (rngD 0 i.toNat) else none := rfl
theorem q_rng2 {i j : Int} : rngL [.int i, .int j] = if b62 i && b62 j then some (rngD i (j - i).toNat) else none := rfl
theorem q_enu1 {d : D} : enuL [d] = (seqD d).bind fun k => some (enumD 0 k.2) := by
  show (seqD d).map _ = _
  cases seqD d <;> rfl
theorem q_enu2 {d : D} {c : Int} : enuL [d, .int c] = if b62 c then (seqD d).bind fun k => some (enumD c k.2) else none := by
  show (if _ then (seqD d).map _ else _) = _
  cases seqD d <;> rfl
theorem q_end1 : endD (.nx e) = some (false, .none, e.bg) := rfl
theorem q_end2 {o : Bool} {d : D} : endD (.rt o d e) = some (o, d, e.bg) := rfl
theorem q_own {l : List D} : slotOf true (.list l) = .own l := rfl
theorem q_val {d : D} : slotOf false d = .val d := by cases d <;> rfl
theorem q_st1 {i : Nat} {d : D} : stT e (.one i) d = if i < e.sl.length then some (setS e i false d) else none := rfl
theorem q_stt {l : List Nat} {ds : List D} : stT e (.tup l) (.tuple ds) = stAll e l ds := rfl
theorem q_sta0 : stAll e [] [] = some e := rfl
theorem q_sta1 {i : Nat} {l : List Nat} {d : D} {ds : List D} : stAll e (i :: l) (d :: ds) = if i < e.sl.length then stAll (setS e i false d) l ds else none := rfl
theorem q_re1 {i : Nat} {d : D} : reS e i true d = (slotL e i).bind fun l => some (.list l) := rfl
theorem q_re0 {i : Nat} {d : D} : reS e i false d = some d := rfl
end
section
variable {sl : List Sl} {bg : List D} {i : Nat}
theorem q_lkv {d : D} {s : List Sl} (h : sl[i]? = some (.val d)) : lockS ⟨sl, bg⟩ i = some (d, ⟨sl, bg⟩) := by unfold lockS; rw [h]
theorem q_lko {l : List D} (h : sl[i]? = some (.own l)) : lockS ⟨sl, bg⟩ i = some (.list l, ⟨sl.set i (.val (.list l)), bg⟩) := by unfold lockS; rw [h]
theorem q_atv {d : D} (h : sl[i]? = some (.val d)) : atS ⟨sl, bg⟩ i = some (false, d, ⟨sl, bg⟩) := by unfold atS slotL lockS; rw [h]; rfl
theorem q_ato {l : List D} (h : sl[i]? = some (.own l)) : atS ⟨sl, bg⟩ i = some (true, .list l, ⟨sl, bg⟩) := by unfold atS slotL; rw [h]
theorem q_atb (h : sl[i]? = some .bag) : atS ⟨sl, bg⟩ i = some (true, .list bg, ⟨sl, bg⟩) := by unfold atS slotL; rw [h]
theorem q_slo {l : List D} (h : sl[i]? = some (.own l)) : slotL ⟨sl, bg⟩ i = some l := by unfold slotL; rw [h]
theorem q_slb (h : sl[i]? = some .bag) : slotL ⟨sl, bg⟩ i = some bg := by unfold slotL; rw [h]
theorem q_pto {l m : List D} (h : sl[i]? = some (.own m)) : putL ⟨sl, bg⟩ i l = ⟨sl.set i (.own l), bg⟩ := by unfold putL; rw [h]
theorem q_ptb {l : List D} (h : sl[i]? = some .bag) : putL ⟨sl, bg⟩ i l = ⟨sl, l⟩ := by unfold putL; rw [h]
end
theorem forL_nx {f : D → En → Option SR} {d : D} {ds : List D} {e e2 : En} (h : f d e = some (.nx e2)) : forL f (d :: ds) e = forL f ds e2 := by
  rw [forL, h]
theorem forL_ct {f : D → En → Option SR} {d : D} {ds : List D} {e e2 : En} (h : f d e = some (.ct e2)) : forL f (d :: ds) e = forL f ds e2 := by
  rw [forL, h]
theorem forL_rt {f : D → En → Option SR} {d c : D} {ds : List D} {o : Bool} {e e2 : En} (h : f d e = some (.rt o c e2)) : forL f (d :: ds) e = some (.rt o c e2) := by
  rw [forL, h]
/-! ### calls by the place of the table -/
structure At (fs : List (Str × Fn)) (j : Nat) (io : Bool) (n : Nat) (d : List D → Option (Bool × D × List D)) : Prop where
  ex : ∃ x ps kws, fs[j]? = some (x, ⟨ps, io, kws, d⟩) ∧ ps.length = n
def cAt (fs : List (Str × Fn)) (j : Nat) (ds : List D) : Option (Bool × D) := (fs[j]?).bind fun f => callF f ds
def bAt (fs : List (Str × Fn)) (j : Nat) (bs ds : List D) : Option (Bool × D × List D) := (fs[j]?).bind fun f => callB f bs ds
def kAt (fs : List (Str × Fn)) (j m k : Nat) (as bs : List D) : Option (Bool × D) := (fs[j]?).bind fun f => callK f m k as bs
section
variable {fs : List (Str × Fn)} {j n : Nat} {d : List D → Option (Bool × D × List D)}
theorem At.c (h : At fs j false n d) {ds l : List D} {o : Bool} {z : D} (hl : ds.length = n) (hz : d ds = some (o, z, l)) : cAt fs j ds = some (o, z) := by
  obtain ⟨x, ps, kws, e, hp⟩ := h.ex
  unfold cAt callF
  rw [e, Option.bind_some, if_pos ⟨rfl, hl.trans hp.symm⟩]
  show (d ds).bind _ = _
  rw [hz]
  rfl
theorem At.b (h : At fs j true n d) {bs ds : List D} {z : Bool × D × List D} (hl : ds.length + 1 = n) (hz : d (.list bs :: ds) = some z) : bAt fs j bs ds = some z := by
  obtain ⟨x, ps, kws, e, hp⟩ := h.ex
  unfold bAt callB
  rw [e, Option.bind_some, if_pos ⟨rfl, hl.trans hp.symm⟩]
  exact hz
theorem At.of {x : Str} {ps : List Str} {kws : List Kw} {io : Bool} (h : fs[j]? = some (x, ⟨ps, io, kws, d⟩)) (hp : ps.length = n) : At fs j io n d := ⟨x, ps, kws, h, hp⟩
/-- a call by names: the same by place -/
theorem kAt_of {x : Str} {ps : List Str} {kws : List Kw} {m k : Nat} {kw : Kw} {as bs es : List D} (h : fs[j]? = some (x, ⟨ps, false, kws, d⟩)) (hk : kws[m]? = some kw) (h1 : as.length = k) (h2 : bs.length = kw.ks.length) (h3 : arr kw.perm as bs = es) : kAt fs j m k as bs = cAt fs j es := by
  unfold kAt cAt callF callK
  rw [h, Option.bind_some, Option.bind_some]
  show (kws[m]?).bind _ = _
  rw [hk, Option.bind_some, h3]
  by_cases hl : es.length = ps.length
  · rw [if_pos ⟨rfl, h1, h2, hl⟩, if_pos ⟨rfl, hl⟩]
  · rw [if_neg (fun q => hl q.2.2.2), if_neg (fun q => hl q.2)]
end
section
variable {T : Tb} {n : Nat} {e : En}
theorem q_appA {j : Nat} {es : List RE} : evE T (n + 1) (.app j es) e = (evA T n es e).bind fun p => (cAt T.fs j p.1).bind fun z => some (z.1, z.2, p.2) := by
  rw [q_app]
  congr 1
  funext p
  unfold cAt
  cases T.fs[j]? <;> rfl
theorem q_appioA {j i : Nat} {es : List RE} : evE T (n + 1) (.appio j i es) e = (slotL e i).bind fun _ => (evA T n es e).bind fun p => (slotL p.2 i).bind fun bs => (bAt T.fs j bs p.1).bind fun z => some (z.1, z.2.1, putL p.2 i z.2.2) := by
  rw [q_appio]
  congr 1
  funext _
  congr 1
  funext p
  congr 1
  funext bs
  unfold bAt
  cases T.fs[j]? <;> rfl
theorem q_appkA {j m : Nat} {es ks : List RE} : evE T (n + 1) (.appk j m es ks) e = (evA T n es e).bind fun p => (evA T n ks p.2).bind fun q => (kAt T.fs j m es.length p.1 q.1).bind fun z => some (z.1, z.2, q.2) := by
  rw [q_appk]
  congr 1
  funext p
  congr 1
  funext q
  unfold kAt
  cases T.fs[j]? <;> rfl
end
/-! ### data that == may be asked of -/
def pl : Nat → D → Bool
  | _, .none => true
  | _, .bool _ => true
  | _, .int _ => true
  | n + 1, .list l => l.all (pl n)
  | n + 1, .tuple l => l.all (pl n)
  | _, _ => false
theorem pl_all {n : Nat} (h : ∀ d, pl n d = true → d.canLay0 = true ∧ d.depth ≤ n) : ∀ l : List D, l.all (pl n) = true → PyData.canLayAll0 l = true ∧ PyData.depthAll l ≤ n
  | [], _ => ⟨by simp only [PyData.canLayAll0], by simp [PyData.depthAll]⟩
  | x :: l, q => by
    rw [List.all_cons, Bool.and_eq_true] at q
    obtain ⟨h1, h2⟩ := h x q.1
    obtain ⟨h3, h4⟩ := pl_all h l q.2
    refine ⟨by rw [PyData.canLayAll0, h1, h3]; rfl, ?_⟩
    rw [PyData.depthAll]
    omega
theorem pl_ok : ∀ (n : Nat) (d : D), pl n d = true → d.canLay0 = true ∧ d.depth ≤ n
  | _, .none, _ => ⟨by simp only [PyData.canLay0], by simp [PyData.depth]⟩
  | _, .bool _, _ => ⟨by simp only [PyData.canLay0], by simp [PyData.depth]⟩
  | _, .int _, _ => ⟨by simp only [PyData.canLay0], by simp [PyData.depth]⟩
  | n + 1, .list l, h => by
    obtain ⟨h1, h2⟩ := pl_all (pl_ok n) l h
    exact ⟨by rw [PyData.canLay0]; exact h1, by rw [PyData.depth]; omega⟩
  | n + 1, .tuple l, h => by
    obtain ⟨h1, h2⟩ := pl_all (pl_ok n) l h
    exact ⟨by rw [PyData.canLay0]; exact h1, by rw [PyData.depth]; omega⟩
  | 0, .list l, h => by cases h
  | 0, .tuple l, h => by cases h
  | 0, .str _, h => by cases h
  | n + 1, .str _, h => by cases h
  | 0, .dict _, h => by cases h
  | n + 1, .dict _, h => by cases h
theorem shp_pl {n : Nat} {d : D} (h : pl n d = true) (hn : n ≤ 64) : shp d = true := by
  obtain ⟨h1, h2⟩ := pl_ok n d h
  show (d.canLay0 && decide (d.depth ≤ 64)) = true
  rw [h1, decide_eq_true (show d.depth ≤ 64 by omega)]
  rfl
theorem pl_I (n : Nat) (f : List Int) : (I f).all (pl n) = true := by
  rw [List.all_eq_true]
  intro x hx
  obtain ⟨i, _, rfl⟩ := List.mem_map.mp hx
  cases n <;> rfl
theorem shp_list (f : List Int) : shp (.list (I f)) = true := shp_pl (n := 1) (pl_I 0 f) (by decide)
theorem shp_tup (f : List Int) : shp (.tuple (I f)) = true := shp_pl (n := 1) (pl_I 0 f) (by decide)
theorem eqv_pl : ∀ (n : Nat) (d : D), pl n d = true → PyData.eqv d d = true := by
  intro n
  induction n with
  | zero =>
    intro d h
    cases d with
    | none => rfl
    | bool b => simp [PyData.eqv]
    | int i => simp [PyData.eqv]
    | list l => cases h
    | tuple l => cases h
    | str _ => cases h
    | dict _ => cases h
  | succ n ih =>
    have key : ∀ l : List D, l.all (pl n) = true → PyData.eqvAll l l = true := by
      intro l
      induction l with
      | nil => intro _; rfl
      | cons x l il =>
        intro h
        rw [List.all_cons, Bool.and_eq_true] at h
        show (PyData.eqv x x && PyData.eqvAll l l) = true
        rw [ih x h.1, il h.2]
        rfl
    intro d h
    cases d with
    | none => rfl
    | bool b => simp [PyData.eqv]
    | int i => simp [PyData.eqv]
    | list l => exact key l h
    | tuple l => exact key l h
    | str _ => cases h
    | dict _ => cases h
end Fz
set_option Elab.async false
set_option linter.all false
set_option maxRecDepth 100000
set_option maxHeartbeats 4000000
/-! Fz, part U: the table of the text's defs, one after another; the end. -/
namespace Fz
open PySem PySem.Spec PyProof.Rows L2
abbrev FnP (K : PySem.W.Frag) (x : Str) (st : Stmt) (f : Addr) (fd : FuncData) : Prop := FunD K x x (defArgs st) (defBody st) (defScope st) [] [] f fd
/-- how values come to a def's parameters: by place, and by the names of each pattern -/
structure Bnd (x : Str) (st : Stmt) (fn : Fn) : Prop where
  b : ∀ (kV doc pm : Value) (an : Option Addr) (cdv ct : Value) (us : List Value), us.length = fn.ps.length → bindArgs (PySem.W.fnOf x x (defArgs st) (defBody st) (defScope st) .none kV doc pm an cdv ct) ⟨us, []⟩ = pure (fn.ps.zip us)
  k : ∀ kw ∈ fn.kws, ∀ (kV doc pm : Value) (an : Option Addr) (cdv ct : Value) (us ws : List Value), us.length = kw.n → ws.length = kw.ks.length → bindArgs (PySem.W.fnOf x x (defArgs st) (defBody st) (defScope st) .none kV doc pm an cdv ct) ⟨us, kw.ks.zip ws⟩ = pure (fn.ps.zip (arr kw.perm us ws))
section
variable {P : Program} {w : World} {K : PySem.W.Frag} {mg : Str → Option Value} {base : Heap}
theorem FunD.kbPlain {x : Str} {st : Stmt} {f : Addr} {fd : FuncData} {fn : Fn} (F : FnP K x st f fd) (B : Bnd x st fn) : ∀ kw ∈ fn.kws, KBn K fd fn.ps kw.n kw.ks (arr kw.perm) (arr kw.perm) := by
  intro kw hkw
  obtain ⟨oc, od, dV, kV, doc, pm, an, cdv, ct, osl, rfl, lk, hcd, hD, hK⟩ := F.ex
  rcases hD with ⟨_, rfl⟩ | ⟨e, _⟩
  · exact ⟨fun s us ws X l1 l2 => .of_eq (B.k kw hkw kV doc pm an cdv ct us ws l1 l2), fun r1 r2 => arr_vals r1 r2 kw.perm⟩
  · exact absurd rfl e
/-- a def of the text, once the defs ahead of it are good -/
theorem def_fn {x : Str} {st : Stmt} {f : Addr} {fd : FuncData} {n k W : Nat} {fn : Fn} {b : List RS} {N : List Str} {fs : List (Str × Fn)} (F : FnP K x st f fd) (S : FnScope N fn.ps (defScope st))
    (hb : ∀ y, bltNames.contains y = true → mg y = none) (hf : ∀ (j : Nat) (p : Str × Fn), fs[j]? = some p → Env1 P w K mg base k p.1 p.2) (hc : ckSs ⟨N, fs, W⟩ n (defScope st) (defBody st) b = true)
    (hd : ∀ ds z, fn.den ds = some z → ∃ m, runD ⟨N, fs, W⟩ m fn.io b ds = some z) : FnOk P w K mg base CX0 (k + 1) f fd fn.ps (spD K fn) := by
  have hpl : fn.ps.length ≤ N.length := by have := congrArg List.length S.pre; rw [List.length_take] at this; omega
  refine FunD.ok F S (fun vs H Q E h => ?_) (fun cdv A outer s H vs Q E hr h => ?_)
  · obtain ⟨G, β, ds, o, d, l, h1, h2, _⟩ := h
    exact h2
  · obtain ⟨G, β, ds, o, d, l, h1, h2, ex, ha, q⟩ := h
    obtain ⟨m, hm⟩ := hd ds _ h1
    unfold runD at hm
    rw [Option.bind_eq_some_iff] at hm
    obtain ⟨r, e1, e2⟩ := hm
    have C : Ctx P w K mg base N k (defScope st) (cxOf CX0 P w K mg base N x (defScope st) f cdv A outer s H E).nox := ⟨rfl, rfl, rfl, rfl, rfl, rfl, rfl, hr, rfl, fun _ => rfl, PassesOwn.never⟩
    have hds : DenSs (cxOf CX0 P w K mg base N x (defScope st) f cdv A outer s H E).nox β (defBody st) (en0 N.length fn.io ds) r :=
      (sndS_all ⟨N, fs, W⟩ k n).Ss ⟨⟨rfl, S.nd, rfl, hr, rfl, hb, fun j p hp => ⟨(hf j p hp).ex, (hf j p hp).nd⟩⟩, S.kind, fun _ => rfl, PassesOwn.never⟩ hc e1
    refine ⟨_, PSs.nox pss_w, hds G H (r0 β) (L2.start N vs) _ (start_R (by rw [h2]; exact hpl) ex ha) ?_⟩
    cases r with
    | nx e =>
      cases e2
      intro G' H' ρ' σ' f' r'
      refine q .non G' H' ρ' f' r'.ex (fun a e => ?_) .non
      obtain ⟨b1, ws, b2, b3⟩ := r'.bg a e
      exact ⟨(r'.ow a (by rw [b1]; simp)).1, ws, b2, b3⟩
    | rt o e b =>
      cases e2
      intro v G' H' ρ' σ' f' r' x
      refine q v G' H' ρ' f' r'.ex (fun a e => ?_) x
      obtain ⟨b1, ws, b2, b3⟩ := r'.bg a e
      exact ⟨(r'.ow a (by rw [b1]; simp)).1, ws, b2, b3⟩
    | bk e => cases e2
    | ct e => cases e2
theorem def_env {x : Str} {st : Stmt} {f : Addr} {fd : FuncData} {n k W : Nat} {fn : Fn} {b : List RS} {N : List Str} {fs : List (Str × Fn)} (hmg : mg x = some (.ref f)) (F : FnP K x st f fd) (S : FnScope N fn.ps (defScope st)) (B : Bnd x st fn)
    (hb : ∀ y, bltNames.contains y = true → mg y = none) (hf : ∀ (j : Nat) (p : Str × Fn), fs[j]? = some p → Env1 P w K mg base k p.1 p.2) (hc : ckSs ⟨N, fs, W⟩ n (defScope st) (defBody st) b = true)
    (hd : ∀ ds z, fn.den ds = some z → ∃ m, runD ⟨N, fs, W⟩ m fn.io b ds = some z) (nd : (x == ("__debug__" : Str)) = false) : Env1 P w K mg base (k + 1) x fn :=
  ⟨⟨f, fd, hmg, F.kp, def_fn F S hb hf hc hd, FunD.bindsN F B.b, FunD.kbPlain F B⟩, nd⟩
/-- a def of which nothing is promised -/
theorem void_env {x : Str} {st : Stmt} {f : Addr} {fd : FuncData} {k : Nat} {fn : Fn} {N : List Str} (hmg : mg x = some (.ref f)) (F : FnP K x st f fd) (S : FnScope N fn.ps (defScope st)) (B : Bnd x st fn) (hd : ∀ ds, fn.den ds = none) (nd : (x == ("__debug__" : Str)) = false) : Env1 P w K mg base (k + 1) x fn := by
  refine ⟨⟨f, fd, hmg, F.kp, ?_, FunD.bindsN F B.b, FunD.kbPlain F B⟩, nd⟩
  refine FunD.ok F S (fun vs H Q E h => ?_) (fun cdv A outer s H vs Q E hr h => ?_)
  · obtain ⟨G, β, ds, o, d, l, h1, h2, _⟩ := h
    exact h2
  · obtain ⟨G, β, ds, o, d, l, h1, _⟩ := h
    rw [hd] at h1
    cases h1
theorem Env1.up {x : Str} {fn : Fn} {k : Nat} (h : Env1 P w K mg base k x fn) : Env1 P w K mg base (k + 1) x fn := by
  obtain ⟨f, fd, h1, h2, h3, h4, h5⟩ := h.ex
  exact ⟨⟨f, fd, h1, h2, h3.mono (Nat.le_succ k), h4, h5⟩, h.nd⟩
/-- a table of good defs -/
def Good (P : Program) (w : World) (K : PySem.W.Frag) (mg : Str → Option Value) (base : Heap) (k : Nat) (fs : List (Str × Fn)) : Prop := ∀ (j : Nat) (p : Str × Fn), fs[j]? = some p → Env1 P w K mg base k p.1 p.2
theorem Good.nil {k : Nat} : Good P w K mg base k [] := fun j p h => by simp at h
theorem Good.push {k : Nat} {fs : List (Str × Fn)} {x : Str} {fn : Fn} (g : Good P w K mg base k fs) (e : Env1 P w K mg base (k + 1) x fn) : Good P w K mg base (k + 1) (fs ++ [(x, fn)]) := by
  intro j p h
  rw [List.getElem?_append] at h
  split at h
  · exact (g j p h).up
  · have : (x, fn) = p := by
      cases hj : j - fs.length with
      | zero => rw [hj] at h; simpa using h
      | succ m => rw [hj] at h; simp at h
    cases this
    exact e
theorem Good.upn {k : Nat} {fs : List (Str × Fn)} : ∀ n : Nat, Good P w K mg base k fs → Good P w K mg base (k + n) fs
  | 0, g => g
  | n + 1, g => fun j p h => (Good.upn n g j p h).up
end
/-! ### the law's own call -/
theorem rps_ints {K : PySem.W.Frag} {H : Hp} : ∀ ns : List Int, Rps K H (ns.map V.int) (I ns)
  | [] => .nil
  | n :: ns => .cons (.int n) (rps_ints ns)
theorem law_in {K : PySem.W.Frag} {fn : Fn} (hio : fn.io = false) (hp : fn.ps.length = 1) (hden : ∀ cs : List Int, cs.length ≤ 63 → ∃ l, fn.den [.dict [(.none, .list (I cs))]] = some (false, .bool true, l)) (H : Hp) (a : Addr) (ns : List Int) (hl : ns.length ≤ 63) (hO : Only H) (hS : SqL K H a (ns.map V.int)) :
    spD K fn [.ref a] H (fun v _ => v = .bl true) (fun _ _ _ => False) := by
  obtain ⟨l, hd⟩ := hden ns hl
  refine ⟨H, none, [.dict [(.none, .list (I ns))]], false, .bool true, l, hd, by rw [hp]; rfl, ?_, ?_, fun v G' H' ρ' f ex _ x => ?_⟩
  · exact Evl.Ex.refl H
  · rw [hio]
    refine ⟨rfl, .cons (.scr hS (rps_ints ns)) .nil⟩
  · cases x
    rfl
end Fz
set_option Elab.async false
set_option linter.all false
set_option maxRecDepth 100000
set_option maxHeartbeats 2000000
namespace W1
open PySem PySem.Spec PyProof.Rows L2 Fz
def B_inverse : List RS := [.set 2 (.nm 0), .set 3 (.bin .Mod (.nm 1) (.nm 0)), .set 4 (.int 0), .set 5 (.int 1), .whl (.cmp .Gt (.nm 3) (.int 1)) [.set 6 (.bin .FloorDiv (.nm 2) (.nm 3)), .par [2, 3] [(.nm 3), (.bin .Sub (.nm 2) (.bin .Mult (.nm 6) (.nm 3)))], .par [4, 5] [(.nm 5), (.bin .Sub (.nm 4) (.bin .Mult (.nm 6) (.nm 5)))]], .ret (.bin .Mod (.nm 5) (.nm 0))]
def B_form_of : List RS := [.set 2 (.lc (.one 3) [3] (.seq (.nm 1)) none (.bin .Mod (.nm 3) (.nm 0))), .whl (.bop .And (.nm 2) (.cmp .Eq (.ixn 2 (.neg (.int 1))) (.int 0))) [.ex (.pop 2)], .ret (.blt .tuple [(.nm 2)])]
def B_degree_of : List RS := [.ife (.nt (.nm 0)) [.ret .non] [], .ret (.bin .Sub (.lenn 0) (.int 1))]
def B_add (j1 : Nat) : List RS := [.set 3 (.lc (.tup [4, 5]) [4, 5] (.zip (.nm 1) (.nm 2)) none (.bin .Add (.nm 4) (.nm 5))), .set 6 (.lenn 3), .ret (.app j1 [(.nm 0), (.bin .Add (.bin .Add (.nm 3) (.blt .list [(.sln 1 (some (.nm 6)) none)])) (.blt .list [(.sln 2 (some (.nm 6)) none)]))])]
def B_subtract (j1 : Nat) : List RS := [.set 3 (.lc (.tup [4, 5]) [4, 5] (.zip (.nm 1) (.nm 2)) none (.bin .Sub (.nm 4) (.nm 5))), .set 6 (.lenn 3), .ret (.app j1 [(.nm 0), (.bin .Add (.bin .Add (.nm 3) (.blt .list [(.sln 1 (some (.nm 6)) none)])) (.lc (.one 5) [5] (.seq (.sln 2 (some (.nm 6)) none)) none (.neg (.nm 5))))])]
def B_multiply (j1 : Nat) : List RS := [.ife (.bop .Or (.nt (.nm 1)) (.nt (.nm 2))) [.ret (.tup [])] [], .set 3 (.bin .Mult (.lst [(.int 0)]) (.bin .Sub (.bin .Add (.lenn 1) (.lenn 2)) (.int 1))), .for (.tup [4, 5]) (.enu [(.nm 1)]) [.ife (.cmp .NotEq (.nm 5) (.int 0)) [.for (.tup [6, 7]) (.enu [(.nm 2), (.nm 4)]) [.put 3 (.nm 6) (.bin .Add (.ixn 3 (.nm 6)) (.bin .Mult (.nm 5) (.nm 7)))]] []], .ret (.app j1 [(.nm 0), (.nm 3)])]
def B_scaled (j1 : Nat) : List RS := [.ret (.app j1 [(.nm 0), (.lc (.one 3) [3] (.seq (.nm 1)) none (.bin .Mult (.nm 2) (.nm 3)))])]
def B_raised : List RS := [.ife (.nt (.nm 0)) [.ret (.tup [])] [], .ret (.bin .Add (.bin .Mult (.tup [(.int 0)]) (.nm 1)) (.nm 0))]
def B_monic_of (j0 j6 : Nat) : List RS := [.ife (.nt (.nm 1)) [.ret (.tup [])] [], .ret (.app j6 [(.nm 0), (.nm 1), (.app j0 [(.nm 0), (.ixn 1 (.neg (.int 1)))])])]
def B_value_at : List RS := [.set 3 (.int 0), .for (.one 4) (.rev (.nm 1)) [.set 3 (.bin .Mod (.bin .Add (.bin .Mult (.nm 3) (.nm 2)) (.nm 4)) (.nm 0))], .ret (.nm 3)]
def B_q_bag : List RS := [.set 1 (.int 4201), .for (.one 2) (.seq (.sln 0 none (some (.int 63)))) [.set 1 (.bin .Mod (.blt .int [(.bin .Add (.bin .Add (.bin .Mult (.nm 1) (.int 69621)) (.bin .Mult (.bin .Mod (.blt .int [(.nm 2)]) (.int 999983)) (.int 733))) (.int 17))]) (.int 2147483629))], .ret (.lst [(.blt .list [(.sln 0 none (some (.int 63)))]), (.int 0), (.int 0), (.nm 1), (.int 0)])]
def B_q_draw : List RS := [.put 0 (.int 4) (.bin .Add (.ixn 0 (.int 4)) (.int 1)), .ife (.bop .And (.cmp .Eq (.ixn 0 (.int 2)) (.int 0)) (.cmp .Lt (.ixn 0 (.int 1)) (.blt .len [(.ixn 0 (.int 0))]))) [.set 2 (.blt .int [(.ix (.ixn 0 (.int 0)) (.ixn 0 (.int 1)))]), .put 0 (.int 1) (.bin .Add (.ixn 0 (.int 1)) (.int 1)), .ife (.cmp .GtE (.blt .abs [(.nm 2)]) (.bin .Pow (.int 10) (.int 18))) [.put 0 (.int 2) (.blt .abs [(.nm 2)])] [.put 0 (.int 3) (.bin .Mod (.blt .int [(.bin .Add (.bin .Add (.bin .Mult (.ixn 0 (.int 3)) (.int 16381)) (.bin .Mult (.bin .Mod (.blt .int [(.nm 2)]) (.int 999983)) (.int 1013))) (.int 7))]) (.int 2147483587))]] [], .ife (.cmp .Gt (.ixn 0 (.int 2)) (.int 0)) [.set 3 (.bin .Mod (.blt .int [(.ixn 0 (.int 2))]) (.nm 1)), .put 0 (.int 2) (.bin .FloorDiv (.ixn 0 (.int 2)) (.nm 1)), .ret (.nm 3)] [], .set 4 (.blt .int [(.ixn 0 (.int 3))]), .put 0 (.int 3) (.bin .Mod (.blt .int [(.bin .Add (.bin .Add (.bin .Add (.bin .Pow (.nm 4) (.int 3)) (.bin .Mult (.nm 4) (.int 31337))) (.bin .Mult (.ixn 0 (.int 4)) (.int 104729))) (.int 50021))]) (.int 2147483549)), .ret (.bin .Mod (.blt .int [(.bin .Add (.bin .FloorDiv (.ixn 0 (.int 3)) (.int 67)) (.bin .Mult (.bin .Mod (.blt .int [(.ixn 0 (.int 3))]) (.int 7919)) (.int 61)))]) (.nm 1))]
def B_q_of (j11 : Nat) : List RS := [.ret (.ixn 1 (.appio j11 0 [(.lenn 1)]))]
def B_q_same (j13 : Nat) : List RS := [.ife (.val (.isi (.nm 1) ["list", "tuple"])) [.ife (.bop .Or (.cmp .NotEq (.isi (.nm 0) ["list"]) (.isi (.nm 1) ["list"])) (.cmp .NotEq (.isi (.nm 0) ["tuple"]) (.isi (.nm 1) ["tuple"]))) [.ret (.bl false)] [], .ret (.bop .And (.cmp .Eq (.lenn 0) (.lenn 1)) (.blt .all [(.lc (.tup [2, 3]) [2, 3] (.zip (.nm 0) (.nm 1)) none (.app j13 [(.nm 2), (.nm 3)]))]))] [], .ife (.val (.isi (.nm 0) ["list", "tuple"])) [.ret (.bl false)] [], .ife (.bop .Or (.cmp .Is (.nm 1) .non) (.cmp .Is (.nm 0) .non)) [.ret (.bop .And (.cmp .Is (.nm 1) .non) (.cmp .Is (.nm 0) .non))] [], .ife (.bop .Or (.val (.isi (.nm 1) ["bool"])) (.val (.isi (.nm 0) ["bool"]))) [.ret (.bop .And (.isi (.nm 1) ["bool"]) (.bop .And (.isi (.nm 0) ["bool"]) (.cmp .Eq (.nm 0) (.nm 1))))] [], .ife (.bop .Or (.val (.isi (.nm 1) ["int"])) (.val (.isi (.nm 0) ["int"]))) [.ret (.bop .And (.isi (.nm 1) ["int"]) (.bop .And (.isi (.nm 0) ["int"]) (.cmp .Eq (.nm 0) (.nm 1))))] [], .ife (.bop .Or (.val (.isi (.nm 1) ["str"])) (.val (.isi (.nm 0) ["str"]))) [.ret (.bop .And (.isi (.nm 1) ["str"]) (.bop .And (.isi (.nm 0) ["str"]) (.cmp .Eq (.nm 0) (.nm 1))))] [], .ret (.cmp .Eq (.nm 0) (.nm 1))]
def B_q_is_num : List RS := [.ret (.bop .And (.isi (.nm 0) ["int"]) (.not (.isi (.nm 0) ["bool"])))]
def B_q_primes : List RS := [.ret (.lc (.one 0) [0] (.rng [(.int 2), (.int 98)]) (some (.cmp .Eq (.lc (.one 1) [1] (.rng [(.int 2), (.nm 0)]) (some (.cmp .Eq (.bin .Mult (.bin .FloorDiv (.nm 0) (.nm 1)) (.nm 1)) (.nm 0))) (.nm 1)) (.lst []))) (.nm 0))]
def B_q_prime (j11 j12 j15 : Nat) : List RS := [.ife (.cmp .Eq (.appio j11 0 [(.int 6)]) (.int 0)) [.ret (.appio j12 0 [(.app j15 [])])] [], .ret (.appio j12 0 [(.lst [(.int 2), (.int 3), (.int 5), (.int 7), (.int 2), (.int 3), (.int 5), (.int 11), (.int 13)])])]
def B_q_trim : List RS := [.set 1 (.lenn 0), .whl (.bop .And (.cmp .Gt (.nm 1) (.int 0)) (.cmp .Eq (.ixn 0 (.bin .Sub (.nm 1) (.int 1))) (.int 0))) [.set 1 (.bin .Sub (.nm 1) (.int 1))], .ret (.blt .tuple [(.sln 0 none (some (.nm 1)))])]
def B_q_plus (j17 : Nat) : List RS := [.set 3 (.blt .max [(.lenn 1), (.lenn 2)]), .ret (.app j17 [(.lc (.one 4) [4] (.rng [(.nm 3)]) none (.bin .Mod (.blt .int [(.bin .Add (.ife (.cmp .Lt (.nm 4) (.lenn 1)) (.ixn 1 (.nm 4)) (.int 0)) (.ife (.cmp .Lt (.nm 4) (.lenn 2)) (.ixn 2 (.nm 4)) (.int 0)))]) (.nm 0)))])]
def B_q_minus (j17 : Nat) : List RS := [.set 3 (.blt .max [(.lenn 1), (.lenn 2)]), .ret (.app j17 [(.lc (.one 4) [4] (.rng [(.nm 3)]) none (.bin .Mod (.blt .int [(.bin .Sub (.ife (.cmp .Lt (.nm 4) (.lenn 1)) (.ixn 1 (.nm 4)) (.int 0)) (.ife (.cmp .Lt (.nm 4) (.lenn 2)) (.ixn 2 (.nm 4)) (.int 0)))]) (.nm 0)))])]
def B_q_mul (j17 : Nat) : List RS := [.ife (.bop .Or (.cmp .Eq (.lenn 1) (.int 0)) (.cmp .Eq (.lenn 2) (.int 0))) [.ret (.tup [])] [], .set 3 (.bin .Mult (.lst [(.int 0)]) (.bin .Sub (.bin .Add (.lenn 1) (.lenn 2)) (.int 1))), .for (.one 4) (.rng [(.lenn 1)]) [.for (.one 5) (.rng [(.lenn 2)]) [.put 3 (.bin .Add (.nm 4) (.nm 5)) (.bin .Add (.ixn 3 (.bin .Add (.nm 4) (.nm 5))) (.bin .Mult (.ixn 1 (.nm 4)) (.ixn 2 (.nm 5))))]], .ret (.app j17 [(.lc (.one 6) [6] (.seq (.nm 3)) none (.bin .Mod (.blt .int [(.nm 6)]) (.nm 0)))])]
def B_q_val : List RS := [.tgt (.tup [3, 4]) (.tup [(.int 0), (.int 1)]), .for (.one 5) (.seq (.nm 1)) [.set 3 (.bin .Mod (.blt .int [(.bin .Add (.nm 3) (.bin .Mult (.nm 5) (.nm 4)))]) (.nm 0)), .set 4 (.bin .Mod (.blt .int [(.bin .Mult (.nm 4) (.nm 2))]) (.nm 0))], .ret (.nm 3)]
def B_q_is_form (j14 : Nat) : List RS := [.ife (.nt (.val (.isi (.nm 1) ["tuple"]))) [.ret (.bl false)] [], .for (.one 2) (.seq (.nm 1)) [.ife (.bop .Or (.nt (.val (.app j14 [(.nm 2)]))) (.bop .Or (.cmp .Lt (.nm 2) (.int 0)) (.cmp .GtE (.nm 2) (.nm 0)))) [.ret (.bl false)] []], .ret (.bop .Or (.cmp .Eq (.lenn 1) (.int 0)) (.cmp .NotEq (.ixn 1 (.neg (.int 1))) (.int 0)))]
def B_q_form (j11 j17 : Nat) : List RS := [.ret (.app j17 [(.lc (.one 3) [3] (.rng [(.appio j11 0 [(.bin .Add (.nm 2) (.int 2))])]) none (.appio j11 0 [(.nm 1)]))])]
def B_q_read_numbers (j11 j12 : Nat) : List RS := [.set 2 (.appio j12 0 [(.lst [(.int 0), (.int 1), (.int 3), (.int 6), (.int 41)])]), .set 3 (.lc (.one 4) [4] (.rng [(.nm 2)]) none (.appio j12 0 [(.lst [(.int 0), (.nm 1), (.neg (.nm 1)), (.int 1), (.neg (.int 1)), (.bin .Sub (.nm 1) (.int 1)), (.appio j11 0 [(.bin .Pow (.int 10) (.int 9))]), (.bin .Sub (.int 0) (.appio j11 0 [(.bin .Pow (.int 10) (.int 9))])), (.bin .Mult (.int 3) (.nm 1))])])), .ife (.cmp .Eq (.appio j11 0 [(.int 2)]) (.int 0)) [.set 3 (.bin .Add (.sln 3 none (some (.int 38))) (.lc (.one 4) [4] (.rng [(.bin .Add (.int 1) (.appio j11 0 [(.int 3)]))]) none (.appio j12 0 [(.lst [(.int 0), (.nm 1), (.neg (.nm 1)), (.bin .Mult (.int 7) (.nm 1))])])))] [], .set 5 (.tup []), .for (.one 4) (.rng [(.lenn 3)]) [.ife (.cmp .NotEq (.bin .Mod (.blt .int [(.ixn 3 (.nm 4))]) (.nm 1)) (.int 0)) [.set 5 (.blt .tuple [(.lc (.one 6) [6] (.seq (.sln 3 none (some (.bin .Add (.nm 4) (.int 1))))) none (.bin .Mod (.blt .int [(.nm 6)]) (.nm 1)))])] []], .ret (.tup [(.nm 3), (.nm 5)])]
def B_q_pair (j11 j12 j17 j23 : Nat) : List RS := [.par [2, 3] [(.appio j23 0 [(.nm 1), (.appio j12 0 [(.lst [(.int 0), (.int 2), (.int 4), (.int 7), (.int 40)])])]), (.appio j23 0 [(.nm 1), (.appio j12 0 [(.lst [(.int 0), (.int 3), (.int 5), (.int 8), (.int 20)])])])], .set 4 (.appio j11 0 [(.int 5)]), .ife (.cmp .Eq (.nm 4) (.int 0)) [.ret (.tup [(.nm 2), (.nm 2)])] [], .ife (.cmp .Eq (.nm 4) (.int 1)) [.ret (.tup [(.nm 2), (.blt .tuple [(.lc (.one 5) [5] (.seq (.nm 2)) none (.bin .Mod (.blt .int [(.bin .Sub (.int 0) (.nm 5))]) (.nm 1)))])])] [], .ife (.bop .And (.cmp .Eq (.nm 4) (.int 2)) (.cmp .Gt (.lenn 2) (.int 1))) [.set 6 (.appio j11 0 [(.lenn 2)]), .ret (.tup [(.nm 2), (.app j17 [(.lc (.tup [7, 5]) [7, 5] (.enu [(.nm 2)]) none (.ife (.cmp .Lt (.nm 7) (.nm 6)) (.bin .Mod (.blt .int [(.bin .Add (.nm 5) (.int 1))]) (.nm 1)) (.nm 5)))])])] [], .ret (.tup [(.nm 2), (.nm 3)])]
def B_q_values_so (j9 j13 j21 : Nat) : List RS := [.for (.one 4) (.rng [(.blt .min [(.nm 0), (.int 13)])]) [.par [5, 6] [(.app j21 [(.nm 0), (.nm 1), (.nm 4)]), (.app j21 [(.nm 0), (.nm 2), (.nm 4)])], .set 7 (.lst [(.bin .Mod (.blt .int [(.bin .Add (.nm 5) (.nm 6))]) (.nm 0)), (.bin .Mod (.blt .int [(.bin .Sub (.nm 5) (.nm 6))]) (.nm 0)), (.bin .Mod (.blt .int [(.bin .Mult (.nm 5) (.nm 6))]) (.nm 0))]), .ife (.bop .Or (.cmp .NotEq (.lc (.one 8) [8] (.seq (.nm 3)) none (.app j21 [(.nm 0), (.nm 8), (.nm 4)])) (.nm 7)) (.nt (.val (.app j13 [(.lc (.one 8) [8] (.seq (.nm 3)) none (.app j9 [(.nm 0), (.nm 8), (.nm 4)])), (.nm 7)])))) [.ret (.bl false)] []], .ret (.bl true)]
end W1
set_option Elab.async false
set_option linter.all false
set_option maxRecDepth 100000
set_option maxHeartbeats 2000000
namespace W1
open PySem PySem.Spec PyProof.Rows L2 Fz
variable {fs : List (Str × Fn)} {N : List Str} {j0 j1 j2 j3 j4 j5 j6 j7 j8 j9 j10 j11 j12 j13 j14 j15 j16 j17 j18 j19 j20 j21 j22 j23 j24 j25 j26 j27 : Nat}
/-! ### sizes -/
def small (x : Int) : Prop := x.natAbs < 2 ^ 64
theorem small_mul {x y : Int} (hx : small x) (hy : small y) : mulB x y = true := by
  unfold mulB
  rw [decide_eq_true_eq]
  exact wide_mul (a := 64) (b := 64) hx hy (by decide) (by decide) (by decide)
theorem small_of {x : Int} (h1 : -(2 ^ 64) < x) (h2 : x < 2 ^ 64) : small x := by
  unfold small
  omega
/-! ### forms -/
def trim : List Int → List Int
  | [] => []
  | x :: xs => match trim xs with
    | [] => if x = 0 then [] else [x]
    | y :: ys => x :: y :: ys
theorem trim_snoc0 : ∀ xs : List Int, trim (xs ++ [0]) = trim xs
  | [] => rfl
  | x :: xs => by
    show trim (x :: (xs ++ [0])) = trim (x :: xs)
    unfold trim
    rw [trim_snoc0 xs]
theorem trim_snoc : ∀ (xs : List Int) {y : Int}, y ≠ 0 → trim (xs ++ [y]) = xs ++ [y]
  | [], y, h => by simp [trim, h]
  | x :: xs, y, h => by
    show trim (x :: (xs ++ [y])) = x :: (xs ++ [y])
    unfold trim
    rw [trim_snoc xs h]
    cases xs <;> rfl
def formOf (p : Int) (ns : List Int) : List Int := trim (ns.map (· % p))
def zadd (f g : List Int) : List Int := ((f.zip g).map fun q => q.1 + q.2) ++ (f.drop (f.zip g).length ++ g.drop (f.zip g).length)
def zsub (f g : List Int) : List Int := ((f.zip g).map fun q => q.1 - q.2) ++ (f.drop (f.zip g).length ++ (g.drop (f.zip g).length).map (- ·))
def gd (f : List Int) (k : Nat) : Int := f.getD k 0
/-- g, times x, added to s from a place on -/
def addAt (s : List Int) (i : Nat) (x : Int) : List Int → List Int
  | [] => s
  | y :: g => addAt (s.set i (gd s i + x * y)) (i + 1) x g
def mulFrom (g : List Int) : List Int → Nat → List Int → List Int
  | s, _, [] => s
  | s, i, x :: f => mulFrom g (addAt s i x g) (i + 1) f
def mulRaw (f g : List Int) : List Int := mulFrom g (List.replicate (f.length + g.length - 1) 0) 0 f
theorem addAt_len (x : Int) : ∀ (g s : List Int) (i : Nat), (addAt s i x g).length = s.length
  | [], _, _ => rfl
  | y :: g, s, i => by unfold addAt; rw [addAt_len x g, List.length_set]
theorem set_same (s : List Int) (i : Nat) : s.set i (gd s i) = s := by
  unfold gd
  by_cases h : i < s.length
  · rw [List.getD_eq_getElem?_getD, List.getElem?_eq_getElem h]
    exact List.set_getElem_self h
  · exact List.set_eq_of_length_le (by omega)
theorem addAt_zero : ∀ (g s : List Int) (i : Nat), addAt s i 0 g = s
  | [], _, _ => rfl
  | y :: g, s, i => by unfold addAt; rw [Int.zero_mul, Int.add_zero, set_same, addAt_zero g]
theorem mulFrom_len (g : List Int) : ∀ (f s : List Int) (i : Nat), (mulFrom g s i f).length = s.length
  | [], _, _ => rfl
  | x :: f, s, i => by unfold mulFrom; rw [mulFrom_len g f, addAt_len]
theorem mulRaw_len (f g : List Int) : (mulRaw f g).length = f.length + g.length - 1 := by unfold mulRaw; rw [mulFrom_len, List.length_replicate]
def horner (p c : Int) (f : List Int) : Int := f.foldr (fun r v => (v * c + r) % p) 0
/-! ### the words of the defs of the program -/
noncomputable section
def d_form_of : List D → Option (Bool × D × List D)
  | [.int p, d] => (seqD d).bind fun q => (allI q.2).bind fun ns => if 0 < p ∧ ns.length ≤ 100000 then some (false, .tuple (I (formOf p ns)), []) else none
  | _ => none
def d_degree_of : List D → Option (Bool × D × List D)
  | [.tuple l] => (allI l).bind fun f => some (false, if f.isEmpty then .none else .int (f.length - 1), [])
  | _ => none
def two (p : Int) (a b : List D) (k : List Int → List Int → Option D) : Option (Bool × D × List D) := (allI a).bind fun f => (allI b).bind fun g => if 0 < p ∧ f.length ≤ 40000 ∧ g.length ≤ 40000 then (k f g).map fun d => (false, d, []) else none
def d_add : List D → Option (Bool × D × List D)
  | [.int p, .tuple a, .tuple b] => two p a b fun f g => some (.tuple (I (formOf p (zadd f g))))
  | _ => none
def d_subtract : List D → Option (Bool × D × List D)
  | [.int p, .tuple a, .tuple b] => two p a b fun f g => some (.tuple (I (formOf p (zsub f g))))
  | _ => none
open Classical in
def d_multiply : List D → Option (Bool × D × List D)
  | [.int p, .tuple a, .tuple b] => two p a b fun f g => if (∀ x ∈ f, small x) ∧ (∀ x ∈ g, small x) then some (.tuple (if f.isEmpty || g.isEmpty then [] else I (formOf p (mulRaw f g)))) else none
  | _ => none
open Classical in
def d_scaled : List D → Option (Bool × D × List D)
  | [.int p, .tuple a, .int n] => (allI a).bind fun f => if 0 < p ∧ f.length ≤ 40000 ∧ small n ∧ ∀ x ∈ f, small x then some (false, .tuple (I (formOf p (f.map (n * ·)))), []) else none
  | _ => none
def d_raised : List D → Option (Bool × D × List D)
  | [.tuple a, .int n] => (allI a).bind fun f => if 0 ≤ n ∧ n ≤ 1000 ∧ f.length ≤ 40000 then some (false, .tuple (if f.isEmpty then [] else I (List.replicate n.toNat 0 ++ f)), []) else none
  | _ => none
open Classical in
def d_value_at : List D → Option (Bool × D × List D)
  | [.int p, .tuple a, .int c] => (allI a).bind fun f => if 0 < p ∧ p < 4294967296 ∧ 0 ≤ c ∧ c < 4294967296 then some (false, .int (horner p c f), []) else none
  | _ => none
end
end W1
set_option Elab.async false
set_option linter.all false
set_option maxRecDepth 100000
set_option maxHeartbeats 2000000
namespace W1
open PySem PySem.Spec PyProof.Rows L2 Fz
variable {fs : List (Str × Fn)} {N : List Str} {j0 j1 j2 j3 j4 j5 j6 j7 j8 j9 j10 j11 j12 j13 j14 j15 j16 j17 j18 j19 j20 j21 j22 j23 j24 j25 j26 j27 : Nat}
abbrev WW : Nat := 1048576
/-- the place of form_of in the table -/
theorem d_form_at {p : Int} {ns : List Int} (hp : 0 < p) (hl : ns.length ≤ 100000) : d_form_of [.int p, .list (I ns)] = some (false, .tuple (I (formOf p ns)), []) := by
  simp [d_form_of, seqD, hp, hl]
theorem call_form (hF : At fs j1 false 2 d_form_of) {p : Int} {l : List D} {ns : List Int} (hp : 0 < p) (hl : ns.length ≤ 100000) (e : l = I ns) : cAt fs j1 [.int p, .list l] = some (false, .tuple (I (formOf p ns))) := by
  subst e
  exact hF.c rfl (d_form_at hp hl)
/-- the last zeros are popped -/
theorem pop_loop (T : Tb) (a b : Sl) (bg : List D) (m : Nat) : ∀ (n : Nat) (ns : List Int), ns.length < n →
    whileL (evT T (m + 5) (.bop .And (.nm 2) (.cmp .Eq (.ixn 2 (.neg (.int 1))) (.int 0)))) (evSs T (m + 5) [.ex (.pop 2)]) n ⟨[a, b, .own (I ns), .no], bg⟩ = some (.nx ⟨[a, b, .own (I (trim ns)), .no], bg⟩)
  | 0, ns, h => absurd h (Nat.not_lt_zero _)
  | n + 1, ns, h => by
    rcases List.eq_nil_or_concat ns with rfl | ⟨l, y, rfl⟩
    · exact while_end (by rfl)
    · rw [List.concat_eq_append] at h ⊢
      have h2 : atI (I l ++ [.int y]) (-1) = some (.int y) := atI_last _ _
      by_cases e : y = 0
      · subst e
        have ih := pop_loop T a b bg m n l (by simp at h; omega)
        rw [trim_snoc0]
        refine while_step (e1 := ⟨[a, b, .own (I (l ++ [0])), .no], bg⟩) ?_ ?_ ih
        · simp (config := {implicitDefEqProofs := false}) (disch := omega) [h2, q_int, q_bl, q_non, q_nm, q_bin, q_neg, q_negI, q_not, q_bop, q_ife, q_cmp, q_ix, q_ixn, q_sl, q_sln, q_blt, q_lenn, q_isi, q_lst, q_tup, q_lc, q_push, q_pop, q_evc, q_to0, q_to1, q_o0, q_o1, q_intD, q_a0, q_a1, q_tnt, q_tbop, q_tcmp, q_tval, q_tnm, q_iseq, q_irng, q_ienu, q_izip, q_irev, q_sset, q_stgt, q_spar, q_sput, q_sret, q_sretn, q_sife, q_swhl, q_sfor, q_sex, q_spass, q_sbrk, q_scnt, q_ss0, q_ss1, q_gonx, q_gort, q_gobk, q_goct, q_add, q_addl, q_addt, q_sub, q_mul, q_mull, q_mult, q_div, q_mod, q_pow, q_eq, q_ne, q_lt, q_le, q_gt, q_ge, q_is1, q_is2, q_is3, q_is4, q_is5, q_tr0, q_trb, q_tri, q_trl, q_trt, q_ixl, q_ixt, q_sll, q_slt, q_sls, q_lenl, q_lent, q_inti, q_absi, q_lisl, q_list, q_tupl, q_tupt, q_all, q_max, q_min, q_itl, q_itt, q_seql, q_seqt, q_rng1, q_rng2, q_enu1, q_enu2, q_end1, q_end2, q_own, q_val, q_st1, q_stt, q_sta0, q_sta1, q_re1, q_re0, q_appA, q_appioA, q_appkA, ↓bind_o, obind_some, List.getElem?_cons_zero, List.getElem?_cons_succ, List.set_cons_zero, List.set_cons_succ, lockS, slotL, Fz.atS, putL, runD, en0, vals, setS, opStop, wipeE, wipeS, restE, restS, plainS, szB_of, posB_of, b62_of, mulB_of, divB_of, powB_of, repB_one, timB_one, flat_one, I_rep, atI_0, atI_1, atI_2, atI_3, atI_4, ixN_of, cut_from, cut_to, eqv_int, eqv_none, shp_int, shp_bool, shp_none, zip_I]
        · have h3 : (I l ++ [PyData.int 0])[l.length]? = some (.int 0) := by rw [← I_len l]; simp
          simp (config := {implicitDefEqProofs := false}) (disch := omega) [h3, q_int, q_bl, q_non, q_nm, q_bin, q_neg, q_negI, q_not, q_bop, q_ife, q_cmp, q_ix, q_ixn, q_sl, q_sln, q_blt, q_lenn, q_isi, q_lst, q_tup, q_lc, q_push, q_pop, q_evc, q_to0, q_to1, q_o0, q_o1, q_intD, q_a0, q_a1, q_tnt, q_tbop, q_tcmp, q_tval, q_tnm, q_iseq, q_irng, q_ienu, q_izip, q_irev, q_sset, q_stgt, q_spar, q_sput, q_sret, q_sretn, q_sife, q_swhl, q_sfor, q_sex, q_spass, q_sbrk, q_scnt, q_ss0, q_ss1, q_gonx, q_gort, q_gobk, q_goct, q_add, q_addl, q_addt, q_sub, q_mul, q_mull, q_mult, q_div, q_mod, q_pow, q_eq, q_ne, q_lt, q_le, q_gt, q_ge, q_is1, q_is2, q_is3, q_is4, q_is5, q_tr0, q_trb, q_tri, q_trl, q_trt, q_ixl, q_ixt, q_sll, q_slt, q_sls, q_lenl, q_lent, q_inti, q_absi, q_lisl, q_list, q_tupl, q_tupt, q_all, q_max, q_min, q_itl, q_itt, q_seql, q_seqt, q_rng1, q_rng2, q_enu1, q_enu2, q_end1, q_end2, q_own, q_val, q_st1, q_stt, q_sta0, q_sta1, q_re1, q_re0, q_appA, q_appioA, q_appkA, ↓bind_o, obind_some, List.getElem?_cons_zero, List.getElem?_cons_succ, List.set_cons_zero, List.set_cons_succ, lockS, slotL, Fz.atS, putL, runD, en0, vals, setS, opStop, wipeE, wipeS, restE, restS, plainS, szB_of, posB_of, b62_of, mulB_of, divB_of, powB_of, repB_one, timB_one, flat_one, I_rep, atI_0, atI_1, atI_2, atI_3, atI_4, ixN_of, cut_from, cut_to, eqv_int, eqv_none, shp_int, shp_bool, shp_none, zip_I]
      · rw [trim_snoc _ e]
        refine while_end ?_
        simp (config := {implicitDefEqProofs := false}) (disch := omega) [h2, e, q_int, q_bl, q_non, q_nm, q_bin, q_neg, q_negI, q_not, q_bop, q_ife, q_cmp, q_ix, q_ixn, q_sl, q_sln, q_blt, q_lenn, q_isi, q_lst, q_tup, q_lc, q_push, q_pop, q_evc, q_to0, q_to1, q_o0, q_o1, q_intD, q_a0, q_a1, q_tnt, q_tbop, q_tcmp, q_tval, q_tnm, q_iseq, q_irng, q_ienu, q_izip, q_irev, q_sset, q_stgt, q_spar, q_sput, q_sret, q_sretn, q_sife, q_swhl, q_sfor, q_sex, q_spass, q_sbrk, q_scnt, q_ss0, q_ss1, q_gonx, q_gort, q_gobk, q_goct, q_add, q_addl, q_addt, q_sub, q_mul, q_mull, q_mult, q_div, q_mod, q_pow, q_eq, q_ne, q_lt, q_le, q_gt, q_ge, q_is1, q_is2, q_is3, q_is4, q_is5, q_tr0, q_trb, q_tri, q_trl, q_trt, q_ixl, q_ixt, q_sll, q_slt, q_sls, q_lenl, q_lent, q_inti, q_absi, q_lisl, q_list, q_tupl, q_tupt, q_all, q_max, q_min, q_itl, q_itt, q_seql, q_seqt, q_rng1, q_rng2, q_enu1, q_enu2, q_end1, q_end2, q_own, q_val, q_st1, q_stt, q_sta0, q_sta1, q_re1, q_re0, q_appA, q_appioA, q_appkA, ↓bind_o, obind_some, List.getElem?_cons_zero, List.getElem?_cons_succ, List.set_cons_zero, List.set_cons_succ, lockS, slotL, Fz.atS, putL, runD, en0, vals, setS, opStop, wipeE, wipeS, restE, restS, plainS, szB_of, posB_of, b62_of, mulB_of, divB_of, powB_of, repB_one, timB_one, flat_one, I_rep, atI_0, atI_1, atI_2, atI_3, atI_4, ixN_of, cut_from, cut_to, eqv_int, eqv_none, shp_int, shp_bool, shp_none, zip_I]
theorem run_form_of (hN : N.length = 4) {ds : List D} {z : Bool × D × List D} (h : d_form_of ds = some z) : runD ⟨N, fs, WW⟩ 60 false B_form_of ds = some z := by
  unfold d_form_of at h
  split at h
  · rename_i p d
    simp only [Option.bind_eq_some_iff] at h
    obtain ⟨q, hq, ns, hns, h⟩ := h
    split at h
    · rename_i hp
      cases h
      obtain ⟨hp, hl⟩ := hp
      have hi : itemsD d = some (I ns) := by rw [items_of hq, seqI hq hns]
      have hc : ∀ n, lcL (evC ⟨N, fs, WW⟩ (n + 5) (.one 3) [3] none (.bin .Mod (.nm 3) (.nm 0))) (I ns) ⟨[.val (.int p), .val d, .no, .no], []⟩ = some (I (ns.map (· % p)), ⟨[.val (.int p), .val d, .no, .no], []⟩) := by
        intro n
        rw [show I (ns.map (· % p)) = ns.map fun x => PyData.int (x % p) by simp [I]]
        refine lcL_pure _ _ fun x _ => ?_
        simp (config := {implicitDefEqProofs := false}) (disch := omega) [q_int, q_bl, q_non, q_nm, q_bin, q_neg, q_negI, q_not, q_bop, q_ife, q_cmp, q_ix, q_ixn, q_sl, q_sln, q_blt, q_lenn, q_isi, q_lst, q_tup, q_lc, q_push, q_pop, q_evc, q_to0, q_to1, q_o0, q_o1, q_intD, q_a0, q_a1, q_tnt, q_tbop, q_tcmp, q_tval, q_tnm, q_iseq, q_irng, q_ienu, q_izip, q_irev, q_sset, q_stgt, q_spar, q_sput, q_sret, q_sretn, q_sife, q_swhl, q_sfor, q_sex, q_spass, q_sbrk, q_scnt, q_ss0, q_ss1, q_gonx, q_gort, q_gobk, q_goct, q_add, q_addl, q_addt, q_sub, q_mul, q_mull, q_mult, q_div, q_mod, q_pow, q_eq, q_ne, q_lt, q_le, q_gt, q_ge, q_is1, q_is2, q_is3, q_is4, q_is5, q_tr0, q_trb, q_tri, q_trl, q_trt, q_ixl, q_ixt, q_sll, q_slt, q_sls, q_lenl, q_lent, q_inti, q_absi, q_lisl, q_list, q_tupl, q_tupt, q_all, q_max, q_min, q_itl, q_itt, q_seql, q_seqt, q_rng1, q_rng2, q_enu1, q_enu2, q_end1, q_end2, q_own, q_val, q_st1, q_stt, q_sta0, q_sta1, q_re1, q_re0, q_appA, q_appioA, q_appkA, ↓bind_o, obind_some, List.getElem?_cons_zero, List.getElem?_cons_succ, List.set_cons_zero, List.set_cons_succ, lockS, slotL, Fz.atS, putL, runD, en0, vals, setS, opStop, wipeE, wipeS, restE, restS, plainS, szB_of, posB_of, b62_of, mulB_of, divB_of, powB_of, repB_one, timB_one, flat_one, I_rep, atI_0, atI_1, atI_2, atI_3, atI_4, ixN_of, cut_from, cut_to, eqv_int, eqv_none, shp_int, shp_bool, shp_none, zip_I]
      have hw := fun m => pop_loop ⟨N, fs, WW⟩ (.val (.int p)) (.val d) [] m WW (ns.map (· % p)) (by rw [List.length_map]; show ns.length < 1048576; omega)
      simp (config := {implicitDefEqProofs := false}) (disch := omega) [B_form_of, hN, hi, hc, hw, formOf, q_int, q_bl, q_non, q_nm, q_bin, q_neg, q_negI, q_not, q_bop, q_ife, q_cmp, q_ix, q_ixn, q_sl, q_sln, q_blt, q_lenn, q_isi, q_lst, q_tup, q_lc, q_push, q_pop, q_evc, q_to0, q_to1, q_o0, q_o1, q_intD, q_a0, q_a1, q_tnt, q_tbop, q_tcmp, q_tval, q_tnm, q_iseq, q_irng, q_ienu, q_izip, q_irev, q_sset, q_stgt, q_spar, q_sput, q_sret, q_sretn, q_sife, q_swhl, q_sfor, q_sex, q_spass, q_sbrk, q_scnt, q_ss0, q_ss1, q_gonx, q_gort, q_gobk, q_goct, q_add, q_addl, q_addt, q_sub, q_mul, q_mull, q_mult, q_div, q_mod, q_pow, q_eq, q_ne, q_lt, q_le, q_gt, q_ge, q_is1, q_is2, q_is3, q_is4, q_is5, q_tr0, q_trb, q_tri, q_trl, q_trt, q_ixl, q_ixt, q_sll, q_slt, q_sls, q_lenl, q_lent, q_inti, q_absi, q_lisl, q_list, q_tupl, q_tupt, q_all, q_max, q_min, q_itl, q_itt, q_seql, q_seqt, q_rng1, q_rng2, q_enu1, q_enu2, q_end1, q_end2, q_own, q_val, q_st1, q_stt, q_sta0, q_sta1, q_re1, q_re0, q_appA, q_appioA, q_appkA, ↓bind_o, obind_some, List.getElem?_cons_zero, List.getElem?_cons_succ, List.set_cons_zero, List.set_cons_succ, lockS, slotL, Fz.atS, putL, runD, en0, vals, setS, opStop, wipeE, wipeS, restE, restS, plainS, szB_of, posB_of, b62_of, mulB_of, divB_of, powB_of, repB_one, timB_one, flat_one, I_rep, atI_0, atI_1, atI_2, atI_3, atI_4, ixN_of, cut_from, cut_to, eqv_int, eqv_none, shp_int, shp_bool, shp_none, zip_I]
    · cases h
  · cases h
theorem run_degree_of (hN : N.length = 1) {ds : List D} {z : Bool × D × List D} (h : d_degree_of ds = some z) : runD ⟨N, fs, WW⟩ 60 false B_degree_of ds = some z := by
  unfold d_degree_of at h
  split at h
  · rename_i l
    simp only [Option.bind_eq_some_iff, Option.some.injEq] at h
    obtain ⟨f, hf, rfl⟩ := h
    rw [allI_eq hf]
    cases f with
    | nil => rfl
    | cons x f => simp (config := {implicitDefEqProofs := false}) (disch := omega) [B_degree_of, hN, q_int, q_bl, q_non, q_nm, q_bin, q_neg, q_negI, q_not, q_bop, q_ife, q_cmp, q_ix, q_ixn, q_sl, q_sln, q_blt, q_lenn, q_isi, q_lst, q_tup, q_lc, q_push, q_pop, q_evc, q_to0, q_to1, q_o0, q_o1, q_intD, q_a0, q_a1, q_tnt, q_tbop, q_tcmp, q_tval, q_tnm, q_iseq, q_irng, q_ienu, q_izip, q_irev, q_sset, q_stgt, q_spar, q_sput, q_sret, q_sretn, q_sife, q_swhl, q_sfor, q_sex, q_spass, q_sbrk, q_scnt, q_ss0, q_ss1, q_gonx, q_gort, q_gobk, q_goct, q_add, q_addl, q_addt, q_sub, q_mul, q_mull, q_mult, q_div, q_mod, q_pow, q_eq, q_ne, q_lt, q_le, q_gt, q_ge, q_is1, q_is2, q_is3, q_is4, q_is5, q_tr0, q_trb, q_tri, q_trl, q_trt, q_ixl, q_ixt, q_sll, q_slt, q_sls, q_lenl, q_lent, q_inti, q_absi, q_lisl, q_list, q_tupl, q_tupt, q_all, q_max, q_min, q_itl, q_itt, q_seql, q_seqt, q_rng1, q_rng2, q_enu1, q_enu2, q_end1, q_end2, q_own, q_val, q_st1, q_stt, q_sta0, q_sta1, q_re1, q_re0, q_appA, q_appioA, q_appkA, ↓bind_o, obind_some, List.getElem?_cons_zero, List.getElem?_cons_succ, List.set_cons_zero, List.set_cons_succ, lockS, slotL, Fz.atS, putL, runD, en0, vals, setS, opStop, wipeE, wipeS, restE, restS, plainS, szB_of, posB_of, b62_of, mulB_of, divB_of, powB_of, repB_one, timB_one, flat_one, I_rep, atI_0, atI_1, atI_2, atI_3, atI_4, ixN_of, cut_from, cut_to, eqv_int, eqv_none, shp_int, shp_bool, shp_none, zip_I]
  · cases h
theorem run_add (hN : N.length = 7) (hF : At fs j1 false 2 d_form_of) {ds : List D} {z : Bool × D × List D} (h : d_add ds = some z) : runD ⟨N, fs, WW⟩ 60 false (B_add j1) ds = some z := by
  unfold d_add two at h
  split at h
  · rename_i p a b
    simp only [Option.bind_eq_some_iff] at h
    obtain ⟨f, hf, g, hg, h⟩ := h
    split at h
    · rename_i hp
      simp only [Option.map_some, Option.some.injEq] at h
      cases h
      rw [allI_eq hf, allI_eq hg]
      obtain ⟨hp, h1, h2⟩ := hp
      have hc : ∀ n, lcL (evC ⟨N, fs, WW⟩ (n + 5) (.tup [4, 5]) [4, 5] none (.bin .Add (.nm 4) (.nm 5))) ((f.zip g).map fun q => PyData.tuple [.int q.1, .int q.2]) ⟨[.val (.int p), .val (.tuple (I f)), .val (.tuple (I g)), .no, .no, .no, .no], []⟩ = some (I ((f.zip g).map fun q => q.1 + q.2), ⟨[.val (.int p), .val (.tuple (I f)), .val (.tuple (I g)), .no, .no, .no, .no], []⟩) := by
        intro n
        rw [show I ((f.zip g).map fun q => q.1 + q.2) = (f.zip g).map fun q => PyData.int (q.1 + q.2) by simp [I]]
        refine lcL_pure _ _ fun x _ => ?_
        simp (config := {implicitDefEqProofs := false}) (disch := omega) [q_int, q_bl, q_non, q_nm, q_bin, q_neg, q_negI, q_not, q_bop, q_ife, q_cmp, q_ix, q_ixn, q_sl, q_sln, q_blt, q_lenn, q_isi, q_lst, q_tup, q_lc, q_push, q_pop, q_evc, q_to0, q_to1, q_o0, q_o1, q_intD, q_a0, q_a1, q_tnt, q_tbop, q_tcmp, q_tval, q_tnm, q_iseq, q_irng, q_ienu, q_izip, q_irev, q_sset, q_stgt, q_spar, q_sput, q_sret, q_sretn, q_sife, q_swhl, q_sfor, q_sex, q_spass, q_sbrk, q_scnt, q_ss0, q_ss1, q_gonx, q_gort, q_gobk, q_goct, q_add, q_addl, q_addt, q_sub, q_mul, q_mull, q_mult, q_div, q_mod, q_pow, q_eq, q_ne, q_lt, q_le, q_gt, q_ge, q_is1, q_is2, q_is3, q_is4, q_is5, q_tr0, q_trb, q_tri, q_trl, q_trt, q_ixl, q_ixt, q_sll, q_slt, q_sls, q_lenl, q_lent, q_inti, q_absi, q_lisl, q_list, q_tupl, q_tupt, q_all, q_max, q_min, q_itl, q_itt, q_seql, q_seqt, q_rng1, q_rng2, q_enu1, q_enu2, q_end1, q_end2, q_own, q_val, q_st1, q_stt, q_sta0, q_sta1, q_re1, q_re0, q_appA, q_appioA, q_appkA, ↓bind_o, obind_some, List.getElem?_cons_zero, List.getElem?_cons_succ, List.set_cons_zero, List.set_cons_succ, lockS, slotL, Fz.atS, putL, runD, en0, vals, setS, opStop, wipeE, wipeS, restE, restS, plainS, szB_of, posB_of, b62_of, mulB_of, divB_of, powB_of, repB_one, timB_one, flat_one, I_rep, atI_0, atI_1, atI_2, atI_3, atI_4, ixN_of, cut_from, cut_to, eqv_int, eqv_none, shp_int, shp_bool, shp_none, zip_I]
      have hd := call_form hF (p := p) (l := I (List.map (fun q => q.1 + q.2) (f.zip g)) ++ (I (List.drop (min f.length g.length) f) ++ I (List.drop (min f.length g.length) g))) (ns := zadd f g) hp (by unfold zadd; simp; omega) (by simp [zadd])
      simp (config := {implicitDefEqProofs := false}) (disch := omega) [B_add, hN, hc, hF, hd, q_int, q_bl, q_non, q_nm, q_bin, q_neg, q_negI, q_not, q_bop, q_ife, q_cmp, q_ix, q_ixn, q_sl, q_sln, q_blt, q_lenn, q_isi, q_lst, q_tup, q_lc, q_push, q_pop, q_evc, q_to0, q_to1, q_o0, q_o1, q_intD, q_a0, q_a1, q_tnt, q_tbop, q_tcmp, q_tval, q_tnm, q_iseq, q_irng, q_ienu, q_izip, q_irev, q_sset, q_stgt, q_spar, q_sput, q_sret, q_sretn, q_sife, q_swhl, q_sfor, q_sex, q_spass, q_sbrk, q_scnt, q_ss0, q_ss1, q_gonx, q_gort, q_gobk, q_goct, q_add, q_addl, q_addt, q_sub, q_mul, q_mull, q_mult, q_div, q_mod, q_pow, q_eq, q_ne, q_lt, q_le, q_gt, q_ge, q_is1, q_is2, q_is3, q_is4, q_is5, q_tr0, q_trb, q_tri, q_trl, q_trt, q_ixl, q_ixt, q_sll, q_slt, q_sls, q_lenl, q_lent, q_inti, q_absi, q_lisl, q_list, q_tupl, q_tupt, q_all, q_max, q_min, q_itl, q_itt, q_seql, q_seqt, q_rng1, q_rng2, q_enu1, q_enu2, q_end1, q_end2, q_own, q_val, q_st1, q_stt, q_sta0, q_sta1, q_re1, q_re0, q_appA, q_appioA, q_appkA, ↓bind_o, obind_some, List.getElem?_cons_zero, List.getElem?_cons_succ, List.set_cons_zero, List.set_cons_succ, lockS, slotL, Fz.atS, putL, runD, en0, vals, setS, opStop, wipeE, wipeS, restE, restS, plainS, szB_of, posB_of, b62_of, mulB_of, divB_of, powB_of, repB_one, timB_one, flat_one, I_rep, atI_0, atI_1, atI_2, atI_3, atI_4, ixN_of, cut_from, cut_to, eqv_int, eqv_none, shp_int, shp_bool, shp_none, zip_I]
    · cases h
  · cases h
theorem run_subtract (hN : N.length = 7) (hF : At fs j1 false 2 d_form_of) {ds : List D} {z : Bool × D × List D} (h : d_subtract ds = some z) : runD ⟨N, fs, WW⟩ 60 false (B_subtract j1) ds = some z := by
  unfold d_subtract two at h
  split at h
  · rename_i p a b
    simp only [Option.bind_eq_some_iff] at h
    obtain ⟨f, hf, g, hg, h⟩ := h
    split at h
    · rename_i hp
      simp only [Option.map_some, Option.some.injEq] at h
      cases h
      rw [allI_eq hf, allI_eq hg]
      obtain ⟨hp, h1, h2⟩ := hp
      have hc : ∀ n, lcL (evC ⟨N, fs, WW⟩ (n + 5) (.tup [4, 5]) [4, 5] none (.bin .Sub (.nm 4) (.nm 5))) ((f.zip g).map fun q => PyData.tuple [.int q.1, .int q.2]) ⟨[.val (.int p), .val (.tuple (I f)), .val (.tuple (I g)), .no, .no, .no, .no], []⟩ = some (I ((f.zip g).map fun q => q.1 - q.2), ⟨[.val (.int p), .val (.tuple (I f)), .val (.tuple (I g)), .no, .no, .no, .no], []⟩) := by
        intro n
        rw [show I ((f.zip g).map fun q => q.1 - q.2) = (f.zip g).map fun q => PyData.int (q.1 - q.2) by simp [I]]
        refine lcL_pure _ _ fun x _ => ?_
        simp (config := {implicitDefEqProofs := false}) (disch := omega) [q_int, q_bl, q_non, q_nm, q_bin, q_neg, q_negI, q_not, q_bop, q_ife, q_cmp, q_ix, q_ixn, q_sl, q_sln, q_blt, q_lenn, q_isi, q_lst, q_tup, q_lc, q_push, q_pop, q_evc, q_to0, q_to1, q_o0, q_o1, q_intD, q_a0, q_a1, q_tnt, q_tbop, q_tcmp, q_tval, q_tnm, q_iseq, q_irng, q_ienu, q_izip, q_irev, q_sset, q_stgt, q_spar, q_sput, q_sret, q_sretn, q_sife, q_swhl, q_sfor, q_sex, q_spass, q_sbrk, q_scnt, q_ss0, q_ss1, q_gonx, q_gort, q_gobk, q_goct, q_add, q_addl, q_addt, q_sub, q_mul, q_mull, q_mult, q_div, q_mod, q_pow, q_eq, q_ne, q_lt, q_le, q_gt, q_ge, q_is1, q_is2, q_is3, q_is4, q_is5, q_tr0, q_trb, q_tri, q_trl, q_trt, q_ixl, q_ixt, q_sll, q_slt, q_sls, q_lenl, q_lent, q_inti, q_absi, q_lisl, q_list, q_tupl, q_tupt, q_all, q_max, q_min, q_itl, q_itt, q_seql, q_seqt, q_rng1, q_rng2, q_enu1, q_enu2, q_end1, q_end2, q_own, q_val, q_st1, q_stt, q_sta0, q_sta1, q_re1, q_re0, q_appA, q_appioA, q_appkA, ↓bind_o, obind_some, List.getElem?_cons_zero, List.getElem?_cons_succ, List.set_cons_zero, List.set_cons_succ, lockS, slotL, Fz.atS, putL, runD, en0, vals, setS, opStop, wipeE, wipeS, restE, restS, plainS, szB_of, posB_of, b62_of, mulB_of, divB_of, powB_of, repB_one, timB_one, flat_one, I_rep, atI_0, atI_1, atI_2, atI_3, atI_4, ixN_of, cut_from, cut_to, eqv_int, eqv_none, shp_int, shp_bool, shp_none, zip_I]
      have hc2 : ∀ n (s : Sl) (k : Sl) (xs : List Int), lcL (evC ⟨N, fs, WW⟩ (n + 5) (.one 5) [5] none (.neg (.nm 5))) (I xs) ⟨[.val (.int p), .val (.tuple (I f)), .val (.tuple (I g)), s, .no, .no, k], []⟩ = some (I (xs.map (- ·)), ⟨[.val (.int p), .val (.tuple (I f)), .val (.tuple (I g)), s, .no, .no, k], []⟩) := by
        intro n s k xs
        rw [show I (xs.map (- ·)) = xs.map fun x => PyData.int (- x) by simp [I]]
        refine lcL_pure _ _ fun x _ => ?_
        simp (config := {implicitDefEqProofs := false}) (disch := omega) [q_int, q_bl, q_non, q_nm, q_bin, q_neg, q_negI, q_not, q_bop, q_ife, q_cmp, q_ix, q_ixn, q_sl, q_sln, q_blt, q_lenn, q_isi, q_lst, q_tup, q_lc, q_push, q_pop, q_evc, q_to0, q_to1, q_o0, q_o1, q_intD, q_a0, q_a1, q_tnt, q_tbop, q_tcmp, q_tval, q_tnm, q_iseq, q_irng, q_ienu, q_izip, q_irev, q_sset, q_stgt, q_spar, q_sput, q_sret, q_sretn, q_sife, q_swhl, q_sfor, q_sex, q_spass, q_sbrk, q_scnt, q_ss0, q_ss1, q_gonx, q_gort, q_gobk, q_goct, q_add, q_addl, q_addt, q_sub, q_mul, q_mull, q_mult, q_div, q_mod, q_pow, q_eq, q_ne, q_lt, q_le, q_gt, q_ge, q_is1, q_is2, q_is3, q_is4, q_is5, q_tr0, q_trb, q_tri, q_trl, q_trt, q_ixl, q_ixt, q_sll, q_slt, q_sls, q_lenl, q_lent, q_inti, q_absi, q_lisl, q_list, q_tupl, q_tupt, q_all, q_max, q_min, q_itl, q_itt, q_seql, q_seqt, q_rng1, q_rng2, q_enu1, q_enu2, q_end1, q_end2, q_own, q_val, q_st1, q_stt, q_sta0, q_sta1, q_re1, q_re0, q_appA, q_appioA, q_appkA, ↓bind_o, obind_some, List.getElem?_cons_zero, List.getElem?_cons_succ, List.set_cons_zero, List.set_cons_succ, lockS, slotL, Fz.atS, putL, runD, en0, vals, setS, opStop, wipeE, wipeS, restE, restS, plainS, szB_of, posB_of, b62_of, mulB_of, divB_of, powB_of, repB_one, timB_one, flat_one, I_rep, atI_0, atI_1, atI_2, atI_3, atI_4, ixN_of, cut_from, cut_to, eqv_int, eqv_none, shp_int, shp_bool, shp_none, zip_I]
      have hd := call_form hF (p := p) (l := I (List.map (fun q => q.1 - q.2) (f.zip g)) ++ (I (List.drop (min f.length g.length) f) ++ I (List.drop (min f.length g.length) (g.map (- ·))))) (ns := zsub f g) hp (by unfold zsub; simp; omega) (by simp [zsub])
      simp (config := {implicitDefEqProofs := false}) (disch := omega) [B_subtract, hN, hc, hc2, hF, hd, q_int, q_bl, q_non, q_nm, q_bin, q_neg, q_negI, q_not, q_bop, q_ife, q_cmp, q_ix, q_ixn, q_sl, q_sln, q_blt, q_lenn, q_isi, q_lst, q_tup, q_lc, q_push, q_pop, q_evc, q_to0, q_to1, q_o0, q_o1, q_intD, q_a0, q_a1, q_tnt, q_tbop, q_tcmp, q_tval, q_tnm, q_iseq, q_irng, q_ienu, q_izip, q_irev, q_sset, q_stgt, q_spar, q_sput, q_sret, q_sretn, q_sife, q_swhl, q_sfor, q_sex, q_spass, q_sbrk, q_scnt, q_ss0, q_ss1, q_gonx, q_gort, q_gobk, q_goct, q_add, q_addl, q_addt, q_sub, q_mul, q_mull, q_mult, q_div, q_mod, q_pow, q_eq, q_ne, q_lt, q_le, q_gt, q_ge, q_is1, q_is2, q_is3, q_is4, q_is5, q_tr0, q_trb, q_tri, q_trl, q_trt, q_ixl, q_ixt, q_sll, q_slt, q_sls, q_lenl, q_lent, q_inti, q_absi, q_lisl, q_list, q_tupl, q_tupt, q_all, q_max, q_min, q_itl, q_itt, q_seql, q_seqt, q_rng1, q_rng2, q_enu1, q_enu2, q_end1, q_end2, q_own, q_val, q_st1, q_stt, q_sta0, q_sta1, q_re1, q_re0, q_appA, q_appioA, q_appkA, ↓bind_o, obind_some, List.getElem?_cons_zero, List.getElem?_cons_succ, List.set_cons_zero, List.set_cons_succ, lockS, slotL, Fz.atS, putL, runD, en0, vals, setS, opStop, wipeE, wipeS, restE, restS, plainS, szB_of, posB_of, b62_of, mulB_of, divB_of, powB_of, repB_one, timB_one, flat_one, I_rep, atI_0, atI_1, atI_2, atI_3, atI_4, ixN_of, cut_from, cut_to, eqv_int, eqv_none, shp_int, shp_bool, shp_none, zip_I]
    · cases h
  · cases h
theorem run_scaled (hN : N.length = 4) (hF : At fs j1 false 2 d_form_of) {ds : List D} {z : Bool × D × List D} (h : d_scaled ds = some z) : runD ⟨N, fs, WW⟩ 60 false (B_scaled j1) ds = some z := by
  unfold d_scaled at h
  split at h
  · rename_i p a m
    simp only [Option.bind_eq_some_iff] at h
    obtain ⟨f, hf, h⟩ := h
    split at h
    · rename_i hp
      cases h
      rw [allI_eq hf]
      obtain ⟨hp, h1, h2, h3⟩ := hp
      have hc : ∀ n, lcL (evC ⟨N, fs, WW⟩ (n + 5) (.one 3) [3] none (.bin .Mult (.nm 2) (.nm 3))) (I f) ⟨[.val (.int p), .val (.tuple (I f)), .val (.int m), .no], []⟩ = some (I (f.map (m * ·)), ⟨[.val (.int p), .val (.tuple (I f)), .val (.int m), .no], []⟩) := by
        intro n
        rw [show I (f.map (m * ·)) = f.map fun x => PyData.int (m * x) by simp [I]]
        refine lcL_pure _ _ fun x hx => ?_
        have hm := small_mul h2 (h3 x hx)
        simp (config := {implicitDefEqProofs := false}) (disch := omega) [hm, q_int, q_bl, q_non, q_nm, q_bin, q_neg, q_negI, q_not, q_bop, q_ife, q_cmp, q_ix, q_ixn, q_sl, q_sln, q_blt, q_lenn, q_isi, q_lst, q_tup, q_lc, q_push, q_pop, q_evc, q_to0, q_to1, q_o0, q_o1, q_intD, q_a0, q_a1, q_tnt, q_tbop, q_tcmp, q_tval, q_tnm, q_iseq, q_irng, q_ienu, q_izip, q_irev, q_sset, q_stgt, q_spar, q_sput, q_sret, q_sretn, q_sife, q_swhl, q_sfor, q_sex, q_spass, q_sbrk, q_scnt, q_ss0, q_ss1, q_gonx, q_gort, q_gobk, q_goct, q_add, q_addl, q_addt, q_sub, q_mul, q_mull, q_mult, q_div, q_mod, q_pow, q_eq, q_ne, q_lt, q_le, q_gt, q_ge, q_is1, q_is2, q_is3, q_is4, q_is5, q_tr0, q_trb, q_tri, q_trl, q_trt, q_ixl, q_ixt, q_sll, q_slt, q_sls, q_lenl, q_lent, q_inti, q_absi, q_lisl, q_list, q_tupl, q_tupt, q_all, q_max, q_min, q_itl, q_itt, q_seql, q_seqt, q_rng1, q_rng2, q_enu1, q_enu2, q_end1, q_end2, q_own, q_val, q_st1, q_stt, q_sta0, q_sta1, q_re1, q_re0, q_appA, q_appioA, q_appkA, ↓bind_o, obind_some, List.getElem?_cons_zero, List.getElem?_cons_succ, List.set_cons_zero, List.set_cons_succ, lockS, slotL, Fz.atS, putL, runD, en0, vals, setS, opStop, wipeE, wipeS, restE, restS, plainS, szB_of, posB_of, b62_of, mulB_of, divB_of, powB_of, repB_one, timB_one, flat_one, I_rep, atI_0, atI_1, atI_2, atI_3, atI_4, ixN_of, cut_from, cut_to, eqv_int, eqv_none, shp_int, shp_bool, shp_none, zip_I]
      have hd := call_form hF (p := p) (ns := f.map (m * ·)) hp (by simp; omega) rfl
      simp (config := {implicitDefEqProofs := false}) (disch := omega) [B_scaled, hN, hc, hF, hd, q_int, q_bl, q_non, q_nm, q_bin, q_neg, q_negI, q_not, q_bop, q_ife, q_cmp, q_ix, q_ixn, q_sl, q_sln, q_blt, q_lenn, q_isi, q_lst, q_tup, q_lc, q_push, q_pop, q_evc, q_to0, q_to1, q_o0, q_o1, q_intD, q_a0, q_a1, q_tnt, q_tbop, q_tcmp, q_tval, q_tnm, q_iseq, q_irng, q_ienu, q_izip, q_irev, q_sset, q_stgt, q_spar, q_sput, q_sret, q_sretn, q_sife, q_swhl, q_sfor, q_sex, q_spass, q_sbrk, q_scnt, q_ss0, q_ss1, q_gonx, q_gort, q_gobk, q_goct, q_add, q_addl, q_addt, q_sub, q_mul, q_mull, q_mult, q_div, q_mod, q_pow, q_eq, q_ne, q_lt, q_le, q_gt, q_ge, q_is1, q_is2, q_is3, q_is4, q_is5, q_tr0, q_trb, q_tri, q_trl, q_trt, q_ixl, q_ixt, q_sll, q_slt, q_sls, q_lenl, q_lent, q_inti, q_absi, q_lisl, q_list, q_tupl, q_tupt, q_all, q_max, q_min, q_itl, q_itt, q_seql, q_seqt, q_rng1, q_rng2, q_enu1, q_enu2, q_end1, q_end2, q_own, q_val, q_st1, q_stt, q_sta0, q_sta1, q_re1, q_re0, q_appA, q_appioA, q_appkA, ↓bind_o, obind_some, List.getElem?_cons_zero, List.getElem?_cons_succ, List.set_cons_zero, List.set_cons_succ, lockS, slotL, Fz.atS, putL, runD, en0, vals, setS, opStop, wipeE, wipeS, restE, restS, plainS, szB_of, posB_of, b62_of, mulB_of, divB_of, powB_of, repB_one, timB_one, flat_one, I_rep, atI_0, atI_1, atI_2, atI_3, atI_4, ixN_of, cut_from, cut_to, eqv_int, eqv_none, shp_int, shp_bool, shp_none, zip_I]
    · cases h
  · cases h
theorem run_raised (hN : N.length = 2) {ds : List D} {z : Bool × D × List D} (h : d_raised ds = some z) : runD ⟨N, fs, WW⟩ 60 false B_raised ds = some z := by
  unfold d_raised at h
  split at h
  · rename_i a m
    simp only [Option.bind_eq_some_iff] at h
    obtain ⟨f, hf, h⟩ := h
    split at h
    · rename_i hp
      cases h
      rw [allI_eq hf]
      obtain ⟨hp, h1, h2⟩ := hp
      cases f with
      | nil => rfl
      | cons x f =>
        have h3 : f.length + 1 ≤ 40000 := h2
        simp (config := {implicitDefEqProofs := false}) (disch := omega) [B_raised, hN, q_int, q_bl, q_non, q_nm, q_bin, q_neg, q_negI, q_not, q_bop, q_ife, q_cmp, q_ix, q_ixn, q_sl, q_sln, q_blt, q_lenn, q_isi, q_lst, q_tup, q_lc, q_push, q_pop, q_evc, q_to0, q_to1, q_o0, q_o1, q_intD, q_a0, q_a1, q_tnt, q_tbop, q_tcmp, q_tval, q_tnm, q_iseq, q_irng, q_ienu, q_izip, q_irev, q_sset, q_stgt, q_spar, q_sput, q_sret, q_sretn, q_sife, q_swhl, q_sfor, q_sex, q_spass, q_sbrk, q_scnt, q_ss0, q_ss1, q_gonx, q_gort, q_gobk, q_goct, q_add, q_addl, q_addt, q_sub, q_mul, q_mull, q_mult, q_div, q_mod, q_pow, q_eq, q_ne, q_lt, q_le, q_gt, q_ge, q_is1, q_is2, q_is3, q_is4, q_is5, q_tr0, q_trb, q_tri, q_trl, q_trt, q_ixl, q_ixt, q_sll, q_slt, q_sls, q_lenl, q_lent, q_inti, q_absi, q_lisl, q_list, q_tupl, q_tupt, q_all, q_max, q_min, q_itl, q_itt, q_seql, q_seqt, q_rng1, q_rng2, q_enu1, q_enu2, q_end1, q_end2, q_own, q_val, q_st1, q_stt, q_sta0, q_sta1, q_re1, q_re0, q_appA, q_appioA, q_appkA, ↓bind_o, obind_some, List.getElem?_cons_zero, List.getElem?_cons_succ, List.set_cons_zero, List.set_cons_succ, lockS, slotL, Fz.atS, putL, runD, en0, vals, setS, opStop, wipeE, wipeS, restE, restS, plainS, szB_of, posB_of, b62_of, mulB_of, divB_of, powB_of, repB_one, timB_one, flat_one, I_rep, atI_0, atI_1, atI_2, atI_3, atI_4, ixN_of, cut_from, cut_to, eqv_int, eqv_none, shp_int, shp_bool, shp_none, zip_I]
    · cases h
  · cases h
theorem value_loop (T : Tb) {p c : Int} (F : Sl) (bg : List D) (hp : 0 < p) (hp2 : p < 4294967296) (h0 : 0 ≤ c) (h1 : c < 4294967296) (n : Nat) : ∀ (xs : List Int) (v : Int) (s : Sl), 0 ≤ v → v < 4294967296 →
    ∃ s', forL (bodyF T (n + 9) (.one 4) [.set 3 (.bin .Mod (.bin .Add (.bin .Mult (.nm 3) (.nm 2)) (.nm 4)) (.nm 0))]) (I xs) ⟨[.val (.int p), F, .val (.int c), .val (.int v), s], bg⟩ = some (.nx ⟨[.val (.int p), F, .val (.int c), .val (.int (xs.foldl (fun v r => (v * c + r) % p) v)), s'], bg⟩) := by
  intro xs
  induction xs with
  | nil => intro v s _ _; exact ⟨s, rfl⟩
  | cons x xs IH =>
    intro v s hv hv2
    have h2 := Int.emod_nonneg (v * c + x) (show p ≠ 0 by omega)
    have h3 := Int.emod_lt_of_pos (v * c + x) hp
    obtain ⟨s', ih⟩ := IH ((v * c + x) % p) (.val (.int x)) h2 (by omega)
    refine ⟨s', ?_⟩
    rw [I_cons, forL_nx (e2 := ⟨[.val (.int p), F, .val (.int c), .val (.int ((v * c + x) % p)), .val (.int x)], bg⟩) (by simp (config := {implicitDefEqProofs := false}) (disch := omega) [bodyF, q_int, q_bl, q_non, q_nm, q_bin, q_neg, q_negI, q_not, q_bop, q_ife, q_cmp, q_ix, q_ixn, q_sl, q_sln, q_blt, q_lenn, q_isi, q_lst, q_tup, q_lc, q_push, q_pop, q_evc, q_to0, q_to1, q_o0, q_o1, q_intD, q_a0, q_a1, q_tnt, q_tbop, q_tcmp, q_tval, q_tnm, q_iseq, q_irng, q_ienu, q_izip, q_irev, q_sset, q_stgt, q_spar, q_sput, q_sret, q_sretn, q_sife, q_swhl, q_sfor, q_sex, q_spass, q_sbrk, q_scnt, q_ss0, q_ss1, q_gonx, q_gort, q_gobk, q_goct, q_add, q_addl, q_addt, q_sub, q_mul, q_mull, q_mult, q_div, q_mod, q_pow, q_eq, q_ne, q_lt, q_le, q_gt, q_ge, q_is1, q_is2, q_is3, q_is4, q_is5, q_tr0, q_trb, q_tri, q_trl, q_trt, q_ixl, q_ixt, q_sll, q_slt, q_sls, q_lenl, q_lent, q_inti, q_absi, q_lisl, q_list, q_tupl, q_tupt, q_all, q_max, q_min, q_itl, q_itt, q_seql, q_seqt, q_rng1, q_rng2, q_enu1, q_enu2, q_end1, q_end2, q_own, q_val, q_st1, q_stt, q_sta0, q_sta1, q_re1, q_re0, q_appA, q_appioA, q_appkA, ↓bind_o, obind_some, List.getElem?_cons_zero, List.getElem?_cons_succ, List.set_cons_zero, List.set_cons_succ, lockS, slotL, Fz.atS, putL, runD, en0, vals, setS, opStop, wipeE, wipeS, restE, restS, plainS, szB_of, posB_of, b62_of, mulB_of, divB_of, powB_of, repB_one, timB_one, flat_one, I_rep, atI_0, atI_1, atI_2, atI_3, atI_4, ixN_of, cut_from, cut_to, eqv_int, eqv_none, shp_int, shp_bool, shp_none, zip_I])]
    exact ih
theorem run_value_at (hN : N.length = 5) {ds : List D} {z : Bool × D × List D} (h : d_value_at ds = some z) : runD ⟨N, fs, WW⟩ 60 false B_value_at ds = some z := by
  unfold d_value_at at h
  split at h
  · rename_i p a c
    simp only [Option.bind_eq_some_iff] at h
    obtain ⟨f, hf, h⟩ := h
    split at h
    · rename_i hp
      cases h
      rw [allI_eq hf]
      obtain ⟨hp, h1, h2, h3⟩ := hp
      obtain ⟨s', hv⟩ := value_loop ⟨N, fs, WW⟩ (.val (.tuple (I f))) [] hp h1 h2 h3 48 f.reverse 0 .no (by decide) (by decide)
      have hh : horner p c f = f.reverse.foldl (fun v r => (v * c + r) % p) 0 := by unfold horner; rw [List.foldl_reverse]
      rw [hh]
      simp (config := {implicitDefEqProofs := false}) (disch := omega) [B_value_at, hN, I_rev, hv, q_int, q_bl, q_non, q_nm, q_bin, q_neg, q_negI, q_not, q_bop, q_ife, q_cmp, q_ix, q_ixn, q_sl, q_sln, q_blt, q_lenn, q_isi, q_lst, q_tup, q_lc, q_push, q_pop, q_evc, q_to0, q_to1, q_o0, q_o1, q_intD, q_a0, q_a1, q_tnt, q_tbop, q_tcmp, q_tval, q_tnm, q_iseq, q_irng, q_ienu, q_izip, q_irev, q_sset, q_stgt, q_spar, q_sput, q_sret, q_sretn, q_sife, q_swhl, q_sfor, q_sex, q_spass, q_sbrk, q_scnt, q_ss0, q_ss1, q_gonx, q_gort, q_gobk, q_goct, q_add, q_addl, q_addt, q_sub, q_mul, q_mull, q_mult, q_div, q_mod, q_pow, q_eq, q_ne, q_lt, q_le, q_gt, q_ge, q_is1, q_is2, q_is3, q_is4, q_is5, q_tr0, q_trb, q_tri, q_trl, q_trt, q_ixl, q_ixt, q_sll, q_slt, q_sls, q_lenl, q_lent, q_inti, q_absi, q_lisl, q_list, q_tupl, q_tupt, q_all, q_max, q_min, q_itl, q_itt, q_seql, q_seqt, q_rng1, q_rng2, q_enu1, q_enu2, q_end1, q_end2, q_own, q_val, q_st1, q_stt, q_sta0, q_sta1, q_re1, q_re0, q_appA, q_appioA, q_appkA, ↓bind_o, obind_some, List.getElem?_cons_zero, List.getElem?_cons_succ, List.set_cons_zero, List.set_cons_succ, lockS, slotL, Fz.atS, putL, runD, en0, vals, setS, opStop, wipeE, wipeS, restE, restS, plainS, szB_of, posB_of, b62_of, mulB_of, divB_of, powB_of, repB_one, timB_one, flat_one, I_rep, atI_0, atI_1, atI_2, atI_3, atI_4, ixN_of, cut_from, cut_to, eqv_int, eqv_none, shp_int, shp_bool, shp_none, zip_I]
    · cases h
  · cases h
theorem enumD_cons (c : Int) (d : D) (l : List D) : enumD c (d :: l) = .tuple [.int c, d] :: enumD (c + 1) l := rfl
/-- a row of the product -/
theorem mul_inner (T : Tb) {p0 F G bg : _} {i0 x : Int} (hx : small x) (n : Nat) : ∀ (g s : List Int) (i : Nat) (a b : Sl), (∀ y ∈ g, small y) → i + g.length ≤ s.length → s.length ≤ 100000 →
    ∃ a' b', forL (bodyF T (n + 9) (.tup [6, 7]) [.put 3 (.nm 6) (.bin .Add (.ixn 3 (.nm 6)) (.bin .Mult (.nm 5) (.nm 7)))]) (enumD (i : Int) (I g)) ⟨[p0, F, G, .own (I s), .val (.int i0), .val (.int x), a, b], bg⟩ = some (.nx ⟨[p0, F, G, .own (I (addAt s i x g)), .val (.int i0), .val (.int x), a', b'], bg⟩) := by
  intro g
  induction g with
  | nil => intro s i a b _ _ _; exact ⟨a, b, rfl⟩
  | cons y g IH =>
    intro s i a b hy hl hs
    have hm := small_mul hx (hy y List.mem_cons_self)
    have hl' : i + (g.length + 1) ≤ s.length := hl
    obtain ⟨a', b', ih⟩ := IH (s.set i (gd s i + x * y)) (i + 1) (.val (.int i)) (.val (.int y)) (fun z hz => hy z (List.mem_cons_of_mem _ hz)) (by rw [List.length_set]; omega) (by rw [List.length_set]; exact hs)
    refine ⟨a', b', ?_⟩
    have hat : atI (I s) (i : Int) = some (.int (gd s i)) := by
      rw [atI_I (by omega) (by omega)]
      rfl
    have hix : ixN s.length (i : Int) = some i := by rw [ixN_of (by omega) (by omega)]; simp
    rw [I_cons, enumD_cons, forL_nx (e2 := ⟨[p0, F, G, .own (I (s.set i (gd s i + x * y))), .val (.int i0), .val (.int x), .val (.int i), .val (.int y)], bg⟩) (by simp (config := {implicitDefEqProofs := false}) (disch := omega) [bodyF, hm, hat, hix, I_set, q_int, q_bl, q_non, q_nm, q_bin, q_neg, q_negI, q_not, q_bop, q_ife, q_cmp, q_ix, q_ixn, q_sl, q_sln, q_blt, q_lenn, q_isi, q_lst, q_tup, q_lc, q_push, q_pop, q_evc, q_to0, q_to1, q_o0, q_o1, q_intD, q_a0, q_a1, q_tnt, q_tbop, q_tcmp, q_tval, q_tnm, q_iseq, q_irng, q_ienu, q_izip, q_irev, q_sset, q_stgt, q_spar, q_sput, q_sret, q_sretn, q_sife, q_swhl, q_sfor, q_sex, q_spass, q_sbrk, q_scnt, q_ss0, q_ss1, q_gonx, q_gort, q_gobk, q_goct, q_add, q_addl, q_addt, q_sub, q_mul, q_mull, q_mult, q_div, q_mod, q_pow, q_eq, q_ne, q_lt, q_le, q_gt, q_ge, q_is1, q_is2, q_is3, q_is4, q_is5, q_tr0, q_trb, q_tri, q_trl, q_trt, q_ixl, q_ixt, q_sll, q_slt, q_sls, q_lenl, q_lent, q_inti, q_absi, q_lisl, q_list, q_tupl, q_tupt, q_all, q_max, q_min, q_itl, q_itt, q_seql, q_seqt, q_rng1, q_rng2, q_enu1, q_enu2, q_end1, q_end2, q_own, q_val, q_st1, q_stt, q_sta0, q_sta1, q_re1, q_re0, q_appA, q_appioA, q_appkA, ↓bind_o, obind_some, List.getElem?_cons_zero, List.getElem?_cons_succ, List.set_cons_zero, List.set_cons_succ, lockS, slotL, Fz.atS, putL, runD, en0, vals, setS, opStop, wipeE, wipeS, restE, restS, plainS, szB_of, posB_of, b62_of, mulB_of, divB_of, powB_of, repB_one, timB_one, flat_one, I_rep, atI_0, atI_1, atI_2, atI_3, atI_4, ixN_of, cut_from, cut_to, eqv_int, eqv_none, shp_int, shp_bool, shp_none, zip_I])]
    rw [show (i : Int) + 1 = ((i + 1 : Nat) : Int) by omega]
    exact ih
def mul_body : List RS := [.ife (.cmp .NotEq (.nm 5) (.int 0)) [.for (.tup [6, 7]) (.enu [(.nm 2), (.nm 4)]) [.put 3 (.nm 6) (.bin .Add (.ixn 3 (.nm 6)) (.bin .Mult (.nm 5) (.nm 7)))]] []]
theorem mul_step0 (T : Tb) {p0 F bg : _} {g s : List Int} (n : Nat) (i : Int) (a b c d : Sl) :
    bodyF T (n + 20) (.tup [4, 5]) mul_body (.tuple [.int i, .int 0]) ⟨[p0, F, .val (.tuple (I g)), .own (I s), a, b, c, d], bg⟩ = some (.nx ⟨[p0, F, .val (.tuple (I g)), .own (I s), .val (.int i), .val (.int 0), c, d], bg⟩) := by
  unfold mul_body
  simp (config := {implicitDefEqProofs := false}) (disch := omega) [bodyF, q_int, q_bl, q_non, q_nm, q_bin, q_neg, q_negI, q_not, q_bop, q_ife, q_cmp, q_ix, q_ixn, q_sl, q_sln, q_blt, q_lenn, q_isi, q_lst, q_tup, q_lc, q_push, q_pop, q_evc, q_to0, q_to1, q_o0, q_o1, q_intD, q_a0, q_a1, q_tnt, q_tbop, q_tcmp, q_tval, q_tnm, q_iseq, q_irng, q_ienu, q_izip, q_irev, q_sset, q_stgt, q_spar, q_sput, q_sret, q_sretn, q_sife, q_swhl, q_sfor, q_sex, q_spass, q_sbrk, q_scnt, q_ss0, q_ss1, q_gonx, q_gort, q_gobk, q_goct, q_add, q_addl, q_addt, q_sub, q_mul, q_mull, q_mult, q_div, q_mod, q_pow, q_eq, q_ne, q_lt, q_le, q_gt, q_ge, q_is1, q_is2, q_is3, q_is4, q_is5, q_tr0, q_trb, q_tri, q_trl, q_trt, q_ixl, q_ixt, q_sll, q_slt, q_sls, q_lenl, q_lent, q_inti, q_absi, q_lisl, q_list, q_tupl, q_tupt, q_all, q_max, q_min, q_itl, q_itt, q_seql, q_seqt, q_rng1, q_rng2, q_enu1, q_enu2, q_end1, q_end2, q_own, q_val, q_st1, q_stt, q_sta0, q_sta1, q_re1, q_re0, q_appA, q_appioA, q_appkA, ↓bind_o, obind_some, List.getElem?_cons_zero, List.getElem?_cons_succ, List.set_cons_zero, List.set_cons_succ, lockS, slotL, Fz.atS, putL, runD, en0, vals, setS, opStop, wipeE, wipeS, restE, restS, plainS, szB_of, posB_of, b62_of, mulB_of, divB_of, powB_of, repB_one, timB_one, flat_one, I_rep, atI_0, atI_1, atI_2, atI_3, atI_4, ixN_of, cut_from, cut_to, eqv_int, eqv_none, shp_int, shp_bool, shp_none, zip_I]
theorem mul_step1 (T : Tb) {p0 F bg : _} {g s s' : List Int} (n : Nat) (i x : Int) (a b c d c2 d2 : Sl) (hx : x ≠ 0)
    (h2 : forL (bodyF T (n + 16) (.tup [6, 7]) [.put 3 (.nm 6) (.bin .Add (.ixn 3 (.nm 6)) (.bin .Mult (.nm 5) (.nm 7)))]) (enumD (i : Int) (I g)) ⟨[p0, F, .val (.tuple (I g)), .own (I s), .val (.int i), .val (.int x), c, d], bg⟩ = some (.nx ⟨[p0, F, .val (.tuple (I g)), .own (I s'), .val (.int i), .val (.int x), c2, d2], bg⟩)) (hi : -4611686018427387904 ≤ i) (hi2 : i < 4611686018427387904) :
    bodyF T (n + 20) (.tup [4, 5]) mul_body (.tuple [.int i, .int x]) ⟨[p0, F, .val (.tuple (I g)), .own (I s), a, b, c, d], bg⟩ = some (.nx ⟨[p0, F, .val (.tuple (I g)), .own (I s'), .val (.int i), .val (.int x), c2, d2], bg⟩) := by
  unfold mul_body
  simp (config := {implicitDefEqProofs := false}) (disch := omega) [bodyF, hx, h2, q_int, q_bl, q_non, q_nm, q_bin, q_neg, q_negI, q_not, q_bop, q_ife, q_cmp, q_ix, q_ixn, q_sl, q_sln, q_blt, q_lenn, q_isi, q_lst, q_tup, q_lc, q_push, q_pop, q_evc, q_to0, q_to1, q_o0, q_o1, q_intD, q_a0, q_a1, q_tnt, q_tbop, q_tcmp, q_tval, q_tnm, q_iseq, q_irng, q_ienu, q_izip, q_irev, q_sset, q_stgt, q_spar, q_sput, q_sret, q_sretn, q_sife, q_swhl, q_sfor, q_sex, q_spass, q_sbrk, q_scnt, q_ss0, q_ss1, q_gonx, q_gort, q_gobk, q_goct, q_add, q_addl, q_addt, q_sub, q_mul, q_mull, q_mult, q_div, q_mod, q_pow, q_eq, q_ne, q_lt, q_le, q_gt, q_ge, q_is1, q_is2, q_is3, q_is4, q_is5, q_tr0, q_trb, q_tri, q_trl, q_trt, q_ixl, q_ixt, q_sll, q_slt, q_sls, q_lenl, q_lent, q_inti, q_absi, q_lisl, q_list, q_tupl, q_tupt, q_all, q_max, q_min, q_itl, q_itt, q_seql, q_seqt, q_rng1, q_rng2, q_enu1, q_enu2, q_end1, q_end2, q_own, q_val, q_st1, q_stt, q_sta0, q_sta1, q_re1, q_re0, q_appA, q_appioA, q_appkA, ↓bind_o, obind_some, List.getElem?_cons_zero, List.getElem?_cons_succ, List.set_cons_zero, List.set_cons_succ, lockS, slotL, Fz.atS, putL, runD, en0, vals, setS, opStop, wipeE, wipeS, restE, restS, plainS, szB_of, posB_of, b62_of, mulB_of, divB_of, powB_of, repB_one, timB_one, flat_one, I_rep, atI_0, atI_1, atI_2, atI_3, atI_4, ixN_of, cut_from, cut_to, eqv_int, eqv_none, shp_int, shp_bool, shp_none, zip_I]
theorem mul_outer (T : Tb) {p0 F bg : _} {g : List Int} (hg : ∀ y ∈ g, small y) (hgl : g.length ≤ 100000) (n : Nat) : ∀ (f s : List Int) (i : Nat) (a b c d : Sl), (∀ y ∈ f, small y) → i + (f.length + g.length) ≤ s.length + 1 → s.length ≤ 100000 →
    ∃ a' b' c' d', forL (bodyF T (n + 20) (.tup [4, 5]) mul_body) (enumD (i : Int) (I f)) ⟨[p0, F, .val (.tuple (I g)), .own (I s), a, b, c, d], bg⟩ = some (.nx ⟨[p0, F, .val (.tuple (I g)), .own (I (mulFrom g s i f)), a', b', c', d'], bg⟩) := by
  intro f
  induction f with
  | nil => intro s i a b c d _ _ _; exact ⟨a, b, c, d, rfl⟩
  | cons x f IH =>
    intro s i a b c d hf hl hs
    have hl' : i + (f.length + 1 + g.length) ≤ s.length + 1 := hl
    rw [I_cons, enumD_cons, show mulFrom g s i (x :: f) = mulFrom g (addAt s i x g) (i + 1) f from rfl]
    by_cases hx : x = 0
    · subst hx
      obtain ⟨a', b', c', d', ih⟩ := IH s (i + 1) (.val (.int i)) (.val (.int 0)) c d (fun z hz => hf z (List.mem_cons_of_mem _ hz)) (by omega) hs
      refine ⟨a', b', c', d', ?_⟩
      rw [forL_nx (mul_step0 T n i a b c d)]
      rw [show (i : Int) + 1 = ((i + 1 : Nat) : Int) by omega, addAt_zero]
      exact ih
    · obtain ⟨c2, d2, h2⟩ := mul_inner T (p0 := p0) (F := F) (G := .val (.tuple (I g))) (bg := bg) (i0 := i) (hf x List.mem_cons_self) (n + 7) g s i c d hg (by omega) hs
      obtain ⟨a', b', c', d', ih⟩ := IH (addAt s i x g) (i + 1) (.val (.int i)) (.val (.int x)) c2 d2 (fun z hz => hf z (List.mem_cons_of_mem _ hz)) (by rw [addAt_len]; omega) (by rw [addAt_len]; exact hs)
      refine ⟨a', b', c', d', ?_⟩
      rw [forL_nx (mul_step1 T n i x a b c d c2 d2 hx h2 (by omega) (by omega))]
      rw [show (i : Int) + 1 = ((i + 1 : Nat) : Int) by omega]
      exact ih
theorem run_multiply (hN : N.length = 8) (hF : At fs j1 false 2 d_form_of) {ds : List D} {z : Bool × D × List D} (h : d_multiply ds = some z) : runD ⟨N, fs, WW⟩ 60 false (B_multiply j1) ds = some z := by
  unfold d_multiply two at h
  split at h
  · rename_i p a b
    simp only [Option.bind_eq_some_iff] at h
    obtain ⟨f, hf, g, hg, h⟩ := h
    split at h
    · rename_i hp
      split at h
      · rename_i hs
        simp only [Option.map_some, Option.some.injEq] at h
        cases h
        rw [allI_eq hf, allI_eq hg]
        obtain ⟨hp, h1, h2⟩ := hp
        cases f with
        | nil => rfl
        | cons x f =>
          cases g with
          | nil => rfl
          | cons y g =>
            have h1' : f.length + 1 ≤ 40000 := h1
            have h2' : g.length + 1 ≤ 40000 := h2
            obtain ⟨a', b', c', d', hl⟩ := mul_outer ⟨N, fs, WW⟩ (p0 := .val (.int p)) (F := .val (.tuple (I (x :: f)))) (bg := []) hs.2 (by omega) 36 (x :: f) (List.replicate (f.length + 1 + g.length) 0) 0 .no .no .no .no hs.1 (by simp; omega) (by simp; omega)
            have hd := call_form hF (p := p) (ns := mulRaw (x :: f) (y :: g)) hp (by rw [mulRaw_len]; simp; omega) rfl
            have e1 : ((f.length : Int) + 1 + ((g.length : Int) + 1) - 1).toNat = f.length + 1 + g.length := by omega
            rw [show mulFrom (y :: g) (List.replicate (f.length + 1 + g.length) 0) 0 (x :: f) = mulRaw (x :: f) (y :: g) from rfl] at hl
            change forL (bodyF _ 56 _ _) (enumD 0 _) _ = _ at hl
            unfold mul_body at hl
            rw [show I (x :: f) = .int x :: I f from rfl, show I (y :: g) = .int y :: I g from rfl] at *
            simp (config := {implicitDefEqProofs := false}) (disch := omega) [B_multiply, hN, e1, hF, hl, hd, q_int, q_bl, q_non, q_nm, q_bin, q_neg, q_negI, q_not, q_bop, q_ife, q_cmp, q_ix, q_ixn, q_sl, q_sln, q_blt, q_lenn, q_isi, q_lst, q_tup, q_lc, q_push, q_pop, q_evc, q_to0, q_to1, q_o0, q_o1, q_intD, q_a0, q_a1, q_tnt, q_tbop, q_tcmp, q_tval, q_tnm, q_iseq, q_irng, q_ienu, q_izip, q_irev, q_sset, q_stgt, q_spar, q_sput, q_sret, q_sretn, q_sife, q_swhl, q_sfor, q_sex, q_spass, q_sbrk, q_scnt, q_ss0, q_ss1, q_gonx, q_gort, q_gobk, q_goct, q_add, q_addl, q_addt, q_sub, q_mul, q_mull, q_mult, q_div, q_mod, q_pow, q_eq, q_ne, q_lt, q_le, q_gt, q_ge, q_is1, q_is2, q_is3, q_is4, q_is5, q_tr0, q_trb, q_tri, q_trl, q_trt, q_ixl, q_ixt, q_sll, q_slt, q_sls, q_lenl, q_lent, q_inti, q_absi, q_lisl, q_list, q_tupl, q_tupt, q_all, q_max, q_min, q_itl, q_itt, q_seql, q_seqt, q_rng1, q_rng2, q_enu1, q_enu2, q_end1, q_end2, q_own, q_val, q_st1, q_stt, q_sta0, q_sta1, q_re1, q_re0, q_appA, q_appioA, q_appkA, ↓bind_o, obind_some, List.getElem?_cons_zero, List.getElem?_cons_succ, List.set_cons_zero, List.set_cons_succ, lockS, slotL, Fz.atS, putL, runD, en0, vals, setS, opStop, wipeE, wipeS, restE, restS, plainS, szB_of, posB_of, b62_of, mulB_of, divB_of, powB_of, repB_one, timB_one, flat_one, I_rep, atI_0, atI_1, atI_2, atI_3, atI_4, ixN_of, cut_from, cut_to, eqv_int, eqv_none, shp_int, shp_bool, shp_none, zip_I]
      · cases h
    · cases h
  · cases h
end W1
set_option Elab.async false
set_option linter.all false
set_option maxRecDepth 100000
set_option maxHeartbeats 2000000
namespace W1
open PySem PySem.Spec PyProof.Rows L2 Fz
variable {fs : List (Str × Fn)} {N : List Str} {j0 j1 j2 j3 j4 j5 j6 j7 j8 j9 j10 j11 j12 j13 j14 j15 j16 j17 j18 j19 j20 j21 j22 j23 j24 j25 j26 j27 : Nat}
/-! ### the words of the small defs of the other side -/
noncomputable section
def d_trim : List D → Option (Bool × D × List D)
  | [.list a] => (allI a).bind fun f => if f.length ≤ 100000 then some (false, .tuple (I (trim f)), []) else none
  | _ => none
def ev (c : Int) (f : List Int) : Int := f.foldr (fun r v => r + c * v) 0
def d_val : List D → Option (Bool × D × List D)
  | [.int p, .tuple a, .int c] => (allI a).bind fun f => if 0 < p ∧ p < 4294967296 ∧ 0 ≤ c ∧ c < 4294967296 ∧ (∀ x ∈ f, 0 ≤ x ∧ x < p) then some (false, .int (ev c f % p), []) else none
  | _ => none
end
theorem atI_D {f : List Int} {k : Nat} (h : k < f.length) : atI (I f) (k : Int) = some (.int (gd f k)) := by
  rw [atI_I (by omega) (by omega)]
  rfl
theorem trim_loop (T : Tb) (f : List Int) (bg : List D) (n : Nat) : ∀ (m W : Nat), m ≤ f.length → m < W →
    ∃ m', m' ≤ m ∧ f.take m' = trim (f.take m) ∧ whileL (evT T (n + 9) (.bop .And (.cmp .Gt (.nm 1) (.int 0)) (.cmp .Eq (.ixn 0 (.bin .Sub (.nm 1) (.int 1))) (.int 0)))) (evSs T (n + 9) [.set 1 (.bin .Sub (.nm 1) (.int 1))]) W ⟨[.val (.list (I f)), .val (.int (m : Int))], bg⟩ = some (.nx ⟨[.val (.list (I f)), .val (.int (m' : Int))], bg⟩)
  | _, 0, _, h => absurd h (Nat.not_lt_zero _)
  | 0, W + 1, _, _ => by
    refine ⟨0, Nat.le_refl _, by simp [trim], while_end (e1 := ⟨[.val (.list (I f)), .val (.int (0 : Nat))], bg⟩) ?_⟩
    simp (config := {implicitDefEqProofs := false}) (disch := omega) [q_int, q_bl, q_non, q_nm, q_bin, q_neg, q_negI, q_not, q_bop, q_ife, q_cmp, q_ix, q_ixn, q_sl, q_sln, q_blt, q_lenn, q_isi, q_lst, q_tup, q_lc, q_push, q_pop, q_evc, q_to0, q_to1, q_o0, q_o1, q_intD, q_a0, q_a1, q_tnt, q_tbop, q_tcmp, q_tval, q_tnm, q_iseq, q_irng, q_ienu, q_izip, q_irev, q_sset, q_stgt, q_spar, q_sput, q_sret, q_sretn, q_sife, q_swhl, q_sfor, q_sex, q_spass, q_sbrk, q_scnt, q_ss0, q_ss1, q_gonx, q_gort, q_gobk, q_goct, q_add, q_addl, q_addt, q_sub, q_mul, q_mull, q_mult, q_div, q_mod, q_pow, q_eq, q_ne, q_lt, q_le, q_gt, q_ge, q_is1, q_is2, q_is3, q_is4, q_is5, q_tr0, q_trb, q_tri, q_trl, q_trt, q_ixl, q_ixt, q_sll, q_slt, q_sls, q_lenl, q_lent, q_inti, q_absi, q_lisl, q_list, q_tupl, q_tupt, q_all, q_max, q_min, q_itl, q_itt, q_seql, q_seqt, q_rng1, q_rng2, q_enu1, q_enu2, q_end1, q_end2, q_own, q_val, q_st1, q_stt, q_sta0, q_sta1, q_re1, q_re0, q_appA, q_appioA, q_appkA, ↓bind_o, obind_some, List.getElem?_cons_zero, List.getElem?_cons_succ, List.set_cons_zero, List.set_cons_succ, lockS, slotL, Fz.atS, putL, runD, en0, vals, setS, opStop, wipeE, wipeS, restE, restS, plainS, szB_of, posB_of, b62_of, mulB_of, divB_of, powB_of, repB_one, timB_one, flat_one, I_rep, atI_0, atI_1, atI_2, atI_3, atI_4, ixN_of, cut_from, cut_to, eqv_int, eqv_none, shp_int, shp_bool, shp_none, zip_I]
  | m + 1, W + 1, hm, hW => by
    have ht : f.take (m + 1) = f.take m ++ [gd f m] := by
      rw [List.take_succ, List.getElem?_eq_getElem (by omega)]
      unfold gd
      rw [List.getD_eq_getElem?_getD, List.getElem?_eq_getElem (by omega)]
      rfl
    have hat := atI_D (f := f) (k := m) (by omega)
    have e1 : ((m + 1 : Nat) : Int) - 1 = (m : Int) := by omega
    have e2 : (0 : Int) < ((m + 1 : Nat) : Int) := by omega
    by_cases hz : gd f m = 0
    · obtain ⟨m', h1, h2, h3⟩ := trim_loop T f bg n m W (by omega) (by omega)
      refine ⟨m', by omega, ?_, ?_⟩
      · rw [ht, hz, trim_snoc0, h2]
      · rw [hz] at hat
        refine while_step (e1 := ⟨[.val (.list (I f)), .val (.int ((m + 1 : Nat) : Int))], bg⟩) ?_ ?_ h3
        · simp (config := {implicitDefEqProofs := false}) (disch := omega) [e1, e2, hat, -Int.natCast_add, q_int, q_bl, q_non, q_nm, q_bin, q_neg, q_negI, q_not, q_bop, q_ife, q_cmp, q_ix, q_ixn, q_sl, q_sln, q_blt, q_lenn, q_isi, q_lst, q_tup, q_lc, q_push, q_pop, q_evc, q_to0, q_to1, q_o0, q_o1, q_intD, q_a0, q_a1, q_tnt, q_tbop, q_tcmp, q_tval, q_tnm, q_iseq, q_irng, q_ienu, q_izip, q_irev, q_sset, q_stgt, q_spar, q_sput, q_sret, q_sretn, q_sife, q_swhl, q_sfor, q_sex, q_spass, q_sbrk, q_scnt, q_ss0, q_ss1, q_gonx, q_gort, q_gobk, q_goct, q_add, q_addl, q_addt, q_sub, q_mul, q_mull, q_mult, q_div, q_mod, q_pow, q_eq, q_ne, q_lt, q_le, q_gt, q_ge, q_is1, q_is2, q_is3, q_is4, q_is5, q_tr0, q_trb, q_tri, q_trl, q_trt, q_ixl, q_ixt, q_sll, q_slt, q_sls, q_lenl, q_lent, q_inti, q_absi, q_lisl, q_list, q_tupl, q_tupt, q_all, q_max, q_min, q_itl, q_itt, q_seql, q_seqt, q_rng1, q_rng2, q_enu1, q_enu2, q_end1, q_end2, q_own, q_val, q_st1, q_stt, q_sta0, q_sta1, q_re1, q_re0, q_appA, q_appioA, q_appkA, ↓bind_o, obind_some, List.getElem?_cons_zero, List.getElem?_cons_succ, List.set_cons_zero, List.set_cons_succ, lockS, slotL, Fz.atS, putL, runD, en0, vals, setS, opStop, wipeE, wipeS, restE, restS, plainS, szB_of, posB_of, b62_of, mulB_of, divB_of, powB_of, repB_one, timB_one, flat_one, I_rep, atI_0, atI_1, atI_2, atI_3, atI_4, ixN_of, cut_from, cut_to, eqv_int, eqv_none, shp_int, shp_bool, shp_none, zip_I]
        · simp (config := {implicitDefEqProofs := false}) (disch := omega) [e1, -Int.natCast_add, q_int, q_bl, q_non, q_nm, q_bin, q_neg, q_negI, q_not, q_bop, q_ife, q_cmp, q_ix, q_ixn, q_sl, q_sln, q_blt, q_lenn, q_isi, q_lst, q_tup, q_lc, q_push, q_pop, q_evc, q_to0, q_to1, q_o0, q_o1, q_intD, q_a0, q_a1, q_tnt, q_tbop, q_tcmp, q_tval, q_tnm, q_iseq, q_irng, q_ienu, q_izip, q_irev, q_sset, q_stgt, q_spar, q_sput, q_sret, q_sretn, q_sife, q_swhl, q_sfor, q_sex, q_spass, q_sbrk, q_scnt, q_ss0, q_ss1, q_gonx, q_gort, q_gobk, q_goct, q_add, q_addl, q_addt, q_sub, q_mul, q_mull, q_mult, q_div, q_mod, q_pow, q_eq, q_ne, q_lt, q_le, q_gt, q_ge, q_is1, q_is2, q_is3, q_is4, q_is5, q_tr0, q_trb, q_tri, q_trl, q_trt, q_ixl, q_ixt, q_sll, q_slt, q_sls, q_lenl, q_lent, q_inti, q_absi, q_lisl, q_list, q_tupl, q_tupt, q_all, q_max, q_min, q_itl, q_itt, q_seql, q_seqt, q_rng1, q_rng2, q_enu1, q_enu2, q_end1, q_end2, q_own, q_val, q_st1, q_stt, q_sta0, q_sta1, q_re1, q_re0, q_appA, q_appioA, q_appkA, ↓bind_o, obind_some, List.getElem?_cons_zero, List.getElem?_cons_succ, List.set_cons_zero, List.set_cons_succ, lockS, slotL, Fz.atS, putL, runD, en0, vals, setS, opStop, wipeE, wipeS, restE, restS, plainS, szB_of, posB_of, b62_of, mulB_of, divB_of, powB_of, repB_one, timB_one, flat_one, I_rep, atI_0, atI_1, atI_2, atI_3, atI_4, ixN_of, cut_from, cut_to, eqv_int, eqv_none, shp_int, shp_bool, shp_none, zip_I]
    · refine ⟨m + 1, Nat.le_refl _, ?_, while_end ?_⟩
      · rw [ht, trim_snoc _ hz]
      · simp (config := {implicitDefEqProofs := false}) (disch := omega) [e1, e2, hat, hz, -Int.natCast_add, q_int, q_bl, q_non, q_nm, q_bin, q_neg, q_negI, q_not, q_bop, q_ife, q_cmp, q_ix, q_ixn, q_sl, q_sln, q_blt, q_lenn, q_isi, q_lst, q_tup, q_lc, q_push, q_pop, q_evc, q_to0, q_to1, q_o0, q_o1, q_intD, q_a0, q_a1, q_tnt, q_tbop, q_tcmp, q_tval, q_tnm, q_iseq, q_irng, q_ienu, q_izip, q_irev, q_sset, q_stgt, q_spar, q_sput, q_sret, q_sretn, q_sife, q_swhl, q_sfor, q_sex, q_spass, q_sbrk, q_scnt, q_ss0, q_ss1, q_gonx, q_gort, q_gobk, q_goct, q_add, q_addl, q_addt, q_sub, q_mul, q_mull, q_mult, q_div, q_mod, q_pow, q_eq, q_ne, q_lt, q_le, q_gt, q_ge, q_is1, q_is2, q_is3, q_is4, q_is5, q_tr0, q_trb, q_tri, q_trl, q_trt, q_ixl, q_ixt, q_sll, q_slt, q_sls, q_lenl, q_lent, q_inti, q_absi, q_lisl, q_list, q_tupl, q_tupt, q_all, q_max, q_min, q_itl, q_itt, q_seql, q_seqt, q_rng1, q_rng2, q_enu1, q_enu2, q_end1, q_end2, q_own, q_val, q_st1, q_stt, q_sta0, q_sta1, q_re1, q_re0, q_appA, q_appioA, q_appkA, ↓bind_o, obind_some, List.getElem?_cons_zero, List.getElem?_cons_succ, List.set_cons_zero, List.set_cons_succ, lockS, slotL, Fz.atS, putL, runD, en0, vals, setS, opStop, wipeE, wipeS, restE, restS, plainS, szB_of, posB_of, b62_of, mulB_of, divB_of, powB_of, repB_one, timB_one, flat_one, I_rep, atI_0, atI_1, atI_2, atI_3, atI_4, ixN_of, cut_from, cut_to, eqv_int, eqv_none, shp_int, shp_bool, shp_none, zip_I]
theorem run_trim (hN : N.length = 2) {ds : List D} {z : Bool × D × List D} (h : d_trim ds = some z) : runD ⟨N, fs, WW⟩ 60 false B_q_trim ds = some z := by
  unfold d_trim at h
  split at h
  · rename_i a
    simp only [Option.bind_eq_some_iff] at h
    obtain ⟨f, hf, h⟩ := h
    split at h
    · rename_i hp
      cases h
      rw [allI_eq hf]
      obtain ⟨m', h1, h2, h3⟩ := trim_loop ⟨N, fs, WW⟩ f [] 48 f.length WW (Nat.le_refl _) (by show f.length < 1048576; omega)
      rw [List.take_length] at h2
      change whileL (evT _ 57 _) (evSs _ 57 _) _ _ = _ at h3
      have h4 : Fz.cutD (I f) none (some (m' : Int)) = I (trim f) := by rw [cut_to (by omega), Int.toNat_natCast, h2]
      simp (config := {implicitDefEqProofs := false}) (disch := omega) [B_q_trim, hN, h3, h4, q_int, q_bl, q_non, q_nm, q_bin, q_neg, q_negI, q_not, q_bop, q_ife, q_cmp, q_ix, q_ixn, q_sl, q_sln, q_blt, q_lenn, q_isi, q_lst, q_tup, q_lc, q_push, q_pop, q_evc, q_to0, q_to1, q_o0, q_o1, q_intD, q_a0, q_a1, q_tnt, q_tbop, q_tcmp, q_tval, q_tnm, q_iseq, q_irng, q_ienu, q_izip, q_irev, q_sset, q_stgt, q_spar, q_sput, q_sret, q_sretn, q_sife, q_swhl, q_sfor, q_sex, q_spass, q_sbrk, q_scnt, q_ss0, q_ss1, q_gonx, q_gort, q_gobk, q_goct, q_add, q_addl, q_addt, q_sub, q_mul, q_mull, q_mult, q_div, q_mod, q_pow, q_eq, q_ne, q_lt, q_le, q_gt, q_ge, q_is1, q_is2, q_is3, q_is4, q_is5, q_tr0, q_trb, q_tri, q_trl, q_trt, q_ixl, q_ixt, q_sll, q_slt, q_sls, q_lenl, q_lent, q_inti, q_absi, q_lisl, q_list, q_tupl, q_tupt, q_all, q_max, q_min, q_itl, q_itt, q_seql, q_seqt, q_rng1, q_rng2, q_enu1, q_enu2, q_end1, q_end2, q_own, q_val, q_st1, q_stt, q_sta0, q_sta1, q_re1, q_re0, q_appA, q_appioA, q_appkA, ↓bind_o, obind_some, List.getElem?_cons_zero, List.getElem?_cons_succ, List.set_cons_zero, List.set_cons_succ, lockS, slotL, Fz.atS, putL, runD, en0, vals, setS, opStop, wipeE, wipeS, restE, restS, plainS, szB_of, posB_of, b62_of, mulB_of, divB_of, powB_of, repB_one, timB_one, flat_one, I_rep, atI_0, atI_1, atI_2, atI_3, atI_4, ixN_of, cut_from, cut_to, eqv_int, eqv_none, shp_int, shp_bool, shp_none, zip_I]
    · cases h
  · cases h
theorem call_trim (hF : At fs j17 false 1 d_trim) {l : List D} {ns : List Int} (hl : ns.length ≤ 100000) (e : l = I ns) : cAt fs j17 [.list l] = some (false, .tuple (I (trim ns))) := by
  subst e
  refine hF.c (l := []) rfl ?_
  simp [d_trim, hl]
/-! ### sums, place by place -/
def za : List Int → List Int → List Int
  | [], g => g
  | x :: f, [] => x :: f
  | x :: f, y :: g => (x + y) :: za f g
def zs : List Int → List Int → List Int
  | [], g => g.map (- ·)
  | x :: f, [] => x :: f
  | x :: f, y :: g => (x - y) :: zs f g
theorem zadd_za : ∀ f g : List Int, zadd f g = za f g
  | [], g => by simp [zadd, za]
  | x :: f, [] => by simp [zadd, za]
  | x :: f, y :: g => by
    have ih := zadd_za f g
    unfold zadd at ih ⊢
    simp only [List.zip_cons_cons, List.map_cons, List.length_cons, List.drop_succ_cons, List.cons_append]
    rw [ih]
    rfl
theorem zsub_zs : ∀ f g : List Int, zsub f g = zs f g
  | [], g => by simp [zsub, zs]
  | x :: f, [] => by simp [zsub, zs]
  | x :: f, y :: g => by
    have ih := zsub_zs f g
    unfold zsub at ih ⊢
    simp only [List.zip_cons_cons, List.map_cons, List.length_cons, List.drop_succ_cons, List.cons_append]
    rw [ih]
    rfl
theorem range_getD : ∀ f : List Int, (List.range f.length).map (fun k => gd f k) = f
  | [] => rfl
  | x :: f => by
    rw [List.length_cons, List.range_succ_eq_map, List.map_cons, List.map_map]
    refine congr (congrArg List.cons (by rfl)) ?_
    exact (List.map_congr_left fun k _ => by rfl).trans (range_getD f)
def padAdd (f g : List Int) : List Int := (List.range (max f.length g.length)).map fun k => gd f k + gd g k
def padSub (f g : List Int) : List Int := (List.range (max f.length g.length)).map fun k => gd f k - gd g k
theorem padAdd_za : ∀ f g : List Int, padAdd f g = za f g
  | [], g => by
    unfold padAdd za
    refine Eq.trans ?_ (range_getD g)
    rw [show max ([] : List Int).length g.length = g.length from Nat.zero_max _]
    exact List.map_congr_left fun k _ => by simp [gd]
  | x :: f, [] => by
    unfold padAdd za
    refine Eq.trans ?_ (range_getD (x :: f))
    rw [show max (x :: f).length ([] : List Int).length = (x :: f).length from Nat.max_zero _]
    exact List.map_congr_left fun k _ => by simp [gd]
  | x :: f, y :: g => by
    have ih := padAdd_za f g
    unfold padAdd at ih ⊢
    rw [show max (x :: f).length (y :: g).length = max f.length g.length + 1 by simp only [List.length_cons]; omega, List.range_succ_eq_map, List.map_cons, List.map_map]
    unfold za
    rw [← ih]
    rfl
theorem padSub_zs : ∀ f g : List Int, padSub f g = zs f g
  | [], g => by
    unfold padSub zs
    refine Eq.trans ?_ (congrArg (List.map (- ·)) (range_getD g))
    rw [show max ([] : List Int).length g.length = g.length from Nat.zero_max _, List.map_map]
    exact List.map_congr_left fun k _ => by simp [gd]
  | x :: f, [] => by
    unfold padSub zs
    refine Eq.trans ?_ (range_getD (x :: f))
    rw [show max (x :: f).length ([] : List Int).length = (x :: f).length from Nat.max_zero _]
    exact List.map_congr_left fun k _ => by simp [gd]
  | x :: f, y :: g => by
    have ih := padSub_zs f g
    unfold padSub at ih ⊢
    rw [show max (x :: f).length (y :: g).length = max f.length g.length + 1 by simp only [List.length_cons]; omega, List.range_succ_eq_map, List.map_cons, List.map_map]
    unfold zs
    rw [← ih]
    rfl
theorem max_if (a b : Nat) : (if a < b then (b : Int) else (a : Int)) = ((max a b : Nat) : Int) := by
  split <;> omega
theorem getD_out {f : List Int} {k : Nat} (h : ¬ k < f.length) : gd f k = 0 := by
  unfold gd
  rw [List.getD_eq_getElem?_getD, List.getElem?_eq_none (by omega)]
  rfl
theorem run_plus (hN : N.length = 5) (hF : At fs j17 false 1 d_trim) {ds : List D} {z : Bool × D × List D} (h : d_add ds = some z) : runD ⟨N, fs, WW⟩ 60 false (B_q_plus j17) ds = some z := by
  unfold d_add two at h
  split at h
  · rename_i p a b
    simp only [Option.bind_eq_some_iff] at h
    obtain ⟨f, hf, g, hg, h⟩ := h
    split at h
    · rename_i hp
      simp only [Option.map_some, Option.some.injEq] at h
      cases h
      rw [allI_eq hf, allI_eq hg]
      obtain ⟨hp, h1, h2⟩ := hp
      have hmx := max_if f.length g.length
      have hc : ∀ n, lcL (evC ⟨N, fs, WW⟩ (n + 19) (.one 4) [4] none (.bin .Mod (.blt .int [(.bin .Add (.ife (.cmp .Lt (.nm 4) (.lenn 1)) (.ixn 1 (.nm 4)) (.int 0)) (.ife (.cmp .Lt (.nm 4) (.lenn 2)) (.ixn 2 (.nm 4)) (.int 0)))]) (.nm 0))) (rngD 0 (max f.length g.length)) ⟨[.val (.int p), .val (.tuple (I f)), .val (.tuple (I g)), .val (.int (max f.length g.length : Nat)), .no], []⟩ = some (I ((padAdd f g).map (· % p)), ⟨[.val (.int p), .val (.tuple (I f)), .val (.tuple (I g)), .val (.int (max f.length g.length : Nat)), .no], []⟩) := by
        intro n
        rw [show I ((padAdd f g).map (· % p)) = (List.range (max f.length g.length)).map fun k => PyData.int ((gd f k + gd g k) % p) by unfold padAdd I; rw [List.map_map, List.map_map]; rfl]
        unfold rngD
        refine lcL_pure _ _ fun k _ => ?_
        rw [Int.zero_add]
        by_cases hk : k < f.length <;> by_cases hk2 : k < g.length
        · simp (config := {implicitDefEqProofs := false}) (disch := omega) [hk, hk2, atI_D hk, atI_D hk2, q_int, q_bl, q_non, q_nm, q_bin, q_neg, q_negI, q_not, q_bop, q_ife, q_cmp, q_ix, q_ixn, q_sl, q_sln, q_blt, q_lenn, q_isi, q_lst, q_tup, q_lc, q_push, q_pop, q_evc, q_to0, q_to1, q_o0, q_o1, q_intD, q_a0, q_a1, q_tnt, q_tbop, q_tcmp, q_tval, q_tnm, q_iseq, q_irng, q_ienu, q_izip, q_irev, q_sset, q_stgt, q_spar, q_sput, q_sret, q_sretn, q_sife, q_swhl, q_sfor, q_sex, q_spass, q_sbrk, q_scnt, q_ss0, q_ss1, q_gonx, q_gort, q_gobk, q_goct, q_add, q_addl, q_addt, q_sub, q_mul, q_mull, q_mult, q_div, q_mod, q_pow, q_eq, q_ne, q_lt, q_le, q_gt, q_ge, q_is1, q_is2, q_is3, q_is4, q_is5, q_tr0, q_trb, q_tri, q_trl, q_trt, q_ixl, q_ixt, q_sll, q_slt, q_sls, q_lenl, q_lent, q_inti, q_absi, q_lisl, q_list, q_tupl, q_tupt, q_all, q_max, q_min, q_itl, q_itt, q_seql, q_seqt, q_rng1, q_rng2, q_enu1, q_enu2, q_end1, q_end2, q_own, q_val, q_st1, q_stt, q_sta0, q_sta1, q_re1, q_re0, q_appA, q_appioA, q_appkA, ↓bind_o, obind_some, List.getElem?_cons_zero, List.getElem?_cons_succ, List.set_cons_zero, List.set_cons_succ, lockS, slotL, Fz.atS, putL, runD, en0, vals, setS, opStop, wipeE, wipeS, restE, restS, plainS, szB_of, posB_of, b62_of, mulB_of, divB_of, powB_of, repB_one, timB_one, flat_one, I_rep, atI_0, atI_1, atI_2, atI_3, atI_4, ixN_of, cut_from, cut_to, eqv_int, eqv_none, shp_int, shp_bool, shp_none, zip_I]
        · simp (config := {implicitDefEqProofs := false}) (disch := omega) [hk, hk2, atI_D hk, getD_out hk2, q_int, q_bl, q_non, q_nm, q_bin, q_neg, q_negI, q_not, q_bop, q_ife, q_cmp, q_ix, q_ixn, q_sl, q_sln, q_blt, q_lenn, q_isi, q_lst, q_tup, q_lc, q_push, q_pop, q_evc, q_to0, q_to1, q_o0, q_o1, q_intD, q_a0, q_a1, q_tnt, q_tbop, q_tcmp, q_tval, q_tnm, q_iseq, q_irng, q_ienu, q_izip, q_irev, q_sset, q_stgt, q_spar, q_sput, q_sret, q_sretn, q_sife, q_swhl, q_sfor, q_sex, q_spass, q_sbrk, q_scnt, q_ss0, q_ss1, q_gonx, q_gort, q_gobk, q_goct, q_add, q_addl, q_addt, q_sub, q_mul, q_mull, q_mult, q_div, q_mod, q_pow, q_eq, q_ne, q_lt, q_le, q_gt, q_ge, q_is1, q_is2, q_is3, q_is4, q_is5, q_tr0, q_trb, q_tri, q_trl, q_trt, q_ixl, q_ixt, q_sll, q_slt, q_sls, q_lenl, q_lent, q_inti, q_absi, q_lisl, q_list, q_tupl, q_tupt, q_all, q_max, q_min, q_itl, q_itt, q_seql, q_seqt, q_rng1, q_rng2, q_enu1, q_enu2, q_end1, q_end2, q_own, q_val, q_st1, q_stt, q_sta0, q_sta1, q_re1, q_re0, q_appA, q_appioA, q_appkA, ↓bind_o, obind_some, List.getElem?_cons_zero, List.getElem?_cons_succ, List.set_cons_zero, List.set_cons_succ, lockS, slotL, Fz.atS, putL, runD, en0, vals, setS, opStop, wipeE, wipeS, restE, restS, plainS, szB_of, posB_of, b62_of, mulB_of, divB_of, powB_of, repB_one, timB_one, flat_one, I_rep, atI_0, atI_1, atI_2, atI_3, atI_4, ixN_of, cut_from, cut_to, eqv_int, eqv_none, shp_int, shp_bool, shp_none, zip_I]
        · simp (config := {implicitDefEqProofs := false}) (disch := omega) [hk, hk2, getD_out hk, atI_D hk2, q_int, q_bl, q_non, q_nm, q_bin, q_neg, q_negI, q_not, q_bop, q_ife, q_cmp, q_ix, q_ixn, q_sl, q_sln, q_blt, q_lenn, q_isi, q_lst, q_tup, q_lc, q_push, q_pop, q_evc, q_to0, q_to1, q_o0, q_o1, q_intD, q_a0, q_a1, q_tnt, q_tbop, q_tcmp, q_tval, q_tnm, q_iseq, q_irng, q_ienu, q_izip, q_irev, q_sset, q_stgt, q_spar, q_sput, q_sret, q_sretn, q_sife, q_swhl, q_sfor, q_sex, q_spass, q_sbrk, q_scnt, q_ss0, q_ss1, q_gonx, q_gort, q_gobk, q_goct, q_add, q_addl, q_addt, q_sub, q_mul, q_mull, q_mult, q_div, q_mod, q_pow, q_eq, q_ne, q_lt, q_le, q_gt, q_ge, q_is1, q_is2, q_is3, q_is4, q_is5, q_tr0, q_trb, q_tri, q_trl, q_trt, q_ixl, q_ixt, q_sll, q_slt, q_sls, q_lenl, q_lent, q_inti, q_absi, q_lisl, q_list, q_tupl, q_tupt, q_all, q_max, q_min, q_itl, q_itt, q_seql, q_seqt, q_rng1, q_rng2, q_enu1, q_enu2, q_end1, q_end2, q_own, q_val, q_st1, q_stt, q_sta0, q_sta1, q_re1, q_re0, q_appA, q_appioA, q_appkA, ↓bind_o, obind_some, List.getElem?_cons_zero, List.getElem?_cons_succ, List.set_cons_zero, List.set_cons_succ, lockS, slotL, Fz.atS, putL, runD, en0, vals, setS, opStop, wipeE, wipeS, restE, restS, plainS, szB_of, posB_of, b62_of, mulB_of, divB_of, powB_of, repB_one, timB_one, flat_one, I_rep, atI_0, atI_1, atI_2, atI_3, atI_4, ixN_of, cut_from, cut_to, eqv_int, eqv_none, shp_int, shp_bool, shp_none, zip_I]
        · simp (config := {implicitDefEqProofs := false}) (disch := omega) [hk, hk2, getD_out hk, getD_out hk2, q_int, q_bl, q_non, q_nm, q_bin, q_neg, q_negI, q_not, q_bop, q_ife, q_cmp, q_ix, q_ixn, q_sl, q_sln, q_blt, q_lenn, q_isi, q_lst, q_tup, q_lc, q_push, q_pop, q_evc, q_to0, q_to1, q_o0, q_o1, q_intD, q_a0, q_a1, q_tnt, q_tbop, q_tcmp, q_tval, q_tnm, q_iseq, q_irng, q_ienu, q_izip, q_irev, q_sset, q_stgt, q_spar, q_sput, q_sret, q_sretn, q_sife, q_swhl, q_sfor, q_sex, q_spass, q_sbrk, q_scnt, q_ss0, q_ss1, q_gonx, q_gort, q_gobk, q_goct, q_add, q_addl, q_addt, q_sub, q_mul, q_mull, q_mult, q_div, q_mod, q_pow, q_eq, q_ne, q_lt, q_le, q_gt, q_ge, q_is1, q_is2, q_is3, q_is4, q_is5, q_tr0, q_trb, q_tri, q_trl, q_trt, q_ixl, q_ixt, q_sll, q_slt, q_sls, q_lenl, q_lent, q_inti, q_absi, q_lisl, q_list, q_tupl, q_tupt, q_all, q_max, q_min, q_itl, q_itt, q_seql, q_seqt, q_rng1, q_rng2, q_enu1, q_enu2, q_end1, q_end2, q_own, q_val, q_st1, q_stt, q_sta0, q_sta1, q_re1, q_re0, q_appA, q_appioA, q_appkA, ↓bind_o, obind_some, List.getElem?_cons_zero, List.getElem?_cons_succ, List.set_cons_zero, List.set_cons_succ, lockS, slotL, Fz.atS, putL, runD, en0, vals, setS, opStop, wipeE, wipeS, restE, restS, plainS, szB_of, posB_of, b62_of, mulB_of, divB_of, powB_of, repB_one, timB_one, flat_one, I_rep, atI_0, atI_1, atI_2, atI_3, atI_4, ixN_of, cut_from, cut_to, eqv_int, eqv_none, shp_int, shp_bool, shp_none, zip_I]
      have hd := call_trim hF (l := I ((padAdd f g).map (· % p))) (by rw [List.length_map]; unfold padAdd; rw [List.length_map, List.length_range]; omega) rfl
      rw [show trim ((padAdd f g).map (· % p)) = formOf p (zadd f g) by rw [zadd_za, ← padAdd_za]; rfl] at hd
      simp (config := {implicitDefEqProofs := false}) (disch := omega) [B_q_plus, hN, hmx, rngD_len, hc, hF, hd, q_int, q_bl, q_non, q_nm, q_bin, q_neg, q_negI, q_not, q_bop, q_ife, q_cmp, q_ix, q_ixn, q_sl, q_sln, q_blt, q_lenn, q_isi, q_lst, q_tup, q_lc, q_push, q_pop, q_evc, q_to0, q_to1, q_o0, q_o1, q_intD, q_a0, q_a1, q_tnt, q_tbop, q_tcmp, q_tval, q_tnm, q_iseq, q_irng, q_ienu, q_izip, q_irev, q_sset, q_stgt, q_spar, q_sput, q_sret, q_sretn, q_sife, q_swhl, q_sfor, q_sex, q_spass, q_sbrk, q_scnt, q_ss0, q_ss1, q_gonx, q_gort, q_gobk, q_goct, q_add, q_addl, q_addt, q_sub, q_mul, q_mull, q_mult, q_div, q_mod, q_pow, q_eq, q_ne, q_lt, q_le, q_gt, q_ge, q_is1, q_is2, q_is3, q_is4, q_is5, q_tr0, q_trb, q_tri, q_trl, q_trt, q_ixl, q_ixt, q_sll, q_slt, q_sls, q_lenl, q_lent, q_inti, q_absi, q_lisl, q_list, q_tupl, q_tupt, q_all, q_max, q_min, q_itl, q_itt, q_seql, q_seqt, q_rng1, q_rng2, q_enu1, q_enu2, q_end1, q_end2, q_own, q_val, q_st1, q_stt, q_sta0, q_sta1, q_re1, q_re0, q_appA, q_appioA, q_appkA, ↓bind_o, obind_some, List.getElem?_cons_zero, List.getElem?_cons_succ, List.set_cons_zero, List.set_cons_succ, lockS, slotL, Fz.atS, putL, runD, en0, vals, setS, opStop, wipeE, wipeS, restE, restS, plainS, szB_of, posB_of, b62_of, mulB_of, divB_of, powB_of, repB_one, timB_one, flat_one, I_rep, atI_0, atI_1, atI_2, atI_3, atI_4, ixN_of, cut_from, cut_to, eqv_int, eqv_none, shp_int, shp_bool, shp_none, zip_I]
    · cases h
  · cases h
theorem run_minus (hN : N.length = 5) (hF : At fs j17 false 1 d_trim) {ds : List D} {z : Bool × D × List D} (h : d_subtract ds = some z) : runD ⟨N, fs, WW⟩ 60 false (B_q_minus j17) ds = some z := by
  unfold d_subtract two at h
  split at h
  · rename_i p a b
    simp only [Option.bind_eq_some_iff] at h
    obtain ⟨f, hf, g, hg, h⟩ := h
    split at h
    · rename_i hp
      simp only [Option.map_some, Option.some.injEq] at h
      cases h
      rw [allI_eq hf, allI_eq hg]
      obtain ⟨hp, h1, h2⟩ := hp
      have hmx := max_if f.length g.length
      have hc : ∀ n, lcL (evC ⟨N, fs, WW⟩ (n + 19) (.one 4) [4] none (.bin .Mod (.blt .int [(.bin .Sub (.ife (.cmp .Lt (.nm 4) (.lenn 1)) (.ixn 1 (.nm 4)) (.int 0)) (.ife (.cmp .Lt (.nm 4) (.lenn 2)) (.ixn 2 (.nm 4)) (.int 0)))]) (.nm 0))) (rngD 0 (max f.length g.length)) ⟨[.val (.int p), .val (.tuple (I f)), .val (.tuple (I g)), .val (.int (max f.length g.length : Nat)), .no], []⟩ = some (I ((padSub f g).map (· % p)), ⟨[.val (.int p), .val (.tuple (I f)), .val (.tuple (I g)), .val (.int (max f.length g.length : Nat)), .no], []⟩) := by
        intro n
        rw [show I ((padSub f g).map (· % p)) = (List.range (max f.length g.length)).map fun k => PyData.int ((gd f k - gd g k) % p) by unfold padSub I; rw [List.map_map, List.map_map]; rfl]
        unfold rngD
        refine lcL_pure _ _ fun k _ => ?_
        rw [Int.zero_add]
        by_cases hk : k < f.length <;> by_cases hk2 : k < g.length
        · simp (config := {implicitDefEqProofs := false}) (disch := omega) [hk, hk2, atI_D hk, atI_D hk2, q_int, q_bl, q_non, q_nm, q_bin, q_neg, q_negI, q_not, q_bop, q_ife, q_cmp, q_ix, q_ixn, q_sl, q_sln, q_blt, q_lenn, q_isi, q_lst, q_tup, q_lc, q_push, q_pop, q_evc, q_to0, q_to1, q_o0, q_o1, q_intD, q_a0, q_a1, q_tnt, q_tbop, q_tcmp, q_tval, q_tnm, q_iseq, q_irng, q_ienu, q_izip, q_irev, q_sset, q_stgt, q_spar, q_sput, q_sret, q_sretn, q_sife, q_swhl, q_sfor, q_sex, q_spass, q_sbrk, q_scnt, q_ss0, q_ss1, q_gonx, q_gort, q_gobk, q_goct, q_add, q_addl, q_addt, q_sub, q_mul, q_mull, q_mult, q_div, q_mod, q_pow, q_eq, q_ne, q_lt, q_le, q_gt, q_ge, q_is1, q_is2, q_is3, q_is4, q_is5, q_tr0, q_trb, q_tri, q_trl, q_trt, q_ixl, q_ixt, q_sll, q_slt, q_sls, q_lenl, q_lent, q_inti, q_absi, q_lisl, q_list, q_tupl, q_tupt, q_all, q_max, q_min, q_itl, q_itt, q_seql, q_seqt, q_rng1, q_rng2, q_enu1, q_enu2, q_end1, q_end2, q_own, q_val, q_st1, q_stt, q_sta0, q_sta1, q_re1, q_re0, q_appA, q_appioA, q_appkA, ↓bind_o, obind_some, List.getElem?_cons_zero, List.getElem?_cons_succ, List.set_cons_zero, List.set_cons_succ, lockS, slotL, Fz.atS, putL, runD, en0, vals, setS, opStop, wipeE, wipeS, restE, restS, plainS, szB_of, posB_of, b62_of, mulB_of, divB_of, powB_of, repB_one, timB_one, flat_one, I_rep, atI_0, atI_1, atI_2, atI_3, atI_4, ixN_of, cut_from, cut_to, eqv_int, eqv_none, shp_int, shp_bool, shp_none, zip_I]
        · simp (config := {implicitDefEqProofs := false}) (disch := omega) [hk, hk2, atI_D hk, getD_out hk2, q_int, q_bl, q_non, q_nm, q_bin, q_neg, q_negI, q_not, q_bop, q_ife, q_cmp, q_ix, q_ixn, q_sl, q_sln, q_blt, q_lenn, q_isi, q_lst, q_tup, q_lc, q_push, q_pop, q_evc, q_to0, q_to1, q_o0, q_o1, q_intD, q_a0, q_a1, q_tnt, q_tbop, q_tcmp, q_tval, q_tnm, q_iseq, q_irng, q_ienu, q_izip, q_irev, q_sset, q_stgt, q_spar, q_sput, q_sret, q_sretn, q_sife, q_swhl, q_sfor, q_sex, q_spass, q_sbrk, q_scnt, q_ss0, q_ss1, q_gonx, q_gort, q_gobk, q_goct, q_add, q_addl, q_addt, q_sub, q_mul, q_mull, q_mult, q_div, q_mod, q_pow, q_eq, q_ne, q_lt, q_le, q_gt, q_ge, q_is1, q_is2, q_is3, q_is4, q_is5, q_tr0, q_trb, q_tri, q_trl, q_trt, q_ixl, q_ixt, q_sll, q_slt, q_sls, q_lenl, q_lent, q_inti, q_absi, q_lisl, q_list, q_tupl, q_tupt, q_all, q_max, q_min, q_itl, q_itt, q_seql, q_seqt, q_rng1, q_rng2, q_enu1, q_enu2, q_end1, q_end2, q_own, q_val, q_st1, q_stt, q_sta0, q_sta1, q_re1, q_re0, q_appA, q_appioA, q_appkA, ↓bind_o, obind_some, List.getElem?_cons_zero, List.getElem?_cons_succ, List.set_cons_zero, List.set_cons_succ, lockS, slotL, Fz.atS, putL, runD, en0, vals, setS, opStop, wipeE, wipeS, restE, restS, plainS, szB_of, posB_of, b62_of, mulB_of, divB_of, powB_of, repB_one, timB_one, flat_one, I_rep, atI_0, atI_1, atI_2, atI_3, atI_4, ixN_of, cut_from, cut_to, eqv_int, eqv_none, shp_int, shp_bool, shp_none, zip_I]
        · simp (config := {implicitDefEqProofs := false}) (disch := omega) [hk, hk2, getD_out hk, atI_D hk2, q_int, q_bl, q_non, q_nm, q_bin, q_neg, q_negI, q_not, q_bop, q_ife, q_cmp, q_ix, q_ixn, q_sl, q_sln, q_blt, q_lenn, q_isi, q_lst, q_tup, q_lc, q_push, q_pop, q_evc, q_to0, q_to1, q_o0, q_o1, q_intD, q_a0, q_a1, q_tnt, q_tbop, q_tcmp, q_tval, q_tnm, q_iseq, q_irng, q_ienu, q_izip, q_irev, q_sset, q_stgt, q_spar, q_sput, q_sret, q_sretn, q_sife, q_swhl, q_sfor, q_sex, q_spass, q_sbrk, q_scnt, q_ss0, q_ss1, q_gonx, q_gort, q_gobk, q_goct, q_add, q_addl, q_addt, q_sub, q_mul, q_mull, q_mult, q_div, q_mod, q_pow, q_eq, q_ne, q_lt, q_le, q_gt, q_ge, q_is1, q_is2, q_is3, q_is4, q_is5, q_tr0, q_trb, q_tri, q_trl, q_trt, q_ixl, q_ixt, q_sll, q_slt, q_sls, q_lenl, q_lent, q_inti, q_absi, q_lisl, q_list, q_tupl, q_tupt, q_all, q_max, q_min, q_itl, q_itt, q_seql, q_seqt, q_rng1, q_rng2, q_enu1, q_enu2, q_end1, q_end2, q_own, q_val, q_st1, q_stt, q_sta0, q_sta1, q_re1, q_re0, q_appA, q_appioA, q_appkA, ↓bind_o, obind_some, List.getElem?_cons_zero, List.getElem?_cons_succ, List.set_cons_zero, List.set_cons_succ, lockS, slotL, Fz.atS, putL, runD, en0, vals, setS, opStop, wipeE, wipeS, restE, restS, plainS, szB_of, posB_of, b62_of, mulB_of, divB_of, powB_of, repB_one, timB_one, flat_one, I_rep, atI_0, atI_1, atI_2, atI_3, atI_4, ixN_of, cut_from, cut_to, eqv_int, eqv_none, shp_int, shp_bool, shp_none, zip_I]
        · simp (config := {implicitDefEqProofs := false}) (disch := omega) [hk, hk2, getD_out hk, getD_out hk2, q_int, q_bl, q_non, q_nm, q_bin, q_neg, q_negI, q_not, q_bop, q_ife, q_cmp, q_ix, q_ixn, q_sl, q_sln, q_blt, q_lenn, q_isi, q_lst, q_tup, q_lc, q_push, q_pop, q_evc, q_to0, q_to1, q_o0, q_o1, q_intD, q_a0, q_a1, q_tnt, q_tbop, q_tcmp, q_tval, q_tnm, q_iseq, q_irng, q_ienu, q_izip, q_irev, q_sset, q_stgt, q_spar, q_sput, q_sret, q_sretn, q_sife, q_swhl, q_sfor, q_sex, q_spass, q_sbrk, q_scnt, q_ss0, q_ss1, q_gonx, q_gort, q_gobk, q_goct, q_add, q_addl, q_addt, q_sub, q_mul, q_mull, q_mult, q_div, q_mod, q_pow, q_eq, q_ne, q_lt, q_le, q_gt, q_ge, q_is1, q_is2, q_is3, q_is4, q_is5, q_tr0, q_trb, q_tri, q_trl, q_trt, q_ixl, q_ixt, q_sll, q_slt, q_sls, q_lenl, q_lent, q_inti, q_absi, q_lisl, q_list, q_tupl, q_tupt, q_all, q_max, q_min, q_itl, q_itt, q_seql, q_seqt, q_rng1, q_rng2, q_enu1, q_enu2, q_end1, q_end2, q_own, q_val, q_st1, q_stt, q_sta0, q_sta1, q_re1, q_re0, q_appA, q_appioA, q_appkA, ↓bind_o, obind_some, List.getElem?_cons_zero, List.getElem?_cons_succ, List.set_cons_zero, List.set_cons_succ, lockS, slotL, Fz.atS, putL, runD, en0, vals, setS, opStop, wipeE, wipeS, restE, restS, plainS, szB_of, posB_of, b62_of, mulB_of, divB_of, powB_of, repB_one, timB_one, flat_one, I_rep, atI_0, atI_1, atI_2, atI_3, atI_4, ixN_of, cut_from, cut_to, eqv_int, eqv_none, shp_int, shp_bool, shp_none, zip_I]
      have hd := call_trim hF (l := I ((padSub f g).map (· % p))) (by rw [List.length_map]; unfold padSub; rw [List.length_map, List.length_range]; omega) rfl
      rw [show trim ((padSub f g).map (· % p)) = formOf p (zsub f g) by rw [zsub_zs, ← padSub_zs]; rfl] at hd
      simp (config := {implicitDefEqProofs := false}) (disch := omega) [B_q_minus, hN, hmx, rngD_len, hc, hF, hd, q_int, q_bl, q_non, q_nm, q_bin, q_neg, q_negI, q_not, q_bop, q_ife, q_cmp, q_ix, q_ixn, q_sl, q_sln, q_blt, q_lenn, q_isi, q_lst, q_tup, q_lc, q_push, q_pop, q_evc, q_to0, q_to1, q_o0, q_o1, q_intD, q_a0, q_a1, q_tnt, q_tbop, q_tcmp, q_tval, q_tnm, q_iseq, q_irng, q_ienu, q_izip, q_irev, q_sset, q_stgt, q_spar, q_sput, q_sret, q_sretn, q_sife, q_swhl, q_sfor, q_sex, q_spass, q_sbrk, q_scnt, q_ss0, q_ss1, q_gonx, q_gort, q_gobk, q_goct, q_add, q_addl, q_addt, q_sub, q_mul, q_mull, q_mult, q_div, q_mod, q_pow, q_eq, q_ne, q_lt, q_le, q_gt, q_ge, q_is1, q_is2, q_is3, q_is4, q_is5, q_tr0, q_trb, q_tri, q_trl, q_trt, q_ixl, q_ixt, q_sll, q_slt, q_sls, q_lenl, q_lent, q_inti, q_absi, q_lisl, q_list, q_tupl, q_tupt, q_all, q_max, q_min, q_itl, q_itt, q_seql, q_seqt, q_rng1, q_rng2, q_enu1, q_enu2, q_end1, q_end2, q_own, q_val, q_st1, q_stt, q_sta0, q_sta1, q_re1, q_re0, q_appA, q_appioA, q_appkA, ↓bind_o, obind_some, List.getElem?_cons_zero, List.getElem?_cons_succ, List.set_cons_zero, List.set_cons_succ, lockS, slotL, Fz.atS, putL, runD, en0, vals, setS, opStop, wipeE, wipeS, restE, restS, plainS, szB_of, posB_of, b62_of, mulB_of, divB_of, powB_of, repB_one, timB_one, flat_one, I_rep, atI_0, atI_1, atI_2, atI_3, atI_4, ixN_of, cut_from, cut_to, eqv_int, eqv_none, shp_int, shp_bool, shp_none, zip_I]
    · cases h
  · cases h
/-! ### products -/
theorem rngD_succ (a : Int) (n : Nat) : rngD a (n + 1) = .int a :: rngD (a + 1) n := by
  unfold rngD
  rw [List.range_succ_eq_map, List.map_cons, List.map_map]
  refine congr (congrArg List.cons (by simp)) ?_
  refine List.map_congr_left fun k _ => ?_
  simp only [Function.comp, Nat.succ_eq_add_one]
  congr 1
  omega
theorem drop_gd {g g2 : List Int} {y : Int} {j : Nat} (h : g.drop j = y :: g2) : j < g.length ∧ gd g j = y ∧ g.drop (j + 1) = g2 := by
  have hj : j < g.length := by
    apply Classical.byContradiction
    intro hn
    rw [List.drop_eq_nil_of_le (by omega)] at h
    cases h
  rw [List.drop_eq_getElem_cons hj] at h
  injection h with h1 h2
  refine ⟨hj, ?_, h2⟩
  unfold gd
  rw [List.getD_eq_getElem?_getD, List.getElem?_eq_getElem hj]
  exact h1
theorem qmul_inner (T : Tb) {p0 bg : _} {f g : List Int} {i : Nat} (hi : i < f.length) (hx : small (gd f i)) (hg : ∀ y ∈ g, small y) (n : Nat) : ∀ (g2 s : List Int) (j : Nat) (b z : Sl), g.drop j = g2 → i + j + g2.length ≤ s.length → s.length ≤ 100000 →
    ∃ b', forL (bodyF T (n + 19) (.one 5) [.put 3 (.bin .Add (.nm 4) (.nm 5)) (.bin .Add (.ixn 3 (.bin .Add (.nm 4) (.nm 5))) (.bin .Mult (.ixn 1 (.nm 4)) (.ixn 2 (.nm 5))))]) (rngD (j : Int) g2.length) ⟨[p0, .val (.tuple (I f)), .val (.tuple (I g)), .own (I s), .val (.int (i : Int)), b, z], bg⟩ = some (.nx ⟨[p0, .val (.tuple (I f)), .val (.tuple (I g)), .own (I (addAt s (i + j) (gd f i) g2)), .val (.int (i : Int)), b', z], bg⟩)
  | [], s, j, b, z, _, _, _ => ⟨b, rfl⟩
  | y :: g2, s, j, b, z, hd, hl, hs => by
    obtain ⟨hj, hy, hd2⟩ := drop_gd hd
    have hl' : i + j + (g2.length + 1) ≤ s.length := hl
    have hm : mulB (gd f i) (gd g j) = true := by
      refine small_mul hx (hg _ ?_)
      unfold gd
      rw [List.getD_eq_getElem?_getD, List.getElem?_eq_getElem hj]
      exact List.getElem_mem hj
    rw [hy] at hm
    obtain ⟨b', ih⟩ := qmul_inner T (p0 := p0) (bg := bg) hi hx hg n g2 (s.set (i + j) (gd s (i + j) + gd f i * y)) (j + 1) (.val (.int (j : Int))) z hd2 (by rw [List.length_set]; omega) (by rw [List.length_set]; exact hs)
    refine ⟨b', ?_⟩
    rw [List.length_cons, rngD_succ]
    unfold addAt
    have e0 : (i : Int) + (j : Int) = ((i + j : Nat) : Int) := by omega
    have hat := atI_D (f := s) (k := i + j) (by omega)
    have hix : ixN s.length ((i + j : Nat) : Int) = some (i + j) := by rw [ixN_of (by omega) (by omega), Int.toNat_natCast]
    rw [forL_nx (show bodyF T (n + 19) (.one 5) [.put 3 (.bin .Add (.nm 4) (.nm 5)) (.bin .Add (.ixn 3 (.bin .Add (.nm 4) (.nm 5))) (.bin .Mult (.ixn 1 (.nm 4)) (.ixn 2 (.nm 5))))] (.int (j : Int)) ⟨[p0, .val (.tuple (I f)), .val (.tuple (I g)), .own (I s), .val (.int (i : Int)), b, z], bg⟩ = some (.nx ⟨[p0, .val (.tuple (I f)), .val (.tuple (I g)), .own (I (s.set (i + j) (gd s (i + j) + gd f i * y))), .val (.int (i : Int)), .val (.int (j : Int)), z], bg⟩) by simp (config := {implicitDefEqProofs := false}) (disch := omega) [bodyF, hm, e0, hat, hix, atI_D hi, atI_D hj, hy, I_set, -Int.natCast_add, q_int, q_bl, q_non, q_nm, q_bin, q_neg, q_negI, q_not, q_bop, q_ife, q_cmp, q_ix, q_ixn, q_sl, q_sln, q_blt, q_lenn, q_isi, q_lst, q_tup, q_lc, q_push, q_pop, q_evc, q_to0, q_to1, q_o0, q_o1, q_intD, q_a0, q_a1, q_tnt, q_tbop, q_tcmp, q_tval, q_tnm, q_iseq, q_irng, q_ienu, q_izip, q_irev, q_sset, q_stgt, q_spar, q_sput, q_sret, q_sretn, q_sife, q_swhl, q_sfor, q_sex, q_spass, q_sbrk, q_scnt, q_ss0, q_ss1, q_gonx, q_gort, q_gobk, q_goct, q_add, q_addl, q_addt, q_sub, q_mul, q_mull, q_mult, q_div, q_mod, q_pow, q_eq, q_ne, q_lt, q_le, q_gt, q_ge, q_is1, q_is2, q_is3, q_is4, q_is5, q_tr0, q_trb, q_tri, q_trl, q_trt, q_ixl, q_ixt, q_sll, q_slt, q_sls, q_lenl, q_lent, q_inti, q_absi, q_lisl, q_list, q_tupl, q_tupt, q_all, q_max, q_min, q_itl, q_itt, q_seql, q_seqt, q_rng1, q_rng2, q_enu1, q_enu2, q_end1, q_end2, q_own, q_val, q_st1, q_stt, q_sta0, q_sta1, q_re1, q_re0, q_appA, q_appioA, q_appkA, ↓bind_o, obind_some, List.getElem?_cons_zero, List.getElem?_cons_succ, List.set_cons_zero, List.set_cons_succ, lockS, slotL, Fz.atS, putL, runD, en0, vals, setS, opStop, wipeE, wipeS, restE, restS, plainS, szB_of, posB_of, b62_of, mulB_of, divB_of, powB_of, repB_one, timB_one, flat_one, I_rep, atI_0, atI_1, atI_2, atI_3, atI_4, ixN_of, cut_from, cut_to, eqv_int, eqv_none, shp_int, shp_bool, shp_none, zip_I])]
    rw [show (j : Int) + 1 = ((j + 1 : Nat) : Int) by omega]
    exact ih
theorem qmul_outer (T : Tb) {p0 bg : _} {f g : List Int} (hf : ∀ y ∈ f, small y) (hg : ∀ y ∈ g, small y) (hgl : g.length ≤ 100000) (n : Nat) : ∀ (f2 s : List Int) (i : Nat) (a b z : Sl), f.drop i = f2 → i + (f2.length + g.length) ≤ s.length + 1 → s.length ≤ 100000 →
    ∃ a' b', forL (bodyF T (n + 30) (.one 4) [.for (.one 5) (.rng [(.lenn 2)]) [.put 3 (.bin .Add (.nm 4) (.nm 5)) (.bin .Add (.ixn 3 (.bin .Add (.nm 4) (.nm 5))) (.bin .Mult (.ixn 1 (.nm 4)) (.ixn 2 (.nm 5))))]]) (rngD (i : Int) f2.length) ⟨[p0, .val (.tuple (I f)), .val (.tuple (I g)), .own (I s), a, b, z], bg⟩ = some (.nx ⟨[p0, .val (.tuple (I f)), .val (.tuple (I g)), .own (I (mulFrom g s i f2)), a', b', z], bg⟩)
  := by
  intro f2
  induction f2 with
  | nil => intro s i a b z _ _ _; exact ⟨a, b, rfl⟩
  | cons x f2 IH =>
    intro s i a b z hd hl hs
    obtain ⟨hi, hx, hd2⟩ := drop_gd hd
    have hl' : i + (f2.length + 1 + g.length) ≤ s.length + 1 := hl
    have hxs : small (gd f i) := by
      refine hf _ ?_
      unfold gd
      rw [List.getD_eq_getElem?_getD, List.getElem?_eq_getElem hi]
      exact List.getElem_mem hi
    obtain ⟨b2, h2⟩ := qmul_inner T (p0 := p0) (bg := bg) hi hxs hg (n + 9) g s 0 b z rfl (by omega) hs
    rw [show n + 9 + 19 = n + 28 from rfl, show ((0 : Nat) : Int) = 0 from rfl, hx, show i + 0 = i from rfl] at h2
    obtain ⟨a', b', ih⟩ := IH (addAt s i x g) (i + 1) (.val (.int (i : Int))) b2 z hd2 (by rw [addAt_len]; omega) (by rw [addAt_len]; exact hs)
    refine ⟨a', b', ?_⟩
    rw [List.length_cons, rngD_succ]
    unfold mulFrom
    rw [forL_nx (show bodyF T (n + 30) (.one 4) [.for (.one 5) (.rng [(.lenn 2)]) [.put 3 (.bin .Add (.nm 4) (.nm 5)) (.bin .Add (.ixn 3 (.bin .Add (.nm 4) (.nm 5))) (.bin .Mult (.ixn 1 (.nm 4)) (.ixn 2 (.nm 5))))]] (.int (i : Int)) ⟨[p0, .val (.tuple (I f)), .val (.tuple (I g)), .own (I s), a, b, z], bg⟩ = some (.nx ⟨[p0, .val (.tuple (I f)), .val (.tuple (I g)), .own (I (addAt s i x g)), .val (.int (i : Int)), b2, z], bg⟩) by simp (config := {implicitDefEqProofs := false}) (disch := omega) [bodyF, h2, q_int, q_bl, q_non, q_nm, q_bin, q_neg, q_negI, q_not, q_bop, q_ife, q_cmp, q_ix, q_ixn, q_sl, q_sln, q_blt, q_lenn, q_isi, q_lst, q_tup, q_lc, q_push, q_pop, q_evc, q_to0, q_to1, q_o0, q_o1, q_intD, q_a0, q_a1, q_tnt, q_tbop, q_tcmp, q_tval, q_tnm, q_iseq, q_irng, q_ienu, q_izip, q_irev, q_sset, q_stgt, q_spar, q_sput, q_sret, q_sretn, q_sife, q_swhl, q_sfor, q_sex, q_spass, q_sbrk, q_scnt, q_ss0, q_ss1, q_gonx, q_gort, q_gobk, q_goct, q_add, q_addl, q_addt, q_sub, q_mul, q_mull, q_mult, q_div, q_mod, q_pow, q_eq, q_ne, q_lt, q_le, q_gt, q_ge, q_is1, q_is2, q_is3, q_is4, q_is5, q_tr0, q_trb, q_tri, q_trl, q_trt, q_ixl, q_ixt, q_sll, q_slt, q_sls, q_lenl, q_lent, q_inti, q_absi, q_lisl, q_list, q_tupl, q_tupt, q_all, q_max, q_min, q_itl, q_itt, q_seql, q_seqt, q_rng1, q_rng2, q_enu1, q_enu2, q_end1, q_end2, q_own, q_val, q_st1, q_stt, q_sta0, q_sta1, q_re1, q_re0, q_appA, q_appioA, q_appkA, ↓bind_o, obind_some, List.getElem?_cons_zero, List.getElem?_cons_succ, List.set_cons_zero, List.set_cons_succ, lockS, slotL, Fz.atS, putL, runD, en0, vals, setS, opStop, wipeE, wipeS, restE, restS, plainS, szB_of, posB_of, b62_of, mulB_of, divB_of, powB_of, repB_one, timB_one, flat_one, I_rep, atI_0, atI_1, atI_2, atI_3, atI_4, ixN_of, cut_from, cut_to, eqv_int, eqv_none, shp_int, shp_bool, shp_none, zip_I])]
    rw [show (i : Int) + 1 = ((i + 1 : Nat) : Int) by omega]
    exact ih
theorem run_mul (hN : N.length = 7) (hF : At fs j17 false 1 d_trim) {ds : List D} {z : Bool × D × List D} (h : d_multiply ds = some z) : runD ⟨N, fs, WW⟩ 60 false (B_q_mul j17) ds = some z := by
  unfold d_multiply two at h
  split at h
  · rename_i p a b
    simp only [Option.bind_eq_some_iff] at h
    obtain ⟨f, hf, g, hg, h⟩ := h
    split at h
    · rename_i hp
      split at h
      · rename_i hs
        simp only [Option.map_some, Option.some.injEq] at h
        cases h
        rw [allI_eq hf, allI_eq hg]
        obtain ⟨hp, h1, h2⟩ := hp
        cases f with
        | nil => rfl
        | cons x f =>
          cases g with
          | nil => rfl
          | cons y g =>
            have h1' : f.length + 1 ≤ 40000 := h1
            have h2' : g.length + 1 ≤ 40000 := h2
            obtain ⟨a', b', hl⟩ := qmul_outer ⟨N, fs, WW⟩ (p0 := .val (.int p)) (bg := []) hs.1 hs.2 (by omega) 26 (x :: f) (List.replicate (f.length + 1 + g.length) 0) 0 .no .no .no rfl (by simp; omega) (by simp; omega)
            have hc : ∀ n a b (xs : List Int), lcL (evC ⟨N, fs, WW⟩ (n + 9) (.one 6) [6] none (.bin .Mod (.blt .int [(.nm 6)]) (.nm 0))) (I xs) ⟨[.val (.int p), .val (.tuple (I (x :: f))), .val (.tuple (I (y :: g))), .val (.list (I xs)), a, b, .no], []⟩ = some (I (xs.map (· % p)), ⟨[.val (.int p), .val (.tuple (I (x :: f))), .val (.tuple (I (y :: g))), .val (.list (I xs)), a, b, .no], []⟩) := by
              intro n a b xs
              rw [show I (xs.map (· % p)) = xs.map fun x => PyData.int (x % p) by simp [I]]
              refine lcL_pure _ _ fun x _ => ?_
              simp (config := {implicitDefEqProofs := false}) (disch := omega) [q_int, q_bl, q_non, q_nm, q_bin, q_neg, q_negI, q_not, q_bop, q_ife, q_cmp, q_ix, q_ixn, q_sl, q_sln, q_blt, q_lenn, q_isi, q_lst, q_tup, q_lc, q_push, q_pop, q_evc, q_to0, q_to1, q_o0, q_o1, q_intD, q_a0, q_a1, q_tnt, q_tbop, q_tcmp, q_tval, q_tnm, q_iseq, q_irng, q_ienu, q_izip, q_irev, q_sset, q_stgt, q_spar, q_sput, q_sret, q_sretn, q_sife, q_swhl, q_sfor, q_sex, q_spass, q_sbrk, q_scnt, q_ss0, q_ss1, q_gonx, q_gort, q_gobk, q_goct, q_add, q_addl, q_addt, q_sub, q_mul, q_mull, q_mult, q_div, q_mod, q_pow, q_eq, q_ne, q_lt, q_le, q_gt, q_ge, q_is1, q_is2, q_is3, q_is4, q_is5, q_tr0, q_trb, q_tri, q_trl, q_trt, q_ixl, q_ixt, q_sll, q_slt, q_sls, q_lenl, q_lent, q_inti, q_absi, q_lisl, q_list, q_tupl, q_tupt, q_all, q_max, q_min, q_itl, q_itt, q_seql, q_seqt, q_rng1, q_rng2, q_enu1, q_enu2, q_end1, q_end2, q_own, q_val, q_st1, q_stt, q_sta0, q_sta1, q_re1, q_re0, q_appA, q_appioA, q_appkA, ↓bind_o, obind_some, List.getElem?_cons_zero, List.getElem?_cons_succ, List.set_cons_zero, List.set_cons_succ, lockS, slotL, Fz.atS, putL, runD, en0, vals, setS, opStop, wipeE, wipeS, restE, restS, plainS, szB_of, posB_of, b62_of, mulB_of, divB_of, powB_of, repB_one, timB_one, flat_one, I_rep, atI_0, atI_1, atI_2, atI_3, atI_4, ixN_of, cut_from, cut_to, eqv_int, eqv_none, shp_int, shp_bool, shp_none, zip_I]
            have hd := call_trim hF (l := I ((mulRaw (x :: f) (y :: g)).map (· % p))) (by rw [List.length_map, mulRaw_len, List.length_cons, List.length_cons]; omega) rfl
            have e1 : ((f.length : Int) + 1 + ((g.length : Int) + 1) - 1).toNat = f.length + 1 + g.length := by omega
            have e2 : ((f.length : Int) + 1).toNat = f.length + 1 := by omega
            have e3 : ((f.length : Int) + 1 = 0) = False := eq_false (by omega)
            have e4 : ((g.length : Int) + 1 = 0) = False := eq_false (by omega)
            have e5 : ((f.length : Int) + 1 == 0) = false := beq_false_of_ne (by omega)
            have e6 : ((g.length : Int) + 1 == 0) = false := beq_false_of_ne (by omega)
            rw [show mulFrom (y :: g) (List.replicate (f.length + 1 + g.length) 0) 0 (x :: f) = mulRaw (x :: f) (y :: g) from rfl] at hl
            change forL (bodyF _ 56 _ _) (rngD 0 (f.length + 1)) _ = _ at hl
            rw [show trim ((mulRaw (x :: f) (y :: g)).map (· % p)) = formOf p (mulRaw (x :: f) (y :: g)) from rfl] at hd
            have hml : (mulRaw (x :: f) (y :: g)).length ≤ 100000 := by rw [mulRaw_len, List.length_cons, List.length_cons]; omega
            rw [show I (x :: f) = .int x :: I f from rfl, show I (y :: g) = .int y :: I g from rfl] at *
            simp (config := {implicitDefEqProofs := false}) (disch := omega) [B_q_mul, hN, e1, e2, e3, e4, e5, e6, hF, hl, hc, hd, q_int, q_bl, q_non, q_nm, q_bin, q_neg, q_negI, q_not, q_bop, q_ife, q_cmp, q_ix, q_ixn, q_sl, q_sln, q_blt, q_lenn, q_isi, q_lst, q_tup, q_lc, q_push, q_pop, q_evc, q_to0, q_to1, q_o0, q_o1, q_intD, q_a0, q_a1, q_tnt, q_tbop, q_tcmp, q_tval, q_tnm, q_iseq, q_irng, q_ienu, q_izip, q_irev, q_sset, q_stgt, q_spar, q_sput, q_sret, q_sretn, q_sife, q_swhl, q_sfor, q_sex, q_spass, q_sbrk, q_scnt, q_ss0, q_ss1, q_gonx, q_gort, q_gobk, q_goct, q_add, q_addl, q_addt, q_sub, q_mul, q_mull, q_mult, q_div, q_mod, q_pow, q_eq, q_ne, q_lt, q_le, q_gt, q_ge, q_is1, q_is2, q_is3, q_is4, q_is5, q_tr0, q_trb, q_tri, q_trl, q_trt, q_ixl, q_ixt, q_sll, q_slt, q_sls, q_lenl, q_lent, q_inti, q_absi, q_lisl, q_list, q_tupl, q_tupt, q_all, q_max, q_min, q_itl, q_itt, q_seql, q_seqt, q_rng1, q_rng2, q_enu1, q_enu2, q_end1, q_end2, q_own, q_val, q_st1, q_stt, q_sta0, q_sta1, q_re1, q_re0, q_appA, q_appioA, q_appkA, ↓bind_o, obind_some, List.getElem?_cons_zero, List.getElem?_cons_succ, List.set_cons_zero, List.set_cons_succ, lockS, slotL, Fz.atS, putL, runD, en0, vals, setS, opStop, wipeE, wipeS, restE, restS, plainS, szB_of, posB_of, b62_of, mulB_of, divB_of, powB_of, repB_one, timB_one, flat_one, I_rep, atI_0, atI_1, atI_2, atI_3, atI_4, ixN_of, cut_from, cut_to, eqv_int, eqv_none, shp_int, shp_bool, shp_none, zip_I]
      · cases h
    · cases h
  · cases h
/-! ### values -/
theorem val_loop (T : Tb) {p c : Int} (F : Sl) (bg : List D) (hp : 0 < p) (hp2 : p < 4294967296) (h0 : 0 ≤ c) (h1 : c < 4294967296) (n : Nat) : ∀ (xs : List Int) (v w : Int) (s : Sl), (∀ x ∈ xs, 0 ≤ x ∧ x < p) → 0 ≤ v → v < p → 0 ≤ w → w < 4294967296 →
    ∃ v' w' s', forL (bodyF T (n + 9) (.one 5) [.set 3 (.bin .Mod (.blt .int [(.bin .Add (.nm 3) (.bin .Mult (.nm 5) (.nm 4)))]) (.nm 0)), .set 4 (.bin .Mod (.blt .int [(.bin .Mult (.nm 4) (.nm 2))]) (.nm 0))]) (I xs) ⟨[.val (.int p), F, .val (.int c), .val (.int v), .val (.int w), s], bg⟩ = some (.nx ⟨[.val (.int p), F, .val (.int c), .val (.int v'), .val (.int w'), s'], bg⟩)
      ∧ 0 ≤ v' ∧ v' < p ∧ v' % p = (v + w * ev c xs) % p
  | [], v, w, s, _, h2, h3, _, _ => ⟨v, w, s, rfl, h2, h3, by simp [ev]⟩
  | x :: xs, v, w, s, hx, h2, h3, h4, h5 => by
    have hx0 := hx x List.mem_cons_self
    have q2 := Int.emod_nonneg (v + x * w) (show p ≠ 0 by omega)
    have q3 := Int.emod_lt_of_pos (v + x * w) hp
    have q4 := Int.emod_nonneg (w * c) (show p ≠ 0 by omega)
    have q5 := Int.emod_lt_of_pos (w * c) hp
    obtain ⟨v', w', s', ih, r1, r2, r3⟩ := val_loop T F bg hp hp2 h0 h1 n xs ((v + x * w) % p) ((w * c) % p) (.val (.int x)) (fun y hy => hx y (List.mem_cons_of_mem _ hy)) q2 q3 q4 (by omega)
    refine ⟨v', w', s', ?_, r1, r2, ?_⟩
    · rw [I_cons, forL_nx (show bodyF T (n + 9) (.one 5) [.set 3 (.bin .Mod (.blt .int [(.bin .Add (.nm 3) (.bin .Mult (.nm 5) (.nm 4)))]) (.nm 0)), .set 4 (.bin .Mod (.blt .int [(.bin .Mult (.nm 4) (.nm 2))]) (.nm 0))] (.int x) ⟨[.val (.int p), F, .val (.int c), .val (.int v), .val (.int w), s], bg⟩ = some (.nx ⟨[.val (.int p), F, .val (.int c), .val (.int ((v + x * w) % p)), .val (.int ((w * c) % p)), .val (.int x)], bg⟩) by simp (config := {implicitDefEqProofs := false}) (disch := omega) [bodyF, q_int, q_bl, q_non, q_nm, q_bin, q_neg, q_negI, q_not, q_bop, q_ife, q_cmp, q_ix, q_ixn, q_sl, q_sln, q_blt, q_lenn, q_isi, q_lst, q_tup, q_lc, q_push, q_pop, q_evc, q_to0, q_to1, q_o0, q_o1, q_intD, q_a0, q_a1, q_tnt, q_tbop, q_tcmp, q_tval, q_tnm, q_iseq, q_irng, q_ienu, q_izip, q_irev, q_sset, q_stgt, q_spar, q_sput, q_sret, q_sretn, q_sife, q_swhl, q_sfor, q_sex, q_spass, q_sbrk, q_scnt, q_ss0, q_ss1, q_gonx, q_gort, q_gobk, q_goct, q_add, q_addl, q_addt, q_sub, q_mul, q_mull, q_mult, q_div, q_mod, q_pow, q_eq, q_ne, q_lt, q_le, q_gt, q_ge, q_is1, q_is2, q_is3, q_is4, q_is5, q_tr0, q_trb, q_tri, q_trl, q_trt, q_ixl, q_ixt, q_sll, q_slt, q_sls, q_lenl, q_lent, q_inti, q_absi, q_lisl, q_list, q_tupl, q_tupt, q_all, q_max, q_min, q_itl, q_itt, q_seql, q_seqt, q_rng1, q_rng2, q_enu1, q_enu2, q_end1, q_end2, q_own, q_val, q_st1, q_stt, q_sta0, q_sta1, q_re1, q_re0, q_appA, q_appioA, q_appkA, ↓bind_o, obind_some, List.getElem?_cons_zero, List.getElem?_cons_succ, List.set_cons_zero, List.set_cons_succ, lockS, slotL, Fz.atS, putL, runD, en0, vals, setS, opStop, wipeE, wipeS, restE, restS, plainS, szB_of, posB_of, b62_of, mulB_of, divB_of, powB_of, repB_one, timB_one, flat_one, I_rep, atI_0, atI_1, atI_2, atI_3, atI_4, ixN_of, cut_from, cut_to, eqv_int, eqv_none, shp_int, shp_bool, shp_none, zip_I])]
      exact ih
    · rw [r3, show ev c (x :: xs) = x + c * ev c xs from rfl, Int.mul_add, ← Int.mul_assoc, ← Int.add_assoc, Int.mul_comm w x, Int.add_emod, Int.emod_emod_of_dvd _ (Int.dvd_refl p), Int.mul_emod, Int.emod_emod_of_dvd _ (Int.dvd_refl p), ← Int.mul_emod, ← Int.add_emod]
theorem run_val (hN : N.length = 6) {ds : List D} {z : Bool × D × List D} (h : d_val ds = some z) : runD ⟨N, fs, WW⟩ 60 false B_q_val ds = some z := by
  unfold d_val at h
  split at h
  · rename_i p a c
    simp only [Option.bind_eq_some_iff] at h
    obtain ⟨f, hf, h⟩ := h
    split at h
    · rename_i hp
      cases h
      rw [allI_eq hf]
      obtain ⟨hp, h1, h2, h3, h4⟩ := hp
      obtain ⟨v', w', s', hv, r1, r2, r3⟩ := val_loop ⟨N, fs, WW⟩ (.val (.tuple (I f))) [] hp h1 h2 h3 48 f 0 1 .no h4 (by decide) hp (by decide) (by decide)
      have hh : ev c f % p = v' := by rw [Int.zero_add, Int.one_mul, Int.emod_eq_of_lt r1 r2] at r3; exact r3.symm
      rw [hh]
      simp (config := {implicitDefEqProofs := false}) (disch := omega) [B_q_val, hN, hv, q_int, q_bl, q_non, q_nm, q_bin, q_neg, q_negI, q_not, q_bop, q_ife, q_cmp, q_ix, q_ixn, q_sl, q_sln, q_blt, q_lenn, q_isi, q_lst, q_tup, q_lc, q_push, q_pop, q_evc, q_to0, q_to1, q_o0, q_o1, q_intD, q_a0, q_a1, q_tnt, q_tbop, q_tcmp, q_tval, q_tnm, q_iseq, q_irng, q_ienu, q_izip, q_irev, q_sset, q_stgt, q_spar, q_sput, q_sret, q_sretn, q_sife, q_swhl, q_sfor, q_sex, q_spass, q_sbrk, q_scnt, q_ss0, q_ss1, q_gonx, q_gort, q_gobk, q_goct, q_add, q_addl, q_addt, q_sub, q_mul, q_mull, q_mult, q_div, q_mod, q_pow, q_eq, q_ne, q_lt, q_le, q_gt, q_ge, q_is1, q_is2, q_is3, q_is4, q_is5, q_tr0, q_trb, q_tri, q_trl, q_trt, q_ixl, q_ixt, q_sll, q_slt, q_sls, q_lenl, q_lent, q_inti, q_absi, q_lisl, q_list, q_tupl, q_tupt, q_all, q_max, q_min, q_itl, q_itt, q_seql, q_seqt, q_rng1, q_rng2, q_enu1, q_enu2, q_end1, q_end2, q_own, q_val, q_st1, q_stt, q_sta0, q_sta1, q_re1, q_re0, q_appA, q_appioA, q_appkA, ↓bind_o, obind_some, List.getElem?_cons_zero, List.getElem?_cons_succ, List.set_cons_zero, List.set_cons_succ, lockS, slotL, Fz.atS, putL, runD, en0, vals, setS, opStop, wipeE, wipeS, restE, restS, plainS, szB_of, posB_of, b62_of, mulB_of, divB_of, powB_of, repB_one, timB_one, flat_one, I_rep, atI_0, atI_1, atI_2, atI_3, atI_4, ixN_of, cut_from, cut_to, eqv_int, eqv_none, shp_int, shp_bool, shp_none, zip_I]
    · cases h
  · cases h
theorem horner_ev (p c : Int) : ∀ f : List Int, horner p c f = ev c f % p
  | [] => by simp [horner, ev]
  | r :: f => by
    have ih := horner_ev p c f
    show (horner p c f * c + r) % p = (r + c * ev c f) % p
    rw [ih, Int.add_emod, Int.mul_emod, Int.emod_emod_of_dvd _ (Int.dvd_refl p), ← Int.mul_emod, ← Int.add_emod, Int.mul_comm, Int.add_comm]
/-! ### value of what is reckoned -/
theorem ev_trim (c : Int) : ∀ f : List Int, ev c (trim f) = ev c f
  | [] => rfl
  | x :: f => by
    have ih := ev_trim c f
    show ev c (trim (x :: f)) = x + c * ev c f
    unfold trim
    cases h : trim f with
    | nil =>
      rw [h] at ih
      have ih' : ev c f = 0 := ih.symm
      rw [ih', Int.mul_zero, Int.add_zero]
      by_cases hx : x = 0
      · simp [hx, ev]
      · simp [hx, ev]
    | cons y l =>
      rw [h] at ih
      show x + c * ev c (y :: l) = _
      rw [ih]
theorem ev_mod (c p : Int) : ∀ f : List Int, ev c (f.map (· % p)) % p = ev c f % p
  | [] => rfl
  | x :: f => by
    show (x % p + c * ev c (f.map (· % p))) % p = (x + c * ev c f) % p
    rw [Int.add_emod, Int.mul_emod, ev_mod c p f, ← Int.mul_emod, Int.emod_emod_of_dvd _ (Int.dvd_refl p), ← Int.add_emod]
theorem ev_formOf (c p : Int) (f : List Int) : ev c (formOf p f) % p = ev c f % p := by
  unfold formOf
  rw [ev_trim, ev_mod]
theorem ev_za (c : Int) : ∀ f g : List Int, ev c (za f g) = ev c f + ev c g
  | [], g => by simp [za, ev]
  | x :: f, [] => by simp [za, ev]
  | x :: f, y :: g => by
    show x + y + c * ev c (za f g) = x + c * ev c f + (y + c * ev c g)
    rw [ev_za c f g, Int.mul_add]
    omega
theorem ev_neg (c : Int) : ∀ f : List Int, ev c (f.map (- ·)) = - ev c f
  | [] => rfl
  | x :: f => by
    show - x + c * ev c (f.map (- ·)) = - (x + c * ev c f)
    rw [ev_neg c f, Int.mul_neg]
    omega
theorem ev_zs (c : Int) : ∀ f g : List Int, ev c (zs f g) = ev c f - ev c g
  | [], g => by
    show ev c (g.map (- ·)) = 0 - ev c g
    rw [ev_neg]
    omega
  | x :: f, [] => by simp [zs, ev]
  | x :: f, y :: g => by
    show x - y + c * ev c (zs f g) = x + c * ev c f - (y + c * ev c g)
    rw [ev_zs c f g, Int.mul_sub]
    omega
end W1
set_option Elab.async false
set_option linter.all false
set_option maxRecDepth 100000
set_option maxHeartbeats 2000000
namespace W1
open PySem PySem.Spec PyProof.Rows L2 Fz
variable {fs : List (Str × Fn)} {N : List Str} {j0 j1 j2 j3 j4 j5 j6 j7 j8 j9 j10 j11 j12 j13 j14 j15 j16 j17 j18 j19 j20 j21 j22 j23 j24 j25 j26 j27 : Nat}
/-! ### coefficients -/
theorem gd_nil (k : Nat) : gd [] k = 0 := by simp [gd]
theorem gd_z (x : Int) (f : List Int) : gd (x :: f) 0 = x := rfl
theorem gd_s (x : Int) (f : List Int) (k : Nat) : gd (x :: f) (k + 1) = gd f k := by simp [gd]
theorem gd_set : ∀ (s : List Int) (i k : Nat) (v : Int), i < s.length → gd (s.set i v) k = if k = i then v else gd s k
  | [], i, k, v, h => absurd h (Nat.not_lt_zero _)
  | x :: s, 0, 0, v, _ => by simp [gd]
  | x :: s, 0, k + 1, v, _ => by simp [gd]
  | x :: s, i + 1, 0, v, _ => by simp [gd]
  | x :: s, i + 1, k + 1, v, h => by
    rw [List.set_cons_succ, gd_s, gd_s, gd_set s i k v (by simpa using h)]
    simp
theorem gd_addAt (x : Int) : ∀ (g s : List Int) (i k : Nat), i + g.length ≤ s.length → gd (addAt s i x g) k = gd s k + (if i ≤ k then x * gd g (k - i) else 0)
  | [], s, i, k, _ => by simp [addAt, gd_nil]
  | y :: g, s, i, k, h => by
    have h' : i + (g.length + 1) ≤ s.length := h
    unfold addAt
    rw [gd_addAt x g _ (i + 1) k (by rw [List.length_set]; omega), gd_set _ _ _ _ (by omega)]
    by_cases e : k = i
    · subst e
      rw [if_pos rfl, if_neg (by omega), if_pos (Nat.le_refl _), Nat.sub_self, gd_z, Int.add_zero]
    · rw [if_neg e]
      by_cases e2 : i + 1 ≤ k
      · rw [if_pos e2, if_pos (by omega), show k - i = (k - (i + 1)) + 1 by omega, gd_s]
      · rw [if_neg e2, if_neg (by omega)]
def conv : List Int → List Int → Nat → Int
  | [], _, _ => 0
  | x :: f, g, 0 => x * gd g 0
  | x :: f, g, k + 1 => x * gd g (k + 1) + conv f g k
theorem conv_z (f g : List Int) : conv f g 0 = gd f 0 * gd g 0 := by
  cases f with
  | nil => simp [conv, gd_nil]
  | cons x f => rfl
theorem conv_r (x : Int) (f : List Int) : ∀ (g : List Int) (k : Nat), conv g (x :: f) (k + 1) = x * gd g (k + 1) + conv g f k
  | [], k => by simp [conv, gd_nil]
  | y :: g, 0 => by
    show y * gd (x :: f) 1 + conv g (x :: f) 0 = x * gd (y :: g) 1 + y * gd f 0
    rw [conv_z, gd_s, gd_s, gd_z, Int.mul_comm (gd g 0) x]
    omega
  | y :: g, k + 1 => by
    show y * gd (x :: f) (k + 2) + conv g (x :: f) (k + 1) = x * gd (y :: g) (k + 2) + (y * gd f (k + 1) + conv g f k)
    rw [conv_r x f g k, gd_s, gd_s]
    omega
theorem conv_nil : ∀ (g : List Int) (k : Nat), conv g [] k = 0
  | [], k => rfl
  | y :: g, 0 => by simp [conv, gd_nil]
  | y :: g, k + 1 => by
    show y * gd [] (k + 1) + conv g [] k = 0
    rw [conv_nil g k, gd_nil]
    simp
theorem conv_comm : ∀ (f g : List Int) (k : Nat), conv f g k = conv g f k
  | [], g, k => by rw [conv_nil]; rfl
  | x :: f, g, 0 => by rw [conv_z, conv_z, Int.mul_comm]
  | x :: f, g, k + 1 => by
    rw [conv_r, ← conv_comm f g k]
    rfl
theorem gd_mulFrom (g : List Int) : ∀ (f s : List Int) (i k : Nat), i + (f.length + g.length) ≤ s.length + 1 → gd (mulFrom g s i f) k = gd s k + (if i ≤ k then conv f g (k - i) else 0)
  | [], s, i, k, _ => by simp [mulFrom, conv]
  | x :: f, s, i, k, h => by
    have h' : i + (f.length + 1 + g.length) ≤ s.length + 1 := h
    unfold mulFrom
    rw [gd_mulFrom g f _ (i + 1) k (by rw [addAt_len]; omega), gd_addAt _ _ _ _ _ (by omega), Int.add_assoc]
    congr 1
    by_cases e : i ≤ k
    · rw [if_pos e, if_pos e]
      by_cases e2 : i + 1 ≤ k
      · rw [if_pos e2, show k - i = (k - (i + 1)) + 1 by omega]
        rfl
      · rw [if_neg e2, show k - i = 0 by omega, Int.add_zero]
        rfl
    · rw [if_neg e, if_neg e, if_neg (by omega), Int.add_zero]
theorem gd_rep (n k : Nat) : gd (List.replicate n 0) k = 0 := by
  unfold gd
  rw [List.getD_eq_getElem?_getD, List.getElem?_replicate]
  split <;> rfl
theorem gd_mulRaw {f g : List Int} (hf : f ≠ []) (hg : g ≠ []) (k : Nat) : gd (mulRaw f g) k = conv f g k := by
  unfold mulRaw
  have h1 := List.length_pos_iff.mpr hf
  have h2 := List.length_pos_iff.mpr hg
  rw [gd_mulFrom _ _ _ _ _ (by rw [List.length_replicate]; omega), gd_rep, if_pos (Nat.zero_le _), Int.zero_add, Nat.sub_zero]
theorem gd_ext {f g : List Int} (hl : f.length = g.length) (h : ∀ k, gd f k = gd g k) : f = g := by
  refine List.ext_getElem hl fun k h1 h2 => ?_
  have := h k
  unfold gd at this
  rw [List.getD_eq_getElem?_getD, List.getD_eq_getElem?_getD, List.getElem?_eq_getElem h1, List.getElem?_eq_getElem h2] at this
  exact this
theorem mulRaw_comm {f g : List Int} (hf : f ≠ []) (hg : g ≠ []) : mulRaw f g = mulRaw g f := by
  refine gd_ext ?_ fun k => ?_
  · rw [mulRaw_len, mulRaw_len, Nat.add_comm]
  · rw [gd_mulRaw hf hg, gd_mulRaw hg hf, conv_comm]
theorem gd_trim : ∀ (f : List Int) (k : Nat), gd (trim f) k = gd f k
  | [], k => rfl
  | x :: f, k => by
    unfold trim
    cases h : trim f with
    | nil =>
      have ih := fun k => gd_trim f k
      rw [h] at ih
      by_cases hx : x = 0
      · rw [hx]
        cases k with
        | zero => simp [gd]
        | succ k => rw [gd_s, ← ih k]; simp [gd]
      · simp only [if_neg hx]
        cases k with
        | zero => rfl
        | succ k => rw [gd_s, gd_s, ih]
    | cons y l =>
      have ih := fun k => gd_trim f k
      rw [h] at ih
      cases k with
      | zero => rfl
      | succ k => exact (gd_s _ _ _).trans ((ih k).trans (gd_s _ _ _).symm)
theorem gd_map {u : Int → Int} (hu : u 0 = 0) (f : List Int) (k : Nat) : gd (f.map u) k = u (gd f k) := by
  unfold gd
  rw [List.getD_eq_getElem?_getD, List.getD_eq_getElem?_getD, List.getElem?_map]
  cases f[k]? with
  | none => exact hu.symm
  | some x => rfl
theorem gd_formOf (p : Int) (f : List Int) (k : Nat) : gd (formOf p f) k = gd f k % p := by
  unfold formOf
  rw [gd_trim, gd_map (u := (· % p)) (Int.zero_emod p)]
theorem gd_za : ∀ (f g : List Int) (k : Nat), gd (za f g) k = gd f k + gd g k
  | [], g, k => by rw [gd_nil, Int.zero_add]; rfl
  | x :: f, [], k => by rw [gd_nil, Int.add_zero]; rfl
  | x :: f, y :: g, 0 => rfl
  | x :: f, y :: g, k + 1 => by
    show gd ((x + y) :: za f g) (k + 1) = _
    rw [gd_s, gd_s, gd_s, gd_za f g k]
theorem gd_zs : ∀ (f g : List Int) (k : Nat), gd (zs f g) k = gd f k - gd g k
  | [], g, k => by
    show gd (g.map (- ·)) k = _
    rw [gd_nil, gd_map (u := (- ·)) rfl]
    omega
  | x :: f, [], k => by rw [gd_nil, Int.sub_zero]; rfl
  | x :: f, y :: g, 0 => rfl
  | x :: f, y :: g, k + 1 => by
    show gd ((x - y) :: zs f g) (k + 1) = _
    rw [gd_s, gd_s, gd_s, gd_zs f g k]
/-- no last zero -/
def trimmed (f : List Int) : Prop := trim f = f
theorem trim_trim : ∀ f : List Int, trimmed (trim f)
  | [] => rfl
  | x :: f => by
    have ih := trim_trim f
    unfold trimmed at ih ⊢
    cases h : trim f with
    | nil =>
      by_cases hx : x = 0 <;> simp [trim, h, hx]
    | cons y l =>
      rw [h] at ih
      have e : trim (x :: f) = x :: y :: l := by simp [trim, h]
      rw [e]
      show (match trim (y :: l) with | [] => _ | z :: zs => _) = _
      rw [ih]
theorem trim_nil : ∀ {f : List Int}, (∀ k, gd f k = 0) → trim f = []
  | [], _ => rfl
  | x :: f, h => by
    have ih := trim_nil (f := f) fun k => by have := h (k + 1); rw [gd_s] at this; exact this
    have hx : x = 0 := h 0
    simp [trim, ih, hx]
theorem trim_ext : ∀ {f g : List Int}, trimmed f → trimmed g → (∀ k, gd f k = gd g k) → f = g
  | [], g, _, hg, h => by
    rw [← hg]
    exact (trim_nil fun k => by rw [← h k, gd_nil]).symm
  | x :: f, [], hf, _, h => by
    rw [← hf]
    exact trim_nil fun k => by rw [h k, gd_nil]
  | x :: f, y :: g, hf, hg, h => by
    have h0 : x = y := h 0
    have ht : ∀ {z : Int} {l : List Int}, trimmed (z :: l) → trimmed l := by
      intro z l hl
      unfold trimmed at hl ⊢
      unfold trim at hl
      cases e : trim l with
      | nil =>
        rw [e] at hl
        by_cases hz : z = 0
        · simp [hz] at hl
        · simp only [if_neg hz, List.cons.injEq, true_and] at hl
          exact hl
      | cons y l2 =>
        rw [e] at hl
        injection hl
    rw [h0, trim_ext (ht hf) (ht hg) fun k => by have := h (k + 1); rw [gd_s, gd_s] at this; exact this]
theorem formOf_trimmed (p : Int) (f : List Int) : trimmed (formOf p f) := trim_trim _
theorem formOf_ext {p : Int} {f g : List Int} (h : ∀ k, gd f k % p = gd g k % p) : formOf p f = formOf p g :=
  trim_ext (formOf_trimmed p f) (formOf_trimmed p g) fun k => by rw [gd_formOf, gd_formOf, h k]
end W1
set_option Elab.async false
set_option linter.all false
set_option maxRecDepth 100000
set_option maxHeartbeats 2000000
namespace W1
open PySem PySem.Spec PyProof.Rows L2 Fz
variable {fs : List (Str × Fn)} {N : List Str} {j0 j1 j2 j3 j4 j5 j6 j7 j8 j9 j10 j11 j12 j13 j14 j15 j16 j17 j18 j19 j20 j21 j22 j23 j24 j25 j26 j27 : Nat}
/-! ### inverses, one by one -/
def PR : List Nat := [2, 3, 5, 7, 11, 13, 17, 19, 23, 29, 31, 37, 41, 43, 47, 53, 59, 61, 67, 71, 73, 79, 83, 89, 97]
def invL : Nat → Int → Int → Int → Int → Option Int
  | 0, _, _, _, _ => none
  | n + 1, h, l, b, w => if 1 < l then (if -1000000 < h / l ∧ h / l < 1000000 ∧ l < 1000000 ∧ -1000000 < w ∧ w < 1000000 then invL n l (h - h / l * l) w (b - h / l * w) else none) else some w
theorem inv_loop (T : Tb) (a r : Sl) (n k : Nat) : ∀ (m : Nat) (h l b w v : Int) (s : Sl), invL m h l b w = some v →
    ∃ h' l' b' s', whileL (evT T (n + 9) (.cmp .Gt (.nm 3) (.int 1))) (evSs T (n + 9) [.set 6 (.bin .FloorDiv (.nm 2) (.nm 3)), .par [2, 3] [(.nm 3), (.bin .Sub (.nm 2) (.bin .Mult (.nm 6) (.nm 3)))], .par [4, 5] [(.nm 5), (.bin .Sub (.nm 4) (.bin .Mult (.nm 6) (.nm 5)))]]) (k + m) ⟨[a, r, .val (.int h), .val (.int l), .val (.int b), .val (.int w), s], []⟩ = some (.nx ⟨[a, r, h', l', b', .val (.int v), s'], []⟩)
  | 0, h, l, b, w, v, s, e => by cases e
  | m + 1, h, l, b, w, v, s, e => by
    unfold invL at e
    split at e
    · rename_i hl
      split at e
      · rename_i hb
        obtain ⟨b1, b2, b3, b4, b5⟩ := hb
        obtain ⟨h', l', b', s', ih⟩ := inv_loop T a r n k m _ _ _ _ v (.val (.int (h / l))) e
        refine ⟨h', l', b', s', while_step (e1 := ⟨[a, r, .val (.int h), .val (.int l), .val (.int b), .val (.int w), s], []⟩) ?_ ?_ ih⟩
        · simp (config := {implicitDefEqProofs := false}) (disch := omega) [hl, q_int, q_bl, q_non, q_nm, q_bin, q_neg, q_negI, q_not, q_bop, q_ife, q_cmp, q_ix, q_ixn, q_sl, q_sln, q_blt, q_lenn, q_isi, q_lst, q_tup, q_lc, q_push, q_pop, q_evc, q_to0, q_to1, q_o0, q_o1, q_intD, q_a0, q_a1, q_tnt, q_tbop, q_tcmp, q_tval, q_tnm, q_iseq, q_irng, q_ienu, q_izip, q_irev, q_sset, q_stgt, q_spar, q_sput, q_sret, q_sretn, q_sife, q_swhl, q_sfor, q_sex, q_spass, q_sbrk, q_scnt, q_ss0, q_ss1, q_gonx, q_gort, q_gobk, q_goct, q_add, q_addl, q_addt, q_sub, q_mul, q_mull, q_mult, q_div, q_mod, q_pow, q_eq, q_ne, q_lt, q_le, q_gt, q_ge, q_is1, q_is2, q_is3, q_is4, q_is5, q_tr0, q_trb, q_tri, q_trl, q_trt, q_ixl, q_ixt, q_sll, q_slt, q_sls, q_lenl, q_lent, q_inti, q_absi, q_lisl, q_list, q_tupl, q_tupt, q_all, q_max, q_min, q_itl, q_itt, q_seql, q_seqt, q_rng1, q_rng2, q_enu1, q_enu2, q_end1, q_end2, q_own, q_val, q_st1, q_stt, q_sta0, q_sta1, q_re1, q_re0, q_appA, q_appioA, q_appkA, ↓bind_o, obind_some, List.getElem?_cons_zero, List.getElem?_cons_succ, List.set_cons_zero, List.set_cons_succ, lockS, slotL, Fz.atS, putL, runD, en0, vals, setS, opStop, wipeE, wipeS, restE, restS, plainS, szB_of, posB_of, b62_of, mulB_of, divB_of, powB_of, repB_one, timB_one, flat_one, I_rep, atI_0, atI_1, atI_2, atI_3, atI_4, ixN_of, cut_from, cut_to, eqv_int, eqv_none, shp_int, shp_bool, shp_none, zip_I]
        · generalize hq : h / l = q at *
          simp (config := {implicitDefEqProofs := false}) (disch := omega) [hq, q_int, q_bl, q_non, q_nm, q_bin, q_neg, q_negI, q_not, q_bop, q_ife, q_cmp, q_ix, q_ixn, q_sl, q_sln, q_blt, q_lenn, q_isi, q_lst, q_tup, q_lc, q_push, q_pop, q_evc, q_to0, q_to1, q_o0, q_o1, q_intD, q_a0, q_a1, q_tnt, q_tbop, q_tcmp, q_tval, q_tnm, q_iseq, q_irng, q_ienu, q_izip, q_irev, q_sset, q_stgt, q_spar, q_sput, q_sret, q_sretn, q_sife, q_swhl, q_sfor, q_sex, q_spass, q_sbrk, q_scnt, q_ss0, q_ss1, q_gonx, q_gort, q_gobk, q_goct, q_add, q_addl, q_addt, q_sub, q_mul, q_mull, q_mult, q_div, q_mod, q_pow, q_eq, q_ne, q_lt, q_le, q_gt, q_ge, q_is1, q_is2, q_is3, q_is4, q_is5, q_tr0, q_trb, q_tri, q_trl, q_trt, q_ixl, q_ixt, q_sll, q_slt, q_sls, q_lenl, q_lent, q_inti, q_absi, q_lisl, q_list, q_tupl, q_tupt, q_all, q_max, q_min, q_itl, q_itt, q_seql, q_seqt, q_rng1, q_rng2, q_enu1, q_enu2, q_end1, q_end2, q_own, q_val, q_st1, q_stt, q_sta0, q_sta1, q_re1, q_re0, q_appA, q_appioA, q_appkA, ↓bind_o, obind_some, List.getElem?_cons_zero, List.getElem?_cons_succ, List.set_cons_zero, List.set_cons_succ, lockS, slotL, Fz.atS, putL, runD, en0, vals, setS, opStop, wipeE, wipeS, restE, restS, plainS, szB_of, posB_of, b62_of, mulB_of, divB_of, powB_of, repB_one, timB_one, flat_one, I_rep, atI_0, atI_1, atI_2, atI_3, atI_4, ixN_of, cut_from, cut_to, eqv_int, eqv_none, shp_int, shp_bool, shp_none, zip_I]
      · cases e
    · rename_i hl
      cases e
      refine ⟨_, _, _, _, while_end (e1 := ⟨[a, r, .val (.int h), .val (.int l), .val (.int b), .val (.int w), s], []⟩) ?_⟩
      simp (config := {implicitDefEqProofs := false}) (disch := omega) [hl, q_int, q_bl, q_non, q_nm, q_bin, q_neg, q_negI, q_not, q_bop, q_ife, q_cmp, q_ix, q_ixn, q_sl, q_sln, q_blt, q_lenn, q_isi, q_lst, q_tup, q_lc, q_push, q_pop, q_evc, q_to0, q_to1, q_o0, q_o1, q_intD, q_a0, q_a1, q_tnt, q_tbop, q_tcmp, q_tval, q_tnm, q_iseq, q_irng, q_ienu, q_izip, q_irev, q_sset, q_stgt, q_spar, q_sput, q_sret, q_sretn, q_sife, q_swhl, q_sfor, q_sex, q_spass, q_sbrk, q_scnt, q_ss0, q_ss1, q_gonx, q_gort, q_gobk, q_goct, q_add, q_addl, q_addt, q_sub, q_mul, q_mull, q_mult, q_div, q_mod, q_pow, q_eq, q_ne, q_lt, q_le, q_gt, q_ge, q_is1, q_is2, q_is3, q_is4, q_is5, q_tr0, q_trb, q_tri, q_trl, q_trt, q_ixl, q_ixt, q_sll, q_slt, q_sls, q_lenl, q_lent, q_inti, q_absi, q_lisl, q_list, q_tupl, q_tupt, q_all, q_max, q_min, q_itl, q_itt, q_seql, q_seqt, q_rng1, q_rng2, q_enu1, q_enu2, q_end1, q_end2, q_own, q_val, q_st1, q_stt, q_sta0, q_sta1, q_re1, q_re0, q_appA, q_appioA, q_appkA, ↓bind_o, obind_some, List.getElem?_cons_zero, List.getElem?_cons_succ, List.set_cons_zero, List.set_cons_succ, lockS, slotL, Fz.atS, putL, runD, en0, vals, setS, opStop, wipeE, wipeS, restE, restS, plainS, szB_of, posB_of, b62_of, mulB_of, divB_of, powB_of, repB_one, timB_one, flat_one, I_rep, atI_0, atI_1, atI_2, atI_3, atI_4, ixN_of, cut_from, cut_to, eqv_int, eqv_none, shp_int, shp_bool, shp_none, zip_I]
def inv (p r : Int) : Int := ((invL 64 p (r % p) 0 1).getD 0) % p
def d_inverse : List D → Option (Bool × D × List D)
  | [.int p, .int r] => if 0 < p ∧ (invL 64 p (r % p) 0 1).isSome then some (false, .int (inv p r), []) else none
  | _ => none
theorem run_inverse (hN : N.length = 7) {ds : List D} {z : Bool × D × List D} (h : d_inverse ds = some z) : runD ⟨N, fs, WW⟩ 60 false B_inverse ds = some z := by
  unfold d_inverse at h
  split at h
  · rename_i p r
    split at h
    · rename_i hh
      cases h
      obtain ⟨hp, h1⟩ := hh
      obtain ⟨v, hv⟩ := Option.isSome_iff_exists.mp h1
      obtain ⟨h', l', b', s', hl⟩ := inv_loop ⟨N, fs, WW⟩ (.val (.int p)) (.val (.int r)) 45 1048512 64 p (r % p) 0 1 v .no hv
      have hi : inv p r = v % p := by unfold inv; rw [hv]; rfl
      rw [hi]
      simp (config := {implicitDefEqProofs := false}) (disch := omega) [B_inverse, hN, hl, q_int, q_bl, q_non, q_nm, q_bin, q_neg, q_negI, q_not, q_bop, q_ife, q_cmp, q_ix, q_ixn, q_sl, q_sln, q_blt, q_lenn, q_isi, q_lst, q_tup, q_lc, q_push, q_pop, q_evc, q_to0, q_to1, q_o0, q_o1, q_intD, q_a0, q_a1, q_tnt, q_tbop, q_tcmp, q_tval, q_tnm, q_iseq, q_irng, q_ienu, q_izip, q_irev, q_sset, q_stgt, q_spar, q_sput, q_sret, q_sretn, q_sife, q_swhl, q_sfor, q_sex, q_spass, q_sbrk, q_scnt, q_ss0, q_ss1, q_gonx, q_gort, q_gobk, q_goct, q_add, q_addl, q_addt, q_sub, q_mul, q_mull, q_mult, q_div, q_mod, q_pow, q_eq, q_ne, q_lt, q_le, q_gt, q_ge, q_is1, q_is2, q_is3, q_is4, q_is5, q_tr0, q_trb, q_tri, q_trl, q_trt, q_ixl, q_ixt, q_sll, q_slt, q_sls, q_lenl, q_lent, q_inti, q_absi, q_lisl, q_list, q_tupl, q_tupt, q_all, q_max, q_min, q_itl, q_itt, q_seql, q_seqt, q_rng1, q_rng2, q_enu1, q_enu2, q_end1, q_end2, q_own, q_val, q_st1, q_stt, q_sta0, q_sta1, q_re1, q_re0, q_appA, q_appioA, q_appkA, ↓bind_o, obind_some, List.getElem?_cons_zero, List.getElem?_cons_succ, List.set_cons_zero, List.set_cons_succ, lockS, slotL, Fz.atS, putL, runD, en0, vals, setS, opStop, wipeE, wipeS, restE, restS, plainS, szB_of, posB_of, b62_of, mulB_of, divB_of, powB_of, repB_one, timB_one, flat_one, I_rep, atI_0, atI_1, atI_2, atI_3, atI_4, ixN_of, cut_from, cut_to, eqv_int, eqv_none, shp_int, shp_bool, shp_none, zip_I]
    · cases h
  · cases h
def invOk (p r : Int) : Bool := (invL 64 p (r % p) 0 1).isSome && decide (0 ≤ inv p r) && decide (inv p r < p) && decide (inv p r * r % p = 1)
theorem inv_all : (PR.all fun p => (List.range (p - 1)).all fun r => invOk (p : Int) ((r + 1 : Nat) : Int)) = true := by decide +kernel
theorem PR_le {p : Nat} (h : p ∈ PR) : 2 ≤ p ∧ p ≤ 97 := by
  have : (PR.all fun p => decide (2 ≤ p ∧ p ≤ 97)) = true := by decide
  exact of_decide_eq_true (List.all_eq_true.mp this p h)
theorem inv_ok {p : Nat} (hp : p ∈ PR) {r : Int} (h0 : 0 < r) (h1 : r < p) : d_inverse [.int p, .int r] = some (false, .int (inv p r), []) ∧ 0 ≤ inv p r ∧ inv p r < p ∧ inv p r * r % p = 1 := by
  have h := List.all_eq_true.mp inv_all p hp
  have h := List.all_eq_true.mp h (r.toNat - 1) (List.mem_range.mpr (by omega))
  rw [show r.toNat - 1 + 1 = r.toNat by omega, Int.toNat_of_nonneg (by omega)] at h
  unfold invOk at h
  rw [Bool.and_eq_true, Bool.and_eq_true, Bool.and_eq_true, decide_eq_true_eq, decide_eq_true_eq, decide_eq_true_eq] at h
  obtain ⟨⟨⟨h1, h2⟩, h3⟩, h4⟩ := h
  have := PR_le hp
  refine ⟨?_, h2, h3, h4⟩
  show (if 0 < (p : Int) ∧ (invL 64 p (r % p) 0 1).isSome then _ else none) = _
  rw [if_pos ⟨by omega, h1⟩]
def isForm (p : Int) (f : List Int) : Prop := (∀ x ∈ f, 0 ≤ x ∧ x < p) ∧ trimmed f
noncomputable section
open Classical in
def monic (p : Int) (f : List Int) : List Int := if f = [] then [] else formOf p (f.map (inv p (f.getLast?.getD 0) * ·))
open Classical in
def d_monic_of : List D → Option (Bool × D × List D)
  | [.int p, .tuple a] => (allI a).bind fun f => if (∃ q : Nat, q ∈ PR ∧ p = q) ∧ isForm p f ∧ f.length ≤ 40000 then some (false, .tuple (I (monic p f)), []) else none
  | _ => none
end
theorem last_form {p : Int} {f : List Int} (h : isForm p f) (hf : f ≠ []) : ∃ l y, f = l ++ [y] ∧ 0 < y ∧ y < p := by
  rcases List.eq_nil_or_concat f with rfl | ⟨l, y, rfl⟩
  · exact absurd rfl hf
  · rw [List.concat_eq_append] at h ⊢
    refine ⟨l, y, rfl, ?_, (h.1 y (by simp)).2⟩
    have h0 := (h.1 y (by simp)).1
    by_cases e : y = 0
    · subst e
      have ht := h.2
      unfold trimmed at ht
      rw [trim_snoc0] at ht
      have : (trim l).length ≤ l.length := by
        have key : ∀ g : List Int, (trim g).length ≤ g.length := by
          intro g
          induction g with
          | nil => exact Nat.le_refl _
          | cons x g ih =>
            unfold trim
            cases e : trim g with
            | nil => dsimp only; split <;> simp
            | cons y l => rw [e] at ih; simp at ih ⊢; omega
        exact key l
      rw [ht, List.length_append, List.length_singleton] at this
      omega
    · omega
theorem run_monic (hN : N.length = 2) (h0 : At fs j0 false 2 d_inverse) (h6 : At fs j6 false 3 d_scaled) {ds : List D} {z : Bool × D × List D} (h : d_monic_of ds = some z) : runD ⟨N, fs, WW⟩ 60 false (B_monic_of j0 j6) ds = some z := by
  unfold d_monic_of at h
  split at h
  · rename_i p a
    simp only [Option.bind_eq_some_iff] at h
    obtain ⟨f, hf, h⟩ := h
    split at h
    · rename_i hp
      cases h
      rw [allI_eq hf]
      obtain ⟨⟨q, hq, rfl⟩, hF, hl⟩ := hp
      by_cases e : f = []
      · subst e
        have : monic (q : Int) [] = [] := by simp [monic]
        rw [this]
        rfl
      · obtain ⟨l, y, rfl, y0, y1⟩ := last_form hF e
        obtain ⟨i1, i2, i3, i4⟩ := inv_ok hq y0 y1
        have hq2 := PR_le hq
        have hm : monic (q : Int) (l ++ [y]) = formOf q ((l ++ [y]).map (inv q y * ·)) := by
          unfold monic
          rw [if_neg e]
          simp
        rw [hm]
        have c1 : cAt fs j0 [.int q, .int y] = some (false, .int (inv q y)) := h0.c rfl i1
        have c2 : cAt fs j6 [.int q, .tuple (I (l ++ [y])), .int (inv q y)] = some (false, .tuple (I (formOf q ((l ++ [y]).map (inv q y * ·))))) := by
          refine h6.c (l := []) rfl ?_
          unfold d_scaled
          simp only [allI_I, Option.bind_some]
          rw [if_pos ⟨by omega, hl, small_of (by omega) (by omega), fun x hx => small_of (by have := (hF.1 x hx).1; omega) (by have := (hF.1 x hx).2; omega)⟩]
        have hat : atI (I (l ++ [y])) (-1) = some (.int y) := by
          rw [I_app]
          exact atI_last _ _
        have hem : (I (l ++ [y])).isEmpty = false := by simp
        generalize hL : I (l ++ [y]) = L at *
        simp (config := {implicitDefEqProofs := false}) (disch := omega) [B_monic_of, hN, h0, h6, c1, c2, hat, hem, q_int, q_bl, q_non, q_nm, q_bin, q_neg, q_negI, q_not, q_bop, q_ife, q_cmp, q_ix, q_ixn, q_sl, q_sln, q_blt, q_lenn, q_isi, q_lst, q_tup, q_lc, q_push, q_pop, q_evc, q_to0, q_to1, q_o0, q_o1, q_intD, q_a0, q_a1, q_tnt, q_tbop, q_tcmp, q_tval, q_tnm, q_iseq, q_irng, q_ienu, q_izip, q_irev, q_sset, q_stgt, q_spar, q_sput, q_sret, q_sretn, q_sife, q_swhl, q_sfor, q_sex, q_spass, q_sbrk, q_scnt, q_ss0, q_ss1, q_gonx, q_gort, q_gobk, q_goct, q_add, q_addl, q_addt, q_sub, q_mul, q_mull, q_mult, q_div, q_mod, q_pow, q_eq, q_ne, q_lt, q_le, q_gt, q_ge, q_is1, q_is2, q_is3, q_is4, q_is5, q_tr0, q_trb, q_tri, q_trl, q_trt, q_ixl, q_ixt, q_sll, q_slt, q_sls, q_lenl, q_lent, q_inti, q_absi, q_lisl, q_list, q_tupl, q_tupt, q_all, q_max, q_min, q_itl, q_itt, q_seql, q_seqt, q_rng1, q_rng2, q_enu1, q_enu2, q_end1, q_end2, q_own, q_val, q_st1, q_stt, q_sta0, q_sta1, q_re1, q_re0, q_appA, q_appioA, q_appkA, ↓bind_o, obind_some, List.getElem?_cons_zero, List.getElem?_cons_succ, List.set_cons_zero, List.set_cons_succ, lockS, slotL, Fz.atS, putL, runD, en0, vals, setS, opStop, wipeE, wipeS, restE, restS, plainS, szB_of, posB_of, b62_of, mulB_of, divB_of, powB_of, repB_one, timB_one, flat_one, I_rep, atI_0, atI_1, atI_2, atI_3, atI_4, ixN_of, cut_from, cut_to, eqv_int, eqv_none, shp_int, shp_bool, shp_none, zip_I]
    · cases h
  · cases h
end W1
set_option Elab.async false
set_option linter.all false
set_option maxRecDepth 100000
set_option maxHeartbeats 2000000
namespace W1
open PySem PySem.Spec PyProof.Rows L2 Fz
variable {fs : List (Str × Fn)} {N : List Str} {j0 j1 j2 j3 j4 j5 j6 j7 j8 j9 j10 j11 j12 j13 j14 j15 j16 j17 j18 j19 j20 j21 j22 j23 j24 j25 j26 j27 : Nat}
/-! ### draws -/
structure Bag where
  cells : List Int
  k : Int
  left : Int
  mixed : Int
  count : Int
def bagD (b : Bag) : List D := [.list (I b.cells), .int b.k, .int b.left, .int b.mixed, .int b.count]
def ab (c : Int) : Int := if c < 0 then -c else c
def feed (b : Bag) : Bag :=
  if b.left = 0 ∧ b.k < b.cells.length then
    if 1000000000000000000 ≤ ab (gd b.cells b.k.toNat) then ⟨b.cells, b.k + 1, ab (gd b.cells b.k.toNat), b.mixed, b.count + 1⟩
    else ⟨b.cells, b.k + 1, b.left, (b.mixed * 16381 + gd b.cells b.k.toNat % 999983 * 1013 + 7) % 2147483587, b.count + 1⟩
  else ⟨b.cells, b.k, b.left, b.mixed, b.count + 1⟩
def take (b : Bag) (top : Int) : Int × Bag :=
  if 0 < b.left then (b.left % top, ⟨b.cells, b.k, b.left / top, b.mixed, b.count⟩)
  else (((b.mixed ^ 3 + b.mixed * 31337 + b.count * 104729 + 50021) % 2147483549 / 67 + (b.mixed ^ 3 + b.mixed * 31337 + b.count * 104729 + 50021) % 2147483549 % 7919 * 61) % top, ⟨b.cells, b.k, b.left, (b.mixed ^ 3 + b.mixed * 31337 + b.count * 104729 + 50021) % 2147483549, b.count⟩)
def draw (b : Bag) (top : Int) : Int × Bag := take (feed b) top
/-- what holds of a bag; so many draws were made at most -/
structure Inv (b : Bag) (n : Int) : Prop where
  k0 : 0 ≤ b.k
  l0 : 0 ≤ b.left
  m0 : 0 ≤ b.mixed
  m1 : b.mixed < 2147483648
  c0 : 0 ≤ b.count
  c1 : b.count ≤ n
theorem ab_pos (c : Int) : 0 ≤ ab c := by unfold ab; split <;> omega
theorem feed_inv {b : Bag} {n : Int} (h : Inv b n) : Inv (feed b) (n + 1) := by
  obtain ⟨h1, h2, h3, h4, h5, h6⟩ := h
  unfold feed
  split
  · split
    · exact ⟨by show 0 ≤ b.k + 1; omega, ab_pos _, h3, h4, by show 0 ≤ b.count + 1; omega, by show b.count + 1 ≤ n + 1; omega⟩
    · exact ⟨by show 0 ≤ b.k + 1; omega, h2, Int.emod_nonneg _ (by decide), by show _ % 2147483587 < _; omega, by show 0 ≤ b.count + 1; omega, by show b.count + 1 ≤ n + 1; omega⟩
  · exact ⟨h1, h2, h3, h4, by show 0 ≤ b.count + 1; omega, by show b.count + 1 ≤ n + 1; omega⟩
theorem take_inv {b : Bag} {n top : Int} (h : Inv b n) (ht : 0 < top) : Inv (take b top).2 n ∧ 0 ≤ (take b top).1 ∧ (take b top).1 < top := by
  obtain ⟨h1, h2, h3, h4, h5, h6⟩ := h
  unfold take
  split
  · exact ⟨⟨h1, Int.ediv_nonneg h2 (by omega), h3, h4, h5, h6⟩, Int.emod_nonneg _ (by omega), Int.emod_lt_of_pos _ ht⟩
  · exact ⟨⟨h1, h2, Int.emod_nonneg _ (by decide), by show _ % 2147483549 < _; omega, h5, h6⟩, Int.emod_nonneg _ (by omega), Int.emod_lt_of_pos _ ht⟩
theorem draw_inv {b : Bag} {n top : Int} (h : Inv b n) (ht : 0 < top) : Inv (draw b top).2 (n + 1) ∧ 0 ≤ (draw b top).1 ∧ (draw b top).1 < top := take_inv (feed_inv h) ht
/-- the second half of the text -/
theorem take_run (T : Tb) (n : Nat) {b : Bag} {top : Int} (h : Inv b 1000000000) (h0 : 0 < top) (h1 : top < 4294967296) (a c d : Sl) :
    ∃ a' c' d', evSs T (n + 20) [.ife (.cmp .Gt (.ixn 0 (.int 2)) (.int 0)) [.set 3 (.bin .Mod (.blt .int [(.ixn 0 (.int 2))]) (.nm 1)), .put 0 (.int 2) (.bin .FloorDiv (.ixn 0 (.int 2)) (.nm 1)), .ret (.nm 3)] [], .set 4 (.blt .int [(.ixn 0 (.int 3))]), .put 0 (.int 3) (.bin .Mod (.blt .int [(.bin .Add (.bin .Add (.bin .Add (.bin .Pow (.nm 4) (.int 3)) (.bin .Mult (.nm 4) (.int 31337))) (.bin .Mult (.ixn 0 (.int 4)) (.int 104729))) (.int 50021))]) (.int 2147483549)), .ret (.bin .Mod (.blt .int [(.bin .Add (.bin .FloorDiv (.ixn 0 (.int 3)) (.int 67)) (.bin .Mult (.bin .Mod (.blt .int [(.ixn 0 (.int 3))]) (.int 7919)) (.int 61)))]) (.nm 1))] ⟨[.bag, .val (.int top), a, c, d], bagD b⟩ = some (.rt false (.int (take b top).1) ⟨[.bag, .val (.int top), a', c', d'], bagD (take b top).2⟩) := by
  obtain ⟨cells, k, left, mixed, count⟩ := b
  obtain ⟨g1, g2, g3, g4, g5, g6⟩ := h
  dsimp only at g1 g2 g3 g4 g5 g6
  unfold take
  by_cases hl : 0 < left
  · refine ⟨a, .val (.int (left % top)), d, ?_⟩
    dsimp only
    rw [if_pos hl]
    simp (config := {implicitDefEqProofs := false}) (disch := omega) [bagD, hl, q_int, q_bl, q_non, q_nm, q_bin, q_neg, q_negI, q_not, q_bop, q_ife, q_cmp, q_ix, q_ixn, q_sl, q_sln, q_blt, q_lenn, q_isi, q_lst, q_tup, q_lc, q_push, q_pop, q_evc, q_to0, q_to1, q_o0, q_o1, q_intD, q_a0, q_a1, q_tnt, q_tbop, q_tcmp, q_tval, q_tnm, q_iseq, q_irng, q_ienu, q_izip, q_irev, q_sset, q_stgt, q_spar, q_sput, q_sret, q_sretn, q_sife, q_swhl, q_sfor, q_sex, q_spass, q_sbrk, q_scnt, q_ss0, q_ss1, q_gonx, q_gort, q_gobk, q_goct, q_add, q_addl, q_addt, q_sub, q_mul, q_mull, q_mult, q_div, q_mod, q_pow, q_eq, q_ne, q_lt, q_le, q_gt, q_ge, q_is1, q_is2, q_is3, q_is4, q_is5, q_tr0, q_trb, q_tri, q_trl, q_trt, q_ixl, q_ixt, q_sll, q_slt, q_sls, q_lenl, q_lent, q_inti, q_absi, q_lisl, q_list, q_tupl, q_tupt, q_all, q_max, q_min, q_itl, q_itt, q_seql, q_seqt, q_rng1, q_rng2, q_enu1, q_enu2, q_end1, q_end2, q_own, q_val, q_st1, q_stt, q_sta0, q_sta1, q_re1, q_re0, q_appA, q_appioA, q_appkA, ↓bind_o, obind_some, List.getElem?_cons_zero, List.getElem?_cons_succ, List.set_cons_zero, List.set_cons_succ, lockS, slotL, Fz.atS, putL, runD, en0, vals, setS, opStop, wipeE, wipeS, restE, restS, plainS, szB_of, posB_of, b62_of, mulB_of, divB_of, powB_of, repB_one, timB_one, flat_one, I_rep, atI_0, atI_1, atI_2, atI_3, atI_4, ixN_of, cut_from, cut_to, eqv_int, eqv_none, shp_int, shp_bool, shp_none, zip_I]
  · refine ⟨a, c, .val (.int mixed), ?_⟩
    dsimp only
    rw [if_neg hl]
    have hm : -4294967296 < mixed ∧ mixed < 4294967296 := ⟨by omega, by omega⟩
    generalize hM : (mixed ^ 3 + mixed * 31337 + count * 104729 + 50021) % 2147483549 = M
    have m0 : 0 ≤ M := by rw [← hM]; exact Int.emod_nonneg _ (by decide)
    have m1 : M < 2147483549 := by rw [← hM]; exact Int.emod_lt_of_pos _ (by decide)
    simp (config := {implicitDefEqProofs := false}) (disch := omega) [bagD, hl, hM, q_int, q_bl, q_non, q_nm, q_bin, q_neg, q_negI, q_not, q_bop, q_ife, q_cmp, q_ix, q_ixn, q_sl, q_sln, q_blt, q_lenn, q_isi, q_lst, q_tup, q_lc, q_push, q_pop, q_evc, q_to0, q_to1, q_o0, q_o1, q_intD, q_a0, q_a1, q_tnt, q_tbop, q_tcmp, q_tval, q_tnm, q_iseq, q_irng, q_ienu, q_izip, q_irev, q_sset, q_stgt, q_spar, q_sput, q_sret, q_sretn, q_sife, q_swhl, q_sfor, q_sex, q_spass, q_sbrk, q_scnt, q_ss0, q_ss1, q_gonx, q_gort, q_gobk, q_goct, q_add, q_addl, q_addt, q_sub, q_mul, q_mull, q_mult, q_div, q_mod, q_pow, q_eq, q_ne, q_lt, q_le, q_gt, q_ge, q_is1, q_is2, q_is3, q_is4, q_is5, q_tr0, q_trb, q_tri, q_trl, q_trt, q_ixl, q_ixt, q_sll, q_slt, q_sls, q_lenl, q_lent, q_inti, q_absi, q_lisl, q_list, q_tupl, q_tupt, q_all, q_max, q_min, q_itl, q_itt, q_seql, q_seqt, q_rng1, q_rng2, q_enu1, q_enu2, q_end1, q_end2, q_own, q_val, q_st1, q_stt, q_sta0, q_sta1, q_re1, q_re0, q_appA, q_appioA, q_appkA, ↓bind_o, obind_some, List.getElem?_cons_zero, List.getElem?_cons_succ, List.set_cons_zero, List.set_cons_succ, lockS, slotL, Fz.atS, putL, runD, en0, vals, setS, opStop, wipeE, wipeS, restE, restS, plainS, szB_of, posB_of, b62_of, mulB_of, divB_of, powB_of, repB_one, timB_one, flat_one, I_rep, atI_0, atI_1, atI_2, atI_3, atI_4, ixN_of, cut_from, cut_to, eqv_int, eqv_none, shp_int, shp_bool, shp_none, zip_I]
abbrev drawTail : List RS := [.ife (.cmp .Gt (.ixn 0 (.int 2)) (.int 0)) [.set 3 (.bin .Mod (.blt .int [(.ixn 0 (.int 2))]) (.nm 1)), .put 0 (.int 2) (.bin .FloorDiv (.ixn 0 (.int 2)) (.nm 1)), .ret (.nm 3)] [], .set 4 (.blt .int [(.ixn 0 (.int 3))]), .put 0 (.int 3) (.bin .Mod (.blt .int [(.bin .Add (.bin .Add (.bin .Add (.bin .Pow (.nm 4) (.int 3)) (.bin .Mult (.nm 4) (.int 31337))) (.bin .Mult (.ixn 0 (.int 4)) (.int 104729))) (.int 50021))]) (.int 2147483549)), .ret (.bin .Mod (.blt .int [(.bin .Add (.bin .FloorDiv (.ixn 0 (.int 3)) (.int 67)) (.bin .Mult (.bin .Mod (.blt .int [(.ixn 0 (.int 3))]) (.int 7919)) (.int 61)))]) (.nm 1))]
/-- the whole text -/
theorem draw_run (T : Tb) (n : Nat) {b : Bag} {top : Int} (h : Inv b 999999999) (h0 : 0 < top) (h1 : top < 4294967296) :
    ∃ a' c' d', evSs T (n + 40) B_q_draw ⟨[.bag, .val (.int top), .no, .no, .no], bagD b⟩ = some (.rt false (.int (draw b top).1) ⟨[.bag, .val (.int top), a', c', d'], bagD (draw b top).2⟩) := by
  have hi := feed_inv h
  have key : ∃ a, ∀ r, evSs T (n + 38) drawTail ⟨[.bag, .val (.int top), a, .no, .no], bagD (feed b)⟩ = some r → evSs T (n + 40) B_q_draw ⟨[.bag, .val (.int top), .no, .no, .no], bagD b⟩ = some r := by
    obtain ⟨cells, k, left, mixed, count⟩ := b
    obtain ⟨g1, g2, g3, g4, g5, g6⟩ := h
    dsimp only at g1 g2 g3 g4 g5 g6
    unfold feed
    dsimp only
    by_cases hf : left = 0 ∧ k < cells.length
    · rw [if_pos hf]
      obtain ⟨rfl, hk⟩ := hf
      have hat : atI (I cells) k = some (.int (gd cells k.toNat)) := by
        obtain ⟨m, rfl⟩ := Int.eq_ofNat_of_zero_le g1
        exact atI_D (by omega)
      generalize hC : gd cells k.toNat = C at *
      refine ⟨.val (.int C), fun r hr => ?_⟩
      by_cases hb : 1000000000000000000 ≤ ab C
      · rw [if_pos hb] at hr
        unfold ab at hb hr
        unfold bagD at hr ⊢
        dsimp only at hr ⊢
        unfold B_q_draw
        simp (config := {implicitDefEqProofs := false}) (disch := omega) [hk, hat, hb, hr, q_int, q_bl, q_non, q_nm, q_bin, q_neg, q_negI, q_not, q_bop, q_ife, q_cmp, q_ix, q_ixn, q_sl, q_sln, q_blt, q_lenn, q_isi, q_lst, q_tup, q_lc, q_push, q_pop, q_evc, q_to0, q_to1, q_o0, q_o1, q_intD, q_a0, q_a1, q_tnt, q_tbop, q_tcmp, q_tval, q_tnm, q_iseq, q_irng, q_ienu, q_izip, q_irev, q_sset, q_stgt, q_spar, q_sput, q_sret, q_sretn, q_sife, q_swhl, q_sfor, q_sex, q_spass, q_sbrk, q_scnt, q_ss0, q_ss1, q_gonx, q_gort, q_gobk, q_goct, q_add, q_addl, q_addt, q_sub, q_mul, q_mull, q_mult, q_div, q_mod, q_pow, q_eq, q_ne, q_lt, q_le, q_gt, q_ge, q_is1, q_is2, q_is3, q_is4, q_is5, q_tr0, q_trb, q_tri, q_trl, q_trt, q_ixl, q_ixt, q_sll, q_slt, q_sls, q_lenl, q_lent, q_inti, q_absi, q_lisl, q_list, q_tupl, q_tupt, q_all, q_max, q_min, q_itl, q_itt, q_seql, q_seqt, q_rng1, q_rng2, q_enu1, q_enu2, q_end1, q_end2, q_own, q_val, q_st1, q_stt, q_sta0, q_sta1, q_re1, q_re0, q_appA, q_appioA, q_appkA, ↓bind_o, obind_some, List.getElem?_cons_zero, List.getElem?_cons_succ, List.set_cons_zero, List.set_cons_succ, lockS, slotL, Fz.atS, putL, runD, en0, vals, setS, opStop, wipeE, wipeS, restE, restS, plainS, szB_of, posB_of, b62_of, mulB_of, divB_of, powB_of, repB_one, timB_one, flat_one, I_rep, atI_0, atI_1, atI_2, atI_3, atI_4, ixN_of, cut_from, cut_to, eqv_int, eqv_none, shp_int, shp_bool, shp_none, zip_I]
      · rw [if_neg hb] at hr
        unfold ab at hb
        unfold bagD at hr ⊢
        dsimp only at hr ⊢
        unfold B_q_draw
        simp (config := {implicitDefEqProofs := false}) (disch := omega) [hk, hat, hb, hr, q_int, q_bl, q_non, q_nm, q_bin, q_neg, q_negI, q_not, q_bop, q_ife, q_cmp, q_ix, q_ixn, q_sl, q_sln, q_blt, q_lenn, q_isi, q_lst, q_tup, q_lc, q_push, q_pop, q_evc, q_to0, q_to1, q_o0, q_o1, q_intD, q_a0, q_a1, q_tnt, q_tbop, q_tcmp, q_tval, q_tnm, q_iseq, q_irng, q_ienu, q_izip, q_irev, q_sset, q_stgt, q_spar, q_sput, q_sret, q_sretn, q_sife, q_swhl, q_sfor, q_sex, q_spass, q_sbrk, q_scnt, q_ss0, q_ss1, q_gonx, q_gort, q_gobk, q_goct, q_add, q_addl, q_addt, q_sub, q_mul, q_mull, q_mult, q_div, q_mod, q_pow, q_eq, q_ne, q_lt, q_le, q_gt, q_ge, q_is1, q_is2, q_is3, q_is4, q_is5, q_tr0, q_trb, q_tri, q_trl, q_trt, q_ixl, q_ixt, q_sll, q_slt, q_sls, q_lenl, q_lent, q_inti, q_absi, q_lisl, q_list, q_tupl, q_tupt, q_all, q_max, q_min, q_itl, q_itt, q_seql, q_seqt, q_rng1, q_rng2, q_enu1, q_enu2, q_end1, q_end2, q_own, q_val, q_st1, q_stt, q_sta0, q_sta1, q_re1, q_re0, q_appA, q_appioA, q_appkA, ↓bind_o, obind_some, List.getElem?_cons_zero, List.getElem?_cons_succ, List.set_cons_zero, List.set_cons_succ, lockS, slotL, Fz.atS, putL, runD, en0, vals, setS, opStop, wipeE, wipeS, restE, restS, plainS, szB_of, posB_of, b62_of, mulB_of, divB_of, powB_of, repB_one, timB_one, flat_one, I_rep, atI_0, atI_1, atI_2, atI_3, atI_4, ixN_of, cut_from, cut_to, eqv_int, eqv_none, shp_int, shp_bool, shp_none, zip_I]
    · refine ⟨.no, fun r hr => ?_⟩
      rw [if_neg hf] at hr
      unfold bagD at hr ⊢
      dsimp only at hr ⊢
      unfold B_q_draw
      by_cases hl : left = 0
      · have hk : ¬ k < cells.length := fun hk => hf ⟨hl, hk⟩
        subst hl
        simp (config := {implicitDefEqProofs := false}) (disch := omega) [hk, hr, q_int, q_bl, q_non, q_nm, q_bin, q_neg, q_negI, q_not, q_bop, q_ife, q_cmp, q_ix, q_ixn, q_sl, q_sln, q_blt, q_lenn, q_isi, q_lst, q_tup, q_lc, q_push, q_pop, q_evc, q_to0, q_to1, q_o0, q_o1, q_intD, q_a0, q_a1, q_tnt, q_tbop, q_tcmp, q_tval, q_tnm, q_iseq, q_irng, q_ienu, q_izip, q_irev, q_sset, q_stgt, q_spar, q_sput, q_sret, q_sretn, q_sife, q_swhl, q_sfor, q_sex, q_spass, q_sbrk, q_scnt, q_ss0, q_ss1, q_gonx, q_gort, q_gobk, q_goct, q_add, q_addl, q_addt, q_sub, q_mul, q_mull, q_mult, q_div, q_mod, q_pow, q_eq, q_ne, q_lt, q_le, q_gt, q_ge, q_is1, q_is2, q_is3, q_is4, q_is5, q_tr0, q_trb, q_tri, q_trl, q_trt, q_ixl, q_ixt, q_sll, q_slt, q_sls, q_lenl, q_lent, q_inti, q_absi, q_lisl, q_list, q_tupl, q_tupt, q_all, q_max, q_min, q_itl, q_itt, q_seql, q_seqt, q_rng1, q_rng2, q_enu1, q_enu2, q_end1, q_end2, q_own, q_val, q_st1, q_stt, q_sta0, q_sta1, q_re1, q_re0, q_appA, q_appioA, q_appkA, ↓bind_o, obind_some, List.getElem?_cons_zero, List.getElem?_cons_succ, List.set_cons_zero, List.set_cons_succ, lockS, slotL, Fz.atS, putL, runD, en0, vals, setS, opStop, wipeE, wipeS, restE, restS, plainS, szB_of, posB_of, b62_of, mulB_of, divB_of, powB_of, repB_one, timB_one, flat_one, I_rep, atI_0, atI_1, atI_2, atI_3, atI_4, ixN_of, cut_from, cut_to, eqv_int, eqv_none, shp_int, shp_bool, shp_none, zip_I]
      · simp (config := {implicitDefEqProofs := false}) (disch := omega) [hl, hr, q_int, q_bl, q_non, q_nm, q_bin, q_neg, q_negI, q_not, q_bop, q_ife, q_cmp, q_ix, q_ixn, q_sl, q_sln, q_blt, q_lenn, q_isi, q_lst, q_tup, q_lc, q_push, q_pop, q_evc, q_to0, q_to1, q_o0, q_o1, q_intD, q_a0, q_a1, q_tnt, q_tbop, q_tcmp, q_tval, q_tnm, q_iseq, q_irng, q_ienu, q_izip, q_irev, q_sset, q_stgt, q_spar, q_sput, q_sret, q_sretn, q_sife, q_swhl, q_sfor, q_sex, q_spass, q_sbrk, q_scnt, q_ss0, q_ss1, q_gonx, q_gort, q_gobk, q_goct, q_add, q_addl, q_addt, q_sub, q_mul, q_mull, q_mult, q_div, q_mod, q_pow, q_eq, q_ne, q_lt, q_le, q_gt, q_ge, q_is1, q_is2, q_is3, q_is4, q_is5, q_tr0, q_trb, q_tri, q_trl, q_trt, q_ixl, q_ixt, q_sll, q_slt, q_sls, q_lenl, q_lent, q_inti, q_absi, q_lisl, q_list, q_tupl, q_tupt, q_all, q_max, q_min, q_itl, q_itt, q_seql, q_seqt, q_rng1, q_rng2, q_enu1, q_enu2, q_end1, q_end2, q_own, q_val, q_st1, q_stt, q_sta0, q_sta1, q_re1, q_re0, q_appA, q_appioA, q_appkA, ↓bind_o, obind_some, List.getElem?_cons_zero, List.getElem?_cons_succ, List.set_cons_zero, List.set_cons_succ, lockS, slotL, Fz.atS, putL, runD, en0, vals, setS, opStop, wipeE, wipeS, restE, restS, plainS, szB_of, posB_of, b62_of, mulB_of, divB_of, powB_of, repB_one, timB_one, flat_one, I_rep, atI_0, atI_1, atI_2, atI_3, atI_4, ixN_of, cut_from, cut_to, eqv_int, eqv_none, shp_int, shp_bool, shp_none, zip_I]
  obtain ⟨a, key⟩ := key
  obtain ⟨a', c', d', ht⟩ := take_run T (n + 18) hi h0 h1 a .no .no
  exact ⟨a', c', d', key _ ht⟩
/-! ### the words of the draws -/
def bagOf : List D → Option Bag
  | [.list c, .int k, .int l, .int m, .int n] => (allI c).map fun cs => ⟨cs, k, l, m, n⟩
  | _ => none
theorem bagOf_D (b : Bag) : bagOf (bagD b) = some b := by
  unfold bagD bagOf
  dsimp only
  rw [allI_I]
  rfl
theorem bagOf_eq {l : List D} {b : Bag} (h : bagOf l = some b) : l = bagD b := by
  unfold bagOf at h
  split at h
  · rw [Option.map_eq_some_iff] at h
    obtain ⟨cs, h1, rfl⟩ := h
    rw [allI_eq h1]
    rfl
  · cases h

noncomputable section
open Classical in
def withBag (m : Int) (l : List D) (k : Bag → Option (D × Bag)) : Option (Bool × D × List D) := (bagOf l).bind fun b => if Inv b m then (k b).bind fun z => some (false, z.1, bagD z.2) else none
def d_draw : List D → Option (Bool × D × List D)
  | [.list l, .int top] => withBag 999999999 l fun b => if 0 < top ∧ top < 4294967296 then some (.int (draw b top).1, (draw b top).2) else none
  | _ => none
def ofL (b : Bag) (xs : List D) : D × Bag := (xs.getD (draw b xs.length).1.toNat .none, (draw b xs.length).2)
def d_of : List D → Option (Bool × D × List D)
  | [.list l, .list xs] => withBag 999999999 l fun b => if xs ≠ [] ∧ xs.length < 1000 then some (ofL b xs) else none
  | _ => none
end
theorem run_draw (hN : N.length = 5) {ds : List D} {z : Bool × D × List D} (h : d_draw ds = some z) : runD ⟨N, fs, WW⟩ 60 true B_q_draw ds = some z := by
  unfold d_draw withBag at h
  split at h
  · simp only [Option.bind_eq_some_iff] at h
    obtain ⟨b, hb, h⟩ := h
    rw [bagOf_eq hb]
    split at h
    · rename_i hi
      simp only [Option.bind_eq_some_iff] at h
      obtain ⟨y, h1, h⟩ := h
      split at h1
      · rename_i ht
        cases h1
        cases h
        obtain ⟨a', c', d', hr⟩ := draw_run ⟨N, fs, WW⟩ 20 hi ht.1 ht.2
        unfold runD
        show (evSs _ 60 _ (en0 N.length true _)).bind endD = _
        rw [hN]
        show (evSs _ 60 _ ⟨[.bag, .val (.int _), .no, .no, .no], bagD b⟩).bind endD = _
        rw [hr]
        rfl
      · cases h1
    · cases h
  · cases h
theorem call_draw (hD : At fs j11 true 2 d_draw) {b : Bag} {top : Int} (h : Inv b 999999999) (h0 : 0 < top) (h1 : top < 4294967296) : bAt fs j11 (bagD b) [.int top] = some (false, .int (draw b top).1, bagD (draw b top).2) := by
  refine hD.b rfl ?_
  unfold d_draw withBag
  dsimp only
  rw [bagOf_D]
  simp only [Option.bind_some]
  rw [if_pos h, if_pos ⟨h0, h1⟩]
  rfl
theorem run_of' (hN : N.length = 2) (hF : At fs j11 true 2 d_draw) {ds : List D} {z : Bool × D × List D} (h : d_of ds = some z) : runD ⟨N, fs, WW⟩ 60 true (B_q_of j11) ds = some z := by
  unfold d_of withBag at h
  split at h
  · rename_i l xs
    simp only [Option.bind_eq_some_iff] at h
    obtain ⟨b, hb, h⟩ := h
    rw [bagOf_eq hb]
    split at h
    · rename_i hi
      simp only [Option.bind_eq_some_iff] at h
      obtain ⟨y, h1, h⟩ := h
      split at h1
      · rename_i ht
        cases h1
        cases h
        have hl : 0 < xs.length := List.length_pos_iff.mpr ht.1
        have hc := call_draw hF (top := xs.length) hi (by omega) (by omega)
        obtain ⟨v1, v2, v3⟩ := draw_inv (top := xs.length) hi (by omega)
        have hat : atI xs (draw b xs.length).1 = some (ofL b xs).1 := by
          obtain ⟨m, hm⟩ := Int.eq_ofNat_of_zero_le v2
          have hm2 : m < xs.length := by omega
          unfold ofL
          rw [hm, atI_k, List.getElem?_eq_getElem hm2, List.getD_eq_getElem?_getD, Int.toNat_natCast, List.getElem?_eq_getElem hm2]
          rfl
        have hb2 : (ofL b xs).2 = (draw b xs.length).2 := rfl
        rw [hb2]
        generalize hB : bagD b = B at *
        generalize hB2 : bagD (draw b xs.length).2 = B2 at *
        simp (config := {implicitDefEqProofs := false}) (disch := omega) [B_q_of, hN, hF, hc, hat, q_int, q_bl, q_non, q_nm, q_bin, q_neg, q_negI, q_not, q_bop, q_ife, q_cmp, q_ix, q_ixn, q_sl, q_sln, q_blt, q_lenn, q_isi, q_lst, q_tup, q_lc, q_push, q_pop, q_evc, q_to0, q_to1, q_o0, q_o1, q_intD, q_a0, q_a1, q_tnt, q_tbop, q_tcmp, q_tval, q_tnm, q_iseq, q_irng, q_ienu, q_izip, q_irev, q_sset, q_stgt, q_spar, q_sput, q_sret, q_sretn, q_sife, q_swhl, q_sfor, q_sex, q_spass, q_sbrk, q_scnt, q_ss0, q_ss1, q_gonx, q_gort, q_gobk, q_goct, q_add, q_addl, q_addt, q_sub, q_mul, q_mull, q_mult, q_div, q_mod, q_pow, q_eq, q_ne, q_lt, q_le, q_gt, q_ge, q_is1, q_is2, q_is3, q_is4, q_is5, q_tr0, q_trb, q_tri, q_trl, q_trt, q_ixl, q_ixt, q_sll, q_slt, q_sls, q_lenl, q_lent, q_inti, q_absi, q_lisl, q_list, q_tupl, q_tupt, q_all, q_max, q_min, q_itl, q_itt, q_seql, q_seqt, q_rng1, q_rng2, q_enu1, q_enu2, q_end1, q_end2, q_own, q_val, q_st1, q_stt, q_sta0, q_sta1, q_re1, q_re0, q_appA, q_appioA, q_appkA, ↓bind_o, obind_some, List.getElem?_cons_zero, List.getElem?_cons_succ, List.set_cons_zero, List.set_cons_succ, lockS, slotL, Fz.atS, putL, runD, en0, vals, setS, opStop, wipeE, wipeS, restE, restS, plainS, szB_of, posB_of, b62_of, mulB_of, divB_of, powB_of, repB_one, timB_one, flat_one, I_rep, atI_0, atI_1, atI_2, atI_3, atI_4, ixN_of, cut_from, cut_to, eqv_int, eqv_none, shp_int, shp_bool, shp_none, zip_I]
      · cases h1
    · cases h
  · cases h
theorem call_of (hD : At fs j12 true 2 d_of) {b : Bag} {xs : List D} (h : Inv b 999999999) (h0 : xs ≠ []) (h1 : xs.length < 1000) : bAt fs j12 (bagD b) [.list xs] = some (false, (ofL b xs).1, bagD (ofL b xs).2) := by
  refine hD.b rfl ?_
  unfold d_of withBag
  dsimp only
  rw [bagOf_D]
  simp only [Option.bind_some]
  rw [if_pos h, if_pos ⟨h0, h1⟩]
  rfl
theorem of_inv {b : Bag} {xs : List D} {n : Int} (h : Inv b n) (h0 : xs ≠ []) : Inv (ofL b xs).2 (n + 1) ∧ (ofL b xs).1 ∈ xs := by
  have hl : 0 < xs.length := List.length_pos_iff.mpr h0
  obtain ⟨v1, v2, v3⟩ := draw_inv (top := xs.length) h (by omega)
  refine ⟨v1, ?_⟩
  unfold ofL
  have hm2 : (draw b xs.length).1.toNat < xs.length := by omega
  rw [List.getD_eq_getElem?_getD, List.getElem?_eq_getElem hm2]
  exact List.getElem_mem hm2
end W1
set_option Elab.async false
set_option linter.all false
set_option maxRecDepth 100000
set_option maxHeartbeats 2000000
namespace W1
open PySem PySem.Spec PyProof.Rows L2 Fz
variable {fs : List (Str × Fn)} {N : List Str} {j0 j1 j2 j3 j4 j5 j6 j7 j8 j9 j10 j11 j12 j13 j14 j15 j16 j17 j18 j19 j20 j21 j22 j23 j24 j25 j26 j27 : Nat}
/-! ### primes -/
def PRI : List Int := PR.map fun (p : Nat) => (p : Int)
def d_primes : List D → Option (Bool × D × List D)
  | [] => some (true, .list (I PRI), [])
  | _ => none
theorem lcL_filter {α : Type} {F : D → En → Option (Option D × En)} {e : En} (g : α → D) (c : α → Bool) (h : α → D) : ∀ {xs : List α}, (∀ x ∈ xs, F (g x) e = some (if c x then some (h x) else none, e)) → lcL F (xs.map g) e = some ((xs.filter c).map h, e)
  | [], _ => rfl
  | x :: xs, H => by
    show lcL F (g x :: xs.map g) e = _
    unfold lcL
    rw [H x List.mem_cons_self]
    simp only
    rw [lcL_filter g c h fun y hy => H y (List.mem_cons_of_mem _ hy)]
    cases hc : c x <;> simp [hc]
def divs (a : Int) : List Nat := (List.range (a - 2).toNat).filter fun k => a / (2 + k) * (2 + k) == a
theorem primes_eq : ((List.range 96).filter fun k => (divs (2 + (k : Nat))).isEmpty).map (fun k => (2 : Int) + (k : Nat)) = PRI := by decide +kernel
theorem run_primes (hN : N.length = 2) {ds : List D} {z : Bool × D × List D} (h : d_primes ds = some z) : runD ⟨N, fs, WW⟩ 60 false B_q_primes ds = some z := by
  unfold d_primes at h
  split at h
  · cases h
    have inner : ∀ n (a : Nat) (_ : a < 96), lcL (evC ⟨N, fs, WW⟩ (n + 12) (.one 1) [1] (some (.cmp .Eq (.bin .Mult (.bin .FloorDiv (.nm 0) (.nm 1)) (.nm 1)) (.nm 0))) (.nm 1)) (rngD 2 a) ⟨[.val (.int (2 + (a : Int))), .no], []⟩ = some ((divs (2 + (a : Int))).map fun k => .int (2 + (k : Int)), ⟨[.val (.int (2 + (a : Int))), .no], []⟩) := by
      intro n a ha
      unfold rngD divs
      rw [show ((2 : Int) + (a : Int) - 2).toNat = a by omega]
      refine lcL_filter _ _ _ fun k hk => ?_
      have hk := List.mem_range.mp hk
      generalize hq : ((2 : Int) + (a : Int)) / (2 + (k : Int)) = q
      have hd : divB (2 + (k : Int)) = true := divB_of (by omega) (by omega)
      have hm : mulB q (2 + (k : Int)) = true := by
        have h0 : 0 ≤ q := by rw [← hq]; exact Int.ediv_nonneg (by omega) (by omega)
        have h1 : q ≤ 2 + (a : Int) := by rw [← hq]; exact Int.ediv_le_self _ (by omega)
        exact mulB_of (by omega) (by omega) (by omega) (by omega)
      by_cases hc : q * (2 + (k : Int)) = 2 + (a : Int)
      · simp (config := {implicitDefEqProofs := false}) (disch := omega) [hd, hm, hq, hc, q_int, q_bl, q_non, q_nm, q_bin, q_neg, q_negI, q_not, q_bop, q_ife, q_cmp, q_ix, q_ixn, q_sl, q_sln, q_blt, q_lenn, q_isi, q_lst, q_tup, q_lc, q_push, q_pop, q_evc, q_to0, q_to1, q_o0, q_o1, q_intD, q_a0, q_a1, q_tnt, q_tbop, q_tcmp, q_tval, q_tnm, q_iseq, q_irng, q_ienu, q_izip, q_irev, q_sset, q_stgt, q_spar, q_sput, q_sret, q_sretn, q_sife, q_swhl, q_sfor, q_sex, q_spass, q_sbrk, q_scnt, q_ss0, q_ss1, q_gonx, q_gort, q_gobk, q_goct, q_add, q_addl, q_addt, q_sub, q_mul, q_mull, q_mult, q_div, q_mod, q_pow, q_eq, q_ne, q_lt, q_le, q_gt, q_ge, q_is1, q_is2, q_is3, q_is4, q_is5, q_tr0, q_trb, q_tri, q_trl, q_trt, q_ixl, q_ixt, q_sll, q_slt, q_sls, q_lenl, q_lent, q_inti, q_absi, q_lisl, q_list, q_tupl, q_tupt, q_all, q_max, q_min, q_itl, q_itt, q_seql, q_seqt, q_rng1, q_rng2, q_enu1, q_enu2, q_end1, q_end2, q_own, q_val, q_st1, q_stt, q_sta0, q_sta1, q_re1, q_re0, q_appA, q_appioA, q_appkA, ↓bind_o, obind_some, List.getElem?_cons_zero, List.getElem?_cons_succ, List.set_cons_zero, List.set_cons_succ, lockS, slotL, Fz.atS, putL, runD, en0, vals, setS, opStop, wipeE, wipeS, restE, restS, plainS, szB_of, posB_of, b62_of, mulB_of, divB_of, powB_of, repB_one, timB_one, flat_one, I_rep, atI_0, atI_1, atI_2, atI_3, atI_4, ixN_of, cut_from, cut_to, eqv_int, eqv_none, shp_int, shp_bool, shp_none, zip_I]
      · simp (config := {implicitDefEqProofs := false}) (disch := omega) [hd, hm, hq, hc, q_int, q_bl, q_non, q_nm, q_bin, q_neg, q_negI, q_not, q_bop, q_ife, q_cmp, q_ix, q_ixn, q_sl, q_sln, q_blt, q_lenn, q_isi, q_lst, q_tup, q_lc, q_push, q_pop, q_evc, q_to0, q_to1, q_o0, q_o1, q_intD, q_a0, q_a1, q_tnt, q_tbop, q_tcmp, q_tval, q_tnm, q_iseq, q_irng, q_ienu, q_izip, q_irev, q_sset, q_stgt, q_spar, q_sput, q_sret, q_sretn, q_sife, q_swhl, q_sfor, q_sex, q_spass, q_sbrk, q_scnt, q_ss0, q_ss1, q_gonx, q_gort, q_gobk, q_goct, q_add, q_addl, q_addt, q_sub, q_mul, q_mull, q_mult, q_div, q_mod, q_pow, q_eq, q_ne, q_lt, q_le, q_gt, q_ge, q_is1, q_is2, q_is3, q_is4, q_is5, q_tr0, q_trb, q_tri, q_trl, q_trt, q_ixl, q_ixt, q_sll, q_slt, q_sls, q_lenl, q_lent, q_inti, q_absi, q_lisl, q_list, q_tupl, q_tupt, q_all, q_max, q_min, q_itl, q_itt, q_seql, q_seqt, q_rng1, q_rng2, q_enu1, q_enu2, q_end1, q_end2, q_own, q_val, q_st1, q_stt, q_sta0, q_sta1, q_re1, q_re0, q_appA, q_appioA, q_appkA, ↓bind_o, obind_some, List.getElem?_cons_zero, List.getElem?_cons_succ, List.set_cons_zero, List.set_cons_succ, lockS, slotL, Fz.atS, putL, runD, en0, vals, setS, opStop, wipeE, wipeS, restE, restS, plainS, szB_of, posB_of, b62_of, mulB_of, divB_of, powB_of, repB_one, timB_one, flat_one, I_rep, atI_0, atI_1, atI_2, atI_3, atI_4, ixN_of, cut_from, cut_to, eqv_int, eqv_none, shp_int, shp_bool, shp_none, zip_I]
    have shpL : ∀ l : List Nat, shp (.list (l.map fun (k : Nat) => .int (2 + (k : Int)))) = true := by
      intro l
      have := shp_list (l.map fun (k : Nat) => (2 : Int) + (k : Int))
      unfold I at this
      rw [List.map_map] at this
      exact this
    have eqvL : ∀ l : List Nat, PyData.eqv (.list (l.map fun (k : Nat) => .int (2 + (k : Int)))) (.list []) = l.isEmpty := by
      intro l
      cases l <;> rfl
    have shp0 : shp (.list []) = true := shp_list []
    have outer : ∀ n, lcL (evC ⟨N, fs, WW⟩ (n + 20) (.one 0) [0] (some (.cmp .Eq (.lc (.one 1) [1] (.rng [(.int 2), (.nm 0)]) (some (.cmp .Eq (.bin .Mult (.bin .FloorDiv (.nm 0) (.nm 1)) (.nm 1)) (.nm 0))) (.nm 1)) (.lst []))) (.nm 0)) (rngD 2 96) ⟨[.no, .no], []⟩ = some (I PRI, ⟨[.no, .no], []⟩) := by
      intro n
      rw [show I PRI = ((List.range 96).filter fun k => (divs (2 + (k : Nat))).isEmpty).map (fun k => .int ((2 : Int) + (k : Nat))) by rw [← primes_eq]; unfold I; rw [List.map_map]; rfl]
      unfold rngD
      refine lcL_filter _ _ _ fun k hk => ?_
      have hk := List.mem_range.mp hk
      have e0 : (2 + (k : Int) - 2).toNat = k := by omega
      cases hc : (divs (2 + (k : Int))).isEmpty
      · simp (config := {implicitDefEqProofs := false}) (disch := omega) [e0, inner _ k hk, shp0, shpL, eqvL, hc, rngD_len, q_int, q_bl, q_non, q_nm, q_bin, q_neg, q_negI, q_not, q_bop, q_ife, q_cmp, q_ix, q_ixn, q_sl, q_sln, q_blt, q_lenn, q_isi, q_lst, q_tup, q_lc, q_push, q_pop, q_evc, q_to0, q_to1, q_o0, q_o1, q_intD, q_a0, q_a1, q_tnt, q_tbop, q_tcmp, q_tval, q_tnm, q_iseq, q_irng, q_ienu, q_izip, q_irev, q_sset, q_stgt, q_spar, q_sput, q_sret, q_sretn, q_sife, q_swhl, q_sfor, q_sex, q_spass, q_sbrk, q_scnt, q_ss0, q_ss1, q_gonx, q_gort, q_gobk, q_goct, q_add, q_addl, q_addt, q_sub, q_mul, q_mull, q_mult, q_div, q_mod, q_pow, q_eq, q_ne, q_lt, q_le, q_gt, q_ge, q_is1, q_is2, q_is3, q_is4, q_is5, q_tr0, q_trb, q_tri, q_trl, q_trt, q_ixl, q_ixt, q_sll, q_slt, q_sls, q_lenl, q_lent, q_inti, q_absi, q_lisl, q_list, q_tupl, q_tupt, q_all, q_max, q_min, q_itl, q_itt, q_seql, q_seqt, q_rng1, q_rng2, q_enu1, q_enu2, q_end1, q_end2, q_own, q_val, q_st1, q_stt, q_sta0, q_sta1, q_re1, q_re0, q_appA, q_appioA, q_appkA, ↓bind_o, obind_some, List.getElem?_cons_zero, List.getElem?_cons_succ, List.set_cons_zero, List.set_cons_succ, lockS, slotL, Fz.atS, putL, runD, en0, vals, setS, opStop, wipeE, wipeS, restE, restS, plainS, szB_of, posB_of, b62_of, mulB_of, divB_of, powB_of, repB_one, timB_one, flat_one, I_rep, atI_0, atI_1, atI_2, atI_3, atI_4, ixN_of, cut_from, cut_to, eqv_int, eqv_none, shp_int, shp_bool, shp_none, zip_I]
      · simp (config := {implicitDefEqProofs := false}) (disch := omega) [e0, inner _ k hk, shp0, shpL, eqvL, hc, rngD_len, q_int, q_bl, q_non, q_nm, q_bin, q_neg, q_negI, q_not, q_bop, q_ife, q_cmp, q_ix, q_ixn, q_sl, q_sln, q_blt, q_lenn, q_isi, q_lst, q_tup, q_lc, q_push, q_pop, q_evc, q_to0, q_to1, q_o0, q_o1, q_intD, q_a0, q_a1, q_tnt, q_tbop, q_tcmp, q_tval, q_tnm, q_iseq, q_irng, q_ienu, q_izip, q_irev, q_sset, q_stgt, q_spar, q_sput, q_sret, q_sretn, q_sife, q_swhl, q_sfor, q_sex, q_spass, q_sbrk, q_scnt, q_ss0, q_ss1, q_gonx, q_gort, q_gobk, q_goct, q_add, q_addl, q_addt, q_sub, q_mul, q_mull, q_mult, q_div, q_mod, q_pow, q_eq, q_ne, q_lt, q_le, q_gt, q_ge, q_is1, q_is2, q_is3, q_is4, q_is5, q_tr0, q_trb, q_tri, q_trl, q_trt, q_ixl, q_ixt, q_sll, q_slt, q_sls, q_lenl, q_lent, q_inti, q_absi, q_lisl, q_list, q_tupl, q_tupt, q_all, q_max, q_min, q_itl, q_itt, q_seql, q_seqt, q_rng1, q_rng2, q_enu1, q_enu2, q_end1, q_end2, q_own, q_val, q_st1, q_stt, q_sta0, q_sta1, q_re1, q_re0, q_appA, q_appioA, q_appkA, ↓bind_o, obind_some, List.getElem?_cons_zero, List.getElem?_cons_succ, List.set_cons_zero, List.set_cons_succ, lockS, slotL, Fz.atS, putL, runD, en0, vals, setS, opStop, wipeE, wipeS, restE, restS, plainS, szB_of, posB_of, b62_of, mulB_of, divB_of, powB_of, repB_one, timB_one, flat_one, I_rep, atI_0, atI_1, atI_2, atI_3, atI_4, ixN_of, cut_from, cut_to, eqv_int, eqv_none, shp_int, shp_bool, shp_none, zip_I]
    simp (config := {implicitDefEqProofs := false}) (disch := omega) [B_q_primes, hN, outer, rngD_len, q_int, q_bl, q_non, q_nm, q_bin, q_neg, q_negI, q_not, q_bop, q_ife, q_cmp, q_ix, q_ixn, q_sl, q_sln, q_blt, q_lenn, q_isi, q_lst, q_tup, q_lc, q_push, q_pop, q_evc, q_to0, q_to1, q_o0, q_o1, q_intD, q_a0, q_a1, q_tnt, q_tbop, q_tcmp, q_tval, q_tnm, q_iseq, q_irng, q_ienu, q_izip, q_irev, q_sset, q_stgt, q_spar, q_sput, q_sret, q_sretn, q_sife, q_swhl, q_sfor, q_sex, q_spass, q_sbrk, q_scnt, q_ss0, q_ss1, q_gonx, q_gort, q_gobk, q_goct, q_add, q_addl, q_addt, q_sub, q_mul, q_mull, q_mult, q_div, q_mod, q_pow, q_eq, q_ne, q_lt, q_le, q_gt, q_ge, q_is1, q_is2, q_is3, q_is4, q_is5, q_tr0, q_trb, q_tri, q_trl, q_trt, q_ixl, q_ixt, q_sll, q_slt, q_sls, q_lenl, q_lent, q_inti, q_absi, q_lisl, q_list, q_tupl, q_tupt, q_all, q_max, q_min, q_itl, q_itt, q_seql, q_seqt, q_rng1, q_rng2, q_enu1, q_enu2, q_end1, q_end2, q_own, q_val, q_st1, q_stt, q_sta0, q_sta1, q_re1, q_re0, q_appA, q_appioA, q_appkA, ↓bind_o, obind_some, List.getElem?_cons_zero, List.getElem?_cons_succ, List.set_cons_zero, List.set_cons_succ, lockS, slotL, Fz.atS, putL, runD, en0, vals, setS, opStop, wipeE, wipeS, restE, restS, plainS, szB_of, posB_of, b62_of, mulB_of, divB_of, powB_of, repB_one, timB_one, flat_one, I_rep, atI_0, atI_1, atI_2, atI_3, atI_4, ixN_of, cut_from, cut_to, eqv_int, eqv_none, shp_int, shp_bool, shp_none, zip_I]
  · cases h
theorem call_primes (h : At fs j15 false 0 d_primes) : cAt fs j15 [] = some (true, .list (I PRI)) := h.c (l := []) rfl rfl
def SMALL : List D := [.int 2, .int 3, .int 5, .int 7, .int 2, .int 3, .int 5, .int 11, .int 13]
noncomputable section
def primeB (b : Bag) : D × Bag := if (draw b 6).1 = 0 then ofL (draw b 6).2 (I PRI) else ofL (draw b 6).2 SMALL
def d_prime : List D → Option (Bool × D × List D)
  | [.list l] => withBag 999999990 l fun b => some (primeB b)
  | _ => none
end
theorem Inv.up {b : Bag} {n m : Int} (h : Inv b n) (hm : n ≤ m) : Inv b m := ⟨h.k0, h.l0, h.m0, h.m1, h.c0, by have := h.c1; omega⟩
theorem small_pr : ∀ x ∈ SMALL, ∃ p, p ∈ PR ∧ x = .int ((p : Nat) : Int) := by
  intro x hx
  simp only [SMALL, List.mem_cons, List.not_mem_nil, or_false] at hx
  rcases hx with rfl | rfl | rfl | rfl | rfl | rfl | rfl | rfl | rfl
  · exact ⟨2, by decide, rfl⟩
  · exact ⟨3, by decide, rfl⟩
  · exact ⟨5, by decide, rfl⟩
  · exact ⟨7, by decide, rfl⟩
  · exact ⟨2, by decide, rfl⟩
  · exact ⟨3, by decide, rfl⟩
  · exact ⟨5, by decide, rfl⟩
  · exact ⟨11, by decide, rfl⟩
  · exact ⟨13, by decide, rfl⟩
theorem PRI_len : (I PRI).length = 25 := by rw [I_len]; rfl
theorem PRI_ne : I PRI ≠ [] := by
  intro h
  have := PRI_len
  rw [h] at this
  cases this
theorem SMALL_ne : SMALL ≠ [] := by intro h; cases h
theorem prime_inv {b : Bag} {n : Int} (h : Inv b n) : Inv (primeB b).2 (n + 2) ∧ ∃ p, p ∈ PR ∧ (primeB b).1 = .int ((p : Nat) : Int) := by
  obtain ⟨v1, _, _⟩ := draw_inv (top := 6) h (by decide)
  unfold primeB
  split
  · obtain ⟨w1, w2⟩ := of_inv v1 (xs := I PRI) PRI_ne
    refine ⟨w1.up (by omega), ?_⟩
    unfold I PRI at w2
    rw [List.map_map, List.mem_map] at w2
    obtain ⟨p, hp, e⟩ := w2
    exact ⟨p, hp, e.symm⟩
  · obtain ⟨w1, w2⟩ := of_inv v1 (xs := SMALL) SMALL_ne
    exact ⟨w1.up (by omega), small_pr _ w2⟩
theorem run_prime (hN : N.length = 1) (h11 : At fs j11 true 2 d_draw) (h12 : At fs j12 true 2 d_of) (h15 : At fs j15 false 0 d_primes) {ds : List D} {z : Bool × D × List D} (h : d_prime ds = some z) : runD ⟨N, fs, WW⟩ 60 true (B_q_prime j11 j12 j15) ds = some z := by
  unfold d_prime withBag at h
  split at h
  · rename_i l
    simp only [Option.bind_eq_some_iff] at h
    obtain ⟨b, hb, h⟩ := h
    rw [bagOf_eq hb]
    split at h
    · rename_i hi
      simp only [Option.bind_some, Option.some.injEq] at h
      cases h
      have hc := call_draw h11 (top := 6) (hi.up (by decide)) (by decide) (by decide)
      obtain ⟨v1, v2, v3⟩ := draw_inv (top := 6) hi (by decide)
      have v1' : Inv (draw b 6).2 999999999 := v1.up (by decide)
      unfold primeB
      by_cases e : (draw b 6).1 = 0
      · rw [if_pos e]
        have hc2 := call_of h12 (xs := I PRI) v1' PRI_ne (by rw [PRI_len]; decide)
        generalize hB : bagD b = B at *
        generalize hB2 : bagD (draw b 6).2 = B2 at *
        generalize hB3 : ofL (draw b 6).2 (I PRI) = B3 at *
        generalize hB4 : bagD B3.2 = B4 at *
        generalize hL : I PRI = L at *
        have hpr := call_primes h15
        rw [hL] at hpr
        simp (config := {implicitDefEqProofs := false}) (disch := omega) [B_q_prime, hN, h11, h12, h15, hc, hc2, e, hpr, q_int, q_bl, q_non, q_nm, q_bin, q_neg, q_negI, q_not, q_bop, q_ife, q_cmp, q_ix, q_ixn, q_sl, q_sln, q_blt, q_lenn, q_isi, q_lst, q_tup, q_lc, q_push, q_pop, q_evc, q_to0, q_to1, q_o0, q_o1, q_intD, q_a0, q_a1, q_tnt, q_tbop, q_tcmp, q_tval, q_tnm, q_iseq, q_irng, q_ienu, q_izip, q_irev, q_sset, q_stgt, q_spar, q_sput, q_sret, q_sretn, q_sife, q_swhl, q_sfor, q_sex, q_spass, q_sbrk, q_scnt, q_ss0, q_ss1, q_gonx, q_gort, q_gobk, q_goct, q_add, q_addl, q_addt, q_sub, q_mul, q_mull, q_mult, q_div, q_mod, q_pow, q_eq, q_ne, q_lt, q_le, q_gt, q_ge, q_is1, q_is2, q_is3, q_is4, q_is5, q_tr0, q_trb, q_tri, q_trl, q_trt, q_ixl, q_ixt, q_sll, q_slt, q_sls, q_lenl, q_lent, q_inti, q_absi, q_lisl, q_list, q_tupl, q_tupt, q_all, q_max, q_min, q_itl, q_itt, q_seql, q_seqt, q_rng1, q_rng2, q_enu1, q_enu2, q_end1, q_end2, q_own, q_val, q_st1, q_stt, q_sta0, q_sta1, q_re1, q_re0, q_appA, q_appioA, q_appkA, ↓bind_o, obind_some, List.getElem?_cons_zero, List.getElem?_cons_succ, List.set_cons_zero, List.set_cons_succ, lockS, slotL, Fz.atS, putL, runD, en0, vals, setS, opStop, wipeE, wipeS, restE, restS, plainS, szB_of, posB_of, b62_of, mulB_of, divB_of, powB_of, repB_one, timB_one, flat_one, I_rep, atI_0, atI_1, atI_2, atI_3, atI_4, ixN_of, cut_from, cut_to, eqv_int, eqv_none, shp_int, shp_bool, shp_none, zip_I]
      · rw [if_neg e]
        have hc2 := call_of h12 (xs := SMALL) v1' SMALL_ne (by decide)
        generalize hB : bagD b = B at *
        generalize hB2 : bagD (draw b 6).2 = B2 at *
        generalize hB3 : ofL (draw b 6).2 SMALL = B3 at *
        generalize hB4 : bagD B3.2 = B4 at *
        unfold SMALL at hc2
        simp (config := {implicitDefEqProofs := false}) (disch := omega) [B_q_prime, hN, h11, h12, h15, hc, hc2, e, q_int, q_bl, q_non, q_nm, q_bin, q_neg, q_negI, q_not, q_bop, q_ife, q_cmp, q_ix, q_ixn, q_sl, q_sln, q_blt, q_lenn, q_isi, q_lst, q_tup, q_lc, q_push, q_pop, q_evc, q_to0, q_to1, q_o0, q_o1, q_intD, q_a0, q_a1, q_tnt, q_tbop, q_tcmp, q_tval, q_tnm, q_iseq, q_irng, q_ienu, q_izip, q_irev, q_sset, q_stgt, q_spar, q_sput, q_sret, q_sretn, q_sife, q_swhl, q_sfor, q_sex, q_spass, q_sbrk, q_scnt, q_ss0, q_ss1, q_gonx, q_gort, q_gobk, q_goct, q_add, q_addl, q_addt, q_sub, q_mul, q_mull, q_mult, q_div, q_mod, q_pow, q_eq, q_ne, q_lt, q_le, q_gt, q_ge, q_is1, q_is2, q_is3, q_is4, q_is5, q_tr0, q_trb, q_tri, q_trl, q_trt, q_ixl, q_ixt, q_sll, q_slt, q_sls, q_lenl, q_lent, q_inti, q_absi, q_lisl, q_list, q_tupl, q_tupt, q_all, q_max, q_min, q_itl, q_itt, q_seql, q_seqt, q_rng1, q_rng2, q_enu1, q_enu2, q_end1, q_end2, q_own, q_val, q_st1, q_stt, q_sta0, q_sta1, q_re1, q_re0, q_appA, q_appioA, q_appkA, ↓bind_o, obind_some, List.getElem?_cons_zero, List.getElem?_cons_succ, List.set_cons_zero, List.set_cons_succ, lockS, slotL, Fz.atS, putL, runD, en0, vals, setS, opStop, wipeE, wipeS, restE, restS, plainS, szB_of, posB_of, b62_of, mulB_of, divB_of, powB_of, repB_one, timB_one, flat_one, I_rep, atI_0, atI_1, atI_2, atI_3, atI_4, ixN_of, cut_from, cut_to, eqv_int, eqv_none, shp_int, shp_bool, shp_none, zip_I]
    · cases h
  · cases h
theorem call_prime (hD : At fs j16 true 1 d_prime) {b : Bag} (h : Inv b 999999990) : bAt fs j16 (bagD b) [] = some (false, (primeB b).1, bagD (primeB b).2) := by
  refine hD.b rfl ?_
  unfold d_prime withBag
  dsimp only
  rw [bagOf_D]
  simp only [Option.bind_some]
  rw [if_pos h]
/-! ### a list of draws, one after another -/
def drawN (top : Int) : Nat → Bag → List Int × Bag
  | 0, b => ([], b)
  | n + 1, b => let r := draw b top; let s := drawN top n r.2; (r.1 :: s.1, s.2)
theorem drawN_inv {top : Int} (ht : 0 < top) : ∀ (k : Nat) {b : Bag} {n : Int}, Inv b n → Inv (drawN top k b).2 (n + k) ∧ (drawN top k b).1.length = k ∧ ∀ x ∈ (drawN top k b).1, 0 ≤ x ∧ x < top
  | 0, b, n, h => ⟨h.up (by omega), rfl, by intro x hx; cases hx⟩
  | k + 1, b, n, h => by
    obtain ⟨v1, v2, v3⟩ := draw_inv h ht
    obtain ⟨w1, w2, w3⟩ := drawN_inv ht k v1
    unfold drawN
    refine ⟨w1.up (by omega), by simp [w2], ?_⟩
    intro x hx
    rcases List.mem_cons.mp hx with rfl | hx
    · exact ⟨v2, v3⟩
    · exact w3 x hx
/-- a list told by draws: what one turn does -/
theorem lcL_draws {F : D → En → Option (Option D × En)} {top : Int} (ht : 0 < top) (st : Bag → En) (m : Int) (hF : ∀ d b, Inv b m → F d (st b) = some (some (.int (draw b top).1), st (draw b top).2)) : ∀ (xs : List D) {b : Bag} {n : Int}, Inv b n → n + xs.length ≤ m + 1 →
    lcL F xs (st b) = some (I (drawN top xs.length b).1, st (drawN top xs.length b).2)
  | [], b, n, h, _ => rfl
  | d :: xs, b, n, h, hn => by
    have hn' : n + (xs.length + 1 : Nat) ≤ m + 1 := hn
    obtain ⟨v1, _, _⟩ := draw_inv h ht
    unfold lcL
    rw [hF d b (h.up (by omega))]
    dsimp only
    rw [lcL_draws ht st m hF xs v1 (by omega)]
    rfl
noncomputable section
def formB (b : Bag) (p deg : Int) : List Int × Bag := let r := draw b (deg + 2); let s := drawN p r.1.toNat r.2; (trim s.1, s.2)
def d_form : List D → Option (Bool × D × List D)
  | [.list l, .int p, .int deg] => withBag 999999000 l fun b => if 0 < p ∧ p < 100 ∧ 0 ≤ deg ∧ deg ≤ 40 then some (.tuple (I (formB b p deg).1), (formB b p deg).2) else none
  | _ => none
end
theorem trim_mem {P : Int → Prop} : ∀ {f : List Int}, (∀ x ∈ f, P x) → ∀ x ∈ trim f, P x
  | [], _, x, hx => by cases hx
  | y :: f, h, x, hx => by
    have ih := trim_mem (f := f) fun z hz => h z (List.mem_cons_of_mem _ hz)
    unfold trim at hx
    cases e : trim f with
    | nil =>
      rw [e] at hx
      by_cases hy : y = 0
      · simp [hy] at hx
      · simp only [if_neg hy, List.mem_singleton] at hx
        rw [hx]
        exact h y List.mem_cons_self
    | cons z l =>
      rw [e] at hx ih
      rcases List.mem_cons.mp hx with rfl | hx
      · exact h _ List.mem_cons_self
      · exact ih x hx
theorem trim_le : ∀ g : List Int, (trim g).length ≤ g.length := by
  intro g
  induction g with
  | nil => exact Nat.le_refl _
  | cons x g ih =>
    unfold trim
    cases e : trim g with
    | nil => dsimp only; split <;> simp
    | cons y l => rw [e] at ih; simp at ih ⊢; omega
theorem form_inv {b : Bag} {n p deg : Int} (h : Inv b n) (hp : 0 < p) (hd : 0 ≤ deg) (hd2 : deg ≤ 40) : Inv (formB b p deg).2 (n + 43) ∧ isForm p (formB b p deg).1 ∧ (formB b p deg).1.length ≤ 41 := by
  obtain ⟨v1, v2, v3⟩ := draw_inv (top := deg + 2) h (by omega)
  obtain ⟨w1, w2, w3⟩ := drawN_inv hp (draw b (deg + 2)).1.toNat v1
  unfold formB
  refine ⟨w1.up (by omega), ⟨?_, trim_trim _⟩, ?_⟩
  · exact trim_mem w3
  · refine Nat.le_trans (trim_le _) ?_
    rw [w2]
    omega
theorem run_form (hN : N.length = 4) (h11 : At fs j11 true 2 d_draw) (h17 : At fs j17 false 1 d_trim) {ds : List D} {z : Bool × D × List D} (h : d_form ds = some z) : runD ⟨N, fs, WW⟩ 60 true (B_q_form j11 j17) ds = some z := by
  unfold d_form withBag at h
  split at h
  · rename_i l p deg
    simp only [Option.bind_eq_some_iff] at h
    obtain ⟨b, hb, h⟩ := h
    rw [bagOf_eq hb]
    split at h
    · rename_i hi
      simp only [Option.bind_eq_some_iff] at h
      obtain ⟨y, h1, h⟩ := h
      split at h1
      · rename_i ht
        cases h1
        cases h
        obtain ⟨hp, hp2, hd, hd2⟩ := ht
        have hc := call_draw h11 (top := deg + 2) (hi.up (by decide)) (by omega) (by omega)
        obtain ⟨v1, v2, v3⟩ := draw_inv (top := deg + 2) hi (by omega)
        have hb62 : b62 (draw b (deg + 2)).1 = true := b62_of (by omega) (by omega)
        obtain ⟨w1, w2, w3⟩ := drawN_inv hp (draw b (deg + 2)).1.toNat v1
        have hlen : (rngD 0 (draw b (deg + 2)).1.toNat).length = (draw b (deg + 2)).1.toNat := rngD_len _ _
        have hz : szB (draw b (deg + 2)).1.toNat = true := szB_of (by omega)
        have hl : ∀ n, lcL (evC ⟨N, fs, WW⟩ (n + 9) (.one 3) [3] none (.appio j11 0 [(.nm 1)])) (rngD 0 (draw b (deg + 2)).1.toNat) ⟨[.bag, .val (.int p), .val (.int deg), .no], bagD (draw b (deg + 2)).2⟩ = some (I (drawN p (draw b (deg + 2)).1.toNat (draw b (deg + 2)).2).1, ⟨[.bag, .val (.int p), .val (.int deg), .no], bagD (drawN p (draw b (deg + 2)).1.toNat (draw b (deg + 2)).2).2⟩) := by
          intro n
          have := lcL_draws (F := evC ⟨N, fs, WW⟩ (n + 9) (.one 3) [3] none (.appio j11 0 [(.nm 1)])) hp (fun b => ⟨[.bag, .val (.int p), .val (.int deg), .no], bagD b⟩) 999999999 (fun d b hb => by
            have hc := call_draw h11 (top := p) hb hp (by omega)
            generalize hB : bagD b = B at *
            generalize hB2 : bagD (draw b p).2 = B2 at *
            simp (config := {implicitDefEqProofs := false}) (disch := omega) [h11, hc, q_int, q_bl, q_non, q_nm, q_bin, q_neg, q_negI, q_not, q_bop, q_ife, q_cmp, q_ix, q_ixn, q_sl, q_sln, q_blt, q_lenn, q_isi, q_lst, q_tup, q_lc, q_push, q_pop, q_evc, q_to0, q_to1, q_o0, q_o1, q_intD, q_a0, q_a1, q_tnt, q_tbop, q_tcmp, q_tval, q_tnm, q_iseq, q_irng, q_ienu, q_izip, q_irev, q_sset, q_stgt, q_spar, q_sput, q_sret, q_sretn, q_sife, q_swhl, q_sfor, q_sex, q_spass, q_sbrk, q_scnt, q_ss0, q_ss1, q_gonx, q_gort, q_gobk, q_goct, q_add, q_addl, q_addt, q_sub, q_mul, q_mull, q_mult, q_div, q_mod, q_pow, q_eq, q_ne, q_lt, q_le, q_gt, q_ge, q_is1, q_is2, q_is3, q_is4, q_is5, q_tr0, q_trb, q_tri, q_trl, q_trt, q_ixl, q_ixt, q_sll, q_slt, q_sls, q_lenl, q_lent, q_inti, q_absi, q_lisl, q_list, q_tupl, q_tupt, q_all, q_max, q_min, q_itl, q_itt, q_seql, q_seqt, q_rng1, q_rng2, q_enu1, q_enu2, q_end1, q_end2, q_own, q_val, q_st1, q_stt, q_sta0, q_sta1, q_re1, q_re0, q_appA, q_appioA, q_appkA, ↓bind_o, obind_some, List.getElem?_cons_zero, List.getElem?_cons_succ, List.set_cons_zero, List.set_cons_succ, lockS, slotL, Fz.atS, putL, runD, en0, vals, setS, opStop, wipeE, wipeS, restE, restS, plainS, szB_of, posB_of, b62_of, mulB_of, divB_of, powB_of, repB_one, timB_one, flat_one, I_rep, atI_0, atI_1, atI_2, atI_3, atI_4, ixN_of, cut_from, cut_to, eqv_int, eqv_none, shp_int, shp_bool, shp_none, zip_I]) (rngD 0 (draw b (deg + 2)).1.toNat) v1 (by rw [hlen]; omega)
          rw [hlen] at this
          exact this
        have ht := call_trim h17 (l := I (drawN p (draw b (deg + 2)).1.toNat (draw b (deg + 2)).2).1) (by rw [w2]; omega) rfl
        show _ = some (false, PyData.tuple (I (trim (drawN p (draw b (deg + 2)).1.toNat (draw b (deg + 2)).2).1)), bagD (drawN p (draw b (deg + 2)).1.toNat (draw b (deg + 2)).2).2)
        generalize hB2 : drawN p (draw b (deg + 2)).1.toNat (draw b (deg + 2)).2 = Z at *
        generalize hB3 : draw b (deg + 2) = Y at *
        generalize hB : bagD b = B at *
        generalize hB4 : bagD Z.2 = B4 at *
        generalize hB5 : bagD Y.2 = B5 at *
        simp (config := {implicitDefEqProofs := false}) (disch := omega) [B_q_form, hN, h11, h17, hc, hb62, hlen, hz, hl, ht, q_int, q_bl, q_non, q_nm, q_bin, q_neg, q_negI, q_not, q_bop, q_ife, q_cmp, q_ix, q_ixn, q_sl, q_sln, q_blt, q_lenn, q_isi, q_lst, q_tup, q_lc, q_push, q_pop, q_evc, q_to0, q_to1, q_o0, q_o1, q_intD, q_a0, q_a1, q_tnt, q_tbop, q_tcmp, q_tval, q_tnm, q_iseq, q_irng, q_ienu, q_izip, q_irev, q_sset, q_stgt, q_spar, q_sput, q_sret, q_sretn, q_sife, q_swhl, q_sfor, q_sex, q_spass, q_sbrk, q_scnt, q_ss0, q_ss1, q_gonx, q_gort, q_gobk, q_goct, q_add, q_addl, q_addt, q_sub, q_mul, q_mull, q_mult, q_div, q_mod, q_pow, q_eq, q_ne, q_lt, q_le, q_gt, q_ge, q_is1, q_is2, q_is3, q_is4, q_is5, q_tr0, q_trb, q_tri, q_trl, q_trt, q_ixl, q_ixt, q_sll, q_slt, q_sls, q_lenl, q_lent, q_inti, q_absi, q_lisl, q_list, q_tupl, q_tupt, q_all, q_max, q_min, q_itl, q_itt, q_seql, q_seqt, q_rng1, q_rng2, q_enu1, q_enu2, q_end1, q_end2, q_own, q_val, q_st1, q_stt, q_sta0, q_sta1, q_re1, q_re0, q_appA, q_appioA, q_appkA, ↓bind_o, obind_some, List.getElem?_cons_zero, List.getElem?_cons_succ, List.set_cons_zero, List.set_cons_succ, lockS, slotL, Fz.atS, putL, runD, en0, vals, setS, opStop, wipeE, wipeS, restE, restS, plainS, szB_of, posB_of, b62_of, mulB_of, divB_of, powB_of, repB_one, timB_one, flat_one, I_rep, atI_0, atI_1, atI_2, atI_3, atI_4, ixN_of, cut_from, cut_to, eqv_int, eqv_none, shp_int, shp_bool, shp_none, zip_I]
      · cases h1
    · cases h
  · cases h
theorem call_lform (hD : At fs j23 true 3 d_form) {b : Bag} {p deg : Int} (h : Inv b 999999000) (hp : 0 < p) (hp2 : p < 100) (hd : 0 ≤ deg) (hd2 : deg ≤ 40) : bAt fs j23 (bagD b) [.int p, .int deg] = some (false, .tuple (I (formB b p deg).1), bagD (formB b p deg).2) := by
  refine hD.b rfl ?_
  unfold d_form withBag
  dsimp only
  rw [bagOf_D]
  simp only [Option.bind_some]
  rw [if_pos h, if_pos ⟨hp, hp2, hd, hd2⟩]
  rfl
end W1
set_option Elab.async false
set_option linter.all false
set_option maxRecDepth 100000
set_option maxHeartbeats 2000000
namespace W1
open PySem PySem.Spec PyProof.Rows L2 Fz
variable {fs : List (Str × Fn)} {N : List Str} {j0 j1 j2 j3 j4 j5 j6 j7 j8 j9 j10 j11 j12 j13 j14 j15 j16 j17 j18 j19 j20 j21 j22 j23 j24 j25 j26 j27 : Nat}
/-! ### forms judged -/
def d_is_num : List D → Option (Bool × D × List D)
  | [.int _] => some (false, .bool true, [])
  | _ => none
theorem run_is_num (hN : N.length = 1) {ds : List D} {z : Bool × D × List D} (h : d_is_num ds = some z) : runD ⟨N, fs, WW⟩ 60 false B_q_is_num ds = some z := by
  unfold d_is_num at h
  split at h
  · cases h
    rfl
  · cases h
theorem call_is_num (h : At fs j14 false 1 d_is_num) (i : Int) : cAt fs j14 [.int i] = some (false, .bool true) := h.c (l := []) rfl rfl
noncomputable section
open Classical in
def d_is_form : List D → Option (Bool × D × List D)
  | [.int p, .tuple a] => (allI a).bind fun f => if isForm p f then some (false, .bool true, []) else none
  | _ => none
end
theorem is_form_loop (T : Tb) (hF : At T.fs j14 false 1 d_is_num) {p : Int} (F : Sl) (bg : List D) (n : Nat) : ∀ (xs : List Int) (s : Sl), (∀ x ∈ xs, 0 ≤ x ∧ x < p) →
    ∃ s', forL (bodyF T (n + 12) (.one 2) [.ife (.bop .Or (.nt (.val (.app j14 [(.nm 2)]))) (.bop .Or (.cmp .Lt (.nm 2) (.int 0)) (.cmp .GtE (.nm 2) (.nm 0)))) [.ret (.bl false)] []]) (I xs) ⟨[.val (.int p), F, s], bg⟩ = some (.nx ⟨[.val (.int p), F, s'], bg⟩)
  | [], s, _ => ⟨s, rfl⟩
  | x :: xs, s, hx => by
    obtain ⟨x0, x1⟩ := hx x List.mem_cons_self
    obtain ⟨s', ih⟩ := is_form_loop T hF F bg n xs (.val (.int x)) fun y hy => hx y (List.mem_cons_of_mem _ hy)
    refine ⟨s', ?_⟩
    have hc := call_is_num hF x
    have e1 : ¬ x < 0 := by omega
    have e2 : ¬ p ≤ x := by omega
    rw [I_cons, forL_nx (show bodyF T (n + 12) (.one 2) [.ife (.bop .Or (.nt (.val (.app j14 [(.nm 2)]))) (.bop .Or (.cmp .Lt (.nm 2) (.int 0)) (.cmp .GtE (.nm 2) (.nm 0)))) [.ret (.bl false)] []] (.int x) ⟨[.val (.int p), F, s], bg⟩ = some (.nx ⟨[.val (.int p), F, .val (.int x)], bg⟩) by simp (config := {implicitDefEqProofs := false}) (disch := omega) [bodyF, hF, hc, e1, e2, q_int, q_bl, q_non, q_nm, q_bin, q_neg, q_negI, q_not, q_bop, q_ife, q_cmp, q_ix, q_ixn, q_sl, q_sln, q_blt, q_lenn, q_isi, q_lst, q_tup, q_lc, q_push, q_pop, q_evc, q_to0, q_to1, q_o0, q_o1, q_intD, q_a0, q_a1, q_tnt, q_tbop, q_tcmp, q_tval, q_tnm, q_iseq, q_irng, q_ienu, q_izip, q_irev, q_sset, q_stgt, q_spar, q_sput, q_sret, q_sretn, q_sife, q_swhl, q_sfor, q_sex, q_spass, q_sbrk, q_scnt, q_ss0, q_ss1, q_gonx, q_gort, q_gobk, q_goct, q_add, q_addl, q_addt, q_sub, q_mul, q_mull, q_mult, q_div, q_mod, q_pow, q_eq, q_ne, q_lt, q_le, q_gt, q_ge, q_is1, q_is2, q_is3, q_is4, q_is5, q_tr0, q_trb, q_tri, q_trl, q_trt, q_ixl, q_ixt, q_sll, q_slt, q_sls, q_lenl, q_lent, q_inti, q_absi, q_lisl, q_list, q_tupl, q_tupt, q_all, q_max, q_min, q_itl, q_itt, q_seql, q_seqt, q_rng1, q_rng2, q_enu1, q_enu2, q_end1, q_end2, q_own, q_val, q_st1, q_stt, q_sta0, q_sta1, q_re1, q_re0, q_appA, q_appioA, q_appkA, ↓bind_o, obind_some, List.getElem?_cons_zero, List.getElem?_cons_succ, List.set_cons_zero, List.set_cons_succ, lockS, slotL, Fz.atS, putL, runD, en0, vals, setS, opStop, wipeE, wipeS, restE, restS, plainS, szB_of, posB_of, b62_of, mulB_of, divB_of, powB_of, repB_one, timB_one, flat_one, I_rep, atI_0, atI_1, atI_2, atI_3, atI_4, ixN_of, cut_from, cut_to, eqv_int, eqv_none, shp_int, shp_bool, shp_none, zip_I])]
    exact ih
theorem run_is_form (hN : N.length = 3) (hF : At fs j14 false 1 d_is_num) {ds : List D} {z : Bool × D × List D} (h : d_is_form ds = some z) : runD ⟨N, fs, WW⟩ 60 false (B_q_is_form j14) ds = some z := by
  unfold d_is_form at h
  split at h
  · rename_i p a
    simp only [Option.bind_eq_some_iff] at h
    obtain ⟨f, hf, h⟩ := h
    split at h
    · rename_i hp
      cases h
      rw [allI_eq hf]
      obtain ⟨s', hl⟩ := is_form_loop ⟨N, fs, WW⟩ hF (.val (.tuple (I f))) [] 45 f .no hp.1
      change forL (bodyF _ 57 _ _) _ _ = _ at hl
      by_cases e : f = []
      · subst e
        rw [I_nil] at hl
        simp (config := {implicitDefEqProofs := false}) (disch := omega) [B_q_is_form, hN, hl, noTag, isiD, tyD, isTy, q_int, q_bl, q_non, q_nm, q_bin, q_neg, q_negI, q_not, q_bop, q_ife, q_cmp, q_ix, q_ixn, q_sl, q_sln, q_blt, q_lenn, q_isi, q_lst, q_tup, q_lc, q_push, q_pop, q_evc, q_to0, q_to1, q_o0, q_o1, q_intD, q_a0, q_a1, q_tnt, q_tbop, q_tcmp, q_tval, q_tnm, q_iseq, q_irng, q_ienu, q_izip, q_irev, q_sset, q_stgt, q_spar, q_sput, q_sret, q_sretn, q_sife, q_swhl, q_sfor, q_sex, q_spass, q_sbrk, q_scnt, q_ss0, q_ss1, q_gonx, q_gort, q_gobk, q_goct, q_add, q_addl, q_addt, q_sub, q_mul, q_mull, q_mult, q_div, q_mod, q_pow, q_eq, q_ne, q_lt, q_le, q_gt, q_ge, q_is1, q_is2, q_is3, q_is4, q_is5, q_tr0, q_trb, q_tri, q_trl, q_trt, q_ixl, q_ixt, q_sll, q_slt, q_sls, q_lenl, q_lent, q_inti, q_absi, q_lisl, q_list, q_tupl, q_tupt, q_all, q_max, q_min, q_itl, q_itt, q_seql, q_seqt, q_rng1, q_rng2, q_enu1, q_enu2, q_end1, q_end2, q_own, q_val, q_st1, q_stt, q_sta0, q_sta1, q_re1, q_re0, q_appA, q_appioA, q_appkA, ↓bind_o, obind_some, List.getElem?_cons_zero, List.getElem?_cons_succ, List.set_cons_zero, List.set_cons_succ, lockS, slotL, Fz.atS, putL, runD, en0, vals, setS, opStop, wipeE, wipeS, restE, restS, plainS, szB_of, posB_of, b62_of, mulB_of, divB_of, powB_of, repB_one, timB_one, flat_one, I_rep, atI_0, atI_1, atI_2, atI_3, atI_4, ixN_of, cut_from, cut_to, eqv_int, eqv_none, shp_int, shp_bool, shp_none, zip_I]
      · obtain ⟨l, y, rfl, y0, y1⟩ := last_form hp e
        have hat : atI (I (l ++ [y])) (-1) = some (.int y) := by
          rw [I_app]
          exact atI_last _ _
        have hn : ¬ (l ++ [y]).length = 0 := by rw [List.length_append, List.length_singleton]; omega
        have hy : (y == 0) = false := beq_false_of_ne (by omega)
        have hlen : (I (l ++ [y])).length = (l ++ [y]).length := I_len _
        generalize hL : I (l ++ [y]) = L at *
        generalize hM : (l ++ [y]).length = M at *
        simp (config := {implicitDefEqProofs := false}) (disch := omega) [B_q_is_form, hN, hl, hat, hn, hy, hlen, noTag, isiD, tyD, isTy, q_int, q_bl, q_non, q_nm, q_bin, q_neg, q_negI, q_not, q_bop, q_ife, q_cmp, q_ix, q_ixn, q_sl, q_sln, q_blt, q_lenn, q_isi, q_lst, q_tup, q_lc, q_push, q_pop, q_evc, q_to0, q_to1, q_o0, q_o1, q_intD, q_a0, q_a1, q_tnt, q_tbop, q_tcmp, q_tval, q_tnm, q_iseq, q_irng, q_ienu, q_izip, q_irev, q_sset, q_stgt, q_spar, q_sput, q_sret, q_sretn, q_sife, q_swhl, q_sfor, q_sex, q_spass, q_sbrk, q_scnt, q_ss0, q_ss1, q_gonx, q_gort, q_gobk, q_goct, q_add, q_addl, q_addt, q_sub, q_mul, q_mull, q_mult, q_div, q_mod, q_pow, q_eq, q_ne, q_lt, q_le, q_gt, q_ge, q_is1, q_is2, q_is3, q_is4, q_is5, q_tr0, q_trb, q_tri, q_trl, q_trt, q_ixl, q_ixt, q_sll, q_slt, q_sls, q_lenl, q_lent, q_inti, q_absi, q_lisl, q_list, q_tupl, q_tupt, q_all, q_max, q_min, q_itl, q_itt, q_seql, q_seqt, q_rng1, q_rng2, q_enu1, q_enu2, q_end1, q_end2, q_own, q_val, q_st1, q_stt, q_sta0, q_sta1, q_re1, q_re0, q_appA, q_appioA, q_appkA, ↓bind_o, obind_some, List.getElem?_cons_zero, List.getElem?_cons_succ, List.set_cons_zero, List.set_cons_succ, lockS, slotL, Fz.atS, putL, runD, en0, vals, setS, opStop, wipeE, wipeS, restE, restS, plainS, szB_of, posB_of, b62_of, mulB_of, divB_of, powB_of, repB_one, timB_one, flat_one, I_rep, atI_0, atI_1, atI_2, atI_3, atI_4, ixN_of, cut_from, cut_to, eqv_int, eqv_none, shp_int, shp_bool, shp_none, zip_I]
    · cases h
  · cases h
/-! ### the bag of a script -/
def mix (m : Int) : List Int → Int
  | [] => m
  | c :: cs => mix ((m * 69621 + c % 999983 * 733 + 17) % 2147483629) cs
theorem mix_ok : ∀ (cs : List Int) {m : Int}, 0 ≤ m → m < 2147483648 → 0 ≤ mix m cs ∧ mix m cs < 2147483648
  | [], m, h0, h1 => ⟨h0, h1⟩
  | c :: cs, m, h0, h1 => mix_ok cs (Int.emod_nonneg _ (by decide)) (by have := Int.emod_lt_of_pos (m * 69621 + c % 999983 * 733 + 17) (show (0 : Int) < 2147483629 by decide); omega)
def bag0 (cs : List Int) : Bag := ⟨cs.take 63, 0, 0, mix 4201 (cs.take 63), 0⟩
theorem bag0_inv (cs : List Int) : Inv (bag0 cs) 0 := by
  obtain ⟨h0, h1⟩ := mix_ok (cs.take 63) (m := 4201) (by decide) (by decide)
  exact ⟨Int.le_refl _, Int.le_refl _, h0, h1, Int.le_refl _, Int.le_refl _⟩
def d_bag : List D → Option (Bool × D × List D)
  | [.dict [(.none, .list l)]] => (allI l).map fun cs => (true, .list (bagD (bag0 cs)), [])
  | _ => none
theorem bag_loop (T : Tb) (F : Sl) (bg : List D) (n : Nat) : ∀ (cs : List Int) (m : Int) (s : Sl), 0 ≤ m → m < 2147483648 →
    ∃ s', forL (bodyF T (n + 16) (.one 2) [.set 1 (.bin .Mod (.blt .int [(.bin .Add (.bin .Add (.bin .Mult (.nm 1) (.int 69621)) (.bin .Mult (.bin .Mod (.blt .int [(.nm 2)]) (.int 999983)) (.int 733))) (.int 17))]) (.int 2147483629))]) (I cs) ⟨[F, .val (.int m), s], bg⟩ = some (.nx ⟨[F, .val (.int (mix m cs)), s'], bg⟩)
  | [], m, s, _, _ => ⟨s, rfl⟩
  | c :: cs, m, s, h0, h1 => by
    have q0 := Int.emod_nonneg (m * 69621 + c % 999983 * 733 + 17) (show (2147483629 : Int) ≠ 0 by decide)
    have q1 := Int.emod_lt_of_pos (m * 69621 + c % 999983 * 733 + 17) (show (0 : Int) < 2147483629 by decide)
    obtain ⟨s', ih⟩ := bag_loop T F bg n cs ((m * 69621 + c % 999983 * 733 + 17) % 2147483629) (.val (.int c)) q0 (by omega)
    refine ⟨s', ?_⟩
    rw [I_cons, forL_nx (show bodyF T (n + 16) (.one 2) [.set 1 (.bin .Mod (.blt .int [(.bin .Add (.bin .Add (.bin .Mult (.nm 1) (.int 69621)) (.bin .Mult (.bin .Mod (.blt .int [(.nm 2)]) (.int 999983)) (.int 733))) (.int 17))]) (.int 2147483629))] (.int c) ⟨[F, .val (.int m), s], bg⟩ = some (.nx ⟨[F, .val (.int ((m * 69621 + c % 999983 * 733 + 17) % 2147483629)), .val (.int c)], bg⟩) by simp (config := {implicitDefEqProofs := false}) (disch := omega) [bodyF, q_int, q_bl, q_non, q_nm, q_bin, q_neg, q_negI, q_not, q_bop, q_ife, q_cmp, q_ix, q_ixn, q_sl, q_sln, q_blt, q_lenn, q_isi, q_lst, q_tup, q_lc, q_push, q_pop, q_evc, q_to0, q_to1, q_o0, q_o1, q_intD, q_a0, q_a1, q_tnt, q_tbop, q_tcmp, q_tval, q_tnm, q_iseq, q_irng, q_ienu, q_izip, q_irev, q_sset, q_stgt, q_spar, q_sput, q_sret, q_sretn, q_sife, q_swhl, q_sfor, q_sex, q_spass, q_sbrk, q_scnt, q_ss0, q_ss1, q_gonx, q_gort, q_gobk, q_goct, q_add, q_addl, q_addt, q_sub, q_mul, q_mull, q_mult, q_div, q_mod, q_pow, q_eq, q_ne, q_lt, q_le, q_gt, q_ge, q_is1, q_is2, q_is3, q_is4, q_is5, q_tr0, q_trb, q_tri, q_trl, q_trt, q_ixl, q_ixt, q_sll, q_slt, q_sls, q_lenl, q_lent, q_inti, q_absi, q_lisl, q_list, q_tupl, q_tupt, q_all, q_max, q_min, q_itl, q_itt, q_seql, q_seqt, q_rng1, q_rng2, q_enu1, q_enu2, q_end1, q_end2, q_own, q_val, q_st1, q_stt, q_sta0, q_sta1, q_re1, q_re0, q_appA, q_appioA, q_appkA, ↓bind_o, obind_some, List.getElem?_cons_zero, List.getElem?_cons_succ, List.set_cons_zero, List.set_cons_succ, lockS, slotL, Fz.atS, putL, runD, en0, vals, setS, opStop, wipeE, wipeS, restE, restS, plainS, szB_of, posB_of, b62_of, mulB_of, divB_of, powB_of, repB_one, timB_one, flat_one, I_rep, atI_0, atI_1, atI_2, atI_3, atI_4, ixN_of, cut_from, cut_to, eqv_int, eqv_none, shp_int, shp_bool, shp_none, zip_I])]
    exact ih
theorem run_bag (hN : N.length = 3) {ds : List D} {z : Bool × D × List D} (h : d_bag ds = some z) : runD ⟨N, fs, WW⟩ 60 false B_q_bag ds = some z := by
  unfold d_bag at h
  split at h
  · rename_i l
    rw [Option.map_eq_some_iff] at h
    obtain ⟨cs, h1, rfl⟩ := h
    rw [allI_eq h1]
    obtain ⟨s', hl⟩ := bag_loop ⟨N, fs, WW⟩ (.val (.dict [(.none, .list (I cs))])) [] 41 (cs.take 63) 4201 .no (by decide) (by decide)
    change forL (bodyF _ 57 _ _) _ _ = _ at hl
    simp (config := {implicitDefEqProofs := false}) (disch := omega) [B_q_bag, hN, hl, bagD, bag0, q_int, q_bl, q_non, q_nm, q_bin, q_neg, q_negI, q_not, q_bop, q_ife, q_cmp, q_ix, q_ixn, q_sl, q_sln, q_blt, q_lenn, q_isi, q_lst, q_tup, q_lc, q_push, q_pop, q_evc, q_to0, q_to1, q_o0, q_o1, q_intD, q_a0, q_a1, q_tnt, q_tbop, q_tcmp, q_tval, q_tnm, q_iseq, q_irng, q_ienu, q_izip, q_irev, q_sset, q_stgt, q_spar, q_sput, q_sret, q_sretn, q_sife, q_swhl, q_sfor, q_sex, q_spass, q_sbrk, q_scnt, q_ss0, q_ss1, q_gonx, q_gort, q_gobk, q_goct, q_add, q_addl, q_addt, q_sub, q_mul, q_mull, q_mult, q_div, q_mod, q_pow, q_eq, q_ne, q_lt, q_le, q_gt, q_ge, q_is1, q_is2, q_is3, q_is4, q_is5, q_tr0, q_trb, q_tri, q_trl, q_trt, q_ixl, q_ixt, q_sll, q_slt, q_sls, q_lenl, q_lent, q_inti, q_absi, q_lisl, q_list, q_tupl, q_tupt, q_all, q_max, q_min, q_itl, q_itt, q_seql, q_seqt, q_rng1, q_rng2, q_enu1, q_enu2, q_end1, q_end2, q_own, q_val, q_st1, q_stt, q_sta0, q_sta1, q_re1, q_re0, q_appA, q_appioA, q_appkA, ↓bind_o, obind_some, List.getElem?_cons_zero, List.getElem?_cons_succ, List.set_cons_zero, List.set_cons_succ, lockS, slotL, Fz.atS, putL, runD, en0, vals, setS, opStop, wipeE, wipeS, restE, restS, plainS, szB_of, posB_of, b62_of, mulB_of, divB_of, powB_of, repB_one, timB_one, flat_one, I_rep, atI_0, atI_1, atI_2, atI_3, atI_4, ixN_of, cut_from, cut_to, eqv_int, eqv_none, shp_int, shp_bool, shp_none, zip_I]
  · cases h
end W1
set_option Elab.async false
set_option linter.all false
set_option maxRecDepth 100000
set_option maxHeartbeats 2000000
namespace W1
open PySem PySem.Spec PyProof.Rows L2 Fz
variable {fs : List (Str × Fn)} {N : List Str} {j0 j1 j2 j3 j4 j5 j6 j7 j8 j9 j10 j11 j12 j13 j14 j15 j16 j17 j18 j19 j20 j21 j22 j23 j24 j25 j26 j27 : Nat}
/-! ### equal values are the same -/
def leaf : D → Bool
  | .none => true
  | .int _ => true
  | _ => false
def sd : Nat → D → Bool
  | 0, d => leaf d
  | n + 1, .list l => decide (l.length ≤ 100000) && l.all (sd n)
  | n + 1, .tuple l => decide (l.length ≤ 100000) && l.all (sd n)
  | _ + 1, d => leaf d
noncomputable section
open Classical in
def d_same (n : Nat) : List D → Option (Bool × D × List D)
  | [a, b] => if a = b ∧ sd n b = true then some (false, .bool true, []) else none
  | _ => none
end
theorem call_same {n : Nat} (hS : At fs j13 false 2 (d_same n)) {d : D} (h : sd n d = true) : cAt fs j13 [d, d] = some (false, .bool true) := by
  refine hS.c (l := []) rfl ?_
  unfold d_same
  dsimp only
  rw [if_pos ⟨rfl, h⟩]
theorem zip_self : ∀ l : List D, zipD l l = l.map fun x => .tuple [x, x]
  | [] => rfl
  | x :: l => by
    unfold zipD
    rw [zip_self l]
    rfl
theorem allB_tt : ∀ l : List D, allB (l.map fun _ => PyData.bool true) = some (l.map fun _ => true)
  | [] => rfl
  | x :: l => by
    show (allB (l.map fun _ => PyData.bool true)).map _ = _
    rw [allB_tt l]
    rfl
theorem all_tt (l : List D) : (l.map fun _ => true).all id = true := by simp
theorem eqv_bool (a b : Bool) : PyData.eqv (.bool a) (.bool b) = (a == b) := by cases a <;> cases b <;> rfl
theorem run_same (hN : N.length = 4) {n : Nat} (hF : n ≠ 0 → At fs j13 false 2 (d_same (n - 1))) {ds : List D} {z : Bool × D × List D} (h : d_same n ds = some z) : runD ⟨N, fs, WW⟩ 60 false (B_q_same j13) ds = some z := by
  unfold d_same at h
  split at h
  · rename_i a d
    split at h
    · rename_i hp
      cases h
      obtain ⟨rfl, hs⟩ := hp
      have hleaf : ∀ d, leaf d = true → runD ⟨N, fs, WW⟩ 60 false (B_q_same j13) [d, d] = some (false, .bool true, []) := by
        intro d hd
        cases d with
        | none => simp (config := {implicitDefEqProofs := false}) (disch := omega) [B_q_same, hN, noTag, isiD, tyD, isTy, q_int, q_bl, q_non, q_nm, q_bin, q_neg, q_negI, q_not, q_bop, q_ife, q_cmp, q_ix, q_ixn, q_sl, q_sln, q_blt, q_lenn, q_isi, q_lst, q_tup, q_lc, q_push, q_pop, q_evc, q_to0, q_to1, q_o0, q_o1, q_intD, q_a0, q_a1, q_tnt, q_tbop, q_tcmp, q_tval, q_tnm, q_iseq, q_irng, q_ienu, q_izip, q_irev, q_sset, q_stgt, q_spar, q_sput, q_sret, q_sretn, q_sife, q_swhl, q_sfor, q_sex, q_spass, q_sbrk, q_scnt, q_ss0, q_ss1, q_gonx, q_gort, q_gobk, q_goct, q_add, q_addl, q_addt, q_sub, q_mul, q_mull, q_mult, q_div, q_mod, q_pow, q_eq, q_ne, q_lt, q_le, q_gt, q_ge, q_is1, q_is2, q_is3, q_is4, q_is5, q_tr0, q_trb, q_tri, q_trl, q_trt, q_ixl, q_ixt, q_sll, q_slt, q_sls, q_lenl, q_lent, q_inti, q_absi, q_lisl, q_list, q_tupl, q_tupt, q_all, q_max, q_min, q_itl, q_itt, q_seql, q_seqt, q_rng1, q_rng2, q_enu1, q_enu2, q_end1, q_end2, q_own, q_val, q_st1, q_stt, q_sta0, q_sta1, q_re1, q_re0, q_appA, q_appioA, q_appkA, ↓bind_o, obind_some, List.getElem?_cons_zero, List.getElem?_cons_succ, List.set_cons_zero, List.set_cons_succ, lockS, slotL, Fz.atS, putL, runD, en0, vals, setS, opStop, wipeE, wipeS, restE, restS, plainS, szB_of, posB_of, b62_of, mulB_of, divB_of, powB_of, repB_one, timB_one, flat_one, I_rep, atI_0, atI_1, atI_2, atI_3, atI_4, ixN_of, cut_from, cut_to, eqv_int, eqv_none, shp_int, shp_bool, shp_none, zip_I]
        | int i => simp (config := {implicitDefEqProofs := false}) (disch := omega) [B_q_same, hN, noTag, isiD, tyD, isTy, q_int, q_bl, q_non, q_nm, q_bin, q_neg, q_negI, q_not, q_bop, q_ife, q_cmp, q_ix, q_ixn, q_sl, q_sln, q_blt, q_lenn, q_isi, q_lst, q_tup, q_lc, q_push, q_pop, q_evc, q_to0, q_to1, q_o0, q_o1, q_intD, q_a0, q_a1, q_tnt, q_tbop, q_tcmp, q_tval, q_tnm, q_iseq, q_irng, q_ienu, q_izip, q_irev, q_sset, q_stgt, q_spar, q_sput, q_sret, q_sretn, q_sife, q_swhl, q_sfor, q_sex, q_spass, q_sbrk, q_scnt, q_ss0, q_ss1, q_gonx, q_gort, q_gobk, q_goct, q_add, q_addl, q_addt, q_sub, q_mul, q_mull, q_mult, q_div, q_mod, q_pow, q_eq, q_ne, q_lt, q_le, q_gt, q_ge, q_is1, q_is2, q_is3, q_is4, q_is5, q_tr0, q_trb, q_tri, q_trl, q_trt, q_ixl, q_ixt, q_sll, q_slt, q_sls, q_lenl, q_lent, q_inti, q_absi, q_lisl, q_list, q_tupl, q_tupt, q_all, q_max, q_min, q_itl, q_itt, q_seql, q_seqt, q_rng1, q_rng2, q_enu1, q_enu2, q_end1, q_end2, q_own, q_val, q_st1, q_stt, q_sta0, q_sta1, q_re1, q_re0, q_appA, q_appioA, q_appkA, ↓bind_o, obind_some, List.getElem?_cons_zero, List.getElem?_cons_succ, List.set_cons_zero, List.set_cons_succ, lockS, slotL, Fz.atS, putL, runD, en0, vals, setS, opStop, wipeE, wipeS, restE, restS, plainS, szB_of, posB_of, b62_of, mulB_of, divB_of, powB_of, repB_one, timB_one, flat_one, I_rep, atI_0, atI_1, atI_2, atI_3, atI_4, ixN_of, cut_from, cut_to, eqv_int, eqv_none, shp_int, shp_bool, shp_none, zip_I]
        | _ => cases hd
      cases n with
      | zero => exact hleaf _ hs
      | succ n =>
        have h13 := hF (Nat.succ_ne_zero n)
        rw [Nat.add_sub_cancel] at h13
        have key : ∀ (l : List D), l.all (sd n) = true → ∀ m (a b : Sl), lcL (evC ⟨N, fs, WW⟩ (m + 9) (.tup [2, 3]) [2, 3] none (.app j13 [(.nm 2), (.nm 3)])) (l.map fun x => .tuple [x, x]) ⟨[a, b, .no, .no], []⟩ = some (l.map fun _ => .bool true, ⟨[a, b, .no, .no], []⟩) := by
          intro l hl m a b
          refine lcL_pure _ _ fun x hx => ?_
          have hc := call_same h13 (List.all_eq_true.mp hl x hx)
          simp (config := {implicitDefEqProofs := false}) (disch := omega) [h13, hc, q_int, q_bl, q_non, q_nm, q_bin, q_neg, q_negI, q_not, q_bop, q_ife, q_cmp, q_ix, q_ixn, q_sl, q_sln, q_blt, q_lenn, q_isi, q_lst, q_tup, q_lc, q_push, q_pop, q_evc, q_to0, q_to1, q_o0, q_o1, q_intD, q_a0, q_a1, q_tnt, q_tbop, q_tcmp, q_tval, q_tnm, q_iseq, q_irng, q_ienu, q_izip, q_irev, q_sset, q_stgt, q_spar, q_sput, q_sret, q_sretn, q_sife, q_swhl, q_sfor, q_sex, q_spass, q_sbrk, q_scnt, q_ss0, q_ss1, q_gonx, q_gort, q_gobk, q_goct, q_add, q_addl, q_addt, q_sub, q_mul, q_mull, q_mult, q_div, q_mod, q_pow, q_eq, q_ne, q_lt, q_le, q_gt, q_ge, q_is1, q_is2, q_is3, q_is4, q_is5, q_tr0, q_trb, q_tri, q_trl, q_trt, q_ixl, q_ixt, q_sll, q_slt, q_sls, q_lenl, q_lent, q_inti, q_absi, q_lisl, q_list, q_tupl, q_tupt, q_all, q_max, q_min, q_itl, q_itt, q_seql, q_seqt, q_rng1, q_rng2, q_enu1, q_enu2, q_end1, q_end2, q_own, q_val, q_st1, q_stt, q_sta0, q_sta1, q_re1, q_re0, q_appA, q_appioA, q_appkA, ↓bind_o, obind_some, List.getElem?_cons_zero, List.getElem?_cons_succ, List.set_cons_zero, List.set_cons_succ, lockS, slotL, Fz.atS, putL, runD, en0, vals, setS, opStop, wipeE, wipeS, restE, restS, plainS, szB_of, posB_of, b62_of, mulB_of, divB_of, powB_of, repB_one, timB_one, flat_one, I_rep, atI_0, atI_1, atI_2, atI_3, atI_4, ixN_of, cut_from, cut_to, eqv_int, eqv_none, shp_int, shp_bool, shp_none, zip_I]
        cases a with
        | list l =>
          unfold sd at hs
          rw [Bool.and_eq_true, decide_eq_true_eq] at hs
          have hk := key l hs.2
          have hl := hs.1
          have hz := zip_self l
          have ha := allB_tt l
          have ht := all_tt l
          simp (config := {implicitDefEqProofs := false}) (disch := omega) [B_q_same, hN, noTag, isiD, tyD, isTy, eqv_bool, hz, hk, ha, ht, q_int, q_bl, q_non, q_nm, q_bin, q_neg, q_negI, q_not, q_bop, q_ife, q_cmp, q_ix, q_ixn, q_sl, q_sln, q_blt, q_lenn, q_isi, q_lst, q_tup, q_lc, q_push, q_pop, q_evc, q_to0, q_to1, q_o0, q_o1, q_intD, q_a0, q_a1, q_tnt, q_tbop, q_tcmp, q_tval, q_tnm, q_iseq, q_irng, q_ienu, q_izip, q_irev, q_sset, q_stgt, q_spar, q_sput, q_sret, q_sretn, q_sife, q_swhl, q_sfor, q_sex, q_spass, q_sbrk, q_scnt, q_ss0, q_ss1, q_gonx, q_gort, q_gobk, q_goct, q_add, q_addl, q_addt, q_sub, q_mul, q_mull, q_mult, q_div, q_mod, q_pow, q_eq, q_ne, q_lt, q_le, q_gt, q_ge, q_is1, q_is2, q_is3, q_is4, q_is5, q_tr0, q_trb, q_tri, q_trl, q_trt, q_ixl, q_ixt, q_sll, q_slt, q_sls, q_lenl, q_lent, q_inti, q_absi, q_lisl, q_list, q_tupl, q_tupt, q_all, q_max, q_min, q_itl, q_itt, q_seql, q_seqt, q_rng1, q_rng2, q_enu1, q_enu2, q_end1, q_end2, q_own, q_val, q_st1, q_stt, q_sta0, q_sta1, q_re1, q_re0, q_appA, q_appioA, q_appkA, ↓bind_o, obind_some, List.getElem?_cons_zero, List.getElem?_cons_succ, List.set_cons_zero, List.set_cons_succ, lockS, slotL, Fz.atS, putL, runD, en0, vals, setS, opStop, wipeE, wipeS, restE, restS, plainS, szB_of, posB_of, b62_of, mulB_of, divB_of, powB_of, repB_one, timB_one, flat_one, I_rep, atI_0, atI_1, atI_2, atI_3, atI_4, ixN_of, cut_from, cut_to, eqv_int, eqv_none, shp_int, shp_bool, shp_none, zip_I]
        | tuple l =>
          unfold sd at hs
          rw [Bool.and_eq_true, decide_eq_true_eq] at hs
          have hk := key l hs.2
          have hl := hs.1
          have hz := zip_self l
          have ha := allB_tt l
          have ht := all_tt l
          simp (config := {implicitDefEqProofs := false}) (disch := omega) [B_q_same, hN, noTag, isiD, tyD, isTy, eqv_bool, hz, hk, ha, ht, q_int, q_bl, q_non, q_nm, q_bin, q_neg, q_negI, q_not, q_bop, q_ife, q_cmp, q_ix, q_ixn, q_sl, q_sln, q_blt, q_lenn, q_isi, q_lst, q_tup, q_lc, q_push, q_pop, q_evc, q_to0, q_to1, q_o0, q_o1, q_intD, q_a0, q_a1, q_tnt, q_tbop, q_tcmp, q_tval, q_tnm, q_iseq, q_irng, q_ienu, q_izip, q_irev, q_sset, q_stgt, q_spar, q_sput, q_sret, q_sretn, q_sife, q_swhl, q_sfor, q_sex, q_spass, q_sbrk, q_scnt, q_ss0, q_ss1, q_gonx, q_gort, q_gobk, q_goct, q_add, q_addl, q_addt, q_sub, q_mul, q_mull, q_mult, q_div, q_mod, q_pow, q_eq, q_ne, q_lt, q_le, q_gt, q_ge, q_is1, q_is2, q_is3, q_is4, q_is5, q_tr0, q_trb, q_tri, q_trl, q_trt, q_ixl, q_ixt, q_sll, q_slt, q_sls, q_lenl, q_lent, q_inti, q_absi, q_lisl, q_list, q_tupl, q_tupt, q_all, q_max, q_min, q_itl, q_itt, q_seql, q_seqt, q_rng1, q_rng2, q_enu1, q_enu2, q_end1, q_end2, q_own, q_val, q_st1, q_stt, q_sta0, q_sta1, q_re1, q_re0, q_appA, q_appioA, q_appkA, ↓bind_o, obind_some, List.getElem?_cons_zero, List.getElem?_cons_succ, List.set_cons_zero, List.set_cons_succ, lockS, slotL, Fz.atS, putL, runD, en0, vals, setS, opStop, wipeE, wipeS, restE, restS, plainS, szB_of, posB_of, b62_of, mulB_of, divB_of, powB_of, repB_one, timB_one, flat_one, I_rep, atI_0, atI_1, atI_2, atI_3, atI_4, ixN_of, cut_from, cut_to, eqv_int, eqv_none, shp_int, shp_bool, shp_none, zip_I]
        | _ => exact hleaf _ hs
    · cases h
  · cases h
end W1
set_option Elab.async false
set_option linter.all false
set_option maxRecDepth 100000
set_option maxHeartbeats 2000000
namespace W1
open PySem PySem.Spec PyProof.Rows L2 Fz
variable {fs : List (Str × Fn)} {N : List Str} {j0 j1 j2 j3 j4 j5 j6 j7 j8 j9 j10 j11 j12 j13 j14 j15 j16 j17 j18 j19 j20 j21 j22 j23 j24 j25 j26 j27 : Nat}
/-! ### the value of a product -/
theorem ev_set (c : Int) : ∀ (s : List Int) (i : Nat) (v : Int), i < s.length → ev c (s.set i (gd s i + v)) = ev c s + c ^ i * v
  | [], i, v, h => absurd h (Nat.not_lt_zero _)
  | x :: s, 0, v, _ => by
    show x + v + c * ev c s = x + c * ev c s + c ^ 0 * v
    rw [Int.pow_zero, Int.one_mul]
    omega
  | x :: s, i + 1, v, h => by
    rw [List.set_cons_succ, gd_s]
    show x + c * ev c (s.set i (gd s i + v)) = x + c * ev c s + c ^ (i + 1) * v
    rw [ev_set c s i v (by simpa using h), Int.mul_add, Int.pow_succ, Int.mul_comm (c ^ i) c, Int.mul_assoc]
    omega
theorem ev_addAt (c x : Int) : ∀ (g s : List Int) (i : Nat), i + g.length ≤ s.length → ev c (addAt s i x g) = ev c s + c ^ i * (x * ev c g)
  | [], s, i, _ => by
    show ev c s = ev c s + c ^ i * (x * 0)
    simp
  | y :: g, s, i, h => by
    have h' : i + (g.length + 1) ≤ s.length := h
    unfold addAt
    rw [ev_addAt c x g _ (i + 1) (by rw [List.length_set]; omega), ev_set c s i _ (by omega)]
    show _ = ev c s + c ^ i * (x * (y + c * ev c g))
    rw [Int.mul_add x, Int.mul_add (c ^ i), Int.pow_succ, Int.mul_assoc (c ^ i) c, show c * (x * ev c g) = x * (c * ev c g) by rw [← Int.mul_assoc, Int.mul_comm c x, Int.mul_assoc]]
    omega
theorem ev_mulFrom (c : Int) (g : List Int) : ∀ (f s : List Int) (i : Nat), i + (f.length + g.length) ≤ s.length + 1 → ev c (mulFrom g s i f) = ev c s + c ^ i * (ev c f * ev c g)
  | [], s, i, _ => by
    show ev c s = ev c s + c ^ i * (0 * ev c g)
    simp
  | x :: f, s, i, h => by
    have h' : i + (f.length + 1 + g.length) ≤ s.length + 1 := h
    unfold mulFrom
    rw [ev_mulFrom c g f _ (i + 1) (by rw [addAt_len]; omega), ev_addAt _ _ _ _ _ (by omega)]
    show _ = ev c s + c ^ i * ((x + c * ev c f) * ev c g)
    rw [Int.add_mul x, Int.mul_add (c ^ i), Int.pow_succ, Int.mul_assoc (c ^ i) c, Int.mul_assoc c]
    omega
theorem ev_rep (c : Int) : ∀ n : Nat, ev c (List.replicate n 0) = 0
  | 0 => rfl
  | n + 1 => by
    show 0 + c * ev c (List.replicate n 0) = 0
    rw [ev_rep c n]
    simp
theorem ev_mulRaw (c : Int) {f g : List Int} (hf : f ≠ []) (hg : g ≠ []) : ev c (mulRaw f g) = ev c f * ev c g := by
  have h1 := List.length_pos_iff.mpr hf
  have h2 := List.length_pos_iff.mpr hg
  unfold mulRaw
  rw [ev_mulFrom _ _ _ _ _ (by rw [List.length_replicate]; omega), ev_rep, Int.pow_zero, Int.one_mul, Int.zero_add]
/-! ### monic forms -/
theorem trim_len_last {l : List Int} {y : Int} (hy : y ≠ 0) : trim (l ++ [y]) = l ++ [y] := trim_snoc l hy
theorem monic_ok {p : Nat} (hp : p ∈ PR) {f : List Int} (hf : isForm p f) : isForm p (monic p f) ∧ (monic p f).length = f.length ∧ (f ≠ [] → (monic p f).getLast? = some 1) ∧ (∀ k, gd (monic p f) k * (f.getLast?.getD 0) % p = gd f k) := by
  have hp2 := PR_le hp
  by_cases e : f = []
  · subst e
    have : monic (p : Int) [] = [] := by simp [monic]
    rw [this]
    exact ⟨⟨(by intro x hx; cases hx), rfl⟩, rfl, fun h => absurd rfl h, fun k => by rw [gd_nil]; simp⟩
  · obtain ⟨l, y, rfl, y0, y1⟩ := last_form hf e
    obtain ⟨i1, i2, i3, i4⟩ := inv_ok hp y0 y1
    have hl : ((l ++ [y]).getLast?).getD 0 = y := by simp
    have hm : monic (p : Int) (l ++ [y]) = formOf p ((l ++ [y]).map (inv p y * ·)) := by
      unfold monic
      rw [if_neg e, hl]
    have hm2 : monic (p : Int) (l ++ [y]) = (l.map (inv p y * ·)).map (· % (p : Int)) ++ [1] := by
      rw [hm]
      unfold formOf
      rw [List.map_append, List.map_append, List.map_singleton, List.map_singleton, i4]
      exact trim_snoc _ (by decide)
    refine ⟨?_, ?_, fun _ => ?_, fun k => ?_⟩
    · rw [hm]
      refine ⟨trim_mem fun x hx => ?_, formOf_trimmed _ _⟩
      obtain ⟨a, _, rfl⟩ := List.mem_map.mp hx
      exact ⟨Int.emod_nonneg _ (by omega), Int.emod_lt_of_pos _ (by omega)⟩
    · rw [hm2]
      simp
    · rw [hm2]
      simp
    · have hg : 0 ≤ gd (l ++ [y]) k ∧ gd (l ++ [y]) k < p := by
        by_cases hk : k < (l ++ [y]).length
        · have : gd (l ++ [y]) k ∈ l ++ [y] := by
            unfold gd
            rw [List.getD_eq_getElem?_getD, List.getElem?_eq_getElem hk]
            exact List.getElem_mem hk
          exact hf.1 _ this
        · rw [getD_out hk]
          exact ⟨Int.le_refl _, by omega⟩
      rw [hl, hm, gd_formOf, gd_map (u := (inv p y * ·)) (Int.mul_zero _)]
      generalize gd (l ++ [y]) k = a at *
      rw [Int.mul_emod, Int.emod_emod_of_dvd _ (Int.dvd_refl _), ← Int.mul_emod, show inv p y * a * y = a * (inv p y * y) by rw [Int.mul_comm (inv p y) a, Int.mul_assoc], Int.mul_emod, i4, Int.mul_one, Int.emod_emod_of_dvd _ (Int.dvd_refl _)]
      exact Int.emod_eq_of_lt hg.1 hg.2
end W1
set_option Elab.async false
set_option linter.all false
set_option maxRecDepth 100000
set_option maxHeartbeats 2000000
namespace W1
open PySem PySem.Spec PyProof.Rows L2 Fz
variable {j : Nat} {fs : List (Str × Fn)} {N : List Str} {j0 j1 j2 j3 j4 j5 j6 j7 j8 j9 j10 j11 j12 j13 j14 j15 j16 j17 j18 j19 j20 j21 j22 j23 j24 j25 j26 j27 : Nat}
/-- the product, as both sides tell it -/
def pm (p : Int) (f g : List Int) : List Int := if f.isEmpty || g.isEmpty then [] else formOf p (mulRaw f g)
theorem ev_pm (c p : Int) (f g : List Int) : ev c (pm p f g) % p = ev c f * ev c g % p := by
  unfold pm
  cases f with
  | nil => simp [ev]
  | cons x f =>
    cases g with
    | nil => simp [ev]
    | cons y g =>
      simp only [List.isEmpty_cons, Bool.or_false, Bool.false_eq_true, if_false]
      rw [ev_formOf, ev_mulRaw c (by simp) (by simp)]
theorem formOf_form {p : Int} (hp : 0 < p) (f : List Int) : isForm p (formOf p f) := by
  refine ⟨trim_mem fun x hx => ?_, formOf_trimmed _ _⟩
  obtain ⟨a, _, rfl⟩ := List.mem_map.mp hx
  exact ⟨Int.emod_nonneg _ (by omega), Int.emod_lt_of_pos _ hp⟩
theorem pm_form {p : Int} (hp : 0 < p) (f g : List Int) : isForm p (pm p f g) := by
  unfold pm
  split
  · exact ⟨(by intro x hx; cases hx), rfl⟩
  · exact formOf_form hp _
/-! ### the calls -/
theorem call_val (h : At fs j false 3 d_val) {p c : Int} {f : List Int} (hp : 0 < p) (hp2 : p < 100) (h0 : 0 ≤ c) (h1 : c < 100) (hf : ∀ x ∈ f, 0 ≤ x ∧ x < p) : cAt fs j [.int p, .tuple (I f), .int c] = some (false, .int (ev c f % p)) := by
  refine h.c (l := []) rfl ?_
  unfold d_val
  simp only [allI_I, Option.bind_some]
  rw [if_pos ⟨hp, by omega, h0, by omega, hf⟩]
theorem call_value_at (h : At fs j false 3 d_value_at) {p c : Int} {f : List Int} (hp : 0 < p) (hp2 : p < 100) (h0 : 0 ≤ c) (h1 : c < 100) : cAt fs j [.int p, .tuple (I f), .int c] = some (false, .int (ev c f % p)) := by
  refine h.c (l := []) rfl ?_
  unfold d_value_at
  simp only [allI_I, Option.bind_some]
  rw [if_pos ⟨hp, by omega, h0, by omega⟩, horner_ev]
theorem call_add (h : At fs j false 3 d_add) {p : Int} {f g : List Int} (hp : 0 < p) (hf : f.length ≤ 40000) (hg : g.length ≤ 40000) : cAt fs j [.int p, .tuple (I f), .tuple (I g)] = some (false, .tuple (I (formOf p (zadd f g)))) := by
  refine h.c (l := []) rfl ?_
  unfold d_add two
  simp only [allI_I, Option.bind_some]
  rw [if_pos ⟨hp, hf, hg⟩]
  rfl
theorem call_sub (h : At fs j false 3 d_subtract) {p : Int} {f g : List Int} (hp : 0 < p) (hf : f.length ≤ 40000) (hg : g.length ≤ 40000) : cAt fs j [.int p, .tuple (I f), .tuple (I g)] = some (false, .tuple (I (formOf p (zsub f g)))) := by
  refine h.c (l := []) rfl ?_
  unfold d_subtract two
  simp only [allI_I, Option.bind_some]
  rw [if_pos ⟨hp, hf, hg⟩]
  rfl
theorem small_form {p : Int} {f : List Int} (hp : p < 100) (hf : ∀ x ∈ f, 0 ≤ x ∧ x < p) : ∀ x ∈ f, small x := fun x hx => small_of (by have := hf x hx; omega) (by have := hf x hx; omega)
theorem call_mul (h : At fs j false 3 d_multiply) {p : Int} {f g : List Int} (hp : 0 < p) (hf : f.length ≤ 40000) (hg : g.length ≤ 40000) (h1 : ∀ x ∈ f, small x) (h2 : ∀ x ∈ g, small x) : cAt fs j [.int p, .tuple (I f), .tuple (I g)] = some (false, .tuple (I (pm p f g))) := by
  refine h.c (l := []) rfl ?_
  unfold d_multiply two
  simp only [allI_I, Option.bind_some]
  rw [if_pos ⟨hp, hf, hg⟩, if_pos ⟨h1, h2⟩]
  unfold pm
  cases f with
  | nil => rfl
  | cons x f => cases g <;> rfl
theorem call_scaled (h : At fs j false 3 d_scaled) {p n : Int} {f : List Int} (hp : 0 < p) (hf : f.length ≤ 40000) (hn : small n) (h1 : ∀ x ∈ f, small x) : cAt fs j [.int p, .tuple (I f), .int n] = some (false, .tuple (I (formOf p (f.map (n * ·))))) := by
  refine h.c (l := []) rfl ?_
  unfold d_scaled
  simp only [allI_I, Option.bind_some]
  rw [if_pos ⟨hp, hf, hn, h1⟩]
def up (f : List Int) (n : Nat) : List Int := if f.isEmpty then [] else List.replicate n 0 ++ f
theorem call_raised (h : At fs j false 2 d_raised) {n : Int} {f : List Int} (h0 : 0 ≤ n) (h1 : n ≤ 1000) (hf : f.length ≤ 40000) : cAt fs j [.tuple (I f), .int n] = some (false, .tuple (I (up f n.toNat))) := by
  refine h.c (l := []) rfl ?_
  unfold d_raised
  simp only [allI_I, Option.bind_some]
  rw [if_pos ⟨h0, h1, hf⟩]
  unfold up
  cases f <;> rfl
theorem call_monic (h : At fs j false 2 d_monic_of) {p : Nat} {f : List Int} (hp : p ∈ PR) (hf : isForm p f) (hl : f.length ≤ 40000) : cAt fs j [.int p, .tuple (I f)] = some (false, .tuple (I (monic p f))) := by
  refine h.c (l := []) rfl ?_
  unfold d_monic_of
  simp only [allI_I, Option.bind_some]
  rw [if_pos ⟨⟨p, hp, rfl⟩, hf, hl⟩]
theorem call_degree (h : At fs j false 1 d_degree_of) {f : List Int} : cAt fs j [.tuple (I f)] = some (false, if f.isEmpty then .none else .int (f.length - 1)) := by
  refine h.c (l := []) rfl ?_
  unfold d_degree_of
  simp only [allI_I, Option.bind_some]
theorem call_is_form (h : At fs j false 2 d_is_form) {p : Int} {f : List Int} (hf : isForm p f) (hl : f.length ≤ 1000) : cAt fs j [.int p, .tuple (I f)] = some (false, .bool true) := by
  refine h.c (l := []) rfl ?_
  unfold d_is_form
  simp only [allI_I, Option.bind_some]
  rw [if_pos hf]
theorem call_bag (h : At fs j false 1 d_bag) (cs : List Int) : cAt fs j [.dict [(.none, .list (I cs))]] = some (true, .list (bagD (bag0 cs))) := by
  refine h.c (l := []) rfl ?_
  unfold d_bag
  dsimp only
  rw [allI_I]
  rfl
end W1
set_option Elab.async false
set_option linter.all false
set_option maxRecDepth 100000
set_option maxHeartbeats 2000000
namespace W1
open PySem PySem.Spec PyProof.Rows L2 Fz
variable {fs : List (Str × Fn)} {N : List Str} {j0 j1 j2 j3 j4 j5 j6 j7 j8 j9 j10 j11 j12 j13 j14 j15 j16 j17 j18 j19 j20 j21 j22 j23 j24 j25 j26 j27 : Nat}
/-! ### pairs of forms -/
def DG1 : List D := [.int 0, .int 2, .int 4, .int 7, .int 40]
def DG2 : List D := [.int 0, .int 3, .int 5, .int 8, .int 20]
theorem dg1 : ∀ x ∈ DG1, ∃ i : Int, x = .int i ∧ 0 ≤ i ∧ i ≤ 40 := by
  intro x hx
  simp only [DG1, List.mem_cons, List.not_mem_nil, or_false] at hx
  rcases hx with rfl | rfl | rfl | rfl | rfl <;> exact ⟨_, rfl, by decide, by decide⟩
theorem dg2 : ∀ x ∈ DG2, ∃ i : Int, x = .int i ∧ 0 ≤ i ∧ i ≤ 40 := by
  intro x hx
  simp only [DG2, List.mem_cons, List.not_mem_nil, or_false] at hx
  rcases hx with rfl | rfl | rfl | rfl | rfl <;> exact ⟨_, rfl, by decide, by decide⟩
def intOf : D → Int
  | .int i => i
  | _ => 0
def bump (p k : Int) : Int → List Int → List Int
  | _, [] => []
  | n, a :: f => (if n < k then (a + 1) % p else a) :: bump p k (n + 1) f
theorem bump_len (p k : Int) : ∀ (f : List Int) (n : Int), (bump p k n f).length = f.length
  | [], _ => rfl
  | a :: f, n => by unfold bump; rw [List.length_cons, List.length_cons, bump_len p k f]
theorem bump_mem {p k : Int} (hp : 0 < p) : ∀ (f : List Int) (n : Int), (∀ x ∈ f, 0 ≤ x ∧ x < p) → ∀ x ∈ bump p k n f, 0 ≤ x ∧ x < p
  | [], _, _, x, hx => by cases hx
  | a :: f, n, h, x, hx => by
    unfold bump at hx
    rcases List.mem_cons.mp hx with rfl | hx
    · split
      · exact ⟨Int.emod_nonneg _ (by omega), Int.emod_lt_of_pos _ hp⟩
      · exact h a List.mem_cons_self
    · exact bump_mem hp f _ (fun y hy => h y (List.mem_cons_of_mem _ hy)) x hx
noncomputable section
def pf (b : Bag) (p : Int) : List Int × Bag := formB (ofL b DG1).2 p (intOf (ofL b DG1).1)
def pg (b : Bag) (p : Int) : List Int × Bag := formB (ofL b DG2).2 p (intOf (ofL b DG2).1)
/-- what is made of two drawn forms -/
def pw (b : Bag) (p : Int) (f g : List Int) : List Int × Bag :=
  if (draw b 5).1 = 0 then (f, (draw b 5).2)
  else if (draw b 5).1 = 1 then (f.map fun a => (0 - a) % p, (draw b 5).2)
  else if (draw b 5).1 = 2 ∧ 1 < f.length then (trim (bump p (draw (draw b 5).2 f.length).1 0 f), (draw (draw b 5).2 f.length).2)
  else (g, (draw b 5).2)
def pairB (b : Bag) (p : Int) : (List Int × List Int) × Bag := (((pf b p).1, (pw (pg (pf b p).2 p).2 p (pf b p).1 (pg (pf b p).2 p).1).1), (pw (pg (pf b p).2 p).2 p (pf b p).1 (pg (pf b p).2 p).1).2)
def d_pair : List D → Option (Bool × D × List D)
  | [.list l, .int p] => withBag 999998000 l fun b => if 1 < p ∧ p < 100 then some (.tuple [.tuple (I (pairB b p).1.1), .tuple (I (pairB b p).1.2)], (pairB b p).2) else none
  | _ => none
end
theorem pf_inv {b : Bag} {n p : Int} (h : Inv b n) (hp : 0 < p) : Inv (pf b p).2 (n + 44) ∧ isForm p (pf b p).1 ∧ (pf b p).1.length ≤ 41 := by
  obtain ⟨v1, v2⟩ := of_inv h (xs := DG1) (by intro h; cases h)
  obtain ⟨i, e, i0, i1⟩ := dg1 _ v2
  have := form_inv (p := p) (deg := i) v1 hp i0 i1
  unfold pf
  rw [e]
  exact ⟨this.1.up (by omega), this.2⟩
theorem pg_inv {b : Bag} {n p : Int} (h : Inv b n) (hp : 0 < p) : Inv (pg b p).2 (n + 44) ∧ isForm p (pg b p).1 ∧ (pg b p).1.length ≤ 41 := by
  obtain ⟨v1, v2⟩ := of_inv h (xs := DG2) (by intro h; cases h)
  obtain ⟨i, e, i0, i1⟩ := dg2 _ v2
  have := form_inv (p := p) (deg := i) v1 hp i0 i1
  unfold pg
  rw [e]
  exact ⟨this.1.up (by omega), this.2⟩
theorem pw_inv {b : Bag} {n p : Int} {f g : List Int} (h : Inv b n) (hp : 0 < p) (hf : isForm p f) (hg : isForm p g) (hfl : f.length ≤ 41) (hgl : g.length ≤ 41) : Inv (pw b p f g).2 (n + 2) ∧ isForm p (pw b p f g).1 ∧ (pw b p f g).1.length ≤ 41 := by
  obtain ⟨v1, _, _⟩ := draw_inv (top := 5) h (by decide)
  unfold pw
  split
  · exact ⟨v1.up (by omega), hf, hfl⟩
  · split
    · refine ⟨v1.up (by omega), ⟨?_, ?_⟩, by rw [List.length_map]; exact hfl⟩
      · intro x hx
        obtain ⟨a, _, rfl⟩ := List.mem_map.mp hx
        exact ⟨Int.emod_nonneg _ (by omega), Int.emod_lt_of_pos _ hp⟩
      · by_cases e : f = []
        · subst e
          rfl
        · obtain ⟨l, y, rfl, y0, y1⟩ := last_form hf e
          rw [List.map_append, List.map_singleton]
          refine trim_snoc _ ?_
          intro hz
          have : (0 - y) % p = p - y := by
            rw [show 0 - y = (p - y) + p * (-1) by omega, Int.add_mul_emod_self_left, Int.emod_eq_of_lt (by omega) (by omega)]
          omega
    · split
      · rename_i h2
        obtain ⟨w1, _, _⟩ := draw_inv (top := f.length) v1 (by omega)
        refine ⟨w1.up (by omega), ⟨trim_mem (bump_mem hp f 0 hf.1), trim_trim _⟩, ?_⟩
        refine Nat.le_trans (trim_le _) ?_
        rw [bump_len]
        exact hfl
      · exact ⟨v1.up (by omega), hg, hgl⟩
theorem pair_inv {b : Bag} {n p : Int} (h : Inv b n) (hp : 0 < p) : Inv (pairB b p).2 (n + 90) ∧ isForm p (pairB b p).1.1 ∧ (pairB b p).1.1.length ≤ 41 ∧ isForm p (pairB b p).1.2 ∧ (pairB b p).1.2.length ≤ 41 := by
  obtain ⟨a1, a2, a3⟩ := pf_inv h hp
  obtain ⟨b1, b2, b3⟩ := pg_inv a1 hp
  obtain ⟨c1, c2, c3⟩ := pw_inv (g := (pg (pf b p).2 p).1) b1 hp a2 b2 a3 b3
  exact ⟨c1.up (by omega), a2, a3, c2, c3⟩
end W1
set_option Elab.async false
set_option linter.all false
set_option maxRecDepth 100000
set_option maxHeartbeats 2000000
namespace W1
open PySem PySem.Spec PyProof.Rows L2 Fz
variable {fs : List (Str × Fn)} {N : List Str} {j0 j1 j2 j3 j4 j5 j6 j7 j8 j9 j10 j11 j12 j13 j14 j15 j16 j17 j18 j19 j20 j21 j22 j23 j24 j25 j26 j27 : Nat}
theorem pf_calls (h12 : At fs j12 true 2 d_of) (h23 : At fs j23 true 3 d_form) {b : Bag} {p : Int} (h : Inv b 999998900) (hp : 0 < p) (hp2 : p < 100) : ∃ i B1, bAt fs j12 (bagD b) [.list [.int 0, .int 2, .int 4, .int 7, .int 40]] = some (false, .int i, B1) ∧ bAt fs j23 B1 [.int p, .int i] = some (false, .tuple (I (pf b p).1), bagD (pf b p).2) := by
  obtain ⟨v1, v2⟩ := of_inv h (xs := DG1) (by intro h; cases h)
  obtain ⟨i, e, i0, i1⟩ := dg1 _ v2
  refine ⟨i, bagD (ofL b DG1).2, ?_, ?_⟩
  · rw [← e]
    exact call_of h12 (xs := DG1) (h.up (by omega)) (by intro h; cases h) (by decide)
  · unfold pf
    rw [e]
    exact call_lform h23 (v1.up (by omega)) hp hp2 i0 i1
theorem pg_calls (h12 : At fs j12 true 2 d_of) (h23 : At fs j23 true 3 d_form) {b : Bag} {p : Int} (h : Inv b 999998900) (hp : 0 < p) (hp2 : p < 100) : ∃ i B1, bAt fs j12 (bagD b) [.list [.int 0, .int 3, .int 5, .int 8, .int 20]] = some (false, .int i, B1) ∧ bAt fs j23 B1 [.int p, .int i] = some (false, .tuple (I (pg b p).1), bagD (pg b p).2) := by
  obtain ⟨v1, v2⟩ := of_inv h (xs := DG2) (by intro h; cases h)
  obtain ⟨i, e, i0, i1⟩ := dg2 _ v2
  refine ⟨i, bagD (ofL b DG2).2, ?_, ?_⟩
  · rw [← e]
    exact call_of h12 (xs := DG2) (h.up (by omega)) (by intro h; cases h) (by decide)
  · unfold pg
    rw [e]
    exact call_lform h23 (v1.up (by omega)) hp hp2 i0 i1
theorem bump_loop (T : Tb) {p k : Int} (hp : 0 < p) (F Fg w : Sl) (B : List D) (n : Nat) : ∀ (f : List Int) (c : Int), lcL (evC T (n + 15) (.tup [7, 5]) [7, 5] none (.ife (.cmp .Lt (.nm 7) (.nm 6)) (.bin .Mod (.blt .int [(.bin .Add (.nm 5) (.int 1))]) (.nm 1)) (.nm 5))) (enumD c (I f)) ⟨[.bag, .val (.int p), F, Fg, w, .no, .val (.int k), .no], B⟩ = some (I (bump p k c f), ⟨[.bag, .val (.int p), F, Fg, w, .no, .val (.int k), .no], B⟩)
  | [], c => rfl
  | a :: f, c => by
    have ih := bump_loop T (k := k) hp F Fg w B n f (c + 1)
    rw [I_cons]
    unfold enumD
    unfold lcL
    have h1 : evC T (n + 15) (.tup [7, 5]) [7, 5] none (.ife (.cmp .Lt (.nm 7) (.nm 6)) (.bin .Mod (.blt .int [(.bin .Add (.nm 5) (.int 1))]) (.nm 1)) (.nm 5)) (.tuple [.int c, .int a]) ⟨[.bag, .val (.int p), F, Fg, w, .no, .val (.int k), .no], B⟩ = some (some (.int (if c < k then (a + 1) % p else a)), ⟨[.bag, .val (.int p), F, Fg, w, .no, .val (.int k), .no], B⟩) := by
      by_cases e : c < k
      · simp (config := {implicitDefEqProofs := false}) (disch := omega) [e, q_int, q_bl, q_non, q_nm, q_bin, q_neg, q_negI, q_not, q_bop, q_ife, q_cmp, q_ix, q_ixn, q_sl, q_sln, q_blt, q_lenn, q_isi, q_lst, q_tup, q_lc, q_push, q_pop, q_evc, q_to0, q_to1, q_o0, q_o1, q_intD, q_a0, q_a1, q_tnt, q_tbop, q_tcmp, q_tval, q_tnm, q_iseq, q_irng, q_ienu, q_izip, q_irev, q_sset, q_stgt, q_spar, q_sput, q_sret, q_sretn, q_sife, q_swhl, q_sfor, q_sex, q_spass, q_sbrk, q_scnt, q_ss0, q_ss1, q_gonx, q_gort, q_gobk, q_goct, q_add, q_addl, q_addt, q_sub, q_mul, q_mull, q_mult, q_div, q_mod, q_pow, q_eq, q_ne, q_lt, q_le, q_gt, q_ge, q_is1, q_is2, q_is3, q_is4, q_is5, q_tr0, q_trb, q_tri, q_trl, q_trt, q_ixl, q_ixt, q_sll, q_slt, q_sls, q_lenl, q_lent, q_inti, q_absi, q_lisl, q_list, q_tupl, q_tupt, q_all, q_max, q_min, q_itl, q_itt, q_seql, q_seqt, q_rng1, q_rng2, q_enu1, q_enu2, q_end1, q_end2, q_own, q_val, q_st1, q_stt, q_sta0, q_sta1, q_re1, q_re0, q_appA, q_appioA, q_appkA, ↓bind_o, obind_some, List.getElem?_cons_zero, List.getElem?_cons_succ, List.set_cons_zero, List.set_cons_succ, lockS, slotL, Fz.atS, putL, runD, en0, vals, setS, opStop, wipeE, wipeS, restE, restS, plainS, szB_of, posB_of, b62_of, mulB_of, divB_of, powB_of, repB_one, timB_one, flat_one, I_rep, atI_0, atI_1, atI_2, atI_3, atI_4, ixN_of, cut_from, cut_to, eqv_int, eqv_none, shp_int, shp_bool, shp_none, zip_I]
      · simp (config := {implicitDefEqProofs := false}) (disch := omega) [e, q_int, q_bl, q_non, q_nm, q_bin, q_neg, q_negI, q_not, q_bop, q_ife, q_cmp, q_ix, q_ixn, q_sl, q_sln, q_blt, q_lenn, q_isi, q_lst, q_tup, q_lc, q_push, q_pop, q_evc, q_to0, q_to1, q_o0, q_o1, q_intD, q_a0, q_a1, q_tnt, q_tbop, q_tcmp, q_tval, q_tnm, q_iseq, q_irng, q_ienu, q_izip, q_irev, q_sset, q_stgt, q_spar, q_sput, q_sret, q_sretn, q_sife, q_swhl, q_sfor, q_sex, q_spass, q_sbrk, q_scnt, q_ss0, q_ss1, q_gonx, q_gort, q_gobk, q_goct, q_add, q_addl, q_addt, q_sub, q_mul, q_mull, q_mult, q_div, q_mod, q_pow, q_eq, q_ne, q_lt, q_le, q_gt, q_ge, q_is1, q_is2, q_is3, q_is4, q_is5, q_tr0, q_trb, q_tri, q_trl, q_trt, q_ixl, q_ixt, q_sll, q_slt, q_sls, q_lenl, q_lent, q_inti, q_absi, q_lisl, q_list, q_tupl, q_tupt, q_all, q_max, q_min, q_itl, q_itt, q_seql, q_seqt, q_rng1, q_rng2, q_enu1, q_enu2, q_end1, q_end2, q_own, q_val, q_st1, q_stt, q_sta0, q_sta1, q_re1, q_re0, q_appA, q_appioA, q_appkA, ↓bind_o, obind_some, List.getElem?_cons_zero, List.getElem?_cons_succ, List.set_cons_zero, List.set_cons_succ, lockS, slotL, Fz.atS, putL, runD, en0, vals, setS, opStop, wipeE, wipeS, restE, restS, plainS, szB_of, posB_of, b62_of, mulB_of, divB_of, powB_of, repB_one, timB_one, flat_one, I_rep, atI_0, atI_1, atI_2, atI_3, atI_4, ixN_of, cut_from, cut_to, eqv_int, eqv_none, shp_int, shp_bool, shp_none, zip_I]
    rw [h1]
    dsimp only
    rw [ih]
    rfl
theorem run_pair (hN : N.length = 8) (h11 : At fs j11 true 2 d_draw) (h12 : At fs j12 true 2 d_of) (h17 : At fs j17 false 1 d_trim) (h23 : At fs j23 true 3 d_form) {ds : List D} {z : Bool × D × List D} (h : d_pair ds = some z) : runD ⟨N, fs, WW⟩ 60 true (B_q_pair j11 j12 j17 j23) ds = some z := by
  unfold d_pair withBag at h
  split at h
  · rename_i l p
    simp only [Option.bind_eq_some_iff] at h
    obtain ⟨b, hb, h⟩ := h
    rw [bagOf_eq hb]
    split at h
    · rename_i hi
      simp only [Option.bind_eq_some_iff] at h
      obtain ⟨y, h1, h⟩ := h
      split at h1
      · rename_i ht
        cases h1
        cases h
        obtain ⟨hp, hp2⟩ := ht
        obtain ⟨a1, a2, a3⟩ := pf_inv (p := p) hi (by omega)
        obtain ⟨b1, b2, b3⟩ := pg_inv (p := p) a1 (by omega)
        obtain ⟨i, B1, c1, c2⟩ := pf_calls h12 h23 (p := p) (hi.up (by decide)) (by omega) hp2
        obtain ⟨j, B2, c3, c4⟩ := pg_calls h12 h23 (p := p) (b := (pf b p).2) (a1.up (by decide)) (by omega) hp2
        have c5 := call_draw h11 (b := (pg (pf b p).2 p).2) (top := 5) (b1.up (by decide)) (by decide) (by decide)
        obtain ⟨v1, _, _⟩ := draw_inv (top := 5) b1 (by decide)
        unfold pairB pw
        generalize hf : pf b p = F at *
        generalize hg : pg F.2 p = G at *
        obtain ⟨f, bf⟩ := F
        obtain ⟨g, bg⟩ := G
        dsimp only at *
        have hF := fun fl : f.length > 1 => call_draw h11 (b := (draw bg 5).2) (top := f.length) (v1.up (by decide)) (by omega) (by omega)
        generalize hW : draw bg 5 = Wd at *
        obtain ⟨w, bw⟩ := Wd
        dsimp only at *
        generalize bagD b = B0 at *
        by_cases e0 : w = 0
        · rw [if_pos e0]
          subst e0
          simp (config := {implicitDefEqProofs := false}) (disch := omega) [B_q_pair, hN, h11, h12, h17, h23, c1, c2, c3, c4, c5, q_int, q_bl, q_non, q_nm, q_bin, q_neg, q_negI, q_not, q_bop, q_ife, q_cmp, q_ix, q_ixn, q_sl, q_sln, q_blt, q_lenn, q_isi, q_lst, q_tup, q_lc, q_push, q_pop, q_evc, q_to0, q_to1, q_o0, q_o1, q_intD, q_a0, q_a1, q_tnt, q_tbop, q_tcmp, q_tval, q_tnm, q_iseq, q_irng, q_ienu, q_izip, q_irev, q_sset, q_stgt, q_spar, q_sput, q_sret, q_sretn, q_sife, q_swhl, q_sfor, q_sex, q_spass, q_sbrk, q_scnt, q_ss0, q_ss1, q_gonx, q_gort, q_gobk, q_goct, q_add, q_addl, q_addt, q_sub, q_mul, q_mull, q_mult, q_div, q_mod, q_pow, q_eq, q_ne, q_lt, q_le, q_gt, q_ge, q_is1, q_is2, q_is3, q_is4, q_is5, q_tr0, q_trb, q_tri, q_trl, q_trt, q_ixl, q_ixt, q_sll, q_slt, q_sls, q_lenl, q_lent, q_inti, q_absi, q_lisl, q_list, q_tupl, q_tupt, q_all, q_max, q_min, q_itl, q_itt, q_seql, q_seqt, q_rng1, q_rng2, q_enu1, q_enu2, q_end1, q_end2, q_own, q_val, q_st1, q_stt, q_sta0, q_sta1, q_re1, q_re0, q_appA, q_appioA, q_appkA, ↓bind_o, obind_some, List.getElem?_cons_zero, List.getElem?_cons_succ, List.set_cons_zero, List.set_cons_succ, lockS, slotL, Fz.atS, putL, runD, en0, vals, setS, opStop, wipeE, wipeS, restE, restS, plainS, szB_of, posB_of, b62_of, mulB_of, divB_of, powB_of, repB_one, timB_one, flat_one, I_rep, atI_0, atI_1, atI_2, atI_3, atI_4, ixN_of, cut_from, cut_to, eqv_int, eqv_none, shp_int, shp_bool, shp_none, zip_I]
        · rw [if_neg e0]
          by_cases e1 : w = 1
          · rw [if_pos e1]
            subst e1
            have hc : ∀ n s3 s4, lcL (evC ⟨N, fs, WW⟩ (n + 15) (.one 5) [5] none (.bin .Mod (.blt .int [(.bin .Sub (.int 0) (.nm 5))]) (.nm 1))) (I f) ⟨[.bag, .val (.int p), .val (.tuple (I f)), s3, s4, .no, .no, .no], bagD bw⟩ = some (I (f.map fun a => (0 - a) % p), ⟨[.bag, .val (.int p), .val (.tuple (I f)), s3, s4, .no, .no, .no], bagD bw⟩) := by
              intro n s3 s4
              rw [show I (f.map fun a => (0 - a) % p) = f.map fun a => PyData.int ((0 - a) % p) by unfold I; rw [List.map_map]; rfl]
              refine lcL_pure _ _ fun x _ => ?_
              simp (config := {implicitDefEqProofs := false}) (disch := omega) [q_int, q_bl, q_non, q_nm, q_bin, q_neg, q_negI, q_not, q_bop, q_ife, q_cmp, q_ix, q_ixn, q_sl, q_sln, q_blt, q_lenn, q_isi, q_lst, q_tup, q_lc, q_push, q_pop, q_evc, q_to0, q_to1, q_o0, q_o1, q_intD, q_a0, q_a1, q_tnt, q_tbop, q_tcmp, q_tval, q_tnm, q_iseq, q_irng, q_ienu, q_izip, q_irev, q_sset, q_stgt, q_spar, q_sput, q_sret, q_sretn, q_sife, q_swhl, q_sfor, q_sex, q_spass, q_sbrk, q_scnt, q_ss0, q_ss1, q_gonx, q_gort, q_gobk, q_goct, q_add, q_addl, q_addt, q_sub, q_mul, q_mull, q_mult, q_div, q_mod, q_pow, q_eq, q_ne, q_lt, q_le, q_gt, q_ge, q_is1, q_is2, q_is3, q_is4, q_is5, q_tr0, q_trb, q_tri, q_trl, q_trt, q_ixl, q_ixt, q_sll, q_slt, q_sls, q_lenl, q_lent, q_inti, q_absi, q_lisl, q_list, q_tupl, q_tupt, q_all, q_max, q_min, q_itl, q_itt, q_seql, q_seqt, q_rng1, q_rng2, q_enu1, q_enu2, q_end1, q_end2, q_own, q_val, q_st1, q_stt, q_sta0, q_sta1, q_re1, q_re0, q_appA, q_appioA, q_appkA, ↓bind_o, obind_some, List.getElem?_cons_zero, List.getElem?_cons_succ, List.set_cons_zero, List.set_cons_succ, lockS, slotL, Fz.atS, putL, runD, en0, vals, setS, opStop, wipeE, wipeS, restE, restS, plainS, szB_of, posB_of, b62_of, mulB_of, divB_of, powB_of, repB_one, timB_one, flat_one, I_rep, atI_0, atI_1, atI_2, atI_3, atI_4, ixN_of, cut_from, cut_to, eqv_int, eqv_none, shp_int, shp_bool, shp_none, zip_I]
            simp only [Int.zero_sub] at hc
            simp (config := {implicitDefEqProofs := false}) (disch := omega) [B_q_pair, hN, h11, h12, h17, h23, c1, c2, c3, c4, c5, hc, q_int, q_bl, q_non, q_nm, q_bin, q_neg, q_negI, q_not, q_bop, q_ife, q_cmp, q_ix, q_ixn, q_sl, q_sln, q_blt, q_lenn, q_isi, q_lst, q_tup, q_lc, q_push, q_pop, q_evc, q_to0, q_to1, q_o0, q_o1, q_intD, q_a0, q_a1, q_tnt, q_tbop, q_tcmp, q_tval, q_tnm, q_iseq, q_irng, q_ienu, q_izip, q_irev, q_sset, q_stgt, q_spar, q_sput, q_sret, q_sretn, q_sife, q_swhl, q_sfor, q_sex, q_spass, q_sbrk, q_scnt, q_ss0, q_ss1, q_gonx, q_gort, q_gobk, q_goct, q_add, q_addl, q_addt, q_sub, q_mul, q_mull, q_mult, q_div, q_mod, q_pow, q_eq, q_ne, q_lt, q_le, q_gt, q_ge, q_is1, q_is2, q_is3, q_is4, q_is5, q_tr0, q_trb, q_tri, q_trl, q_trt, q_ixl, q_ixt, q_sll, q_slt, q_sls, q_lenl, q_lent, q_inti, q_absi, q_lisl, q_list, q_tupl, q_tupt, q_all, q_max, q_min, q_itl, q_itt, q_seql, q_seqt, q_rng1, q_rng2, q_enu1, q_enu2, q_end1, q_end2, q_own, q_val, q_st1, q_stt, q_sta0, q_sta1, q_re1, q_re0, q_appA, q_appioA, q_appkA, ↓bind_o, obind_some, List.getElem?_cons_zero, List.getElem?_cons_succ, List.set_cons_zero, List.set_cons_succ, lockS, slotL, Fz.atS, putL, runD, en0, vals, setS, opStop, wipeE, wipeS, restE, restS, plainS, szB_of, posB_of, b62_of, mulB_of, divB_of, powB_of, repB_one, timB_one, flat_one, I_rep, atI_0, atI_1, atI_2, atI_3, atI_4, ixN_of, cut_from, cut_to, eqv_int, eqv_none, shp_int, shp_bool, shp_none, zip_I]
          · rw [if_neg e1]
            by_cases e2 : w = 2 ∧ 1 < f.length
            · rw [if_pos e2]
              obtain ⟨rfl, e2⟩ := e2
              have c6 := hF e2
              have e2' : (1 : Int) < f.length := by omega
              have hc := fun n s4 => bump_loop ⟨N, fs, WW⟩ (p := p) (k := (draw bw f.length).1) (by omega) (.val (.tuple (I f))) (.val (.tuple (I g))) s4 (bagD (draw bw f.length).2) n f 0
              have c7 := call_trim h17 (l := I (bump p (draw bw f.length).1 0 f)) (by rw [bump_len]; omega) rfl
              have hel : (enumD 0 (I f)).length = f.length := by rw [enumD_len, I_len]
              simp (config := {implicitDefEqProofs := false}) (disch := omega) [B_q_pair, hN, h11, h12, h17, h23, c1, c2, c3, c4, c5, c6, c7, hc, e2', hel, q_int, q_bl, q_non, q_nm, q_bin, q_neg, q_negI, q_not, q_bop, q_ife, q_cmp, q_ix, q_ixn, q_sl, q_sln, q_blt, q_lenn, q_isi, q_lst, q_tup, q_lc, q_push, q_pop, q_evc, q_to0, q_to1, q_o0, q_o1, q_intD, q_a0, q_a1, q_tnt, q_tbop, q_tcmp, q_tval, q_tnm, q_iseq, q_irng, q_ienu, q_izip, q_irev, q_sset, q_stgt, q_spar, q_sput, q_sret, q_sretn, q_sife, q_swhl, q_sfor, q_sex, q_spass, q_sbrk, q_scnt, q_ss0, q_ss1, q_gonx, q_gort, q_gobk, q_goct, q_add, q_addl, q_addt, q_sub, q_mul, q_mull, q_mult, q_div, q_mod, q_pow, q_eq, q_ne, q_lt, q_le, q_gt, q_ge, q_is1, q_is2, q_is3, q_is4, q_is5, q_tr0, q_trb, q_tri, q_trl, q_trt, q_ixl, q_ixt, q_sll, q_slt, q_sls, q_lenl, q_lent, q_inti, q_absi, q_lisl, q_list, q_tupl, q_tupt, q_all, q_max, q_min, q_itl, q_itt, q_seql, q_seqt, q_rng1, q_rng2, q_enu1, q_enu2, q_end1, q_end2, q_own, q_val, q_st1, q_stt, q_sta0, q_sta1, q_re1, q_re0, q_appA, q_appioA, q_appkA, ↓bind_o, obind_some, List.getElem?_cons_zero, List.getElem?_cons_succ, List.set_cons_zero, List.set_cons_succ, lockS, slotL, Fz.atS, putL, runD, en0, vals, setS, opStop, wipeE, wipeS, restE, restS, plainS, szB_of, posB_of, b62_of, mulB_of, divB_of, powB_of, repB_one, timB_one, flat_one, I_rep, atI_0, atI_1, atI_2, atI_3, atI_4, ixN_of, cut_from, cut_to, eqv_int, eqv_none, shp_int, shp_bool, shp_none, zip_I]
            · rw [if_neg e2]
              by_cases e3 : w = 2
              · have e4 : ¬ (1 : Int) < f.length := fun h => e2 ⟨e3, by omega⟩
                subst e3
                simp (config := {implicitDefEqProofs := false}) (disch := omega) [B_q_pair, hN, h11, h12, h17, h23, c1, c2, c3, c4, c5, e4, q_int, q_bl, q_non, q_nm, q_bin, q_neg, q_negI, q_not, q_bop, q_ife, q_cmp, q_ix, q_ixn, q_sl, q_sln, q_blt, q_lenn, q_isi, q_lst, q_tup, q_lc, q_push, q_pop, q_evc, q_to0, q_to1, q_o0, q_o1, q_intD, q_a0, q_a1, q_tnt, q_tbop, q_tcmp, q_tval, q_tnm, q_iseq, q_irng, q_ienu, q_izip, q_irev, q_sset, q_stgt, q_spar, q_sput, q_sret, q_sretn, q_sife, q_swhl, q_sfor, q_sex, q_spass, q_sbrk, q_scnt, q_ss0, q_ss1, q_gonx, q_gort, q_gobk, q_goct, q_add, q_addl, q_addt, q_sub, q_mul, q_mull, q_mult, q_div, q_mod, q_pow, q_eq, q_ne, q_lt, q_le, q_gt, q_ge, q_is1, q_is2, q_is3, q_is4, q_is5, q_tr0, q_trb, q_tri, q_trl, q_trt, q_ixl, q_ixt, q_sll, q_slt, q_sls, q_lenl, q_lent, q_inti, q_absi, q_lisl, q_list, q_tupl, q_tupt, q_all, q_max, q_min, q_itl, q_itt, q_seql, q_seqt, q_rng1, q_rng2, q_enu1, q_enu2, q_end1, q_end2, q_own, q_val, q_st1, q_stt, q_sta0, q_sta1, q_re1, q_re0, q_appA, q_appioA, q_appkA, ↓bind_o, obind_some, List.getElem?_cons_zero, List.getElem?_cons_succ, List.set_cons_zero, List.set_cons_succ, lockS, slotL, Fz.atS, putL, runD, en0, vals, setS, opStop, wipeE, wipeS, restE, restS, plainS, szB_of, posB_of, b62_of, mulB_of, divB_of, powB_of, repB_one, timB_one, flat_one, I_rep, atI_0, atI_1, atI_2, atI_3, atI_4, ixN_of, cut_from, cut_to, eqv_int, eqv_none, shp_int, shp_bool, shp_none, zip_I]
              · simp (config := {implicitDefEqProofs := false}) (disch := omega) [B_q_pair, hN, h11, h12, h17, h23, c1, c2, c3, c4, c5, e0, e1, e3, q_int, q_bl, q_non, q_nm, q_bin, q_neg, q_negI, q_not, q_bop, q_ife, q_cmp, q_ix, q_ixn, q_sl, q_sln, q_blt, q_lenn, q_isi, q_lst, q_tup, q_lc, q_push, q_pop, q_evc, q_to0, q_to1, q_o0, q_o1, q_intD, q_a0, q_a1, q_tnt, q_tbop, q_tcmp, q_tval, q_tnm, q_iseq, q_irng, q_ienu, q_izip, q_irev, q_sset, q_stgt, q_spar, q_sput, q_sret, q_sretn, q_sife, q_swhl, q_sfor, q_sex, q_spass, q_sbrk, q_scnt, q_ss0, q_ss1, q_gonx, q_gort, q_gobk, q_goct, q_add, q_addl, q_addt, q_sub, q_mul, q_mull, q_mult, q_div, q_mod, q_pow, q_eq, q_ne, q_lt, q_le, q_gt, q_ge, q_is1, q_is2, q_is3, q_is4, q_is5, q_tr0, q_trb, q_tri, q_trl, q_trt, q_ixl, q_ixt, q_sll, q_slt, q_sls, q_lenl, q_lent, q_inti, q_absi, q_lisl, q_list, q_tupl, q_tupt, q_all, q_max, q_min, q_itl, q_itt, q_seql, q_seqt, q_rng1, q_rng2, q_enu1, q_enu2, q_end1, q_end2, q_own, q_val, q_st1, q_stt, q_sta0, q_sta1, q_re1, q_re0, q_appA, q_appioA, q_appkA, ↓bind_o, obind_some, List.getElem?_cons_zero, List.getElem?_cons_succ, List.set_cons_zero, List.set_cons_succ, lockS, slotL, Fz.atS, putL, runD, en0, vals, setS, opStop, wipeE, wipeS, restE, restS, plainS, szB_of, posB_of, b62_of, mulB_of, divB_of, powB_of, repB_one, timB_one, flat_one, I_rep, atI_0, atI_1, atI_2, atI_3, atI_4, ixN_of, cut_from, cut_to, eqv_int, eqv_none, shp_int, shp_bool, shp_none, zip_I]
      · cases h1
    · cases h
  · cases h
end W1
set_option Elab.async false
set_option linter.all false
set_option maxRecDepth 100000
set_option maxHeartbeats 2000000
namespace W1
open PySem PySem.Spec PyProof.Rows L2 Fz
variable {fs : List (Str × Fn)} {N : List Str} {j0 j1 j2 j3 j4 j5 j6 j7 j8 j9 j10 j11 j12 j13 j14 j15 j16 j17 j18 j19 j20 j21 j22 j23 j24 j25 j26 j27 : Nat}
/-! ### numbers that are read -/
def stepN (stp : Bag → Int × Bag) : Nat → Bag → List Int × Bag
  | 0, b => ([], b)
  | n + 1, b => ((stp b).1 :: (stepN stp n (stp b).2).1, (stepN stp n (stp b).2).2)
theorem stepN_inv {stp : Bag → Int × Bag} {c : Int} {P : Int → Prop} (hs : ∀ b n, Inv b n → Inv (stp b).2 (n + c) ∧ P (stp b).1) : ∀ (k : Nat) {b : Bag} {n : Int}, Inv b n → Inv (stepN stp k b).2 (n + k * c) ∧ (stepN stp k b).1.length = k ∧ ∀ x ∈ (stepN stp k b).1, P x
  | 0, b, n, h => ⟨h.up (by simp), rfl, by intro x hx; cases hx⟩
  | k + 1, b, n, h => by
    obtain ⟨v1, v2⟩ := hs b n h
    obtain ⟨w1, w2, w3⟩ := stepN_inv hs k v1
    unfold stepN
    refine ⟨w1.up ?_, by simp [w2], ?_⟩
    · rw [show ((k + 1 : Nat) : Int) * c = k * c + c by rw [Int.natCast_add, Int.add_mul]; omega]
      omega
    · intro x hx
      rcases List.mem_cons.mp hx with rfl | hx
      · exact v2
      · exact w3 x hx
theorem lcL_steps {F : D → En → Option (Option D × En)} {stp : Bag → Int × Bag} {c m : Int} (hc : 0 ≤ c) (hs : ∀ b n, Inv b n → Inv (stp b).2 (n + c)) (st : Bag → En) (hF : ∀ d b, Inv b m → F d (st b) = some (some (.int (stp b).1), st (stp b).2)) : ∀ (xs : List D) {b : Bag} {n : Int}, Inv b n → n + xs.length * c ≤ m →
    lcL F xs (st b) = some (I (stepN stp xs.length b).1, st (stepN stp xs.length b).2)
  | [], b, n, h, _ => rfl
  | d :: xs, b, n, h, hn => by
    have hn' : n + ((xs.length + 1 : Nat) : Int) * c ≤ m := hn
    rw [Int.natCast_add, Int.add_mul] at hn'
    have hx : 0 ≤ (xs.length : Int) * c := Int.mul_nonneg (by omega) hc
    unfold lcL
    rw [hF d b (h.up (by omega))]
    dsimp only
    rw [lcL_steps hc hs st hF xs (hs b n h) (by omega)]
    rfl
noncomputable section
def co (p : Int) (b : Bag) : D × Bag := ofL (draw (draw b 1000000000).2 1000000000).2 [.int 0, .int p, .int (-p), .int 1, .int (-1), .int (p - 1), .int (draw b 1000000000).1, .int (0 - (draw (draw b 1000000000).2 1000000000).1), .int (3 * p)]
def coS (p : Int) (b : Bag) : Int × Bag := (intOf (co p b).1, (co p b).2)
def ce (p : Int) (b : Bag) : D × Bag := ofL b [.int 0, .int p, .int (-p), .int (7 * p)]
def ceS (p : Int) (b : Bag) : Int × Bag := (intOf (ce p b).1, (ce p b).2)
end
def big (x : Int) : Prop := -1000000000 ≤ x ∧ x ≤ 1000000000
theorem co_inv {p : Int} (h0 : 0 < p) (h1 : p < 100) (b : Bag) (n : Int) (h : Inv b n) : Inv (coS p b).2 (n + 3) ∧ big (coS p b).1 ∧ (co p b).1 = .int (coS p b).1 := by
  obtain ⟨v1, v2, v3⟩ := draw_inv (top := 1000000000) h (by decide)
  obtain ⟨w1, w2, w3⟩ := draw_inv (top := 1000000000) v1 (by decide)
  obtain ⟨u1, u2⟩ := of_inv w1 (xs := [.int 0, .int p, .int (-p), .int 1, .int (-1), .int (p - 1), .int (draw b 1000000000).1, .int (0 - (draw (draw b 1000000000).2 1000000000).1), .int (3 * p)]) (by intro h; cases h)
  refine ⟨u1.up (by omega), ?_⟩
  have key : ∃ i, (co p b).1 = .int i ∧ big i := by
    unfold co
    generalize (ofL _ _).1 = x at u2 ⊢
    simp only [List.mem_cons, List.not_mem_nil, or_false] at u2
    unfold big
    rcases u2 with rfl | rfl | rfl | rfl | rfl | rfl | rfl | rfl | rfl
    all_goals exact ⟨_, rfl, by omega, by omega⟩
  obtain ⟨i, e, hi⟩ := key
  unfold coS
  rw [e]
  exact ⟨hi, rfl⟩
theorem ce_inv {p : Int} (h0 : 0 < p) (h1 : p < 100) (b : Bag) (n : Int) (h : Inv b n) : Inv (ceS p b).2 (n + 1) ∧ big (ceS p b).1 ∧ (ce p b).1 = .int (ceS p b).1 := by
  obtain ⟨u1, u2⟩ := of_inv h (xs := [.int 0, .int p, .int (-p), .int (7 * p)]) (by intro h; cases h)
  refine ⟨u1, ?_⟩
  have key : ∃ i, (ce p b).1 = .int i ∧ big i := by
    unfold ce
    generalize (ofL _ _).1 = x at u2 ⊢
    simp only [List.mem_cons, List.not_mem_nil, or_false] at u2
    unfold big
    rcases u2 with rfl | rfl | rfl | rfl
    all_goals exact ⟨_, rfl, by omega, by omega⟩
  obtain ⟨i, e, hi⟩ := key
  unfold ceS
  rw [e]
  exact ⟨hi, rfl⟩
/-- the last number that does not stand for 0 -/
theorem found_step (p : Int) (f : List Int) (k : Nat) (hk : k < f.length) : formOf p (f.take (k + 1)) = if gd f k % p = 0 then formOf p (f.take k) else (f.take (k + 1)).map (· % p) := by
  have ht : f.take (k + 1) = f.take k ++ [gd f k] := by
    rw [List.take_succ, List.getElem?_eq_getElem hk]
    unfold gd
    rw [List.getD_eq_getElem?_getD, List.getElem?_eq_getElem hk]
    rfl
  unfold formOf
  rw [ht, List.map_append, List.map_singleton]
  split
  · rename_i e
    rw [e, trim_snoc0]
  · rename_i e
    rw [trim_snoc _ e]
theorem co_turn (T : Tb) (h11 : At T.fs j11 true 2 d_draw) (h12 : At T.fs j12 true 2 d_of) {p : Int} (h0 : 0 < p) (h1 : p < 100) (m : Sl) (n : Nat) (d : D) (b : Bag) (h : Inv b 999990000) :
    evC T (n + 25) (.one 4) [4] none (.appio j12 0 [(.lst [(.int 0), (.nm 1), (.neg (.nm 1)), (.int 1), (.neg (.int 1)), (.bin .Sub (.nm 1) (.int 1)), (.appio j11 0 [(.bin .Pow (.int 10) (.int 9))]), (.bin .Sub (.int 0) (.appio j11 0 [(.bin .Pow (.int 10) (.int 9))])), (.bin .Mult (.int 3) (.nm 1))])]) d ⟨[.bag, .val (.int p), m, .no, .no, .no, .no], bagD b⟩ = some (some (.int (coS p b).1), ⟨[.bag, .val (.int p), m, .no, .no, .no, .no], bagD (coS p b).2⟩) := by
  obtain ⟨v1, v2, v3⟩ := draw_inv (top := 1000000000) h (by decide)
  obtain ⟨w1, w2, w3⟩ := draw_inv (top := 1000000000) v1 (by decide)
  have c1 := call_draw h11 (top := 1000000000) (h.up (by decide)) (by decide) (by decide)
  have c2 := call_draw h11 (top := 1000000000) (v1.up (by decide)) (by decide) (by decide)
  have c3 := call_of h12 (xs := [.int 0, .int p, .int (-p), .int 1, .int (-1), .int (p - 1), .int (draw b 1000000000).1, .int (0 - (draw (draw b 1000000000).2 1000000000).1), .int (3 * p)]) (w1.up (by decide)) (by intro h; cases h) (by simp)
  obtain ⟨_, _, e⟩ := co_inv h0 h1 b _ h
  have e2 : (coS p b).2 = (co p b).2 := rfl
  rw [← e, e2]
  change bAt _ j12 _ _ = some (false, (co p b).1, bagD (co p b).2) at c3
  generalize co p b = Z at *
  generalize draw (draw b 1000000000).2 1000000000 = Y at *
  generalize draw b 1000000000 = X at *
  generalize bagD b = B at *
  rw [Int.zero_sub] at c3
  simp (config := {implicitDefEqProofs := false}) (disch := omega) [h11, h12, c1, c2, c3, q_int, q_bl, q_non, q_nm, q_bin, q_neg, q_negI, q_not, q_bop, q_ife, q_cmp, q_ix, q_ixn, q_sl, q_sln, q_blt, q_lenn, q_isi, q_lst, q_tup, q_lc, q_push, q_pop, q_evc, q_to0, q_to1, q_o0, q_o1, q_intD, q_a0, q_a1, q_tnt, q_tbop, q_tcmp, q_tval, q_tnm, q_iseq, q_irng, q_ienu, q_izip, q_irev, q_sset, q_stgt, q_spar, q_sput, q_sret, q_sretn, q_sife, q_swhl, q_sfor, q_sex, q_spass, q_sbrk, q_scnt, q_ss0, q_ss1, q_gonx, q_gort, q_gobk, q_goct, q_add, q_addl, q_addt, q_sub, q_mul, q_mull, q_mult, q_div, q_mod, q_pow, q_eq, q_ne, q_lt, q_le, q_gt, q_ge, q_is1, q_is2, q_is3, q_is4, q_is5, q_tr0, q_trb, q_tri, q_trl, q_trt, q_ixl, q_ixt, q_sll, q_slt, q_sls, q_lenl, q_lent, q_inti, q_absi, q_lisl, q_list, q_tupl, q_tupt, q_all, q_max, q_min, q_itl, q_itt, q_seql, q_seqt, q_rng1, q_rng2, q_enu1, q_enu2, q_end1, q_end2, q_own, q_val, q_st1, q_stt, q_sta0, q_sta1, q_re1, q_re0, q_appA, q_appioA, q_appkA, ↓bind_o, obind_some, List.getElem?_cons_zero, List.getElem?_cons_succ, List.set_cons_zero, List.set_cons_succ, lockS, slotL, Fz.atS, putL, runD, en0, vals, setS, opStop, wipeE, wipeS, restE, restS, plainS, szB_of, posB_of, b62_of, mulB_of, divB_of, powB_of, repB_one, timB_one, flat_one, I_rep, atI_0, atI_1, atI_2, atI_3, atI_4, ixN_of, cut_from, cut_to, eqv_int, eqv_none, shp_int, shp_bool, shp_none, zip_I]
theorem ce_turn (T : Tb) (h12 : At T.fs j12 true 2 d_of) {p : Int} (h0 : 0 < p) (h1 : p < 100) (m s3 : Sl) (n : Nat) (d : D) (b : Bag) (h : Inv b 999990000) :
    evC T (n + 25) (.one 4) [4] none (.appio j12 0 [(.lst [(.int 0), (.nm 1), (.neg (.nm 1)), (.bin .Mult (.int 7) (.nm 1))])]) d ⟨[.bag, .val (.int p), m, s3, .no, .no, .no], bagD b⟩ = some (some (.int (ceS p b).1), ⟨[.bag, .val (.int p), m, s3, .no, .no, .no], bagD (ceS p b).2⟩) := by
  have c3 := call_of h12 (xs := [.int 0, .int p, .int (-p), .int (7 * p)]) (h.up (by decide)) (by intro h; cases h) (by simp)
  obtain ⟨_, _, e⟩ := ce_inv h0 h1 b _ h
  have e2 : (ceS p b).2 = (ce p b).2 := rfl
  rw [← e, e2]
  change bAt _ j12 _ _ = some (false, (ce p b).1, bagD (ce p b).2) at c3
  generalize ce p b = Z at *
  generalize bagD b = B at *
  simp (config := {implicitDefEqProofs := false}) (disch := omega) [h12, c3, q_int, q_bl, q_non, q_nm, q_bin, q_neg, q_negI, q_not, q_bop, q_ife, q_cmp, q_ix, q_ixn, q_sl, q_sln, q_blt, q_lenn, q_isi, q_lst, q_tup, q_lc, q_push, q_pop, q_evc, q_to0, q_to1, q_o0, q_o1, q_intD, q_a0, q_a1, q_tnt, q_tbop, q_tcmp, q_tval, q_tnm, q_iseq, q_irng, q_ienu, q_izip, q_irev, q_sset, q_stgt, q_spar, q_sput, q_sret, q_sretn, q_sife, q_swhl, q_sfor, q_sex, q_spass, q_sbrk, q_scnt, q_ss0, q_ss1, q_gonx, q_gort, q_gobk, q_goct, q_add, q_addl, q_addt, q_sub, q_mul, q_mull, q_mult, q_div, q_mod, q_pow, q_eq, q_ne, q_lt, q_le, q_gt, q_ge, q_is1, q_is2, q_is3, q_is4, q_is5, q_tr0, q_trb, q_tri, q_trl, q_trt, q_ixl, q_ixt, q_sll, q_slt, q_sls, q_lenl, q_lent, q_inti, q_absi, q_lisl, q_list, q_tupl, q_tupt, q_all, q_max, q_min, q_itl, q_itt, q_seql, q_seqt, q_rng1, q_rng2, q_enu1, q_enu2, q_end1, q_end2, q_own, q_val, q_st1, q_stt, q_sta0, q_sta1, q_re1, q_re0, q_appA, q_appioA, q_appkA, ↓bind_o, obind_some, List.getElem?_cons_zero, List.getElem?_cons_succ, List.set_cons_zero, List.set_cons_succ, lockS, slotL, Fz.atS, putL, runD, en0, vals, setS, opStop, wipeE, wipeS, restE, restS, plainS, szB_of, posB_of, b62_of, mulB_of, divB_of, powB_of, repB_one, timB_one, flat_one, I_rep, atI_0, atI_1, atI_2, atI_3, atI_4, ixN_of, cut_from, cut_to, eqv_int, eqv_none, shp_int, shp_bool, shp_none, zip_I]
theorem found_loop (T : Tb) {p : Int} (h0 : 0 < p) (m : Sl) (B : List D) {f : List Int} (hf : f.length ≤ 100000) (n : Nat) : ∀ (r k : Nat) (s4 : Sl), k + r = f.length →
    ∃ s4', forL (bodyF T (n + 30) (.one 4) [.ife (.cmp .NotEq (.bin .Mod (.blt .int [(.ixn 3 (.nm 4))]) (.nm 1)) (.int 0)) [.set 5 (.blt .tuple [(.lc (.one 6) [6] (.seq (.sln 3 none (some (.bin .Add (.nm 4) (.int 1))))) none (.bin .Mod (.blt .int [(.nm 6)]) (.nm 1)))])] []]) (rngD (k : Int) r) ⟨[.bag, .val (.int p), m, .own (I f), s4, .val (.tuple (I (formOf p (f.take k)))), .no], B⟩ = some (.nx ⟨[.bag, .val (.int p), m, .own (I f), s4', .val (.tuple (I (formOf p f))), .no], B⟩)
  | 0, k, s4, h => ⟨s4, by rw [show k = f.length by omega, List.take_length]; rfl⟩
  | r + 1, k, s4, h => by
    obtain ⟨s4', ih⟩ := found_loop T h0 m B hf n r (k + 1) (.val (.int (k : Int))) (by omega)
    refine ⟨s4', ?_⟩
    have hk : k < f.length := by omega
    have hat := atI_D hk
    have hst := found_step p f k hk
    have hcut : Fz.cutD (I f) none (some ((k : Int) + 1)) = I (f.take (k + 1)) := by
      rw [cut_to (by omega)]
      congr 2
    have htl : (f.take (k + 1)).length = k + 1 := by rw [List.length_take]; omega
    have hc : ∀ n s4 s5, lcL (evC T (n + 9) (.one 6) [6] none (.bin .Mod (.blt .int [(.nm 6)]) (.nm 1))) (I (f.take (k + 1))) ⟨[.bag, .val (.int p), m, .own (I f), s4, s5, .no], B⟩ = some (I ((f.take (k + 1)).map (· % p)), ⟨[.bag, .val (.int p), m, .own (I f), s4, s5, .no], B⟩) := by
      intro n s4 s5
      rw [show I ((f.take (k + 1)).map (· % p)) = (f.take (k + 1)).map fun x => PyData.int (x % p) by unfold I; rw [List.map_map]; rfl]
      refine lcL_pure _ _ fun x _ => ?_
      simp (config := {implicitDefEqProofs := false}) (disch := omega) [q_int, q_bl, q_non, q_nm, q_bin, q_neg, q_negI, q_not, q_bop, q_ife, q_cmp, q_ix, q_ixn, q_sl, q_sln, q_blt, q_lenn, q_isi, q_lst, q_tup, q_lc, q_push, q_pop, q_evc, q_to0, q_to1, q_o0, q_o1, q_intD, q_a0, q_a1, q_tnt, q_tbop, q_tcmp, q_tval, q_tnm, q_iseq, q_irng, q_ienu, q_izip, q_irev, q_sset, q_stgt, q_spar, q_sput, q_sret, q_sretn, q_sife, q_swhl, q_sfor, q_sex, q_spass, q_sbrk, q_scnt, q_ss0, q_ss1, q_gonx, q_gort, q_gobk, q_goct, q_add, q_addl, q_addt, q_sub, q_mul, q_mull, q_mult, q_div, q_mod, q_pow, q_eq, q_ne, q_lt, q_le, q_gt, q_ge, q_is1, q_is2, q_is3, q_is4, q_is5, q_tr0, q_trb, q_tri, q_trl, q_trt, q_ixl, q_ixt, q_sll, q_slt, q_sls, q_lenl, q_lent, q_inti, q_absi, q_lisl, q_list, q_tupl, q_tupt, q_all, q_max, q_min, q_itl, q_itt, q_seql, q_seqt, q_rng1, q_rng2, q_enu1, q_enu2, q_end1, q_end2, q_own, q_val, q_st1, q_stt, q_sta0, q_sta1, q_re1, q_re0, q_appA, q_appioA, q_appkA, ↓bind_o, obind_some, List.getElem?_cons_zero, List.getElem?_cons_succ, List.set_cons_zero, List.set_cons_succ, lockS, slotL, Fz.atS, putL, runD, en0, vals, setS, opStop, wipeE, wipeS, restE, restS, plainS, szB_of, posB_of, b62_of, mulB_of, divB_of, powB_of, repB_one, timB_one, flat_one, I_rep, atI_0, atI_1, atI_2, atI_3, atI_4, ixN_of, cut_from, cut_to, eqv_int, eqv_none, shp_int, shp_bool, shp_none, zip_I]
    rw [rngD_succ, forL_nx (show bodyF T (n + 30) (.one 4) [.ife (.cmp .NotEq (.bin .Mod (.blt .int [(.ixn 3 (.nm 4))]) (.nm 1)) (.int 0)) [.set 5 (.blt .tuple [(.lc (.one 6) [6] (.seq (.sln 3 none (some (.bin .Add (.nm 4) (.int 1))))) none (.bin .Mod (.blt .int [(.nm 6)]) (.nm 1)))])] []] (.int (k : Int)) ⟨[.bag, .val (.int p), m, .own (I f), s4, .val (.tuple (I (formOf p (f.take k)))), .no], B⟩ = some (.nx ⟨[.bag, .val (.int p), m, .own (I f), .val (.int (k : Int)), .val (.tuple (I (formOf p (f.take (k + 1))))), .no], B⟩) by
      rw [hst]
      generalize hL : I (f.take (k + 1)) = L at *
      have hLl : L.length = k + 1 := by rw [← hL, I_len, htl]
      by_cases e : gd f k % p = 0
      · simp (config := {implicitDefEqProofs := false}) (disch := omega) [bodyF, hat, e, q_int, q_bl, q_non, q_nm, q_bin, q_neg, q_negI, q_not, q_bop, q_ife, q_cmp, q_ix, q_ixn, q_sl, q_sln, q_blt, q_lenn, q_isi, q_lst, q_tup, q_lc, q_push, q_pop, q_evc, q_to0, q_to1, q_o0, q_o1, q_intD, q_a0, q_a1, q_tnt, q_tbop, q_tcmp, q_tval, q_tnm, q_iseq, q_irng, q_ienu, q_izip, q_irev, q_sset, q_stgt, q_spar, q_sput, q_sret, q_sretn, q_sife, q_swhl, q_sfor, q_sex, q_spass, q_sbrk, q_scnt, q_ss0, q_ss1, q_gonx, q_gort, q_gobk, q_goct, q_add, q_addl, q_addt, q_sub, q_mul, q_mull, q_mult, q_div, q_mod, q_pow, q_eq, q_ne, q_lt, q_le, q_gt, q_ge, q_is1, q_is2, q_is3, q_is4, q_is5, q_tr0, q_trb, q_tri, q_trl, q_trt, q_ixl, q_ixt, q_sll, q_slt, q_sls, q_lenl, q_lent, q_inti, q_absi, q_lisl, q_list, q_tupl, q_tupt, q_all, q_max, q_min, q_itl, q_itt, q_seql, q_seqt, q_rng1, q_rng2, q_enu1, q_enu2, q_end1, q_end2, q_own, q_val, q_st1, q_stt, q_sta0, q_sta1, q_re1, q_re0, q_appA, q_appioA, q_appkA, ↓bind_o, obind_some, List.getElem?_cons_zero, List.getElem?_cons_succ, List.set_cons_zero, List.set_cons_succ, lockS, slotL, Fz.atS, putL, runD, en0, vals, setS, opStop, wipeE, wipeS, restE, restS, plainS, szB_of, posB_of, b62_of, mulB_of, divB_of, powB_of, repB_one, timB_one, flat_one, I_rep, atI_0, atI_1, atI_2, atI_3, atI_4, ixN_of, cut_from, cut_to, eqv_int, eqv_none, shp_int, shp_bool, shp_none, zip_I]
      · have e' : (gd f k % p == 0) = false := beq_false_of_ne e
        simp (config := {implicitDefEqProofs := false}) (disch := omega) [bodyF, hat, e, e', hcut, hc, hLl, q_int, q_bl, q_non, q_nm, q_bin, q_neg, q_negI, q_not, q_bop, q_ife, q_cmp, q_ix, q_ixn, q_sl, q_sln, q_blt, q_lenn, q_isi, q_lst, q_tup, q_lc, q_push, q_pop, q_evc, q_to0, q_to1, q_o0, q_o1, q_intD, q_a0, q_a1, q_tnt, q_tbop, q_tcmp, q_tval, q_tnm, q_iseq, q_irng, q_ienu, q_izip, q_irev, q_sset, q_stgt, q_spar, q_sput, q_sret, q_sretn, q_sife, q_swhl, q_sfor, q_sex, q_spass, q_sbrk, q_scnt, q_ss0, q_ss1, q_gonx, q_gort, q_gobk, q_goct, q_add, q_addl, q_addt, q_sub, q_mul, q_mull, q_mult, q_div, q_mod, q_pow, q_eq, q_ne, q_lt, q_le, q_gt, q_ge, q_is1, q_is2, q_is3, q_is4, q_is5, q_tr0, q_trb, q_tri, q_trl, q_trt, q_ixl, q_ixt, q_sll, q_slt, q_sls, q_lenl, q_lent, q_inti, q_absi, q_lisl, q_list, q_tupl, q_tupt, q_all, q_max, q_min, q_itl, q_itt, q_seql, q_seqt, q_rng1, q_rng2, q_enu1, q_enu2, q_end1, q_end2, q_own, q_val, q_st1, q_stt, q_sta0, q_sta1, q_re1, q_re0, q_appA, q_appioA, q_appkA, ↓bind_o, obind_some, List.getElem?_cons_zero, List.getElem?_cons_succ, List.set_cons_zero, List.set_cons_succ, lockS, slotL, Fz.atS, putL, runD, en0, vals, setS, opStop, wipeE, wipeS, restE, restS, plainS, szB_of, posB_of, b62_of, mulB_of, divB_of, powB_of, repB_one, timB_one, flat_one, I_rep, atI_0, atI_1, atI_2, atI_3, atI_4, ixN_of, cut_from, cut_to, eqv_int, eqv_none, shp_int, shp_bool, shp_none, zip_I])]
    rw [show (k : Int) + 1 = ((k + 1 : Nat) : Int) by omega]
    exact ih
noncomputable section
/-- many numbers -/
def MN : List D := [.int 0, .int 1, .int 3, .int 6, .int 41]
def rd1 (b : Bag) (p : Int) : List Int × Bag := stepN (coS p) (intOf (ofL b MN).1).toNat (ofL b MN).2
def rd2 (b : Bag) (p : Int) (f : List Int) : List Int × Bag :=
  if (draw b 2).1 = 0 then (f.take 38 ++ (stepN (ceS p) (1 + (draw (draw b 2).2 3).1).toNat (draw (draw b 2).2 3).2).1, (stepN (ceS p) (1 + (draw (draw b 2).2 3).1).toNat (draw (draw b 2).2 3).2).2)
  else (f, (draw b 2).2)
def readB (b : Bag) (p : Int) : List Int × Bag := rd2 (rd1 b p).2 p (rd1 b p).1
def d_read : List D → Option (Bool × D × List D)
  | [.list l, .int p] => withBag 999980000 l fun b => if 0 < p ∧ p < 100 then some (.tuple [.list (I (readB b p).1), .tuple (I (formOf p (readB b p).1))], (readB b p).2) else none
  | _ => none
end
theorem mn_ok : ∀ x ∈ MN, ∃ i : Int, x = .int i ∧ 0 ≤ i ∧ i ≤ 41 := by
  intro x hx
  simp only [MN, List.mem_cons, List.not_mem_nil, or_false] at hx
  rcases hx with rfl | rfl | rfl | rfl | rfl <;> exact ⟨_, rfl, by decide, by decide⟩
theorem rd1_inv {b : Bag} {n p : Int} (h : Inv b n) (h0 : 0 < p) (h1 : p < 100) : Inv (rd1 b p).2 (n + 130) ∧ (rd1 b p).1.length ≤ 41 ∧ ∀ x ∈ (rd1 b p).1, big x := by
  obtain ⟨v1, v2⟩ := of_inv h (xs := MN) (by intro h; cases h)
  obtain ⟨i, e, i0, i1⟩ := mn_ok _ v2
  obtain ⟨w1, w2, w3⟩ := stepN_inv (stp := coS p) (c := 3) (P := big) (fun b n h => ⟨(co_inv h0 h1 b n h).1, (co_inv h0 h1 b n h).2.1⟩) i.toNat v1
  unfold rd1
  rw [e]
  exact ⟨w1.up (by omega), by show (stepN _ i.toNat _).1.length ≤ 41; rw [w2]; omega, w3⟩
theorem rd2_inv {b : Bag} {n p : Int} {f : List Int} (h : Inv b n) (h0 : 0 < p) (h1 : p < 100) (hf : f.length ≤ 41) (hb : ∀ x ∈ f, big x) : Inv (rd2 b p f).2 (n + 10) ∧ (rd2 b p f).1.length ≤ 41 ∧ ∀ x ∈ (rd2 b p f).1, big x := by
  obtain ⟨v1, _, _⟩ := draw_inv (top := 2) h (by decide)
  obtain ⟨w1, w2, w3⟩ := draw_inv (top := 3) v1 (by decide)
  obtain ⟨u1, u2, u3⟩ := stepN_inv (stp := ceS p) (c := 1) (P := big) (fun b n h => ⟨(ce_inv h0 h1 b n h).1, (ce_inv h0 h1 b n h).2.1⟩) (1 + (draw (draw b 2).2 3).1).toNat w1
  unfold rd2
  split
  · refine ⟨u1.up (by omega), ?_, ?_⟩
    · rw [List.length_append, u2, List.length_take]
      omega
    · intro x hx
      rcases List.mem_append.mp hx with hx | hx
      · exact hb x (List.mem_of_mem_take hx)
      · exact u3 x hx
  · exact ⟨v1.up (by omega), hf, hb⟩
theorem read_inv {b : Bag} {n p : Int} (h : Inv b n) (h0 : 0 < p) (h1 : p < 100) : Inv (readB b p).2 (n + 140) ∧ (readB b p).1.length ≤ 41 ∧ ∀ x ∈ (readB b p).1, big x := by
  obtain ⟨a1, a2, a3⟩ := rd1_inv h h0 h1
  obtain ⟨b1, b2, b3⟩ := rd2_inv a1 h0 h1 a2 a3
  exact ⟨b1.up (by omega), b2, b3⟩
theorem run_read (hN : N.length = 7) (h11 : At fs j11 true 2 d_draw) (h12 : At fs j12 true 2 d_of) {ds : List D} {z : Bool × D × List D} (h : d_read ds = some z) : runD ⟨N, fs, WW⟩ 60 true (B_q_read_numbers j11 j12) ds = some z := by
  unfold d_read withBag at h
  split at h
  · rename_i l p
    simp only [Option.bind_eq_some_iff] at h
    obtain ⟨b, hb, h⟩ := h
    rw [bagOf_eq hb]
    split at h
    · rename_i hi
      simp only [Option.bind_eq_some_iff] at h
      obtain ⟨y, h1, h⟩ := h
      split at h1
      · rename_i ht
        cases h1
        cases h
        obtain ⟨hp, hp2⟩ := ht
        obtain ⟨v1, v2⟩ := of_inv hi (xs := MN) (by intro h; cases h)
        obtain ⟨i, e, i0, i1⟩ := mn_ok _ v2
        have c1 := call_of h12 (xs := MN) (hi.up (by decide)) (by intro h; cases h) (by decide)
        rw [e] at c1
        obtain ⟨a1, a2, a3⟩ := rd1_inv (p := p) hi hp hp2
        obtain ⟨b1, b2, b3⟩ := rd2_inv a1 hp hp2 a2 a3
        have hl1 : ∀ n, lcL (evC ⟨N, fs, WW⟩ (n + 25) (.one 4) [4] none (.appio j12 0 [(.lst [(.int 0), (.nm 1), (.neg (.nm 1)), (.int 1), (.neg (.int 1)), (.bin .Sub (.nm 1) (.int 1)), (.appio j11 0 [(.bin .Pow (.int 10) (.int 9))]), (.bin .Sub (.int 0) (.appio j11 0 [(.bin .Pow (.int 10) (.int 9))])), (.bin .Mult (.int 3) (.nm 1))])])) (rngD 0 i.toNat) ⟨[.bag, .val (.int p), .val (.int i), .no, .no, .no, .no], bagD (ofL b MN).2⟩ = some (I (rd1 b p).1, ⟨[.bag, .val (.int p), .val (.int i), .no, .no, .no, .no], bagD (rd1 b p).2⟩) := by
          intro n
          have := lcL_steps (F := evC ⟨N, fs, WW⟩ (n + 25) (.one 4) [4] none (.appio j12 0 [(.lst [(.int 0), (.nm 1), (.neg (.nm 1)), (.int 1), (.neg (.int 1)), (.bin .Sub (.nm 1) (.int 1)), (.appio j11 0 [(.bin .Pow (.int 10) (.int 9))]), (.bin .Sub (.int 0) (.appio j11 0 [(.bin .Pow (.int 10) (.int 9))])), (.bin .Mult (.int 3) (.nm 1))])])) (stp := coS p) (c := 3) (m := 999990000) (by decide) (fun b n h => (co_inv hp hp2 b n h).1) (fun b => ⟨[.bag, .val (.int p), .val (.int i), .no, .no, .no, .no], bagD b⟩) (fun d b h => co_turn _ h11 h12 hp hp2 _ n d b h) (rngD 0 i.toNat) v1 (by rw [rngD_len]; omega)
          rw [rngD_len] at this
          unfold rd1
          rw [e]
          exact this
        have hb1 : b62 i = true := b62_of (by omega) (by omega)
        unfold MN at c1
        unfold readB rd2
        generalize hB0 : bagD b = B0 at *
        generalize hB1 : bagD (ofL b MN).2 = B1 at *
        change bAt _ j12 B0 _ = some (false, .int i, bagD (ofL b MN).2) at c1
        rw [hB1] at c1
        generalize hR : rd1 b p = R at *
        obtain ⟨f, bf⟩ := R
        dsimp only at *
        have c2 := call_draw h11 (b := bf) (top := 2) (a1.up (by decide)) (by decide) (by decide)
        obtain ⟨w1, w2, w3⟩ := draw_inv (top := 2) a1 (by decide)
        have c3 := call_draw h11 (b := (draw bf 2).2) (top := 3) (w1.up (by decide)) (by decide) (by decide)
        obtain ⟨u1, u2, u3⟩ := draw_inv (top := 3) w1 (by decide)
        generalize hX : draw bf 2 = X at *
        obtain ⟨x, bx⟩ := X
        dsimp only at *
        generalize hY : draw bx 3 = Y at *
        obtain ⟨y, by'⟩ := Y
        dsimp only at *
        by_cases e0 : x = 0
        · rw [if_pos e0]
          subst e0
          obtain ⟨t1, t2, t3⟩ := stepN_inv (stp := ceS p) (c := 1) (P := big) (fun b n h => ⟨(ce_inv hp hp2 b n h).1, (ce_inv hp hp2 b n h).2.1⟩) (1 + y).toNat u1
          have hl2 : ∀ n, lcL (evC ⟨N, fs, WW⟩ (n + 25) (.one 4) [4] none (.appio j12 0 [(.lst [(.int 0), (.nm 1), (.neg (.nm 1)), (.bin .Mult (.int 7) (.nm 1))])])) (rngD 0 (1 + y).toNat) ⟨[.bag, .val (.int p), .val (.int i), .own (I f), .no, .no, .no], bagD by'⟩ = some (I (stepN (ceS p) (1 + y).toNat by').1, ⟨[.bag, .val (.int p), .val (.int i), .own (I f), .no, .no, .no], bagD (stepN (ceS p) (1 + y).toNat by').2⟩) := by
            intro n
            have := lcL_steps (F := evC ⟨N, fs, WW⟩ (n + 25) (.one 4) [4] none (.appio j12 0 [(.lst [(.int 0), (.nm 1), (.neg (.nm 1)), (.bin .Mult (.int 7) (.nm 1))])])) (stp := ceS p) (c := 1) (m := 999990000) (by decide) (fun b n h => (ce_inv hp hp2 b n h).1) (fun b => ⟨[.bag, .val (.int p), .val (.int i), .own (I f), .no, .no, .no], bagD b⟩) (fun d b h => ce_turn _ h12 hp hp2 _ _ n d b h) (rngD 0 (1 + y).toNat) u1 (by rw [rngD_len]; omega)
            rw [rngD_len] at this
            exact this
          have hb2 : b62 (1 + y) = true := b62_of (by omega) (by omega)
          have hlen : (stepN (ceS p) (1 + y).toNat by').1.length ≤ 3 := by rw [t2]; omega
          generalize hZ : stepN (ceS p) (1 + y).toNat by' = Z at *
          obtain ⟨g, bz⟩ := Z
          dsimp only at *
          obtain ⟨s4', hl3⟩ := found_loop ⟨N, fs, WW⟩ hp (.val (.int i)) (bagD bz) (f := f.take 38 ++ g) (by rw [List.length_append, List.length_take]; omega) 24 (f.take 38 ++ g).length 0 .no (Nat.zero_add _)
          change forL (bodyF _ 54 _ _) (rngD 0 _) ⟨[_, _, _, _, _, .val (.tuple []), _], _⟩ = _ at hl3
          have hcut : Fz.cutD (I f) none (some 38) = I (f.take 38) := cut_to (by decide)
          have hfl : (f.take 38).length ≤ 38 := by rw [List.length_take]; omega
          generalize hf2 : f.take 38 = f2 at *
          generalize hF2 : formOf p (f2 ++ g) = ff at *
          rw [I_app] at hl3
          simp only [List.length_append] at hl3
          have e1 : ((f2.length : Int) + (g.length : Int)).toNat = f2.length + g.length := by omega
          simp (config := {implicitDefEqProofs := false}) (disch := omega) [B_q_read_numbers, hN, h11, h12, c1, c2, c3, hb1, hb2, rngD_len, hl1, hl2, hcut, hl3, e1, q_int, q_bl, q_non, q_nm, q_bin, q_neg, q_negI, q_not, q_bop, q_ife, q_cmp, q_ix, q_ixn, q_sl, q_sln, q_blt, q_lenn, q_isi, q_lst, q_tup, q_lc, q_push, q_pop, q_evc, q_to0, q_to1, q_o0, q_o1, q_intD, q_a0, q_a1, q_tnt, q_tbop, q_tcmp, q_tval, q_tnm, q_iseq, q_irng, q_ienu, q_izip, q_irev, q_sset, q_stgt, q_spar, q_sput, q_sret, q_sretn, q_sife, q_swhl, q_sfor, q_sex, q_spass, q_sbrk, q_scnt, q_ss0, q_ss1, q_gonx, q_gort, q_gobk, q_goct, q_add, q_addl, q_addt, q_sub, q_mul, q_mull, q_mult, q_div, q_mod, q_pow, q_eq, q_ne, q_lt, q_le, q_gt, q_ge, q_is1, q_is2, q_is3, q_is4, q_is5, q_tr0, q_trb, q_tri, q_trl, q_trt, q_ixl, q_ixt, q_sll, q_slt, q_sls, q_lenl, q_lent, q_inti, q_absi, q_lisl, q_list, q_tupl, q_tupt, q_all, q_max, q_min, q_itl, q_itt, q_seql, q_seqt, q_rng1, q_rng2, q_enu1, q_enu2, q_end1, q_end2, q_own, q_val, q_st1, q_stt, q_sta0, q_sta1, q_re1, q_re0, q_appA, q_appioA, q_appkA, ↓bind_o, obind_some, List.getElem?_cons_zero, List.getElem?_cons_succ, List.set_cons_zero, List.set_cons_succ, lockS, slotL, Fz.atS, putL, runD, en0, vals, setS, opStop, wipeE, wipeS, restE, restS, plainS, szB_of, posB_of, b62_of, mulB_of, divB_of, powB_of, repB_one, timB_one, flat_one, I_rep, atI_0, atI_1, atI_2, atI_3, atI_4, ixN_of, cut_from, cut_to, eqv_int, eqv_none, shp_int, shp_bool, shp_none, zip_I]
        · rw [if_neg e0]
          obtain ⟨s4', hl3⟩ := found_loop ⟨N, fs, WW⟩ hp (.val (.int i)) (bagD bx) (f := f) (by omega) 24 f.length 0 .no (Nat.zero_add _)
          change forL (bodyF _ 54 _ _) (rngD 0 _) ⟨[_, _, _, _, _, .val (.tuple []), _], _⟩ = _ at hl3
          have hff : (I f).length = f.length := I_len f
          generalize hF2 : formOf p f = ff at *
          simp (config := {implicitDefEqProofs := false}) (disch := omega) [B_q_read_numbers, hN, h11, h12, c1, c2, c3, hb1, rngD_len, hl1, hl3, e0, q_int, q_bl, q_non, q_nm, q_bin, q_neg, q_negI, q_not, q_bop, q_ife, q_cmp, q_ix, q_ixn, q_sl, q_sln, q_blt, q_lenn, q_isi, q_lst, q_tup, q_lc, q_push, q_pop, q_evc, q_to0, q_to1, q_o0, q_o1, q_intD, q_a0, q_a1, q_tnt, q_tbop, q_tcmp, q_tval, q_tnm, q_iseq, q_irng, q_ienu, q_izip, q_irev, q_sset, q_stgt, q_spar, q_sput, q_sret, q_sretn, q_sife, q_swhl, q_sfor, q_sex, q_spass, q_sbrk, q_scnt, q_ss0, q_ss1, q_gonx, q_gort, q_gobk, q_goct, q_add, q_addl, q_addt, q_sub, q_mul, q_mull, q_mult, q_div, q_mod, q_pow, q_eq, q_ne, q_lt, q_le, q_gt, q_ge, q_is1, q_is2, q_is3, q_is4, q_is5, q_tr0, q_trb, q_tri, q_trl, q_trt, q_ixl, q_ixt, q_sll, q_slt, q_sls, q_lenl, q_lent, q_inti, q_absi, q_lisl, q_list, q_tupl, q_tupt, q_all, q_max, q_min, q_itl, q_itt, q_seql, q_seqt, q_rng1, q_rng2, q_enu1, q_enu2, q_end1, q_end2, q_own, q_val, q_st1, q_stt, q_sta0, q_sta1, q_re1, q_re0, q_appA, q_appioA, q_appkA, ↓bind_o, obind_some, List.getElem?_cons_zero, List.getElem?_cons_succ, List.set_cons_zero, List.set_cons_succ, lockS, slotL, Fz.atS, putL, runD, en0, vals, setS, opStop, wipeE, wipeS, restE, restS, plainS, szB_of, posB_of, b62_of, mulB_of, divB_of, powB_of, repB_one, timB_one, flat_one, I_rep, atI_0, atI_1, atI_2, atI_3, atI_4, ixN_of, cut_from, cut_to, eqv_int, eqv_none, shp_int, shp_bool, shp_none, zip_I]
      · cases h1
    · cases h
  · cases h
end W1
set_option Elab.async false
set_option linter.all false
set_option maxRecDepth 100000
set_option maxHeartbeats 2000000
namespace W1
open PySem PySem.Spec PyProof.Rows L2 Fz
variable {fs : List (Str × Fn)} {N : List Str} {j0 j1 j2 j3 j4 j5 j6 j7 j8 j9 j10 j11 j12 j13 j14 j15 j16 j17 j18 j19 j20 j21 j22 j23 j24 j25 j26 j27 : Nat}
noncomputable section
open Classical in
def d_values : List D → Option (Bool × D × List D)
  | [.int p, .tuple a, .tuple b, t] => (allI a).bind fun f => (allI b).bind fun g => if 0 < p ∧ p < 100 ∧ isForm p f ∧ isForm p g ∧ t = .list [.tuple (I (formOf p (zadd f g))), .tuple (I (formOf p (zsub f g))), .tuple (I (pm p f g))] then some (false, .bool true, []) else none
  | _ => none
end
theorem values_eq (p c : Int) (f g : List Int) : ev c (formOf p (zadd f g)) % p = (ev c f % p + ev c g % p) % p ∧ ev c (formOf p (zsub f g)) % p = (ev c f % p - ev c g % p) % p ∧ ev c (pm p f g) % p = (ev c f % p * (ev c g % p)) % p := by
  refine ⟨?_, ?_, ?_⟩
  · rw [ev_formOf, zadd_za, ev_za, ← Int.add_emod]
  · rw [ev_formOf, zsub_zs, ev_zs, ← Int.sub_emod]
  · rw [ev_pm, ← Int.mul_emod]
theorem sd_ints3 (a b c : Int) : sd 2 (.list [.int a, .int b, .int c]) = true := by simp [sd, leaf]
theorem eqv_ints3 (a b c : Int) : PyData.eqv (.list [.int a, .int b, .int c]) (.list [.int a, .int b, .int c]) = true := by
  have := eqv_lst [a, b, c] [a, b, c]
  simpa using this
theorem shp_ints3 (a b c : Int) : shp (.list [.int a, .int b, .int c]) = true := by rfl
theorem values_loop (T : Tb) (h9 : At T.fs j9 false 3 d_value_at) (h13 : At T.fs j13 false 2 (d_same 2)) (h21 : At T.fs j21 false 3 d_val) {p : Int} {f g : List Int} (hp : 0 < p) (hp2 : p < 100) (hf : isForm p f) (hg : isForm p g) (n : Nat) : ∀ (r k : Nat) (s4 s5 s6 s7 : Sl), k + r ≤ 13 → plainS s7 = true ∨ True →
    ∃ s4' s5' s6' s7', forL (bodyF T (n + 30) (.one 4) [.par [5, 6] [(.app j21 [(.nm 0), (.nm 1), (.nm 4)]), (.app j21 [(.nm 0), (.nm 2), (.nm 4)])], .set 7 (.lst [(.bin .Mod (.blt .int [(.bin .Add (.nm 5) (.nm 6))]) (.nm 0)), (.bin .Mod (.blt .int [(.bin .Sub (.nm 5) (.nm 6))]) (.nm 0)), (.bin .Mod (.blt .int [(.bin .Mult (.nm 5) (.nm 6))]) (.nm 0))]), .ife (.bop .Or (.cmp .NotEq (.lc (.one 8) [8] (.seq (.nm 3)) none (.app j21 [(.nm 0), (.nm 8), (.nm 4)])) (.nm 7)) (.nt (.val (.app j13 [(.lc (.one 8) [8] (.seq (.nm 3)) none (.app j9 [(.nm 0), (.nm 8), (.nm 4)])), (.nm 7)])))) [.ret (.bl false)] []]) (rngD (k : Int) r) ⟨[.val (.int p), .val (.tuple (I f)), .val (.tuple (I g)), .val (.list [.tuple (I (formOf p (zadd f g))), .tuple (I (formOf p (zsub f g))), .tuple (I (pm p f g))]), s4, s5, s6, s7, .no], []⟩ = some (.nx ⟨[.val (.int p), .val (.tuple (I f)), .val (.tuple (I g)), .val (.list [.tuple (I (formOf p (zadd f g))), .tuple (I (formOf p (zsub f g))), .tuple (I (pm p f g))]), s4', s5', s6', s7', .no], []⟩)
  | 0, k, s4, s5, s6, s7, _, _ => ⟨s4, s5, s6, s7, rfl⟩
  | r + 1, k, s4, s5, s6, s7, hk, _ => by
    have ha := Int.emod_nonneg (ev k f) (show p ≠ 0 by omega)
    have ha2 := Int.emod_lt_of_pos (ev k f) hp
    have hb := Int.emod_nonneg (ev k g) (show p ≠ 0 by omega)
    have hb2 := Int.emod_lt_of_pos (ev k g) hp
    obtain ⟨q1, q2, q3⟩ := values_eq p k f g
    have c1 := call_val h21 (c := (k : Int)) hp hp2 (by omega) (by omega) hf.1
    have c2 := call_val h21 (c := (k : Int)) hp hp2 (by omega) (by omega) hg.1
    have c3 := call_val h21 (c := (k : Int)) hp hp2 (by omega) (by omega) (formOf_form hp (zadd f g)).1
    have c4 := call_val h21 (c := (k : Int)) hp hp2 (by omega) (by omega) (formOf_form hp (zsub f g)).1
    have c5 := call_val h21 (c := (k : Int)) hp hp2 (by omega) (by omega) (pm_form hp f g).1
    have d3 := call_value_at h9 (c := (k : Int)) (f := formOf p (zadd f g)) hp hp2 (by omega) (by omega)
    have d4 := call_value_at h9 (c := (k : Int)) (f := formOf p (zsub f g)) hp hp2 (by omega) (by omega)
    have d5 := call_value_at h9 (c := (k : Int)) (f := pm p f g) hp hp2 (by omega) (by omega)
    rw [q1] at c3 d3
    rw [q2] at c4 d4
    rw [q3] at c5 d5
    have hsd := fun a b c => call_same h13 (sd_ints3 a b c)
    obtain ⟨s4', s5', s6', s7', ih⟩ := values_loop T h9 h13 h21 hp hp2 hf hg n r (k + 1) (.val (.int (k : Int))) (.val (.int (ev k f % p))) (.val (.int (ev k g % p))) (.val (.list [.int ((ev k f % p + ev k g % p) % p), .int ((ev k f % p - ev k g % p) % p), .int ((ev k f % p * (ev k g % p)) % p)])) (by omega) (.inr trivial)
    refine ⟨s4', s5', s6', s7', ?_⟩
    rw [rngD_succ, forL_nx (e2 := ⟨[.val (.int p), .val (.tuple (I f)), .val (.tuple (I g)), .val (.list [.tuple (I (formOf p (zadd f g))), .tuple (I (formOf p (zsub f g))), .tuple (I (pm p f g))]), .val (.int (k : Int)), .val (.int (ev k f % p)), .val (.int (ev k g % p)), .val (.list [.int ((ev k f % p + ev k g % p) % p), .int ((ev k f % p - ev k g % p) % p), .int ((ev k f % p * (ev k g % p)) % p)]), .no], []⟩) ?_]
    · rw [show (k : Int) + 1 = ((k + 1 : Nat) : Int) by omega]
      exact ih
    · generalize formOf p (zadd f g) = S1 at *
      generalize formOf p (zsub f g) = S2 at *
      generalize pm p f g = S3 at *
      generalize hA : ev k f % p = A at *
      generalize hB : ev k g % p = B at *
      have hm : mulB A B = true := mulB_of (by omega) (by omega) (by omega) (by omega)
      simp (config := {implicitDefEqProofs := false}) (disch := omega) [bodyF, h9, h13, h21, c1, c2, c3, c4, c5, d3, d4, d5, hm, hsd, lcL, eqv_ints3, shp_ints3, q_int, q_bl, q_non, q_nm, q_bin, q_neg, q_negI, q_not, q_bop, q_ife, q_cmp, q_ix, q_ixn, q_sl, q_sln, q_blt, q_lenn, q_isi, q_lst, q_tup, q_lc, q_push, q_pop, q_evc, q_to0, q_to1, q_o0, q_o1, q_intD, q_a0, q_a1, q_tnt, q_tbop, q_tcmp, q_tval, q_tnm, q_iseq, q_irng, q_ienu, q_izip, q_irev, q_sset, q_stgt, q_spar, q_sput, q_sret, q_sretn, q_sife, q_swhl, q_sfor, q_sex, q_spass, q_sbrk, q_scnt, q_ss0, q_ss1, q_gonx, q_gort, q_gobk, q_goct, q_add, q_addl, q_addt, q_sub, q_mul, q_mull, q_mult, q_div, q_mod, q_pow, q_eq, q_ne, q_lt, q_le, q_gt, q_ge, q_is1, q_is2, q_is3, q_is4, q_is5, q_tr0, q_trb, q_tri, q_trl, q_trt, q_ixl, q_ixt, q_sll, q_slt, q_sls, q_lenl, q_lent, q_inti, q_absi, q_lisl, q_list, q_tupl, q_tupt, q_all, q_max, q_min, q_itl, q_itt, q_seql, q_seqt, q_rng1, q_rng2, q_enu1, q_enu2, q_end1, q_end2, q_own, q_val, q_st1, q_stt, q_sta0, q_sta1, q_re1, q_re0, q_appA, q_appioA, q_appkA, ↓bind_o, obind_some, List.getElem?_cons_zero, List.getElem?_cons_succ, List.set_cons_zero, List.set_cons_succ, lockS, slotL, Fz.atS, putL, runD, en0, vals, setS, opStop, wipeE, wipeS, restE, restS, plainS, szB_of, posB_of, b62_of, mulB_of, divB_of, powB_of, repB_one, timB_one, flat_one, I_rep, atI_0, atI_1, atI_2, atI_3, atI_4, ixN_of, cut_from, cut_to, eqv_int, eqv_none, shp_int, shp_bool, shp_none, zip_I]
theorem run_values (hN : N.length = 9) (h9 : At fs j9 false 3 d_value_at) (h13 : At fs j13 false 2 (d_same 2)) (h21 : At fs j21 false 3 d_val) {ds : List D} {z : Bool × D × List D} (h : d_values ds = some z) : runD ⟨N, fs, WW⟩ 60 false (B_q_values_so j9 j13 j21) ds = some z := by
  unfold d_values at h
  split at h
  · rename_i p a b t
    simp only [Option.bind_eq_some_iff] at h
    obtain ⟨f, hf, g, hg, h⟩ := h
    split at h
    · rename_i hh
      cases h
      obtain ⟨hp, hp2, h1, h2, rfl⟩ := hh
      rw [allI_eq hf, allI_eq hg]
      have hmin : (if 13 < p then (13 : Int) else p).toNat ≤ 13 := by split <;> omega
      obtain ⟨s4', s5', s6', s7', hl⟩ := values_loop ⟨N, fs, WW⟩ h9 h13 h21 hp hp2 h1 h2 28 (if 13 < p then (13 : Int) else p).toNat 0 .no .no .no .no (by omega) (.inr trivial)
      change forL (bodyF _ 58 _ _) (rngD 0 _) _ = _ at hl
      have hb : b62 (if 13 < p then (13 : Int) else p) = true := by split <;> exact b62_of (by omega) (by omega)
      generalize hM : (if 13 < p then (13 : Int) else p) = M at *
      simp (config := {implicitDefEqProofs := false}) (disch := omega) [B_q_values_so, hN, hl, hb, hM, q_int, q_bl, q_non, q_nm, q_bin, q_neg, q_negI, q_not, q_bop, q_ife, q_cmp, q_ix, q_ixn, q_sl, q_sln, q_blt, q_lenn, q_isi, q_lst, q_tup, q_lc, q_push, q_pop, q_evc, q_to0, q_to1, q_o0, q_o1, q_intD, q_a0, q_a1, q_tnt, q_tbop, q_tcmp, q_tval, q_tnm, q_iseq, q_irng, q_ienu, q_izip, q_irev, q_sset, q_stgt, q_spar, q_sput, q_sret, q_sretn, q_sife, q_swhl, q_sfor, q_sex, q_spass, q_sbrk, q_scnt, q_ss0, q_ss1, q_gonx, q_gort, q_gobk, q_goct, q_add, q_addl, q_addt, q_sub, q_mul, q_mull, q_mult, q_div, q_mod, q_pow, q_eq, q_ne, q_lt, q_le, q_gt, q_ge, q_is1, q_is2, q_is3, q_is4, q_is5, q_tr0, q_trb, q_tri, q_trl, q_trt, q_ixl, q_ixt, q_sll, q_slt, q_sls, q_lenl, q_lent, q_inti, q_absi, q_lisl, q_list, q_tupl, q_tupt, q_all, q_max, q_min, q_itl, q_itt, q_seql, q_seqt, q_rng1, q_rng2, q_enu1, q_enu2, q_end1, q_end2, q_own, q_val, q_st1, q_stt, q_sta0, q_sta1, q_re1, q_re0, q_appA, q_appioA, q_appkA, ↓bind_o, obind_some, List.getElem?_cons_zero, List.getElem?_cons_succ, List.set_cons_zero, List.set_cons_succ, lockS, slotL, Fz.atS, putL, runD, en0, vals, setS, opStop, wipeE, wipeS, restE, restS, plainS, szB_of, posB_of, b62_of, mulB_of, divB_of, powB_of, repB_one, timB_one, flat_one, I_rep, atI_0, atI_1, atI_2, atI_3, atI_4, ixN_of, cut_from, cut_to, eqv_int, eqv_none, shp_int, shp_bool, shp_none, zip_I]
    · cases h
  · cases h
end W1
set_option Elab.async false
set_option linter.all false
set_option maxRecDepth 100000
set_option maxHeartbeats 8000000
namespace K02
open PySem PySem.Spec PyProof.Rows L2 Fz W1
def L_0 : RS := .set 3 (.appio 16 1 [])
def L_1 : RS := .tgt (.tup [4, 5]) (.appio 24 1 [(.nm 3)])
def L_2 : RS := .set 6 (.blt .list [(.nm 4)])
def L_3 : RS := .ife (.bop .Or (.nt (.val (.app 13 [(.app 1 [(.nm 3), (.nm 4)]), (.nm 5)]))) (.bop .Or (.cmp .NotEq (.nm 4) (.nm 6)) (.nt (.val (.app 13 [(.appk 1 0 [] [(.nm 3), (.blt .tuple [(.nm 4)])]), (.nm 5)]))))) [.ret (.bl false)] []
def L_4 : RS := .tgt (.tup [7, 8]) (.appio 25 1 [(.nm 3)])
def L_5 : RS := .set 9 (.lst [(.app 3 [(.nm 3), (.nm 7), (.nm 8)]), (.app 4 [(.nm 3), (.nm 7), (.nm 8)]), (.app 5 [(.nm 3), (.nm 7), (.nm 8)])])
def L_6 : RS := .ife (.nt (.val (.app 13 [(.nm 9), (.lst [(.app 18 [(.nm 3), (.nm 7), (.nm 8)]), (.app 19 [(.nm 3), (.nm 7), (.nm 8)]), (.app 20 [(.nm 3), (.nm 7), (.nm 8)])])]))) [.ret (.bl false)] []
def L_7 : RS := .ife (.nt (.val (.app 26 [(.nm 3), (.nm 7), (.nm 8), (.nm 9)]))) [.ret (.bl false)] []
def L_8 : RS := .set 10 (.lst [(.appk 3 0 [] [(.nm 8), (.nm 7), (.nm 3)]), (.appk 4 0 [] [(.nm 7), (.nm 8), (.nm 3)]), (.appk 5 0 [] [(.nm 8), (.nm 7), (.nm 3)])])
def L_9 : RS := .ife (.nt (.val (.app 13 [(.nm 10), (.lst [(.ixn 9 (.int 0)), (.app 19 [(.nm 3), (.tup []), (.ixn 9 (.int 1))]), (.ixn 9 (.int 2))])]))) [.ret (.bl false)] []
def L_10 : RS := .set 11 (.lst [(.nm 7), (.nm 8), (.ixn 9 (.int 0)), (.ixn 9 (.int 2)), (.tup []), (.nm 7)])
def L_11 : RS := .set 5 (.lc (.one 12) [12] (.seq (.nm 11)) none (.ife (.cmp .Gt (.lenn 12) (.int 0)) (.bin .Sub (.lenn 12) (.int 1)) .non))
def L_12 : RS := .ife (.nt (.val (.app 13 [(.bin .Add (.lc (.one 12) [12] (.seq (.sln 11 none (some (.int 5)))) none (.app 2 [(.nm 12)])) (.lst [(.appk 2 0 [] [(.nm 7)])])), (.nm 5)]))) [.ret (.bl false)] []
def L_13 : RS := .set 13 (.appio 12 1 [(.lst [(.int 0), (.int 1), (.neg (.int 1)), (.nm 3), (.neg (.nm 3)), (.bin .Add (.nm 3) (.int 1)), (.bin .Sub (.nm 3) (.int 1)), (.appio 11 1 [(.bin .Pow (.int 10) (.int 9))]), (.bin .Sub (.int 0) (.appio 11 1 [(.bin .Pow (.int 10) (.int 9))]))])])
def L_14 : RS := .set 14 (.appio 12 1 [(.lst [(.int 0), (.int 1), (.int 2), (.int 5), (.int 30)])])
def L_15 : RS := .set 15 (.ife (.cmp .Gt (.lenn 7) (.int 0)) (.bin .Add (.blt .tuple [(.bin .Mult (.lst [(.int 0)]) (.nm 14))]) (.nm 7)) (.tup []))
def L_16 : RS := .set 5 (.lst [(.app 17 [(.lc (.one 16) [16] (.seq (.nm 7)) none (.bin .Mod (.blt .int [(.bin .Mult (.nm 13) (.nm 16))]) (.nm 3)))]), (.nm 15)])
def L_17 : RS := .ife (.nt (.val (.app 13 [(.lst [(.app 6 [(.nm 3), (.nm 7), (.nm 13)]), (.app 7 [(.nm 7), (.nm 14)])]), (.nm 5)]))) [.ret (.bl false)] []
def L_18 : RS := .ife (.nt (.val (.app 13 [(.lst [(.appk 6 0 [] [(.nm 13), (.nm 7), (.nm 3)]), (.appk 7 0 [] [(.nm 14), (.nm 7)])]), (.nm 5)]))) [.ret (.bl false)] []
def L_19 : RS := .set 12 (.app 8 [(.nm 3), (.nm 7)])
def L_20 : RS := .ife (.bop .Or (.nt (.val (.app 22 [(.nm 3), (.nm 12)]))) (.bop .Or (.cmp .NotEq (.lenn 12) (.lenn 7)) (.bop .And (.cmp .Gt (.lenn 12) (.int 0)) (.cmp .NotEq (.ixn 12 (.neg (.int 1))) (.int 1))))) [.ret (.bl false)] []
def L_21 : RS := .ife (.nt (.val (.app 13 [(.appk 8 0 [] [(.nm 12), (.nm 3)]), (.nm 12)]))) [.ret (.bl false)] []
def L_22 : RS := .ife (.bop .And (.cmp .Gt (.lenn 7) (.int 0)) (.nt (.val (.app 13 [(.app 20 [(.nm 3), (.nm 12), (.tup [(.ixn 7 (.neg (.int 1)))])]), (.nm 7)])))) [.ret (.bl false)] []
def L_23 : RS := .set 17 (.appio 11 1 [(.nm 3)])
def L_24 : RS := .ife (.nt (.val (.app 13 [(.appk 9 0 [] [(.nm 17), (.nm 7), (.nm 3)]), (.app 21 [(.nm 3), (.nm 7), (.nm 17)])]))) [.ret (.bl false)] []
def L_25 : RS := .ife (.nt (.val (.app 13 [(.app 3 [(.nm 3), (.ixn 9 (.int 2)), (.app 6 [(.nm 3), (.app 5 [(.nm 3), (.nm 8), (.nm 7)]), (.neg (.int 1))])]), (.tup [])]))) [.ret (.bl false)] []
end K02
set_option Elab.async false
set_option linter.all false
set_option maxRecDepth 100000
set_option maxHeartbeats 4000000
namespace K02
open PySem PySem.Spec PyProof.Rows L2 Fz W1
/-! ### the law, statement by statement -/
def Plain (s : Sl) : Prop := s = .no ∨ ∃ d, s = .val d
section
variable {fs : List (Str × Fn)} {N : List Str} {n : Nat} {sc : D} {B B1 B2 B3 : List D} {a2 a3 a4 a5 a6 a7 a8 a9 a10 a11 a12 a13 a14 a15 a16 a17 : Sl} {p : Int} {F G A S M S2 : D} {f g : List Int}
theorem t0 (h : bAt fs 16 B [] = some (false, .int p, B1)) : evS ⟨N, fs, WW⟩ (n + 20) L_0 ⟨[.val sc, .own B, a2, a3, a4, a5, a6, a7, a8, a9, a10, a11, a12, a13, a14, a15, a16, a17], []⟩ = some (.nx ⟨[.val sc, .own B1, a2, .val (.int p), a4, a5, a6, a7, a8, a9, a10, a11, a12, a13, a14, a15, a16, a17], []⟩) := by
  unfold L_0
  simp (config := {implicitDefEqProofs := false}) (disch := omega) [h, q_int, q_bl, q_non, q_nm, q_bin, q_neg, q_negI, q_not, q_bop, q_ife, q_cmp, q_ix, q_ixn, q_sl, q_sln, q_blt, q_lenn, q_isi, q_lst, q_tup, q_lc, q_push, q_pop, q_evc, q_to0, q_to1, q_o0, q_o1, q_intD, q_a0, q_a1, q_tnt, q_tbop, q_tcmp, q_tval, q_tnm, q_iseq, q_irng, q_ienu, q_izip, q_irev, q_sset, q_stgt, q_spar, q_sput, q_sret, q_sretn, q_sife, q_swhl, q_sfor, q_sex, q_spass, q_sbrk, q_scnt, q_ss0, q_ss1, q_gonx, q_gort, q_gobk, q_goct, q_add, q_addl, q_addt, q_sub, q_mul, q_mull, q_mult, q_div, q_mod, q_pow, q_eq, q_ne, q_lt, q_le, q_gt, q_ge, q_is1, q_is2, q_is3, q_is4, q_is5, q_tr0, q_trb, q_tri, q_trl, q_trt, q_ixl, q_ixt, q_sll, q_slt, q_sls, q_lenl, q_lent, q_inti, q_absi, q_lisl, q_list, q_tupl, q_tupt, q_all, q_max, q_min, q_itl, q_itt, q_seql, q_seqt, q_rng1, q_rng2, q_enu1, q_enu2, q_end1, q_end2, q_own, q_val, q_st1, q_stt, q_sta0, q_sta1, q_re1, q_re0, q_appA, q_appioA, q_appkA, ↓bind_o, obind_some, List.getElem?_cons_zero, List.getElem?_cons_succ, List.set_cons_zero, List.set_cons_succ, lockS, slotL, Fz.atS, putL, runD, en0, vals, setS, opStop, wipeE, wipeS, restE, restS, plainS, szB_of, posB_of, b62_of, mulB_of, divB_of, powB_of, repB_one, timB_one, flat_one, I_rep, atI_0, atI_1, atI_2, atI_3, atI_4, ixN_of, cut_from, cut_to, eqv_int, eqv_none, shp_int, shp_bool, shp_none, zip_I]
theorem t1 {C : D} (h : bAt fs 24 B [.int p] = some (false, .tuple [C, F], B1)) : evS ⟨N, fs, WW⟩ (n + 20) L_1 ⟨[.val sc, .own B, a2, .val (.int p), a4, a5, a6, a7, a8, a9, a10, a11, a12, a13, a14, a15, a16, a17], []⟩ = some (.nx ⟨[.val sc, .own B1, a2, .val (.int p), .val C, .val F, a6, a7, a8, a9, a10, a11, a12, a13, a14, a15, a16, a17], []⟩) := by
  unfold L_1
  simp (config := {implicitDefEqProofs := false}) (disch := omega) [h, q_int, q_bl, q_non, q_nm, q_bin, q_neg, q_negI, q_not, q_bop, q_ife, q_cmp, q_ix, q_ixn, q_sl, q_sln, q_blt, q_lenn, q_isi, q_lst, q_tup, q_lc, q_push, q_pop, q_evc, q_to0, q_to1, q_o0, q_o1, q_intD, q_a0, q_a1, q_tnt, q_tbop, q_tcmp, q_tval, q_tnm, q_iseq, q_irng, q_ienu, q_izip, q_irev, q_sset, q_stgt, q_spar, q_sput, q_sret, q_sretn, q_sife, q_swhl, q_sfor, q_sex, q_spass, q_sbrk, q_scnt, q_ss0, q_ss1, q_gonx, q_gort, q_gobk, q_goct, q_add, q_addl, q_addt, q_sub, q_mul, q_mull, q_mult, q_div, q_mod, q_pow, q_eq, q_ne, q_lt, q_le, q_gt, q_ge, q_is1, q_is2, q_is3, q_is4, q_is5, q_tr0, q_trb, q_tri, q_trl, q_trt, q_ixl, q_ixt, q_sll, q_slt, q_sls, q_lenl, q_lent, q_inti, q_absi, q_lisl, q_list, q_tupl, q_tupt, q_all, q_max, q_min, q_itl, q_itt, q_seql, q_seqt, q_rng1, q_rng2, q_enu1, q_enu2, q_end1, q_end2, q_own, q_val, q_st1, q_stt, q_sta0, q_sta1, q_re1, q_re0, q_appA, q_appioA, q_appkA, ↓bind_o, obind_some, List.getElem?_cons_zero, List.getElem?_cons_succ, List.set_cons_zero, List.set_cons_succ, lockS, slotL, Fz.atS, putL, runD, en0, vals, setS, opStop, wipeE, wipeS, restE, restS, plainS, szB_of, posB_of, b62_of, mulB_of, divB_of, powB_of, repB_one, timB_one, flat_one, I_rep, atI_0, atI_1, atI_2, atI_3, atI_4, ixN_of, cut_from, cut_to, eqv_int, eqv_none, shp_int, shp_bool, shp_none, zip_I]
theorem t2 {cs : List Int} (hl : cs.length ≤ 1000) : evS ⟨N, fs, WW⟩ (n + 20) L_2 ⟨[.val sc, .own B, a2, a3, .val (.list (I cs)), a5, a6, a7, a8, a9, a10, a11, a12, a13, a14, a15, a16, a17], []⟩ = some (.nx ⟨[.val sc, .own B, a2, a3, .val (.list (I cs)), a5, .own (I cs), a7, a8, a9, a10, a11, a12, a13, a14, a15, a16, a17], []⟩) := by
  unfold L_2
  simp (config := {implicitDefEqProofs := false}) (disch := omega) [q_int, q_bl, q_non, q_nm, q_bin, q_neg, q_negI, q_not, q_bop, q_ife, q_cmp, q_ix, q_ixn, q_sl, q_sln, q_blt, q_lenn, q_isi, q_lst, q_tup, q_lc, q_push, q_pop, q_evc, q_to0, q_to1, q_o0, q_o1, q_intD, q_a0, q_a1, q_tnt, q_tbop, q_tcmp, q_tval, q_tnm, q_iseq, q_irng, q_ienu, q_izip, q_irev, q_sset, q_stgt, q_spar, q_sput, q_sret, q_sretn, q_sife, q_swhl, q_sfor, q_sex, q_spass, q_sbrk, q_scnt, q_ss0, q_ss1, q_gonx, q_gort, q_gobk, q_goct, q_add, q_addl, q_addt, q_sub, q_mul, q_mull, q_mult, q_div, q_mod, q_pow, q_eq, q_ne, q_lt, q_le, q_gt, q_ge, q_is1, q_is2, q_is3, q_is4, q_is5, q_tr0, q_trb, q_tri, q_trl, q_trt, q_ixl, q_ixt, q_sll, q_slt, q_sls, q_lenl, q_lent, q_inti, q_absi, q_lisl, q_list, q_tupl, q_tupt, q_all, q_max, q_min, q_itl, q_itt, q_seql, q_seqt, q_rng1, q_rng2, q_enu1, q_enu2, q_end1, q_end2, q_own, q_val, q_st1, q_stt, q_sta0, q_sta1, q_re1, q_re0, q_appA, q_appioA, q_appkA, ↓bind_o, obind_some, List.getElem?_cons_zero, List.getElem?_cons_succ, List.set_cons_zero, List.set_cons_succ, lockS, slotL, Fz.atS, putL, runD, en0, vals, setS, opStop, wipeE, wipeS, restE, restS, plainS, szB_of, posB_of, b62_of, mulB_of, divB_of, powB_of, repB_one, timB_one, flat_one, I_rep, atI_0, atI_1, atI_2, atI_3, atI_4, ixN_of, cut_from, cut_to, eqv_int, eqv_none, shp_int, shp_bool, shp_none, zip_I]
theorem t3 {cs : List Int} (hl : cs.length ≤ 1000) (h1 : cAt fs 1 [.int p, .list (I cs)] = some (false, F)) (h2 : kAt fs 1 0 0 [] [.int p, .tuple (I cs)] = some (false, F)) (hs : cAt fs 13 [F, F] = some (false, .bool true)) :
    evS ⟨N, fs, WW⟩ (n + 20) L_3 ⟨[.val sc, .own B, a2, .val (.int p), .val (.list (I cs)), .val F, .own (I cs), a7, a8, a9, a10, a11, a12, a13, a14, a15, a16, a17], []⟩ = some (.nx ⟨[.val sc, .own B, a2, .val (.int p), .val (.list (I cs)), .val F, .val (.list (I cs)), a7, a8, a9, a10, a11, a12, a13, a14, a15, a16, a17], []⟩) := by
  unfold L_3
  have e1 := shp_list cs
  have e2 := eqv_lst cs cs
  rw [beq_self_eq_true] at e2
  simp (config := {implicitDefEqProofs := false}) (disch := omega) [h1, h2, hs, e1, e2, q_int, q_bl, q_non, q_nm, q_bin, q_neg, q_negI, q_not, q_bop, q_ife, q_cmp, q_ix, q_ixn, q_sl, q_sln, q_blt, q_lenn, q_isi, q_lst, q_tup, q_lc, q_push, q_pop, q_evc, q_to0, q_to1, q_o0, q_o1, q_intD, q_a0, q_a1, q_tnt, q_tbop, q_tcmp, q_tval, q_tnm, q_iseq, q_irng, q_ienu, q_izip, q_irev, q_sset, q_stgt, q_spar, q_sput, q_sret, q_sretn, q_sife, q_swhl, q_sfor, q_sex, q_spass, q_sbrk, q_scnt, q_ss0, q_ss1, q_gonx, q_gort, q_gobk, q_goct, q_add, q_addl, q_addt, q_sub, q_mul, q_mull, q_mult, q_div, q_mod, q_pow, q_eq, q_ne, q_lt, q_le, q_gt, q_ge, q_is1, q_is2, q_is3, q_is4, q_is5, q_tr0, q_trb, q_tri, q_trl, q_trt, q_ixl, q_ixt, q_sll, q_slt, q_sls, q_lenl, q_lent, q_inti, q_absi, q_lisl, q_list, q_tupl, q_tupt, q_all, q_max, q_min, q_itl, q_itt, q_seql, q_seqt, q_rng1, q_rng2, q_enu1, q_enu2, q_end1, q_end2, q_own, q_val, q_st1, q_stt, q_sta0, q_sta1, q_re1, q_re0, q_appA, q_appioA, q_appkA, ↓bind_o, obind_some, List.getElem?_cons_zero, List.getElem?_cons_succ, List.set_cons_zero, List.set_cons_succ, lockS, slotL, Fz.atS, putL, runD, en0, vals, setS, opStop, wipeE, wipeS, restE, restS, plainS, szB_of, posB_of, b62_of, mulB_of, divB_of, powB_of, repB_one, timB_one, flat_one, I_rep, atI_0, atI_1, atI_2, atI_3, atI_4, ixN_of, cut_from, cut_to, eqv_int, eqv_none, shp_int, shp_bool, shp_none, zip_I]
theorem t4 (h : bAt fs 25 B [.int p] = some (false, .tuple [F, G], B1)) : evS ⟨N, fs, WW⟩ (n + 20) L_4 ⟨[.val sc, .own B, a2, .val (.int p), a4, a5, a6, a7, a8, a9, a10, a11, a12, a13, a14, a15, a16, a17], []⟩ = some (.nx ⟨[.val sc, .own B1, a2, .val (.int p), a4, a5, a6, .val F, .val G, a9, a10, a11, a12, a13, a14, a15, a16, a17], []⟩) := by
  unfold L_4
  simp (config := {implicitDefEqProofs := false}) (disch := omega) [h, q_int, q_bl, q_non, q_nm, q_bin, q_neg, q_negI, q_not, q_bop, q_ife, q_cmp, q_ix, q_ixn, q_sl, q_sln, q_blt, q_lenn, q_isi, q_lst, q_tup, q_lc, q_push, q_pop, q_evc, q_to0, q_to1, q_o0, q_o1, q_intD, q_a0, q_a1, q_tnt, q_tbop, q_tcmp, q_tval, q_tnm, q_iseq, q_irng, q_ienu, q_izip, q_irev, q_sset, q_stgt, q_spar, q_sput, q_sret, q_sretn, q_sife, q_swhl, q_sfor, q_sex, q_spass, q_sbrk, q_scnt, q_ss0, q_ss1, q_gonx, q_gort, q_gobk, q_goct, q_add, q_addl, q_addt, q_sub, q_mul, q_mull, q_mult, q_div, q_mod, q_pow, q_eq, q_ne, q_lt, q_le, q_gt, q_ge, q_is1, q_is2, q_is3, q_is4, q_is5, q_tr0, q_trb, q_tri, q_trl, q_trt, q_ixl, q_ixt, q_sll, q_slt, q_sls, q_lenl, q_lent, q_inti, q_absi, q_lisl, q_list, q_tupl, q_tupt, q_all, q_max, q_min, q_itl, q_itt, q_seql, q_seqt, q_rng1, q_rng2, q_enu1, q_enu2, q_end1, q_end2, q_own, q_val, q_st1, q_stt, q_sta0, q_sta1, q_re1, q_re0, q_appA, q_appioA, q_appkA, ↓bind_o, obind_some, List.getElem?_cons_zero, List.getElem?_cons_succ, List.set_cons_zero, List.set_cons_succ, lockS, slotL, Fz.atS, putL, runD, en0, vals, setS, opStop, wipeE, wipeS, restE, restS, plainS, szB_of, posB_of, b62_of, mulB_of, divB_of, powB_of, repB_one, timB_one, flat_one, I_rep, atI_0, atI_1, atI_2, atI_3, atI_4, ixN_of, cut_from, cut_to, eqv_int, eqv_none, shp_int, shp_bool, shp_none, zip_I]
theorem t5 (h3 : cAt fs 3 [.int p, F, G] = some (false, A)) (h4 : cAt fs 4 [.int p, F, G] = some (false, S)) (h5 : cAt fs 5 [.int p, F, G] = some (false, M)) : evS ⟨N, fs, WW⟩ (n + 20) L_5 ⟨[.val sc, .own B, a2, .val (.int p), a4, a5, a6, .val F, .val G, a9, a10, a11, a12, a13, a14, a15, a16, a17], []⟩ = some (.nx ⟨[.val sc, .own B, a2, .val (.int p), a4, a5, a6, .val F, .val G, .own [A, S, M], a10, a11, a12, a13, a14, a15, a16, a17], []⟩) := by
  unfold L_5
  simp (config := {implicitDefEqProofs := false}) (disch := omega) [h3, h4, h5, q_int, q_bl, q_non, q_nm, q_bin, q_neg, q_negI, q_not, q_bop, q_ife, q_cmp, q_ix, q_ixn, q_sl, q_sln, q_blt, q_lenn, q_isi, q_lst, q_tup, q_lc, q_push, q_pop, q_evc, q_to0, q_to1, q_o0, q_o1, q_intD, q_a0, q_a1, q_tnt, q_tbop, q_tcmp, q_tval, q_tnm, q_iseq, q_irng, q_ienu, q_izip, q_irev, q_sset, q_stgt, q_spar, q_sput, q_sret, q_sretn, q_sife, q_swhl, q_sfor, q_sex, q_spass, q_sbrk, q_scnt, q_ss0, q_ss1, q_gonx, q_gort, q_gobk, q_goct, q_add, q_addl, q_addt, q_sub, q_mul, q_mull, q_mult, q_div, q_mod, q_pow, q_eq, q_ne, q_lt, q_le, q_gt, q_ge, q_is1, q_is2, q_is3, q_is4, q_is5, q_tr0, q_trb, q_tri, q_trl, q_trt, q_ixl, q_ixt, q_sll, q_slt, q_sls, q_lenl, q_lent, q_inti, q_absi, q_lisl, q_list, q_tupl, q_tupt, q_all, q_max, q_min, q_itl, q_itt, q_seql, q_seqt, q_rng1, q_rng2, q_enu1, q_enu2, q_end1, q_end2, q_own, q_val, q_st1, q_stt, q_sta0, q_sta1, q_re1, q_re0, q_appA, q_appioA, q_appkA, ↓bind_o, obind_some, List.getElem?_cons_zero, List.getElem?_cons_succ, List.set_cons_zero, List.set_cons_succ, lockS, slotL, Fz.atS, putL, runD, en0, vals, setS, opStop, wipeE, wipeS, restE, restS, plainS, szB_of, posB_of, b62_of, mulB_of, divB_of, powB_of, repB_one, timB_one, flat_one, I_rep, atI_0, atI_1, atI_2, atI_3, atI_4, ixN_of, cut_from, cut_to, eqv_int, eqv_none, shp_int, shp_bool, shp_none, zip_I]
theorem t6 (h3 : cAt fs 18 [.int p, F, G] = some (false, A)) (h4 : cAt fs 19 [.int p, F, G] = some (false, S)) (h5 : cAt fs 20 [.int p, F, G] = some (false, M)) (hs : cAt fs 13 [.list [A, S, M], .list [A, S, M]] = some (false, .bool true)) : evS ⟨N, fs, WW⟩ (n + 20) L_6 ⟨[.val sc, .own B, a2, .val (.int p), a4, a5, a6, .val F, .val G, .own [A, S, M], a10, a11, a12, a13, a14, a15, a16, a17], []⟩ = some (.nx ⟨[.val sc, .own B, a2, .val (.int p), a4, a5, a6, .val F, .val G, .val (.list [A, S, M]), a10, a11, a12, a13, a14, a15, a16, a17], []⟩) := by
  unfold L_6
  simp (config := {implicitDefEqProofs := false}) (disch := omega) [h3, h4, h5, hs, q_int, q_bl, q_non, q_nm, q_bin, q_neg, q_negI, q_not, q_bop, q_ife, q_cmp, q_ix, q_ixn, q_sl, q_sln, q_blt, q_lenn, q_isi, q_lst, q_tup, q_lc, q_push, q_pop, q_evc, q_to0, q_to1, q_o0, q_o1, q_intD, q_a0, q_a1, q_tnt, q_tbop, q_tcmp, q_tval, q_tnm, q_iseq, q_irng, q_ienu, q_izip, q_irev, q_sset, q_stgt, q_spar, q_sput, q_sret, q_sretn, q_sife, q_swhl, q_sfor, q_sex, q_spass, q_sbrk, q_scnt, q_ss0, q_ss1, q_gonx, q_gort, q_gobk, q_goct, q_add, q_addl, q_addt, q_sub, q_mul, q_mull, q_mult, q_div, q_mod, q_pow, q_eq, q_ne, q_lt, q_le, q_gt, q_ge, q_is1, q_is2, q_is3, q_is4, q_is5, q_tr0, q_trb, q_tri, q_trl, q_trt, q_ixl, q_ixt, q_sll, q_slt, q_sls, q_lenl, q_lent, q_inti, q_absi, q_lisl, q_list, q_tupl, q_tupt, q_all, q_max, q_min, q_itl, q_itt, q_seql, q_seqt, q_rng1, q_rng2, q_enu1, q_enu2, q_end1, q_end2, q_own, q_val, q_st1, q_stt, q_sta0, q_sta1, q_re1, q_re0, q_appA, q_appioA, q_appkA, ↓bind_o, obind_some, List.getElem?_cons_zero, List.getElem?_cons_succ, List.set_cons_zero, List.set_cons_succ, lockS, slotL, Fz.atS, putL, runD, en0, vals, setS, opStop, wipeE, wipeS, restE, restS, plainS, szB_of, posB_of, b62_of, mulB_of, divB_of, powB_of, repB_one, timB_one, flat_one, I_rep, atI_0, atI_1, atI_2, atI_3, atI_4, ixN_of, cut_from, cut_to, eqv_int, eqv_none, shp_int, shp_bool, shp_none, zip_I]
theorem t7 (h : cAt fs 26 [.int p, F, G, .list [A, S, M]] = some (false, .bool true)) : evS ⟨N, fs, WW⟩ (n + 20) L_7 ⟨[.val sc, .own B, a2, .val (.int p), a4, a5, a6, .val F, .val G, .val (.list [A, S, M]), a10, a11, a12, a13, a14, a15, a16, a17], []⟩ = some (.nx ⟨[.val sc, .own B, a2, .val (.int p), a4, a5, a6, .val F, .val G, .val (.list [A, S, M]), a10, a11, a12, a13, a14, a15, a16, a17], []⟩) := by
  unfold L_7
  simp (config := {implicitDefEqProofs := false}) (disch := omega) [h, q_int, q_bl, q_non, q_nm, q_bin, q_neg, q_negI, q_not, q_bop, q_ife, q_cmp, q_ix, q_ixn, q_sl, q_sln, q_blt, q_lenn, q_isi, q_lst, q_tup, q_lc, q_push, q_pop, q_evc, q_to0, q_to1, q_o0, q_o1, q_intD, q_a0, q_a1, q_tnt, q_tbop, q_tcmp, q_tval, q_tnm, q_iseq, q_irng, q_ienu, q_izip, q_irev, q_sset, q_stgt, q_spar, q_sput, q_sret, q_sretn, q_sife, q_swhl, q_sfor, q_sex, q_spass, q_sbrk, q_scnt, q_ss0, q_ss1, q_gonx, q_gort, q_gobk, q_goct, q_add, q_addl, q_addt, q_sub, q_mul, q_mull, q_mult, q_div, q_mod, q_pow, q_eq, q_ne, q_lt, q_le, q_gt, q_ge, q_is1, q_is2, q_is3, q_is4, q_is5, q_tr0, q_trb, q_tri, q_trl, q_trt, q_ixl, q_ixt, q_sll, q_slt, q_sls, q_lenl, q_lent, q_inti, q_absi, q_lisl, q_list, q_tupl, q_tupt, q_all, q_max, q_min, q_itl, q_itt, q_seql, q_seqt, q_rng1, q_rng2, q_enu1, q_enu2, q_end1, q_end2, q_own, q_val, q_st1, q_stt, q_sta0, q_sta1, q_re1, q_re0, q_appA, q_appioA, q_appkA, ↓bind_o, obind_some, List.getElem?_cons_zero, List.getElem?_cons_succ, List.set_cons_zero, List.set_cons_succ, lockS, slotL, Fz.atS, putL, runD, en0, vals, setS, opStop, wipeE, wipeS, restE, restS, plainS, szB_of, posB_of, b62_of, mulB_of, divB_of, powB_of, repB_one, timB_one, flat_one, I_rep, atI_0, atI_1, atI_2, atI_3, atI_4, ixN_of, cut_from, cut_to, eqv_int, eqv_none, shp_int, shp_bool, shp_none, zip_I]
theorem t8 (h3 : kAt fs 3 0 0 [] [G, F, .int p] = some (false, A)) (h4 : kAt fs 4 0 0 [] [F, G, .int p] = some (false, S2)) (h5 : kAt fs 5 0 0 [] [G, F, .int p] = some (false, M)) : evS ⟨N, fs, WW⟩ (n + 20) L_8 ⟨[.val sc, .own B, a2, .val (.int p), a4, a5, a6, .val F, .val G, a9, a10, a11, a12, a13, a14, a15, a16, a17], []⟩ = some (.nx ⟨[.val sc, .own B, a2, .val (.int p), a4, a5, a6, .val F, .val G, a9, .own [A, S2, M], a11, a12, a13, a14, a15, a16, a17], []⟩) := by
  unfold L_8
  simp (config := {implicitDefEqProofs := false}) (disch := omega) [h3, h4, h5, q_int, q_bl, q_non, q_nm, q_bin, q_neg, q_negI, q_not, q_bop, q_ife, q_cmp, q_ix, q_ixn, q_sl, q_sln, q_blt, q_lenn, q_isi, q_lst, q_tup, q_lc, q_push, q_pop, q_evc, q_to0, q_to1, q_o0, q_o1, q_intD, q_a0, q_a1, q_tnt, q_tbop, q_tcmp, q_tval, q_tnm, q_iseq, q_irng, q_ienu, q_izip, q_irev, q_sset, q_stgt, q_spar, q_sput, q_sret, q_sretn, q_sife, q_swhl, q_sfor, q_sex, q_spass, q_sbrk, q_scnt, q_ss0, q_ss1, q_gonx, q_gort, q_gobk, q_goct, q_add, q_addl, q_addt, q_sub, q_mul, q_mull, q_mult, q_div, q_mod, q_pow, q_eq, q_ne, q_lt, q_le, q_gt, q_ge, q_is1, q_is2, q_is3, q_is4, q_is5, q_tr0, q_trb, q_tri, q_trl, q_trt, q_ixl, q_ixt, q_sll, q_slt, q_sls, q_lenl, q_lent, q_inti, q_absi, q_lisl, q_list, q_tupl, q_tupt, q_all, q_max, q_min, q_itl, q_itt, q_seql, q_seqt, q_rng1, q_rng2, q_enu1, q_enu2, q_end1, q_end2, q_own, q_val, q_st1, q_stt, q_sta0, q_sta1, q_re1, q_re0, q_appA, q_appioA, q_appkA, ↓bind_o, obind_some, List.getElem?_cons_zero, List.getElem?_cons_succ, List.set_cons_zero, List.set_cons_succ, lockS, slotL, Fz.atS, putL, runD, en0, vals, setS, opStop, wipeE, wipeS, restE, restS, plainS, szB_of, posB_of, b62_of, mulB_of, divB_of, powB_of, repB_one, timB_one, flat_one, I_rep, atI_0, atI_1, atI_2, atI_3, atI_4, ixN_of, cut_from, cut_to, eqv_int, eqv_none, shp_int, shp_bool, shp_none, zip_I]
theorem t9 (h : cAt fs 19 [.int p, .tuple [], S] = some (false, S2)) (hs : cAt fs 13 [.list [A, S2, M], .list [A, S2, M]] = some (false, .bool true)) : evS ⟨N, fs, WW⟩ (n + 20) L_9 ⟨[.val sc, .own B, a2, .val (.int p), a4, a5, a6, a7, a8, .val (.list [A, S, M]), .own [A, S2, M], a11, a12, a13, a14, a15, a16, a17], []⟩ = some (.nx ⟨[.val sc, .own B, a2, .val (.int p), a4, a5, a6, a7, a8, .val (.list [A, S, M]), .val (.list [A, S2, M]), a11, a12, a13, a14, a15, a16, a17], []⟩) := by
  unfold L_9
  simp (config := {implicitDefEqProofs := false}) (disch := omega) [h, hs, q_int, q_bl, q_non, q_nm, q_bin, q_neg, q_negI, q_not, q_bop, q_ife, q_cmp, q_ix, q_ixn, q_sl, q_sln, q_blt, q_lenn, q_isi, q_lst, q_tup, q_lc, q_push, q_pop, q_evc, q_to0, q_to1, q_o0, q_o1, q_intD, q_a0, q_a1, q_tnt, q_tbop, q_tcmp, q_tval, q_tnm, q_iseq, q_irng, q_ienu, q_izip, q_irev, q_sset, q_stgt, q_spar, q_sput, q_sret, q_sretn, q_sife, q_swhl, q_sfor, q_sex, q_spass, q_sbrk, q_scnt, q_ss0, q_ss1, q_gonx, q_gort, q_gobk, q_goct, q_add, q_addl, q_addt, q_sub, q_mul, q_mull, q_mult, q_div, q_mod, q_pow, q_eq, q_ne, q_lt, q_le, q_gt, q_ge, q_is1, q_is2, q_is3, q_is4, q_is5, q_tr0, q_trb, q_tri, q_trl, q_trt, q_ixl, q_ixt, q_sll, q_slt, q_sls, q_lenl, q_lent, q_inti, q_absi, q_lisl, q_list, q_tupl, q_tupt, q_all, q_max, q_min, q_itl, q_itt, q_seql, q_seqt, q_rng1, q_rng2, q_enu1, q_enu2, q_end1, q_end2, q_own, q_val, q_st1, q_stt, q_sta0, q_sta1, q_re1, q_re0, q_appA, q_appioA, q_appkA, ↓bind_o, obind_some, List.getElem?_cons_zero, List.getElem?_cons_succ, List.set_cons_zero, List.set_cons_succ, lockS, slotL, Fz.atS, putL, runD, en0, vals, setS, opStop, wipeE, wipeS, restE, restS, plainS, szB_of, posB_of, b62_of, mulB_of, divB_of, powB_of, repB_one, timB_one, flat_one, I_rep, atI_0, atI_1, atI_2, atI_3, atI_4, ixN_of, cut_from, cut_to, eqv_int, eqv_none, shp_int, shp_bool, shp_none, zip_I]
theorem t10 : evS ⟨N, fs, WW⟩ (n + 20) L_10 ⟨[.val sc, .own B, a2, a3, a4, a5, a6, .val F, .val G, .val (.list [A, S, M]), a10, a11, a12, a13, a14, a15, a16, a17], []⟩ = some (.nx ⟨[.val sc, .own B, a2, a3, a4, a5, a6, .val F, .val G, .val (.list [A, S, M]), a10, .own [F, G, A, M, .tuple [], F], a12, a13, a14, a15, a16, a17], []⟩) := by
  unfold L_10
  simp (config := {implicitDefEqProofs := false}) (disch := omega) [q_int, q_bl, q_non, q_nm, q_bin, q_neg, q_negI, q_not, q_bop, q_ife, q_cmp, q_ix, q_ixn, q_sl, q_sln, q_blt, q_lenn, q_isi, q_lst, q_tup, q_lc, q_push, q_pop, q_evc, q_to0, q_to1, q_o0, q_o1, q_intD, q_a0, q_a1, q_tnt, q_tbop, q_tcmp, q_tval, q_tnm, q_iseq, q_irng, q_ienu, q_izip, q_irev, q_sset, q_stgt, q_spar, q_sput, q_sret, q_sretn, q_sife, q_swhl, q_sfor, q_sex, q_spass, q_sbrk, q_scnt, q_ss0, q_ss1, q_gonx, q_gort, q_gobk, q_goct, q_add, q_addl, q_addt, q_sub, q_mul, q_mull, q_mult, q_div, q_mod, q_pow, q_eq, q_ne, q_lt, q_le, q_gt, q_ge, q_is1, q_is2, q_is3, q_is4, q_is5, q_tr0, q_trb, q_tri, q_trl, q_trt, q_ixl, q_ixt, q_sll, q_slt, q_sls, q_lenl, q_lent, q_inti, q_absi, q_lisl, q_list, q_tupl, q_tupt, q_all, q_max, q_min, q_itl, q_itt, q_seql, q_seqt, q_rng1, q_rng2, q_enu1, q_enu2, q_end1, q_end2, q_own, q_val, q_st1, q_stt, q_sta0, q_sta1, q_re1, q_re0, q_appA, q_appioA, q_appkA, ↓bind_o, obind_some, List.getElem?_cons_zero, List.getElem?_cons_succ, List.set_cons_zero, List.set_cons_succ, lockS, slotL, Fz.atS, putL, runD, en0, vals, setS, opStop, wipeE, wipeS, restE, restS, plainS, szB_of, posB_of, b62_of, mulB_of, divB_of, powB_of, repB_one, timB_one, flat_one, I_rep, atI_0, atI_1, atI_2, atI_3, atI_4, ixN_of, cut_from, cut_to, eqv_int, eqv_none, shp_int, shp_bool, shp_none, zip_I]
def dg (f : List Int) : D := if f.isEmpty then .none else .int (f.length - 1)
theorem t11 (hp : Plain a12) {xs : List (List Int)} {l : List D} (hl : l = xs.map fun f => .tuple (I f)) (hx : xs.length ≤ 10) : evS ⟨N, fs, WW⟩ (n + 20) L_11 ⟨[.val sc, .own B, a2, a3, a4, a5, a6, a7, a8, a9, a10, .own l, a12, a13, a14, a15, a16, a17], []⟩ = some (.nx ⟨[.val sc, .own B, a2, a3, a4, .own (xs.map dg), a6, a7, a8, a9, a10, .val (.list l), a12, a13, a14, a15, a16, a17], []⟩) := by
  unfold L_11
  have hl2 : l.length ≤ 10 := by rw [hl, List.length_map]; exact hx
  have key : ∀ m, lcL (evC ⟨N, fs, WW⟩ (m + 12) (.one 12) [12] none (.ife (.cmp .Gt (.lenn 12) (.int 0)) (.bin .Sub (.lenn 12) (.int 1)) .non)) l ⟨[.val sc, .own B, a2, a3, a4, a5, a6, a7, a8, a9, a10, .val (.list l), a12, a13, a14, a15, a16, a17], []⟩ = some (xs.map dg, ⟨[.val sc, .own B, a2, a3, a4, a5, a6, a7, a8, a9, a10, .val (.list l), a12, a13, a14, a15, a16, a17], []⟩) := by
    intro m
    conv => lhs; arg 2; rw [hl]
    refine lcL_pure _ _ fun f _ => ?_
    cases f with
    | nil => rcases hp with rfl | ⟨d, rfl⟩ <;> simp (config := {implicitDefEqProofs := false}) (disch := omega) [dg, q_int, q_bl, q_non, q_nm, q_bin, q_neg, q_negI, q_not, q_bop, q_ife, q_cmp, q_ix, q_ixn, q_sl, q_sln, q_blt, q_lenn, q_isi, q_lst, q_tup, q_lc, q_push, q_pop, q_evc, q_to0, q_to1, q_o0, q_o1, q_intD, q_a0, q_a1, q_tnt, q_tbop, q_tcmp, q_tval, q_tnm, q_iseq, q_irng, q_ienu, q_izip, q_irev, q_sset, q_stgt, q_spar, q_sput, q_sret, q_sretn, q_sife, q_swhl, q_sfor, q_sex, q_spass, q_sbrk, q_scnt, q_ss0, q_ss1, q_gonx, q_gort, q_gobk, q_goct, q_add, q_addl, q_addt, q_sub, q_mul, q_mull, q_mult, q_div, q_mod, q_pow, q_eq, q_ne, q_lt, q_le, q_gt, q_ge, q_is1, q_is2, q_is3, q_is4, q_is5, q_tr0, q_trb, q_tri, q_trl, q_trt, q_ixl, q_ixt, q_sll, q_slt, q_sls, q_lenl, q_lent, q_inti, q_absi, q_lisl, q_list, q_tupl, q_tupt, q_all, q_max, q_min, q_itl, q_itt, q_seql, q_seqt, q_rng1, q_rng2, q_enu1, q_enu2, q_end1, q_end2, q_own, q_val, q_st1, q_stt, q_sta0, q_sta1, q_re1, q_re0, q_appA, q_appioA, q_appkA, ↓bind_o, obind_some, List.getElem?_cons_zero, List.getElem?_cons_succ, List.set_cons_zero, List.set_cons_succ, lockS, slotL, Fz.atS, putL, runD, en0, vals, setS, opStop, wipeE, wipeS, restE, restS, plainS, szB_of, posB_of, b62_of, mulB_of, divB_of, powB_of, repB_one, timB_one, flat_one, I_rep, atI_0, atI_1, atI_2, atI_3, atI_4, ixN_of, cut_from, cut_to, eqv_int, eqv_none, shp_int, shp_bool, shp_none, zip_I]
    | cons x f =>
      have e1 : (0 : Int) < (f.length : Int) + 1 := by omega
      rcases hp with rfl | ⟨d, rfl⟩ <;> simp (config := {implicitDefEqProofs := false}) (disch := omega) [dg, e1, q_int, q_bl, q_non, q_nm, q_bin, q_neg, q_negI, q_not, q_bop, q_ife, q_cmp, q_ix, q_ixn, q_sl, q_sln, q_blt, q_lenn, q_isi, q_lst, q_tup, q_lc, q_push, q_pop, q_evc, q_to0, q_to1, q_o0, q_o1, q_intD, q_a0, q_a1, q_tnt, q_tbop, q_tcmp, q_tval, q_tnm, q_iseq, q_irng, q_ienu, q_izip, q_irev, q_sset, q_stgt, q_spar, q_sput, q_sret, q_sretn, q_sife, q_swhl, q_sfor, q_sex, q_spass, q_sbrk, q_scnt, q_ss0, q_ss1, q_gonx, q_gort, q_gobk, q_goct, q_add, q_addl, q_addt, q_sub, q_mul, q_mull, q_mult, q_div, q_mod, q_pow, q_eq, q_ne, q_lt, q_le, q_gt, q_ge, q_is1, q_is2, q_is3, q_is4, q_is5, q_tr0, q_trb, q_tri, q_trl, q_trt, q_ixl, q_ixt, q_sll, q_slt, q_sls, q_lenl, q_lent, q_inti, q_absi, q_lisl, q_list, q_tupl, q_tupt, q_all, q_max, q_min, q_itl, q_itt, q_seql, q_seqt, q_rng1, q_rng2, q_enu1, q_enu2, q_end1, q_end2, q_own, q_val, q_st1, q_stt, q_sta0, q_sta1, q_re1, q_re0, q_appA, q_appioA, q_appkA, ↓bind_o, obind_some, List.getElem?_cons_zero, List.getElem?_cons_succ, List.set_cons_zero, List.set_cons_succ, lockS, slotL, Fz.atS, putL, runD, en0, vals, setS, opStop, wipeE, wipeS, restE, restS, plainS, szB_of, posB_of, b62_of, mulB_of, divB_of, powB_of, repB_one, timB_one, flat_one, I_rep, atI_0, atI_1, atI_2, atI_3, atI_4, ixN_of, cut_from, cut_to, eqv_int, eqv_none, shp_int, shp_bool, shp_none, zip_I]
  simp (config := {implicitDefEqProofs := false}) (disch := omega) [key, q_int, q_bl, q_non, q_nm, q_bin, q_neg, q_negI, q_not, q_bop, q_ife, q_cmp, q_ix, q_ixn, q_sl, q_sln, q_blt, q_lenn, q_isi, q_lst, q_tup, q_lc, q_push, q_pop, q_evc, q_to0, q_to1, q_o0, q_o1, q_intD, q_a0, q_a1, q_tnt, q_tbop, q_tcmp, q_tval, q_tnm, q_iseq, q_irng, q_ienu, q_izip, q_irev, q_sset, q_stgt, q_spar, q_sput, q_sret, q_sretn, q_sife, q_swhl, q_sfor, q_sex, q_spass, q_sbrk, q_scnt, q_ss0, q_ss1, q_gonx, q_gort, q_gobk, q_goct, q_add, q_addl, q_addt, q_sub, q_mul, q_mull, q_mult, q_div, q_mod, q_pow, q_eq, q_ne, q_lt, q_le, q_gt, q_ge, q_is1, q_is2, q_is3, q_is4, q_is5, q_tr0, q_trb, q_tri, q_trl, q_trt, q_ixl, q_ixt, q_sll, q_slt, q_sls, q_lenl, q_lent, q_inti, q_absi, q_lisl, q_list, q_tupl, q_tupt, q_all, q_max, q_min, q_itl, q_itt, q_seql, q_seqt, q_rng1, q_rng2, q_enu1, q_enu2, q_end1, q_end2, q_own, q_val, q_st1, q_stt, q_sta0, q_sta1, q_re1, q_re0, q_appA, q_appioA, q_appkA, ↓bind_o, obind_some, List.getElem?_cons_zero, List.getElem?_cons_succ, List.set_cons_zero, List.set_cons_succ, lockS, slotL, Fz.atS, putL, runD, en0, vals, setS, opStop, wipeE, wipeS, restE, restS, plainS, szB_of, posB_of, b62_of, mulB_of, divB_of, powB_of, repB_one, timB_one, flat_one, I_rep, atI_0, atI_1, atI_2, atI_3, atI_4, ixN_of, cut_from, cut_to, eqv_int, eqv_none, shp_int, shp_bool, shp_none, zip_I]
theorem t12 (hp : Plain a12) {f1 f2 f3 f4 f5 f6 : List Int} (h : ∀ f : List Int, cAt fs 2 [.tuple (I f)] = some (false, dg f)) (hk : kAt fs 2 0 0 [] [.tuple (I f6)] = some (false, dg f6)) {l6 : List D} (hs : cAt fs 13 [.list [dg f1, dg f2, dg f3, dg f4, dg f5, dg f6], .list l6] = some (false, .bool true)) :
    evS ⟨N, fs, WW⟩ (n + 20) L_12 ⟨[.val sc, .own B, a2, a3, a4, .own l6, a6, .val (.tuple (I f6)), a8, a9, a10, .val (.list [.tuple (I f1), .tuple (I f2), .tuple (I f3), .tuple (I f4), .tuple (I f5), .tuple (I f6)]), a12, a13, a14, a15, a16, a17], []⟩ = some (.nx ⟨[.val sc, .own B, a2, a3, a4, .val (.list l6), a6, .val (.tuple (I f6)), a8, a9, a10, .val (.list [.tuple (I f1), .tuple (I f2), .tuple (I f3), .tuple (I f4), .tuple (I f5), .tuple (I f6)]), a12, a13, a14, a15, a16, a17], []⟩) := by
  unfold L_12
  have key : ∀ m, lcL (evC ⟨N, fs, WW⟩ (m + 12) (.one 12) [12] none (.app 2 [(.nm 12)])) [.tuple (I f1), .tuple (I f2), .tuple (I f3), .tuple (I f4), .tuple (I f5)] ⟨[.val sc, .own B, a2, a3, a4, .own l6, a6, .val (.tuple (I f6)), a8, a9, a10, .val (.list [.tuple (I f1), .tuple (I f2), .tuple (I f3), .tuple (I f4), .tuple (I f5), .tuple (I f6)]), a12, a13, a14, a15, a16, a17], []⟩ = some ([dg f1, dg f2, dg f3, dg f4, dg f5], ⟨[.val sc, .own B, a2, a3, a4, .own l6, a6, .val (.tuple (I f6)), a8, a9, a10, .val (.list [.tuple (I f1), .tuple (I f2), .tuple (I f3), .tuple (I f4), .tuple (I f5), .tuple (I f6)]), a12, a13, a14, a15, a16, a17], []⟩) := by
    intro m
    refine lcL_pure (xs := [f1, f2, f3, f4, f5]) (fun f => .tuple (I f)) dg fun f _ => ?_
    have hf := h f
    rcases hp with rfl | ⟨d, rfl⟩ <;> simp (config := {implicitDefEqProofs := false}) (disch := omega) [hf, q_int, q_bl, q_non, q_nm, q_bin, q_neg, q_negI, q_not, q_bop, q_ife, q_cmp, q_ix, q_ixn, q_sl, q_sln, q_blt, q_lenn, q_isi, q_lst, q_tup, q_lc, q_push, q_pop, q_evc, q_to0, q_to1, q_o0, q_o1, q_intD, q_a0, q_a1, q_tnt, q_tbop, q_tcmp, q_tval, q_tnm, q_iseq, q_irng, q_ienu, q_izip, q_irev, q_sset, q_stgt, q_spar, q_sput, q_sret, q_sretn, q_sife, q_swhl, q_sfor, q_sex, q_spass, q_sbrk, q_scnt, q_ss0, q_ss1, q_gonx, q_gort, q_gobk, q_goct, q_add, q_addl, q_addt, q_sub, q_mul, q_mull, q_mult, q_div, q_mod, q_pow, q_eq, q_ne, q_lt, q_le, q_gt, q_ge, q_is1, q_is2, q_is3, q_is4, q_is5, q_tr0, q_trb, q_tri, q_trl, q_trt, q_ixl, q_ixt, q_sll, q_slt, q_sls, q_lenl, q_lent, q_inti, q_absi, q_lisl, q_list, q_tupl, q_tupt, q_all, q_max, q_min, q_itl, q_itt, q_seql, q_seqt, q_rng1, q_rng2, q_enu1, q_enu2, q_end1, q_end2, q_own, q_val, q_st1, q_stt, q_sta0, q_sta1, q_re1, q_re0, q_appA, q_appioA, q_appkA, ↓bind_o, obind_some, List.getElem?_cons_zero, List.getElem?_cons_succ, List.set_cons_zero, List.set_cons_succ, lockS, slotL, Fz.atS, putL, runD, en0, vals, setS, opStop, wipeE, wipeS, restE, restS, plainS, szB_of, posB_of, b62_of, mulB_of, divB_of, powB_of, repB_one, timB_one, flat_one, I_rep, atI_0, atI_1, atI_2, atI_3, atI_4, ixN_of, cut_from, cut_to, eqv_int, eqv_none, shp_int, shp_bool, shp_none, zip_I]
  have hc : Fz.cutD [PyData.tuple (I f1), .tuple (I f2), .tuple (I f3), .tuple (I f4), .tuple (I f5), .tuple (I f6)] none (some 5) = [.tuple (I f1), .tuple (I f2), .tuple (I f3), .tuple (I f4), .tuple (I f5)] := rfl
  simp (config := {implicitDefEqProofs := false}) (disch := omega) [key, hc, hk, hs, q_int, q_bl, q_non, q_nm, q_bin, q_neg, q_negI, q_not, q_bop, q_ife, q_cmp, q_ix, q_ixn, q_sl, q_sln, q_blt, q_lenn, q_isi, q_lst, q_tup, q_lc, q_push, q_pop, q_evc, q_to0, q_to1, q_o0, q_o1, q_intD, q_a0, q_a1, q_tnt, q_tbop, q_tcmp, q_tval, q_tnm, q_iseq, q_irng, q_ienu, q_izip, q_irev, q_sset, q_stgt, q_spar, q_sput, q_sret, q_sretn, q_sife, q_swhl, q_sfor, q_sex, q_spass, q_sbrk, q_scnt, q_ss0, q_ss1, q_gonx, q_gort, q_gobk, q_goct, q_add, q_addl, q_addt, q_sub, q_mul, q_mull, q_mult, q_div, q_mod, q_pow, q_eq, q_ne, q_lt, q_le, q_gt, q_ge, q_is1, q_is2, q_is3, q_is4, q_is5, q_tr0, q_trb, q_tri, q_trl, q_trt, q_ixl, q_ixt, q_sll, q_slt, q_sls, q_lenl, q_lent, q_inti, q_absi, q_lisl, q_list, q_tupl, q_tupt, q_all, q_max, q_min, q_itl, q_itt, q_seql, q_seqt, q_rng1, q_rng2, q_enu1, q_enu2, q_end1, q_end2, q_own, q_val, q_st1, q_stt, q_sta0, q_sta1, q_re1, q_re0, q_appA, q_appioA, q_appkA, ↓bind_o, obind_some, List.getElem?_cons_zero, List.getElem?_cons_succ, List.set_cons_zero, List.set_cons_succ, lockS, slotL, Fz.atS, putL, runD, en0, vals, setS, opStop, wipeE, wipeS, restE, restS, plainS, szB_of, posB_of, b62_of, mulB_of, divB_of, powB_of, repB_one, timB_one, flat_one, I_rep, atI_0, atI_1, atI_2, atI_3, atI_4, ixN_of, cut_from, cut_to, eqv_int, eqv_none, shp_int, shp_bool, shp_none, zip_I]
theorem t13 {X Y Z : Int} (h0 : 0 < p) (h1 : p < 100) (c1 : bAt fs 11 B [.int 1000000000] = some (false, .int X, B1)) (c2 : bAt fs 11 B1 [.int 1000000000] = some (false, .int Y, B2)) (c3 : bAt fs 12 B2 [.list [.int 0, .int 1, .int (-1), .int p, .int (-p), .int (p + 1), .int (p - 1), .int X, .int (0 - Y)]] = some (false, .int Z, B3)) :
    evS ⟨N, fs, WW⟩ (n + 22) L_13 ⟨[.val sc, .own B, a2, .val (.int p), a4, a5, a6, a7, a8, a9, a10, a11, a12, a13, a14, a15, a16, a17], []⟩ = some (.nx ⟨[.val sc, .own B3, a2, .val (.int p), a4, a5, a6, a7, a8, a9, a10, a11, a12, .val (.int Z), a14, a15, a16, a17], []⟩) := by
  unfold L_13
  rw [Int.zero_sub] at c3
  simp (config := {implicitDefEqProofs := false}) (disch := omega) [c1, c2, c3, q_int, q_bl, q_non, q_nm, q_bin, q_neg, q_negI, q_not, q_bop, q_ife, q_cmp, q_ix, q_ixn, q_sl, q_sln, q_blt, q_lenn, q_isi, q_lst, q_tup, q_lc, q_push, q_pop, q_evc, q_to0, q_to1, q_o0, q_o1, q_intD, q_a0, q_a1, q_tnt, q_tbop, q_tcmp, q_tval, q_tnm, q_iseq, q_irng, q_ienu, q_izip, q_irev, q_sset, q_stgt, q_spar, q_sput, q_sret, q_sretn, q_sife, q_swhl, q_sfor, q_sex, q_spass, q_sbrk, q_scnt, q_ss0, q_ss1, q_gonx, q_gort, q_gobk, q_goct, q_add, q_addl, q_addt, q_sub, q_mul, q_mull, q_mult, q_div, q_mod, q_pow, q_eq, q_ne, q_lt, q_le, q_gt, q_ge, q_is1, q_is2, q_is3, q_is4, q_is5, q_tr0, q_trb, q_tri, q_trl, q_trt, q_ixl, q_ixt, q_sll, q_slt, q_sls, q_lenl, q_lent, q_inti, q_absi, q_lisl, q_list, q_tupl, q_tupt, q_all, q_max, q_min, q_itl, q_itt, q_seql, q_seqt, q_rng1, q_rng2, q_enu1, q_enu2, q_end1, q_end2, q_own, q_val, q_st1, q_stt, q_sta0, q_sta1, q_re1, q_re0, q_appA, q_appioA, q_appkA, ↓bind_o, obind_some, List.getElem?_cons_zero, List.getElem?_cons_succ, List.set_cons_zero, List.set_cons_succ, lockS, slotL, Fz.atS, putL, runD, en0, vals, setS, opStop, wipeE, wipeS, restE, restS, plainS, szB_of, posB_of, b62_of, mulB_of, divB_of, powB_of, repB_one, timB_one, flat_one, I_rep, atI_0, atI_1, atI_2, atI_3, atI_4, ixN_of, cut_from, cut_to, eqv_int, eqv_none, shp_int, shp_bool, shp_none, zip_I]
theorem t14 {m : Int} (c : bAt fs 12 B [.list [.int 0, .int 1, .int 2, .int 5, .int 30]] = some (false, .int m, B1)) :
    evS ⟨N, fs, WW⟩ (n + 20) L_14 ⟨[.val sc, .own B, a2, .val (.int p), a4, a5, a6, a7, a8, a9, a10, a11, a12, a13, a14, a15, a16, a17], []⟩ = some (.nx ⟨[.val sc, .own B1, a2, .val (.int p), a4, a5, a6, a7, a8, a9, a10, a11, a12, a13, .val (.int m), a15, a16, a17], []⟩) := by
  unfold L_14
  simp (config := {implicitDefEqProofs := false}) (disch := omega) [c, q_int, q_bl, q_non, q_nm, q_bin, q_neg, q_negI, q_not, q_bop, q_ife, q_cmp, q_ix, q_ixn, q_sl, q_sln, q_blt, q_lenn, q_isi, q_lst, q_tup, q_lc, q_push, q_pop, q_evc, q_to0, q_to1, q_o0, q_o1, q_intD, q_a0, q_a1, q_tnt, q_tbop, q_tcmp, q_tval, q_tnm, q_iseq, q_irng, q_ienu, q_izip, q_irev, q_sset, q_stgt, q_spar, q_sput, q_sret, q_sretn, q_sife, q_swhl, q_sfor, q_sex, q_spass, q_sbrk, q_scnt, q_ss0, q_ss1, q_gonx, q_gort, q_gobk, q_goct, q_add, q_addl, q_addt, q_sub, q_mul, q_mull, q_mult, q_div, q_mod, q_pow, q_eq, q_ne, q_lt, q_le, q_gt, q_ge, q_is1, q_is2, q_is3, q_is4, q_is5, q_tr0, q_trb, q_tri, q_trl, q_trt, q_ixl, q_ixt, q_sll, q_slt, q_sls, q_lenl, q_lent, q_inti, q_absi, q_lisl, q_list, q_tupl, q_tupt, q_all, q_max, q_min, q_itl, q_itt, q_seql, q_seqt, q_rng1, q_rng2, q_enu1, q_enu2, q_end1, q_end2, q_own, q_val, q_st1, q_stt, q_sta0, q_sta1, q_re1, q_re0, q_appA, q_appioA, q_appkA, ↓bind_o, obind_some, List.getElem?_cons_zero, List.getElem?_cons_succ, List.set_cons_zero, List.set_cons_succ, lockS, slotL, Fz.atS, putL, runD, en0, vals, setS, opStop, wipeE, wipeS, restE, restS, plainS, szB_of, posB_of, b62_of, mulB_of, divB_of, powB_of, repB_one, timB_one, flat_one, I_rep, atI_0, atI_1, atI_2, atI_3, atI_4, ixN_of, cut_from, cut_to, eqv_int, eqv_none, shp_int, shp_bool, shp_none, zip_I]
theorem t15 {m : Int} (hm : 0 ≤ m) (hm2 : m ≤ 1000) (hf : f.length ≤ 40000) :
    evS ⟨N, fs, WW⟩ (n + 20) L_15 ⟨[.val sc, .own B, a2, .val (.int p), a4, a5, a6, .val (.tuple (I f)), a8, a9, a10, a11, a12, a13, .val (.int m), a15, a16, a17], []⟩ = some (.nx ⟨[.val sc, .own B, a2, .val (.int p), a4, a5, a6, .val (.tuple (I f)), a8, a9, a10, a11, a12, a13, .val (.int m), .val (.tuple (I (up f m.toNat))), a16, a17], []⟩) := by
  unfold L_15
  cases f with
  | nil => simp (config := {implicitDefEqProofs := false}) (disch := omega) [up, q_int, q_bl, q_non, q_nm, q_bin, q_neg, q_negI, q_not, q_bop, q_ife, q_cmp, q_ix, q_ixn, q_sl, q_sln, q_blt, q_lenn, q_isi, q_lst, q_tup, q_lc, q_push, q_pop, q_evc, q_to0, q_to1, q_o0, q_o1, q_intD, q_a0, q_a1, q_tnt, q_tbop, q_tcmp, q_tval, q_tnm, q_iseq, q_irng, q_ienu, q_izip, q_irev, q_sset, q_stgt, q_spar, q_sput, q_sret, q_sretn, q_sife, q_swhl, q_sfor, q_sex, q_spass, q_sbrk, q_scnt, q_ss0, q_ss1, q_gonx, q_gort, q_gobk, q_goct, q_add, q_addl, q_addt, q_sub, q_mul, q_mull, q_mult, q_div, q_mod, q_pow, q_eq, q_ne, q_lt, q_le, q_gt, q_ge, q_is1, q_is2, q_is3, q_is4, q_is5, q_tr0, q_trb, q_tri, q_trl, q_trt, q_ixl, q_ixt, q_sll, q_slt, q_sls, q_lenl, q_lent, q_inti, q_absi, q_lisl, q_list, q_tupl, q_tupt, q_all, q_max, q_min, q_itl, q_itt, q_seql, q_seqt, q_rng1, q_rng2, q_enu1, q_enu2, q_end1, q_end2, q_own, q_val, q_st1, q_stt, q_sta0, q_sta1, q_re1, q_re0, q_appA, q_appioA, q_appkA, ↓bind_o, obind_some, List.getElem?_cons_zero, List.getElem?_cons_succ, List.set_cons_zero, List.set_cons_succ, lockS, slotL, Fz.atS, putL, runD, en0, vals, setS, opStop, wipeE, wipeS, restE, restS, plainS, szB_of, posB_of, b62_of, mulB_of, divB_of, powB_of, repB_one, timB_one, flat_one, I_rep, atI_0, atI_1, atI_2, atI_3, atI_4, ixN_of, cut_from, cut_to, eqv_int, eqv_none, shp_int, shp_bool, shp_none, zip_I]
  | cons x f =>
    have hf' : f.length + 1 ≤ 40000 := hf
    have e1 : (0 : Int) < (f.length : Int) + 1 := by omega
    simp (config := {implicitDefEqProofs := false}) (disch := omega) [up, e1, q_int, q_bl, q_non, q_nm, q_bin, q_neg, q_negI, q_not, q_bop, q_ife, q_cmp, q_ix, q_ixn, q_sl, q_sln, q_blt, q_lenn, q_isi, q_lst, q_tup, q_lc, q_push, q_pop, q_evc, q_to0, q_to1, q_o0, q_o1, q_intD, q_a0, q_a1, q_tnt, q_tbop, q_tcmp, q_tval, q_tnm, q_iseq, q_irng, q_ienu, q_izip, q_irev, q_sset, q_stgt, q_spar, q_sput, q_sret, q_sretn, q_sife, q_swhl, q_sfor, q_sex, q_spass, q_sbrk, q_scnt, q_ss0, q_ss1, q_gonx, q_gort, q_gobk, q_goct, q_add, q_addl, q_addt, q_sub, q_mul, q_mull, q_mult, q_div, q_mod, q_pow, q_eq, q_ne, q_lt, q_le, q_gt, q_ge, q_is1, q_is2, q_is3, q_is4, q_is5, q_tr0, q_trb, q_tri, q_trl, q_trt, q_ixl, q_ixt, q_sll, q_slt, q_sls, q_lenl, q_lent, q_inti, q_absi, q_lisl, q_list, q_tupl, q_tupt, q_all, q_max, q_min, q_itl, q_itt, q_seql, q_seqt, q_rng1, q_rng2, q_enu1, q_enu2, q_end1, q_end2, q_own, q_val, q_st1, q_stt, q_sta0, q_sta1, q_re1, q_re0, q_appA, q_appioA, q_appkA, ↓bind_o, obind_some, List.getElem?_cons_zero, List.getElem?_cons_succ, List.set_cons_zero, List.set_cons_succ, lockS, slotL, Fz.atS, putL, runD, en0, vals, setS, opStop, wipeE, wipeS, restE, restS, plainS, szB_of, posB_of, b62_of, mulB_of, divB_of, powB_of, repB_one, timB_one, flat_one, I_rep, atI_0, atI_1, atI_2, atI_3, atI_4, ixN_of, cut_from, cut_to, eqv_int, eqv_none, shp_int, shp_bool, shp_none, zip_I]
theorem t16 (hp : Plain a16) {a : Int} {W : D} (h0 : 0 < p) (hm : ∀ x ∈ f, mulB a x = true) (hf : f.length ≤ 40000) (h : cAt fs 17 [.list (I (f.map fun x => (a * x) % p))] = some (false, W)) {V : D} :
    evS ⟨N, fs, WW⟩ (n + 20) L_16 ⟨[.val sc, .own B, a2, .val (.int p), a4, a5, a6, .val (.tuple (I f)), a8, a9, a10, a11, a12, .val (.int a), a14, .val V, a16, a17], []⟩ = some (.nx ⟨[.val sc, .own B, a2, .val (.int p), a4, .own [W, V], a6, .val (.tuple (I f)), a8, a9, a10, a11, a12, .val (.int a), a14, .val V, a16, a17], []⟩) := by
  unfold L_16
  have key : ∀ m, lcL (evC ⟨N, fs, WW⟩ (m + 9) (.one 16) [16] none (.bin .Mod (.blt .int [(.bin .Mult (.nm 13) (.nm 16))]) (.nm 3))) (I f) ⟨[.val sc, .own B, a2, .val (.int p), a4, a5, a6, .val (.tuple (I f)), a8, a9, a10, a11, a12, .val (.int a), a14, .val V, a16, a17], []⟩ = some (I (f.map fun x => (a * x) % p), ⟨[.val sc, .own B, a2, .val (.int p), a4, a5, a6, .val (.tuple (I f)), a8, a9, a10, a11, a12, .val (.int a), a14, .val V, a16, a17], []⟩) := by
    intro m
    rw [show I (f.map fun x => (a * x) % p) = f.map fun x => PyData.int ((a * x) % p) by unfold I; rw [List.map_map]; rfl]
    refine lcL_pure _ _ fun x hx => ?_
    have hmx := hm x hx
    rcases hp with rfl | ⟨d, rfl⟩ <;> simp (config := {implicitDefEqProofs := false}) (disch := omega) [hmx, q_int, q_bl, q_non, q_nm, q_bin, q_neg, q_negI, q_not, q_bop, q_ife, q_cmp, q_ix, q_ixn, q_sl, q_sln, q_blt, q_lenn, q_isi, q_lst, q_tup, q_lc, q_push, q_pop, q_evc, q_to0, q_to1, q_o0, q_o1, q_intD, q_a0, q_a1, q_tnt, q_tbop, q_tcmp, q_tval, q_tnm, q_iseq, q_irng, q_ienu, q_izip, q_irev, q_sset, q_stgt, q_spar, q_sput, q_sret, q_sretn, q_sife, q_swhl, q_sfor, q_sex, q_spass, q_sbrk, q_scnt, q_ss0, q_ss1, q_gonx, q_gort, q_gobk, q_goct, q_add, q_addl, q_addt, q_sub, q_mul, q_mull, q_mult, q_div, q_mod, q_pow, q_eq, q_ne, q_lt, q_le, q_gt, q_ge, q_is1, q_is2, q_is3, q_is4, q_is5, q_tr0, q_trb, q_tri, q_trl, q_trt, q_ixl, q_ixt, q_sll, q_slt, q_sls, q_lenl, q_lent, q_inti, q_absi, q_lisl, q_list, q_tupl, q_tupt, q_all, q_max, q_min, q_itl, q_itt, q_seql, q_seqt, q_rng1, q_rng2, q_enu1, q_enu2, q_end1, q_end2, q_own, q_val, q_st1, q_stt, q_sta0, q_sta1, q_re1, q_re0, q_appA, q_appioA, q_appkA, ↓bind_o, obind_some, List.getElem?_cons_zero, List.getElem?_cons_succ, List.set_cons_zero, List.set_cons_succ, lockS, slotL, Fz.atS, putL, runD, en0, vals, setS, opStop, wipeE, wipeS, restE, restS, plainS, szB_of, posB_of, b62_of, mulB_of, divB_of, powB_of, repB_one, timB_one, flat_one, I_rep, atI_0, atI_1, atI_2, atI_3, atI_4, ixN_of, cut_from, cut_to, eqv_int, eqv_none, shp_int, shp_bool, shp_none, zip_I]
  simp (config := {implicitDefEqProofs := false}) (disch := omega) [key, h, q_int, q_bl, q_non, q_nm, q_bin, q_neg, q_negI, q_not, q_bop, q_ife, q_cmp, q_ix, q_ixn, q_sl, q_sln, q_blt, q_lenn, q_isi, q_lst, q_tup, q_lc, q_push, q_pop, q_evc, q_to0, q_to1, q_o0, q_o1, q_intD, q_a0, q_a1, q_tnt, q_tbop, q_tcmp, q_tval, q_tnm, q_iseq, q_irng, q_ienu, q_izip, q_irev, q_sset, q_stgt, q_spar, q_sput, q_sret, q_sretn, q_sife, q_swhl, q_sfor, q_sex, q_spass, q_sbrk, q_scnt, q_ss0, q_ss1, q_gonx, q_gort, q_gobk, q_goct, q_add, q_addl, q_addt, q_sub, q_mul, q_mull, q_mult, q_div, q_mod, q_pow, q_eq, q_ne, q_lt, q_le, q_gt, q_ge, q_is1, q_is2, q_is3, q_is4, q_is5, q_tr0, q_trb, q_tri, q_trl, q_trt, q_ixl, q_ixt, q_sll, q_slt, q_sls, q_lenl, q_lent, q_inti, q_absi, q_lisl, q_list, q_tupl, q_tupt, q_all, q_max, q_min, q_itl, q_itt, q_seql, q_seqt, q_rng1, q_rng2, q_enu1, q_enu2, q_end1, q_end2, q_own, q_val, q_st1, q_stt, q_sta0, q_sta1, q_re1, q_re0, q_appA, q_appioA, q_appkA, ↓bind_o, obind_some, List.getElem?_cons_zero, List.getElem?_cons_succ, List.set_cons_zero, List.set_cons_succ, lockS, slotL, Fz.atS, putL, runD, en0, vals, setS, opStop, wipeE, wipeS, restE, restS, plainS, szB_of, posB_of, b62_of, mulB_of, divB_of, powB_of, repB_one, timB_one, flat_one, I_rep, atI_0, atI_1, atI_2, atI_3, atI_4, ixN_of, cut_from, cut_to, eqv_int, eqv_none, shp_int, shp_bool, shp_none, zip_I]
theorem t17 {a m : Int} {W V : D} (h6 : cAt fs 6 [.int p, F, .int a] = some (false, W)) (h7 : cAt fs 7 [F, .int m] = some (false, V)) (hs : cAt fs 13 [.list [W, V], .list [W, V]] = some (false, .bool true)) :
    evS ⟨N, fs, WW⟩ (n + 20) L_17 ⟨[.val sc, .own B, a2, .val (.int p), a4, .own [W, V], a6, .val F, a8, a9, a10, a11, a12, .val (.int a), .val (.int m), a15, a16, a17], []⟩ = some (.nx ⟨[.val sc, .own B, a2, .val (.int p), a4, .val (.list [W, V]), a6, .val F, a8, a9, a10, a11, a12, .val (.int a), .val (.int m), a15, a16, a17], []⟩) := by
  unfold L_17
  simp (config := {implicitDefEqProofs := false}) (disch := omega) [h6, h7, hs, q_int, q_bl, q_non, q_nm, q_bin, q_neg, q_negI, q_not, q_bop, q_ife, q_cmp, q_ix, q_ixn, q_sl, q_sln, q_blt, q_lenn, q_isi, q_lst, q_tup, q_lc, q_push, q_pop, q_evc, q_to0, q_to1, q_o0, q_o1, q_intD, q_a0, q_a1, q_tnt, q_tbop, q_tcmp, q_tval, q_tnm, q_iseq, q_irng, q_ienu, q_izip, q_irev, q_sset, q_stgt, q_spar, q_sput, q_sret, q_sretn, q_sife, q_swhl, q_sfor, q_sex, q_spass, q_sbrk, q_scnt, q_ss0, q_ss1, q_gonx, q_gort, q_gobk, q_goct, q_add, q_addl, q_addt, q_sub, q_mul, q_mull, q_mult, q_div, q_mod, q_pow, q_eq, q_ne, q_lt, q_le, q_gt, q_ge, q_is1, q_is2, q_is3, q_is4, q_is5, q_tr0, q_trb, q_tri, q_trl, q_trt, q_ixl, q_ixt, q_sll, q_slt, q_sls, q_lenl, q_lent, q_inti, q_absi, q_lisl, q_list, q_tupl, q_tupt, q_all, q_max, q_min, q_itl, q_itt, q_seql, q_seqt, q_rng1, q_rng2, q_enu1, q_enu2, q_end1, q_end2, q_own, q_val, q_st1, q_stt, q_sta0, q_sta1, q_re1, q_re0, q_appA, q_appioA, q_appkA, ↓bind_o, obind_some, List.getElem?_cons_zero, List.getElem?_cons_succ, List.set_cons_zero, List.set_cons_succ, lockS, slotL, Fz.atS, putL, runD, en0, vals, setS, opStop, wipeE, wipeS, restE, restS, plainS, szB_of, posB_of, b62_of, mulB_of, divB_of, powB_of, repB_one, timB_one, flat_one, I_rep, atI_0, atI_1, atI_2, atI_3, atI_4, ixN_of, cut_from, cut_to, eqv_int, eqv_none, shp_int, shp_bool, shp_none, zip_I]
theorem t18 {a m : Int} {W V : D} (h6 : kAt fs 6 0 0 [] [.int a, F, .int p] = some (false, W)) (h7 : kAt fs 7 0 0 [] [.int m, F] = some (false, V)) (hs : cAt fs 13 [.list [W, V], .list [W, V]] = some (false, .bool true)) :
    evS ⟨N, fs, WW⟩ (n + 20) L_18 ⟨[.val sc, .own B, a2, .val (.int p), a4, .val (.list [W, V]), a6, .val F, a8, a9, a10, a11, a12, .val (.int a), .val (.int m), a15, a16, a17], []⟩ = some (.nx ⟨[.val sc, .own B, a2, .val (.int p), a4, .val (.list [W, V]), a6, .val F, a8, a9, a10, a11, a12, .val (.int a), .val (.int m), a15, a16, a17], []⟩) := by
  unfold L_18
  simp (config := {implicitDefEqProofs := false}) (disch := omega) [h6, h7, hs, q_int, q_bl, q_non, q_nm, q_bin, q_neg, q_negI, q_not, q_bop, q_ife, q_cmp, q_ix, q_ixn, q_sl, q_sln, q_blt, q_lenn, q_isi, q_lst, q_tup, q_lc, q_push, q_pop, q_evc, q_to0, q_to1, q_o0, q_o1, q_intD, q_a0, q_a1, q_tnt, q_tbop, q_tcmp, q_tval, q_tnm, q_iseq, q_irng, q_ienu, q_izip, q_irev, q_sset, q_stgt, q_spar, q_sput, q_sret, q_sretn, q_sife, q_swhl, q_sfor, q_sex, q_spass, q_sbrk, q_scnt, q_ss0, q_ss1, q_gonx, q_gort, q_gobk, q_goct, q_add, q_addl, q_addt, q_sub, q_mul, q_mull, q_mult, q_div, q_mod, q_pow, q_eq, q_ne, q_lt, q_le, q_gt, q_ge, q_is1, q_is2, q_is3, q_is4, q_is5, q_tr0, q_trb, q_tri, q_trl, q_trt, q_ixl, q_ixt, q_sll, q_slt, q_sls, q_lenl, q_lent, q_inti, q_absi, q_lisl, q_list, q_tupl, q_tupt, q_all, q_max, q_min, q_itl, q_itt, q_seql, q_seqt, q_rng1, q_rng2, q_enu1, q_enu2, q_end1, q_end2, q_own, q_val, q_st1, q_stt, q_sta0, q_sta1, q_re1, q_re0, q_appA, q_appioA, q_appkA, ↓bind_o, obind_some, List.getElem?_cons_zero, List.getElem?_cons_succ, List.set_cons_zero, List.set_cons_succ, lockS, slotL, Fz.atS, putL, runD, en0, vals, setS, opStop, wipeE, wipeS, restE, restS, plainS, szB_of, posB_of, b62_of, mulB_of, divB_of, powB_of, repB_one, timB_one, flat_one, I_rep, atI_0, atI_1, atI_2, atI_3, atI_4, ixN_of, cut_from, cut_to, eqv_int, eqv_none, shp_int, shp_bool, shp_none, zip_I]
theorem t19 {h : D} (h8 : cAt fs 8 [.int p, F] = some (false, h)) :
    evS ⟨N, fs, WW⟩ (n + 20) L_19 ⟨[.val sc, .own B, a2, .val (.int p), a4, a5, a6, .val F, a8, a9, a10, a11, a12, a13, a14, a15, a16, a17], []⟩ = some (.nx ⟨[.val sc, .own B, a2, .val (.int p), a4, a5, a6, .val F, a8, a9, a10, a11, .val h, a13, a14, a15, a16, a17], []⟩) := by
  unfold L_19
  simp (config := {implicitDefEqProofs := false}) (disch := omega) [h8, q_int, q_bl, q_non, q_nm, q_bin, q_neg, q_negI, q_not, q_bop, q_ife, q_cmp, q_ix, q_ixn, q_sl, q_sln, q_blt, q_lenn, q_isi, q_lst, q_tup, q_lc, q_push, q_pop, q_evc, q_to0, q_to1, q_o0, q_o1, q_intD, q_a0, q_a1, q_tnt, q_tbop, q_tcmp, q_tval, q_tnm, q_iseq, q_irng, q_ienu, q_izip, q_irev, q_sset, q_stgt, q_spar, q_sput, q_sret, q_sretn, q_sife, q_swhl, q_sfor, q_sex, q_spass, q_sbrk, q_scnt, q_ss0, q_ss1, q_gonx, q_gort, q_gobk, q_goct, q_add, q_addl, q_addt, q_sub, q_mul, q_mull, q_mult, q_div, q_mod, q_pow, q_eq, q_ne, q_lt, q_le, q_gt, q_ge, q_is1, q_is2, q_is3, q_is4, q_is5, q_tr0, q_trb, q_tri, q_trl, q_trt, q_ixl, q_ixt, q_sll, q_slt, q_sls, q_lenl, q_lent, q_inti, q_absi, q_lisl, q_list, q_tupl, q_tupt, q_all, q_max, q_min, q_itl, q_itt, q_seql, q_seqt, q_rng1, q_rng2, q_enu1, q_enu2, q_end1, q_end2, q_own, q_val, q_st1, q_stt, q_sta0, q_sta1, q_re1, q_re0, q_appA, q_appioA, q_appkA, ↓bind_o, obind_some, List.getElem?_cons_zero, List.getElem?_cons_succ, List.set_cons_zero, List.set_cons_succ, lockS, slotL, Fz.atS, putL, runD, en0, vals, setS, opStop, wipeE, wipeS, restE, restS, plainS, szB_of, posB_of, b62_of, mulB_of, divB_of, powB_of, repB_one, timB_one, flat_one, I_rep, atI_0, atI_1, atI_2, atI_3, atI_4, ixN_of, cut_from, cut_to, eqv_int, eqv_none, shp_int, shp_bool, shp_none, zip_I]
theorem t20 {h : List Int} (h22 : cAt fs 22 [.int p, .tuple (I h)] = some (false, .bool true)) (hl : h.length = f.length) (h1 : h ≠ [] → h.getLast? = some 1) :
    evS ⟨N, fs, WW⟩ (n + 20) L_20 ⟨[.val sc, .own B, a2, .val (.int p), a4, a5, a6, .val (.tuple (I f)), a8, a9, a10, a11, .val (.tuple (I h)), a13, a14, a15, a16, a17], []⟩ = some (.nx ⟨[.val sc, .own B, a2, .val (.int p), a4, a5, a6, .val (.tuple (I f)), a8, a9, a10, a11, .val (.tuple (I h)), a13, a14, a15, a16, a17], []⟩) := by
  unfold L_20
  cases h with
  | nil =>
    have hl' : f.length = 0 := hl.symm
    rw [I_nil] at h22
    simp (config := {implicitDefEqProofs := false}) (disch := omega) [h22, hl', q_int, q_bl, q_non, q_nm, q_bin, q_neg, q_negI, q_not, q_bop, q_ife, q_cmp, q_ix, q_ixn, q_sl, q_sln, q_blt, q_lenn, q_isi, q_lst, q_tup, q_lc, q_push, q_pop, q_evc, q_to0, q_to1, q_o0, q_o1, q_intD, q_a0, q_a1, q_tnt, q_tbop, q_tcmp, q_tval, q_tnm, q_iseq, q_irng, q_ienu, q_izip, q_irev, q_sset, q_stgt, q_spar, q_sput, q_sret, q_sretn, q_sife, q_swhl, q_sfor, q_sex, q_spass, q_sbrk, q_scnt, q_ss0, q_ss1, q_gonx, q_gort, q_gobk, q_goct, q_add, q_addl, q_addt, q_sub, q_mul, q_mull, q_mult, q_div, q_mod, q_pow, q_eq, q_ne, q_lt, q_le, q_gt, q_ge, q_is1, q_is2, q_is3, q_is4, q_is5, q_tr0, q_trb, q_tri, q_trl, q_trt, q_ixl, q_ixt, q_sll, q_slt, q_sls, q_lenl, q_lent, q_inti, q_absi, q_lisl, q_list, q_tupl, q_tupt, q_all, q_max, q_min, q_itl, q_itt, q_seql, q_seqt, q_rng1, q_rng2, q_enu1, q_enu2, q_end1, q_end2, q_own, q_val, q_st1, q_stt, q_sta0, q_sta1, q_re1, q_re0, q_appA, q_appioA, q_appkA, ↓bind_o, obind_some, List.getElem?_cons_zero, List.getElem?_cons_succ, List.set_cons_zero, List.set_cons_succ, lockS, slotL, Fz.atS, putL, runD, en0, vals, setS, opStop, wipeE, wipeS, restE, restS, plainS, szB_of, posB_of, b62_of, mulB_of, divB_of, powB_of, repB_one, timB_one, flat_one, I_rep, atI_0, atI_1, atI_2, atI_3, atI_4, ixN_of, cut_from, cut_to, eqv_int, eqv_none, shp_int, shp_bool, shp_none, zip_I]
  | cons x h =>
    have h1' := h1 (by simp)
    have hat : atI (I (x :: h)) (-1) = some (.int 1) := by rw [atI_last1, I_last, h1']; rfl
    have hlen : (I (x :: h)).length = f.length := by rw [I_len, hl]
    have hne : f ≠ [] := by intro e; rw [e] at hl; cases hl
    have hp0 : 0 < f.length := List.length_pos_iff.mpr hne
    have hpos : (0 : Int) < f.length := by omega
    generalize I (x :: h) = L at *
    simp (config := {implicitDefEqProofs := false}) (disch := omega) [h22, hlen, hat, hpos, hne, hp0, q_int, q_bl, q_non, q_nm, q_bin, q_neg, q_negI, q_not, q_bop, q_ife, q_cmp, q_ix, q_ixn, q_sl, q_sln, q_blt, q_lenn, q_isi, q_lst, q_tup, q_lc, q_push, q_pop, q_evc, q_to0, q_to1, q_o0, q_o1, q_intD, q_a0, q_a1, q_tnt, q_tbop, q_tcmp, q_tval, q_tnm, q_iseq, q_irng, q_ienu, q_izip, q_irev, q_sset, q_stgt, q_spar, q_sput, q_sret, q_sretn, q_sife, q_swhl, q_sfor, q_sex, q_spass, q_sbrk, q_scnt, q_ss0, q_ss1, q_gonx, q_gort, q_gobk, q_goct, q_add, q_addl, q_addt, q_sub, q_mul, q_mull, q_mult, q_div, q_mod, q_pow, q_eq, q_ne, q_lt, q_le, q_gt, q_ge, q_is1, q_is2, q_is3, q_is4, q_is5, q_tr0, q_trb, q_tri, q_trl, q_trt, q_ixl, q_ixt, q_sll, q_slt, q_sls, q_lenl, q_lent, q_inti, q_absi, q_lisl, q_list, q_tupl, q_tupt, q_all, q_max, q_min, q_itl, q_itt, q_seql, q_seqt, q_rng1, q_rng2, q_enu1, q_enu2, q_end1, q_end2, q_own, q_val, q_st1, q_stt, q_sta0, q_sta1, q_re1, q_re0, q_appA, q_appioA, q_appkA, ↓bind_o, obind_some, List.getElem?_cons_zero, List.getElem?_cons_succ, List.set_cons_zero, List.set_cons_succ, lockS, slotL, Fz.atS, putL, runD, en0, vals, setS, opStop, wipeE, wipeS, restE, restS, plainS, szB_of, posB_of, b62_of, mulB_of, divB_of, powB_of, repB_one, timB_one, flat_one, I_rep, atI_0, atI_1, atI_2, atI_3, atI_4, ixN_of, cut_from, cut_to, eqv_int, eqv_none, shp_int, shp_bool, shp_none, zip_I]
theorem t21 {h : D} (h8 : kAt fs 8 0 0 [] [h, .int p] = some (false, h)) (hs : cAt fs 13 [h, h] = some (false, .bool true)) :
    evS ⟨N, fs, WW⟩ (n + 20) L_21 ⟨[.val sc, .own B, a2, .val (.int p), a4, a5, a6, a7, a8, a9, a10, a11, .val h, a13, a14, a15, a16, a17], []⟩ = some (.nx ⟨[.val sc, .own B, a2, .val (.int p), a4, a5, a6, a7, a8, a9, a10, a11, .val h, a13, a14, a15, a16, a17], []⟩) := by
  unfold L_21
  simp (config := {implicitDefEqProofs := false}) (disch := omega) [h8, hs, q_int, q_bl, q_non, q_nm, q_bin, q_neg, q_negI, q_not, q_bop, q_ife, q_cmp, q_ix, q_ixn, q_sl, q_sln, q_blt, q_lenn, q_isi, q_lst, q_tup, q_lc, q_push, q_pop, q_evc, q_to0, q_to1, q_o0, q_o1, q_intD, q_a0, q_a1, q_tnt, q_tbop, q_tcmp, q_tval, q_tnm, q_iseq, q_irng, q_ienu, q_izip, q_irev, q_sset, q_stgt, q_spar, q_sput, q_sret, q_sretn, q_sife, q_swhl, q_sfor, q_sex, q_spass, q_sbrk, q_scnt, q_ss0, q_ss1, q_gonx, q_gort, q_gobk, q_goct, q_add, q_addl, q_addt, q_sub, q_mul, q_mull, q_mult, q_div, q_mod, q_pow, q_eq, q_ne, q_lt, q_le, q_gt, q_ge, q_is1, q_is2, q_is3, q_is4, q_is5, q_tr0, q_trb, q_tri, q_trl, q_trt, q_ixl, q_ixt, q_sll, q_slt, q_sls, q_lenl, q_lent, q_inti, q_absi, q_lisl, q_list, q_tupl, q_tupt, q_all, q_max, q_min, q_itl, q_itt, q_seql, q_seqt, q_rng1, q_rng2, q_enu1, q_enu2, q_end1, q_end2, q_own, q_val, q_st1, q_stt, q_sta0, q_sta1, q_re1, q_re0, q_appA, q_appioA, q_appkA, ↓bind_o, obind_some, List.getElem?_cons_zero, List.getElem?_cons_succ, List.set_cons_zero, List.set_cons_succ, lockS, slotL, Fz.atS, putL, runD, en0, vals, setS, opStop, wipeE, wipeS, restE, restS, plainS, szB_of, posB_of, b62_of, mulB_of, divB_of, powB_of, repB_one, timB_one, flat_one, I_rep, atI_0, atI_1, atI_2, atI_3, atI_4, ixN_of, cut_from, cut_to, eqv_int, eqv_none, shp_int, shp_bool, shp_none, zip_I]
theorem t22 {h : D} (h20 : ∀ y, f.getLast? = some y → cAt fs 20 [.int p, h, .tuple [.int y]] = some (false, .tuple (I f))) (hs : cAt fs 13 [.tuple (I f), .tuple (I f)] = some (false, .bool true)) :
    evS ⟨N, fs, WW⟩ (n + 20) L_22 ⟨[.val sc, .own B, a2, .val (.int p), a4, a5, a6, .val (.tuple (I f)), a8, a9, a10, a11, .val h, a13, a14, a15, a16, a17], []⟩ = some (.nx ⟨[.val sc, .own B, a2, .val (.int p), a4, a5, a6, .val (.tuple (I f)), a8, a9, a10, a11, .val h, a13, a14, a15, a16, a17], []⟩) := by
  unfold L_22
  cases hf : f.getLast? with
  | none =>
    have : f = [] := by simpa using hf
    subst this
    simp (config := {implicitDefEqProofs := false}) (disch := omega) [q_int, q_bl, q_non, q_nm, q_bin, q_neg, q_negI, q_not, q_bop, q_ife, q_cmp, q_ix, q_ixn, q_sl, q_sln, q_blt, q_lenn, q_isi, q_lst, q_tup, q_lc, q_push, q_pop, q_evc, q_to0, q_to1, q_o0, q_o1, q_intD, q_a0, q_a1, q_tnt, q_tbop, q_tcmp, q_tval, q_tnm, q_iseq, q_irng, q_ienu, q_izip, q_irev, q_sset, q_stgt, q_spar, q_sput, q_sret, q_sretn, q_sife, q_swhl, q_sfor, q_sex, q_spass, q_sbrk, q_scnt, q_ss0, q_ss1, q_gonx, q_gort, q_gobk, q_goct, q_add, q_addl, q_addt, q_sub, q_mul, q_mull, q_mult, q_div, q_mod, q_pow, q_eq, q_ne, q_lt, q_le, q_gt, q_ge, q_is1, q_is2, q_is3, q_is4, q_is5, q_tr0, q_trb, q_tri, q_trl, q_trt, q_ixl, q_ixt, q_sll, q_slt, q_sls, q_lenl, q_lent, q_inti, q_absi, q_lisl, q_list, q_tupl, q_tupt, q_all, q_max, q_min, q_itl, q_itt, q_seql, q_seqt, q_rng1, q_rng2, q_enu1, q_enu2, q_end1, q_end2, q_own, q_val, q_st1, q_stt, q_sta0, q_sta1, q_re1, q_re0, q_appA, q_appioA, q_appkA, ↓bind_o, obind_some, List.getElem?_cons_zero, List.getElem?_cons_succ, List.set_cons_zero, List.set_cons_succ, lockS, slotL, Fz.atS, putL, runD, en0, vals, setS, opStop, wipeE, wipeS, restE, restS, plainS, szB_of, posB_of, b62_of, mulB_of, divB_of, powB_of, repB_one, timB_one, flat_one, I_rep, atI_0, atI_1, atI_2, atI_3, atI_4, ixN_of, cut_from, cut_to, eqv_int, eqv_none, shp_int, shp_bool, shp_none, zip_I]
  | some y =>
    have hat : atI (I f) (-1) = some (.int y) := by rw [atI_last1, I_last, hf]; rfl
    have hne : f ≠ [] := by intro e; rw [e] at hf; cases hf
    have hp0 : 0 < f.length := List.length_pos_iff.mpr hne
    have hpos : (0 : Int) < f.length := by omega
    have hlen : (I f).length = f.length := I_len f
    have h20' := h20 y hf
    generalize I f = L at *
    simp (config := {implicitDefEqProofs := false}) (disch := omega) [h20', hat, hpos, hs, hlen, hne, hp0, q_int, q_bl, q_non, q_nm, q_bin, q_neg, q_negI, q_not, q_bop, q_ife, q_cmp, q_ix, q_ixn, q_sl, q_sln, q_blt, q_lenn, q_isi, q_lst, q_tup, q_lc, q_push, q_pop, q_evc, q_to0, q_to1, q_o0, q_o1, q_intD, q_a0, q_a1, q_tnt, q_tbop, q_tcmp, q_tval, q_tnm, q_iseq, q_irng, q_ienu, q_izip, q_irev, q_sset, q_stgt, q_spar, q_sput, q_sret, q_sretn, q_sife, q_swhl, q_sfor, q_sex, q_spass, q_sbrk, q_scnt, q_ss0, q_ss1, q_gonx, q_gort, q_gobk, q_goct, q_add, q_addl, q_addt, q_sub, q_mul, q_mull, q_mult, q_div, q_mod, q_pow, q_eq, q_ne, q_lt, q_le, q_gt, q_ge, q_is1, q_is2, q_is3, q_is4, q_is5, q_tr0, q_trb, q_tri, q_trl, q_trt, q_ixl, q_ixt, q_sll, q_slt, q_sls, q_lenl, q_lent, q_inti, q_absi, q_lisl, q_list, q_tupl, q_tupt, q_all, q_max, q_min, q_itl, q_itt, q_seql, q_seqt, q_rng1, q_rng2, q_enu1, q_enu2, q_end1, q_end2, q_own, q_val, q_st1, q_stt, q_sta0, q_sta1, q_re1, q_re0, q_appA, q_appioA, q_appkA, ↓bind_o, obind_some, List.getElem?_cons_zero, List.getElem?_cons_succ, List.set_cons_zero, List.set_cons_succ, lockS, slotL, Fz.atS, putL, runD, en0, vals, setS, opStop, wipeE, wipeS, restE, restS, plainS, szB_of, posB_of, b62_of, mulB_of, divB_of, powB_of, repB_one, timB_one, flat_one, I_rep, atI_0, atI_1, atI_2, atI_3, atI_4, ixN_of, cut_from, cut_to, eqv_int, eqv_none, shp_int, shp_bool, shp_none, zip_I]
theorem t23 {c : Int} (h : bAt fs 11 B [.int p] = some (false, .int c, B1)) :
    evS ⟨N, fs, WW⟩ (n + 20) L_23 ⟨[.val sc, .own B, a2, .val (.int p), a4, a5, a6, a7, a8, a9, a10, a11, a12, a13, a14, a15, a16, a17], []⟩ = some (.nx ⟨[.val sc, .own B1, a2, .val (.int p), a4, a5, a6, a7, a8, a9, a10, a11, a12, a13, a14, a15, a16, .val (.int c)], []⟩) := by
  unfold L_23
  simp (config := {implicitDefEqProofs := false}) (disch := omega) [h, q_int, q_bl, q_non, q_nm, q_bin, q_neg, q_negI, q_not, q_bop, q_ife, q_cmp, q_ix, q_ixn, q_sl, q_sln, q_blt, q_lenn, q_isi, q_lst, q_tup, q_lc, q_push, q_pop, q_evc, q_to0, q_to1, q_o0, q_o1, q_intD, q_a0, q_a1, q_tnt, q_tbop, q_tcmp, q_tval, q_tnm, q_iseq, q_irng, q_ienu, q_izip, q_irev, q_sset, q_stgt, q_spar, q_sput, q_sret, q_sretn, q_sife, q_swhl, q_sfor, q_sex, q_spass, q_sbrk, q_scnt, q_ss0, q_ss1, q_gonx, q_gort, q_gobk, q_goct, q_add, q_addl, q_addt, q_sub, q_mul, q_mull, q_mult, q_div, q_mod, q_pow, q_eq, q_ne, q_lt, q_le, q_gt, q_ge, q_is1, q_is2, q_is3, q_is4, q_is5, q_tr0, q_trb, q_tri, q_trl, q_trt, q_ixl, q_ixt, q_sll, q_slt, q_sls, q_lenl, q_lent, q_inti, q_absi, q_lisl, q_list, q_tupl, q_tupt, q_all, q_max, q_min, q_itl, q_itt, q_seql, q_seqt, q_rng1, q_rng2, q_enu1, q_enu2, q_end1, q_end2, q_own, q_val, q_st1, q_stt, q_sta0, q_sta1, q_re1, q_re0, q_appA, q_appioA, q_appkA, ↓bind_o, obind_some, List.getElem?_cons_zero, List.getElem?_cons_succ, List.set_cons_zero, List.set_cons_succ, lockS, slotL, Fz.atS, putL, runD, en0, vals, setS, opStop, wipeE, wipeS, restE, restS, plainS, szB_of, posB_of, b62_of, mulB_of, divB_of, powB_of, repB_one, timB_one, flat_one, I_rep, atI_0, atI_1, atI_2, atI_3, atI_4, ixN_of, cut_from, cut_to, eqv_int, eqv_none, shp_int, shp_bool, shp_none, zip_I]
theorem t24 {c : Int} {v : D} (h9 : kAt fs 9 0 0 [] [.int c, F, .int p] = some (false, v)) (h21 : cAt fs 21 [.int p, F, .int c] = some (false, v)) (hs : cAt fs 13 [v, v] = some (false, .bool true)) :
    evS ⟨N, fs, WW⟩ (n + 20) L_24 ⟨[.val sc, .own B, a2, .val (.int p), a4, a5, a6, .val F, a8, a9, a10, a11, a12, a13, a14, a15, a16, .val (.int c)], []⟩ = some (.nx ⟨[.val sc, .own B, a2, .val (.int p), a4, a5, a6, .val F, a8, a9, a10, a11, a12, a13, a14, a15, a16, .val (.int c)], []⟩) := by
  unfold L_24
  simp (config := {implicitDefEqProofs := false}) (disch := omega) [h9, h21, hs, q_int, q_bl, q_non, q_nm, q_bin, q_neg, q_negI, q_not, q_bop, q_ife, q_cmp, q_ix, q_ixn, q_sl, q_sln, q_blt, q_lenn, q_isi, q_lst, q_tup, q_lc, q_push, q_pop, q_evc, q_to0, q_to1, q_o0, q_o1, q_intD, q_a0, q_a1, q_tnt, q_tbop, q_tcmp, q_tval, q_tnm, q_iseq, q_irng, q_ienu, q_izip, q_irev, q_sset, q_stgt, q_spar, q_sput, q_sret, q_sretn, q_sife, q_swhl, q_sfor, q_sex, q_spass, q_sbrk, q_scnt, q_ss0, q_ss1, q_gonx, q_gort, q_gobk, q_goct, q_add, q_addl, q_addt, q_sub, q_mul, q_mull, q_mult, q_div, q_mod, q_pow, q_eq, q_ne, q_lt, q_le, q_gt, q_ge, q_is1, q_is2, q_is3, q_is4, q_is5, q_tr0, q_trb, q_tri, q_trl, q_trt, q_ixl, q_ixt, q_sll, q_slt, q_sls, q_lenl, q_lent, q_inti, q_absi, q_lisl, q_list, q_tupl, q_tupt, q_all, q_max, q_min, q_itl, q_itt, q_seql, q_seqt, q_rng1, q_rng2, q_enu1, q_enu2, q_end1, q_end2, q_own, q_val, q_st1, q_stt, q_sta0, q_sta1, q_re1, q_re0, q_appA, q_appioA, q_appkA, ↓bind_o, obind_some, List.getElem?_cons_zero, List.getElem?_cons_succ, List.set_cons_zero, List.set_cons_succ, lockS, slotL, Fz.atS, putL, runD, en0, vals, setS, opStop, wipeE, wipeS, restE, restS, plainS, szB_of, posB_of, b62_of, mulB_of, divB_of, powB_of, repB_one, timB_one, flat_one, I_rep, atI_0, atI_1, atI_2, atI_3, atI_4, ixN_of, cut_from, cut_to, eqv_int, eqv_none, shp_int, shp_bool, shp_none, zip_I]
theorem t25 {W : D} (h5 : cAt fs 5 [.int p, G, F] = some (false, M)) (h6 : cAt fs 6 [.int p, M, .int (-1)] = some (false, W)) (h3 : cAt fs 3 [.int p, M, W] = some (false, .tuple [])) (hs : cAt fs 13 [.tuple [], .tuple []] = some (false, .bool true)) :
    evS ⟨N, fs, WW⟩ (n + 20) L_25 ⟨[.val sc, .own B, a2, .val (.int p), a4, a5, a6, .val F, .val G, .val (.list [A, S, M]), a10, a11, a12, a13, a14, a15, a16, a17], []⟩ = some (.nx ⟨[.val sc, .own B, a2, .val (.int p), a4, a5, a6, .val F, .val G, .val (.list [A, S, M]), a10, a11, a12, a13, a14, a15, a16, a17], []⟩) := by
  unfold L_25
  simp (config := {implicitDefEqProofs := false}) (disch := omega) [h5, h6, h3, hs, q_int, q_bl, q_non, q_nm, q_bin, q_neg, q_negI, q_not, q_bop, q_ife, q_cmp, q_ix, q_ixn, q_sl, q_sln, q_blt, q_lenn, q_isi, q_lst, q_tup, q_lc, q_push, q_pop, q_evc, q_to0, q_to1, q_o0, q_o1, q_intD, q_a0, q_a1, q_tnt, q_tbop, q_tcmp, q_tval, q_tnm, q_iseq, q_irng, q_ienu, q_izip, q_irev, q_sset, q_stgt, q_spar, q_sput, q_sret, q_sretn, q_sife, q_swhl, q_sfor, q_sex, q_spass, q_sbrk, q_scnt, q_ss0, q_ss1, q_gonx, q_gort, q_gobk, q_goct, q_add, q_addl, q_addt, q_sub, q_mul, q_mull, q_mult, q_div, q_mod, q_pow, q_eq, q_ne, q_lt, q_le, q_gt, q_ge, q_is1, q_is2, q_is3, q_is4, q_is5, q_tr0, q_trb, q_tri, q_trl, q_trt, q_ixl, q_ixt, q_sll, q_slt, q_sls, q_lenl, q_lent, q_inti, q_absi, q_lisl, q_list, q_tupl, q_tupt, q_all, q_max, q_min, q_itl, q_itt, q_seql, q_seqt, q_rng1, q_rng2, q_enu1, q_enu2, q_end1, q_end2, q_own, q_val, q_st1, q_stt, q_sta0, q_sta1, q_re1, q_re0, q_appA, q_appioA, q_appkA, ↓bind_o, obind_some, List.getElem?_cons_zero, List.getElem?_cons_succ, List.set_cons_zero, List.set_cons_succ, lockS, slotL, Fz.atS, putL, runD, en0, vals, setS, opStop, wipeE, wipeS, restE, restS, plainS, szB_of, posB_of, b62_of, mulB_of, divB_of, powB_of, repB_one, timB_one, flat_one, I_rep, atI_0, atI_1, atI_2, atI_3, atI_4, ixN_of, cut_from, cut_to, eqv_int, eqv_none, shp_int, shp_bool, shp_none, zip_I]
end
end K02
set_option Elab.async false
set_option linter.all false
set_option maxRecDepth 100000
set_option maxHeartbeats 4000000
namespace K02
open PySem PySem.Spec PyProof.Rows L2 Fz W1
structure Tab (fs : List (Str × Fn)) : Prop where
  a1 : At fs 1 false 2 d_form_of
  a2 : At fs 2 false 1 d_degree_of
  a3 : At fs 3 false 3 d_add
  a4 : At fs 4 false 3 d_subtract
  a5 : At fs 5 false 3 d_multiply
  a6 : At fs 6 false 3 d_scaled
  a7 : At fs 7 false 2 d_raised
  a8 : At fs 8 false 2 d_monic_of
  a9 : At fs 9 false 3 d_value_at
  a10 : At fs 10 false 1 d_bag
  a11 : At fs 11 true 2 d_draw
  a12 : At fs 12 true 2 d_of
  a13 : At fs 13 false 2 (d_same 2)
  a16 : At fs 16 true 1 d_prime
  a17 : At fs 17 false 1 d_trim
  a18 : At fs 18 false 3 d_add
  a19 : At fs 19 false 3 d_subtract
  a20 : At fs 20 false 3 d_multiply
  a21 : At fs 21 false 3 d_val
  a22 : At fs 22 false 2 d_is_form
  a24 : At fs 24 true 2 d_read
  a25 : At fs 25 true 2 d_pair
  a26 : At fs 26 false 4 d_values
  k1 : ∀ x y, kAt fs 1 0 0 [] [x, y] = cAt fs 1 [x, y]
  k2 : ∀ x, kAt fs 2 0 0 [] [x] = cAt fs 2 [x]
  k3 : ∀ x y z, kAt fs 3 0 0 [] [x, y, z] = cAt fs 3 [z, y, x]
  k4 : ∀ x y z, kAt fs 4 0 0 [] [x, y, z] = cAt fs 4 [z, y, x]
  k5 : ∀ x y z, kAt fs 5 0 0 [] [x, y, z] = cAt fs 5 [z, y, x]
  k6 : ∀ x y z, kAt fs 6 0 0 [] [x, y, z] = cAt fs 6 [z, y, x]
  k7 : ∀ x y, kAt fs 7 0 0 [] [x, y] = cAt fs 7 [y, x]
  k8 : ∀ x y, kAt fs 8 0 0 [] [x, y] = cAt fs 8 [y, x]
  k9 : ∀ x y z, kAt fs 9 0 0 [] [x, y, z] = cAt fs 9 [z, y, x]
/-! ### the mathematics of a turn -/
theorem sub_turn (p : Int) (f g : List Int) : formOf p (zsub [] (formOf p (zsub f g))) = formOf p (zsub g f) := by
  refine formOf_ext fun k => ?_
  rw [zsub_zs, zsub_zs g f, gd_zs, gd_zs, gd_formOf, zsub_zs, gd_zs, gd_nil, Int.sub_emod_emod]
  congr 1
  omega
theorem pm_comm (p : Int) (f g : List Int) : pm p f g = pm p g f := by
  unfold pm
  cases f with
  | nil => cases g <;> rfl
  | cons x f =>
    cases g with
    | nil => rfl
    | cons y g =>
      simp only [List.isEmpty_cons, Bool.or_false, Bool.false_eq_true, if_false]
      rw [mulRaw_comm (by simp) (by simp)]
theorem add_neg (p : Int) (m : List Int) : formOf p (zadd m (formOf p (m.map (-1 * ·)))) = [] := by
  refine trim_nil fun k => ?_
  rw [gd_map (u := (· % p)) (by simp), zadd_za, gd_za, gd_formOf, gd_map (u := (-1 * ·)) (by simp)]
  show (gd m k + (-1 * gd m k) % p) % p = 0
  rw [Int.add_emod_emod, show gd m k + -1 * gd m k = 0 by omega]
  simp
theorem inv_one {p : Nat} (hp : p ∈ PR) : inv p 1 = 1 := by
  have h2 := PR_le hp
  obtain ⟨_, i2, i3, i4⟩ := inv_ok hp (r := 1) (by decide) (by omega)
  rw [Int.mul_one, Int.emod_eq_of_lt i2 i3] at i4
  exact i4
theorem map_mod_id {p : Int} {f : List Int} (h : ∀ x ∈ f, 0 ≤ x ∧ x < p) : f.map (· % p) = f := by
  refine (List.map_congr_left fun x hx => ?_).trans (List.map_id f)
  exact Int.emod_eq_of_lt (h x hx).1 (h x hx).2
theorem formOf_id {p : Int} {f : List Int} (h : isForm p f) : formOf p f = f := by
  unfold formOf
  rw [map_mod_id h.1]
  exact h.2
theorem monic_monic {p : Nat} (hp : p ∈ PR) {f : List Int} (hf : isForm p f) : monic p (monic p f) = monic p f := by
  obtain ⟨h1, h2, h3, h4⟩ := monic_ok hp hf
  by_cases e : monic p f = []
  · rw [e]; simp [monic]
  · have hfe : f ≠ [] := by intro z; subst z; exact e (List.length_eq_zero_iff.mp h2)
    have h3' := h3 hfe
    generalize monic p f = m at *
    unfold monic
    rw [if_neg e, h3']
    show formOf p (m.map (inv p 1 * ·)) = _
    rw [inv_one hp]
    simp only [Int.one_mul, List.map_id_fun', id_eq]
    exact formOf_id h1
theorem conv_one (h : List Int) (y : Int) (k : Nat) : conv h [y] k = gd h k * y := by
  cases k with
  | zero => rw [conv_z, gd_z]
  | succ k =>
    rw [conv_r, conv_nil, Int.mul_comm]
    simp
theorem pm_last {p : Nat} (hp : p ∈ PR) {f : List Int} (hf : isForm p f) {y : Int} (hy : f.getLast? = some y) : pm p (monic p f) [y] = f := by
  obtain ⟨h1, h2, h3, h4⟩ := monic_ok hp hf
  have hfe : f ≠ [] := by intro z; rw [z] at hy; cases hy
  have hme : monic p f ≠ [] := by intro z; rw [z] at h2; exact hfe (List.length_eq_zero_iff.mp h2.symm)
  unfold pm
  rw [if_neg (by cases hq : monic p f with | nil => exact absurd hq hme | cons _ _ => simp)]
  refine trim_ext (formOf_trimmed _ _) hf.2 fun k => ?_
  rw [gd_formOf, gd_mulRaw hme (by simp), conv_one]
  have := h4 k
  rw [hy] at this
  exact this
theorem trim_mul (p a : Int) (f : List Int) : trim (f.map fun x => (a * x) % p) = formOf p (f.map (a * ·)) := by
  unfold formOf
  rw [List.map_map]
  rfl
end K02
set_option Elab.async false
set_option linter.all false
set_option maxRecDepth 100000
set_option maxHeartbeats 4000000
namespace K02
open PySem PySem.Spec PyProof.Rows L2 Fz W1
section
variable {fs : List (Str × Fn)} {N : List Str}
theorem call_read (hD : At fs 24 true 2 d_read) {b : Bag} {p : Int} (h : Inv b 999980000) (h0 : 0 < p) (h1 : p < 100) : bAt fs 24 (bagD b) [.int p] = some (false, .tuple [.list (I (readB b p).1), .tuple (I (formOf p (readB b p).1))], bagD (readB b p).2) := by
  refine hD.b rfl ?_
  unfold d_read withBag
  dsimp only
  rw [bagOf_D]
  simp only [Option.bind_some]
  rw [if_pos h, if_pos ⟨h0, h1⟩]
  rfl
theorem call_pair (hD : At fs 25 true 2 d_pair) {b : Bag} {p : Int} (h : Inv b 999998000) (h0 : 1 < p) (h1 : p < 100) : bAt fs 25 (bagD b) [.int p] = some (false, .tuple [.tuple (I (pairB b p).1.1), .tuple (I (pairB b p).1.2)], bagD (pairB b p).2) := by
  refine hD.b rfl ?_
  unfold d_pair withBag
  dsimp only
  rw [bagOf_D]
  simp only [Option.bind_some]
  rw [if_pos h, if_pos ⟨h0, h1⟩]
  rfl
theorem sd_leaf {d : D} (n : Nat) (h : leaf d = true) : sd n d = true := by
  cases n with
  | zero => exact h
  | succ n => cases d <;> first | exact h | cases h
theorem sd_I (n : Nat) (f : List Int) : (I f).all (sd n) = true := by
  rw [List.all_eq_true]
  intro x hx
  obtain ⟨i, _, rfl⟩ := List.mem_map.mp hx
  exact sd_leaf n rfl
theorem sd_tup (n : Nat) {f : List Int} (h : f.length ≤ 1000) : sd (n + 1) (.tuple (I f)) = true := by
  show (decide ((I f).length ≤ 100000) && (I f).all (sd n)) = true
  rw [sd_I, I_len, decide_eq_true (show f.length ≤ 100000 by omega)]
  rfl
theorem sd_lst (n : Nat) {l : List D} (h : l.length ≤ 1000) (ha : ∀ x ∈ l, sd n x = true) : sd (n + 1) (.list l) = true := by
  show (decide (l.length ≤ 100000) && l.all (sd n)) = true
  rw [List.all_eq_true.mpr ha, decide_eq_true (show l.length ≤ 100000 by omega)]
  rfl
theorem dg_leaf (f : List Int) : leaf (dg f) = true := by
  unfold dg
  split <;> rfl
theorem formOf_len (p : Int) (f : List Int) : (formOf p f).length ≤ f.length := by
  unfold formOf
  exact Nat.le_trans (trim_le _) (by rw [List.length_map]; exact Nat.le_refl _)
theorem zadd_len (f g : List Int) : (zadd f g).length ≤ f.length + g.length := by
  unfold zadd
  simp
  omega
theorem zsub_len (f g : List Int) : (zsub f g).length ≤ f.length + g.length := by
  unfold zsub
  simp
  omega
theorem pm_len (p : Int) (f g : List Int) : (pm p f g).length ≤ f.length + g.length := by
  unfold pm
  split
  · simp
  · refine Nat.le_trans (formOf_len _ _) ?_
    rw [mulRaw_len]
    omega
abbrev body : List RS := [L_0, L_1, L_2, L_3, L_4, L_5, L_6, L_7, L_8, L_9, L_10, L_11, L_12, L_13, L_14, L_15, L_16, L_17, L_18, L_19, L_20, L_21, L_22, L_23, L_24, L_25]
def Sp (b : Bag) (sc : D) (e : En) : Prop := ∃ a2 a3 a4 a5 a6 a7 a8 a9 a10 a11 a12 a13 a14 a15 a16 a17, Plain a12 ∧ Plain a16 ∧ e = ⟨[.val sc, .own (bagD b), a2, a3, a4, a5, a6, a7, a8, a9, a10, a11, a12, a13, a14, a15, a16, a17], []⟩
theorem a_draws : ∀ x ∈ [PyData.int 0, .int 1, .int 2, .int 5, .int 30], ∃ i : Int, x = .int i ∧ 0 ≤ i ∧ i ≤ 30 := by
  intro x hx
  simp only [List.mem_cons, List.not_mem_nil, or_false] at hx
  rcases hx with rfl | rfl | rfl | rfl | rfl <;> exact ⟨_, rfl, by decide, by decide⟩
theorem turn (T : Tab fs) {b : Bag} {m : Int} (hb : Inv b m) (hm : m ≤ 900000000) {sc d : D} {e : En} (he : Sp b sc e) : ∃ b' e', Inv b' (m + 400) ∧ Sp b' sc e' ∧ bodyF ⟨N, fs, WW⟩ 97 (.one 2) body d e = some (.nx e') := by
  obtain ⟨a2, a3, a4, a5, a6, a7, a8, a9, a10, a11, a12, a13, a14, a15, a16, a17, h12, h16, rfl⟩ := he
  -- the prime
  have c0 := call_prime T.a16 (hb.up (by omega))
  obtain ⟨v0, q, hq, eq⟩ := prime_inv hb
  rw [eq] at c0
  have hq2 := PR_le hq
  generalize primeB b = X0 at *
  -- numbers
  have c1 := call_read T.a24 (b := X0.2) (p := (q : Int)) (v0.up (by omega)) (by omega) (by omega)
  obtain ⟨v1, l1, g1⟩ := read_inv (p := (q : Int)) v0 (by omega) (by omega)
  generalize readB X0.2 (q : Int) = X1 at *
  have c3 := call_form T.a1 (p := (q : Int)) (ns := X1.1) (by omega) (by omega) rfl
  have c3' : kAt fs 1 0 0 [] [.int (q : Int), .tuple (I X1.1)] = some (false, .tuple (I (formOf q X1.1))) := by
    rw [T.k1]
    refine T.a1.c (l := []) rfl ?_
    simp [d_form_of, seqD]
    omega
  have s3 := call_same T.a13 (sd_tup 1 (f := formOf q X1.1) (Nat.le_trans (formOf_len _ _) (by omega)))
  -- two forms
  have c4 := call_pair T.a25 (b := X1.2) (p := (q : Int)) (v1.up (by omega)) (by omega) (by omega)
  obtain ⟨v4, hf, lf, hg, lg⟩ := pair_inv (p := (q : Int)) v1 (by omega)
  generalize pairB X1.2 (q : Int) = X4 at *
  obtain ⟨⟨f, g⟩, b4⟩ := X4
  dsimp only at *
  have sf := small_form (p := (q : Int)) (by omega) hf.1
  have sg := small_form (p := (q : Int)) (by omega) hg.1
  have hq0 : (0 : Int) < (q : Int) := by omega
  -- sums and products
  have d3 := call_add T.a3 (p := (q : Int)) (f := f) (g := g) hq0 (by omega) (by omega)
  have d4 := call_sub T.a4 (p := (q : Int)) (f := f) (g := g) hq0 (by omega) (by omega)
  have d5 := call_mul T.a5 (p := (q : Int)) (f := f) (g := g) hq0 (by omega) (by omega) sf sg
  have d18 := call_add T.a18 (p := (q : Int)) (f := f) (g := g) hq0 (by omega) (by omega)
  have d19 := call_sub T.a19 (p := (q : Int)) (f := f) (g := g) hq0 (by omega) (by omega)
  have d20 := call_mul T.a20 (p := (q : Int)) (f := f) (g := g) hq0 (by omega) (by omega) sf sg
  have lA : (formOf (q : Int) (zadd f g)).length ≤ 100 := Nat.le_trans (formOf_len _ _) (Nat.le_trans (zadd_len _ _) (by omega))
  have lS : (formOf (q : Int) (zsub f g)).length ≤ 100 := Nat.le_trans (formOf_len _ _) (Nat.le_trans (zsub_len _ _) (by omega))
  have lM : (pm (q : Int) f g).length ≤ 100 := Nat.le_trans (pm_len _ _ _) (by omega)
  have lS2 : (formOf (q : Int) (zsub g f)).length ≤ 100 := Nat.le_trans (formOf_len _ _) (Nat.le_trans (zsub_len _ _) (by omega))
  have s6 : cAt fs 13 [.list [.tuple (I (formOf q (zadd f g))), .tuple (I (formOf q (zsub f g))), .tuple (I (pm q f g))], .list [.tuple (I (formOf q (zadd f g))), .tuple (I (formOf q (zsub f g))), .tuple (I (pm q f g))]] = some (false, .bool true) := by
    refine call_same T.a13 (sd_lst 1 (by simp) fun x hx => ?_)
    simp only [List.mem_cons, List.not_mem_nil, or_false] at hx
    rcases hx with rfl | rfl | rfl <;> exact sd_tup 0 (by omega)
  have d26 : cAt fs 26 [.int q, .tuple (I f), .tuple (I g), .list [.tuple (I (formOf q (zadd f g))), .tuple (I (formOf q (zsub f g))), .tuple (I (pm q f g))]] = some (false, .bool true) := by
    refine T.a26.c (l := []) rfl ?_
    unfold d_values
    simp only [allI_I, Option.bind_some]
    rw [if_pos ⟨hq0, by omega, hf, hg, rfl⟩]
  -- by names
  have e3 : kAt fs 3 0 0 [] [.tuple (I g), .tuple (I f), .int q] = some (false, .tuple (I (formOf q (zadd f g)))) := by rw [T.k3]; exact d3
  have e4 : kAt fs 4 0 0 [] [.tuple (I f), .tuple (I g), .int q] = some (false, .tuple (I (formOf q (zsub g f)))) := by rw [T.k4]; exact call_sub T.a4 hq0 (by omega) (by omega)
  have e5 : kAt fs 5 0 0 [] [.tuple (I g), .tuple (I f), .int q] = some (false, .tuple (I (pm q f g))) := by rw [T.k5]; exact d5
  have e9 : cAt fs 19 [.int q, .tuple [], .tuple (I (formOf q (zsub f g)))] = some (false, .tuple (I (formOf q (zsub g f)))) := by
    have := call_sub T.a19 (f := []) (g := formOf q (zsub f g)) hq0 (by simp) (by omega)
    rw [sub_turn] at this
    exact this
  have s9 : cAt fs 13 [.list [.tuple (I (formOf q (zadd f g))), .tuple (I (formOf q (zsub g f))), .tuple (I (pm q f g))], .list [.tuple (I (formOf q (zadd f g))), .tuple (I (formOf q (zsub g f))), .tuple (I (pm q f g))]] = some (false, .bool true) := by
    refine call_same T.a13 (sd_lst 1 (by simp) fun x hx => ?_)
    simp only [List.mem_cons, List.not_mem_nil, or_false] at hx
    rcases hx with rfl | rfl | rfl <;> exact sd_tup 0 (by omega)
  have d25 : cAt fs 5 [.int q, .tuple (I g), .tuple (I f)] = some (false, .tuple (I (pm q f g))) := by
    rw [pm_comm]
    exact call_mul T.a5 hq0 (by omega) (by omega) sg sf
  have mM : ∀ x ∈ pm (q : Int) f g, small x := small_form (by omega) (pm_form hq0 f g).1
  have f25 : cAt fs 6 [.int q, .tuple (I (pm q f g)), .int (-1)] = some (false, .tuple (I (formOf q ((pm q f g).map (-1 * ·))))) := call_scaled T.a6 hq0 (by omega) (small_of (by decide) (by decide)) mM
  have g25 : cAt fs 3 [.int q, .tuple (I (pm q f g)), .tuple (I (formOf q ((pm q f g).map (-1 * ·))))] = some (false, .tuple []) := by
    have := call_add T.a3 (p := (q : Int)) (f := pm q f g) (g := formOf q ((pm q f g).map (-1 * ·))) hq0 (by omega) (Nat.le_trans (formOf_len _ _) (by rw [List.length_map]; omega))
    rw [add_neg] at this
    exact this
  have s25 : cAt fs 13 [.tuple [], .tuple []] = some (false, .bool true) := call_same T.a13 (sd_tup 1 (f := []) (by simp))
  -- degrees
  have d2 : ∀ f : List Int, cAt fs 2 [.tuple (I f)] = some (false, dg f) := fun f => call_degree T.a2
  have e2 : kAt fs 2 0 0 [] [.tuple (I f)] = some (false, dg f) := by rw [T.k2]; exact d2 f
  have s12 : cAt fs 13 [.list [dg f, dg g, dg (formOf q (zadd f g)), dg (pm q f g), dg [], dg f], .list ([f, g, formOf q (zadd f g), pm q f g, [], f].map dg)] = some (false, .bool true) := by
    refine call_same T.a13 (sd_lst 1 (by simp) fun x hx => ?_)
    simp only [List.map_cons, List.map_nil, List.mem_cons, List.not_mem_nil, or_false] at hx
    rcases hx with rfl | rfl | rfl | rfl | rfl | rfl <;> exact sd_leaf 1 (dg_leaf _)
  generalize formOf (q : Int) (zsub g f) = S2 at *
  generalize hA : formOf (q : Int) (zadd f g) = A at *
  generalize hS : formOf (q : Int) (zsub f g) = S at *
  generalize hM : pm (q : Int) f g = M at *
  -- numbers to scale and to raise by
  have c13a := call_draw T.a11 (b := b4) (top := 1000000000) (v4.up (by omega)) (by decide) (by decide)
  obtain ⟨v13, x13, y13⟩ := draw_inv (top := 1000000000) v4 (by decide)
  generalize draw b4 1000000000 = X13 at *
  have c13b := call_draw T.a11 (b := X13.2) (top := 1000000000) (v13.up (by omega)) (by decide) (by decide)
  obtain ⟨w13, z13, t13'⟩ := draw_inv (top := 1000000000) v13 (by decide)
  generalize draw X13.2 1000000000 = Y13 at *
  have c13c := call_of T.a12 (b := Y13.2) (xs := [.int 0, .int 1, .int (-1), .int q, .int (-q), .int (q + 1), .int (q - 1), .int X13.1, .int (0 - Y13.1)]) (w13.up (by omega)) (by intro h; cases h) (by simp)
  obtain ⟨u13, m13⟩ := of_inv w13 (xs := [.int 0, .int 1, .int (-1), .int q, .int (-q), .int (q + 1), .int (q - 1), .int X13.1, .int (0 - Y13.1)]) (by intro h; cases h)
  have k13 : ∃ a : Int, (ofL Y13.2 [.int 0, .int 1, .int (-1), .int q, .int (-q), .int (q + 1), .int (q - 1), .int X13.1, .int (0 - Y13.1)]).1 = .int a ∧ -1000000000 ≤ a ∧ a ≤ 1000000000 := by
    generalize (ofL _ _).1 = x at m13 ⊢
    simp only [List.mem_cons, List.not_mem_nil, or_false] at m13
    rcases m13 with rfl | rfl | rfl | rfl | rfl | rfl | rfl | rfl | rfl
    all_goals exact ⟨_, rfl, by omega, by omega⟩
  obtain ⟨a, ea, a0, a1⟩ := k13
  rw [ea] at c13c
  generalize ofL Y13.2 [.int 0, .int 1, .int (-1), .int q, .int (-q), .int (q + 1), .int (q - 1), .int X13.1, .int (0 - Y13.1)] = Z13 at *
  have c14 := call_of T.a12 (b := Z13.2) (xs := [.int 0, .int 1, .int 2, .int 5, .int 30]) (u13.up (by omega)) (by intro h; cases h) (by simp)
  obtain ⟨v14, m14⟩ := of_inv u13 (xs := [.int 0, .int 1, .int 2, .int 5, .int 30]) (by intro h; cases h)
  obtain ⟨r, er, r0, r1⟩ := a_draws _ m14
  rw [er] at c14
  generalize ofL Z13.2 [.int 0, .int 1, .int 2, .int 5, .int 30] = X14 at *
  have sa : small a := small_of (by omega) (by omega)
  have c16 : cAt fs 17 [.list (I (f.map fun x => (a * x) % (q : Int)))] = some (false, .tuple (I (formOf q (f.map (a * ·))))) := by
    rw [← trim_mul]
    exact call_trim T.a17 (by rw [List.length_map]; omega) rfl
  have c17 := call_scaled T.a6 (p := (q : Int)) (n := a) (f := f) hq0 (by omega) sa sf
  have c17b := call_raised T.a7 (n := r) (f := f) r0 (by omega) (by omega)
  have lW : (formOf (q : Int) (f.map (a * ·))).length ≤ 100 := Nat.le_trans (formOf_len _ _) (by rw [List.length_map]; omega)
  have lV : (up f r.toNat).length ≤ 100 := by
    unfold up
    split
    · simp
    · rw [List.length_append, List.length_replicate]
      omega
  have s17 : cAt fs 13 [.list [.tuple (I (formOf q (f.map (a * ·)))), .tuple (I (up f r.toNat))], .list [.tuple (I (formOf q (f.map (a * ·)))), .tuple (I (up f r.toNat))]] = some (false, .bool true) := by
    refine call_same T.a13 (sd_lst 1 (by simp) fun x hx => ?_)
    simp only [List.mem_cons, List.not_mem_nil, or_false] at hx
    rcases hx with rfl | rfl <;> exact sd_tup 0 (by omega)
  have e6 : kAt fs 6 0 0 [] [.int a, .tuple (I f), .int q] = some (false, .tuple (I (formOf q (f.map (a * ·))))) := by rw [T.k6]; exact c17
  have e7 : kAt fs 7 0 0 [] [.int r, .tuple (I f)] = some (false, .tuple (I (up f r.toNat))) := by rw [T.k7]; exact c17b
  -- the monic form
  obtain ⟨h1, h2, h3, h4⟩ := monic_ok hq hf
  have c19 := call_monic T.a8 hq hf (by omega)
  have c20 := call_is_form T.a22 h1 (by omega)
  have c21 : kAt fs 8 0 0 [] [.tuple (I (monic q f)), .int q] = some (false, .tuple (I (monic q f))) := by
    rw [T.k8]
    have := call_monic T.a8 hq h1 (by omega)
    rw [monic_monic hq hf] at this
    exact this
  have s21 : cAt fs 13 [.tuple (I (monic q f)), .tuple (I (monic q f))] = some (false, .bool true) := call_same T.a13 (sd_tup 1 (by omega))
  have c22 : ∀ y, f.getLast? = some y → cAt fs 20 [.int q, .tuple (I (monic q f)), .tuple [.int y]] = some (false, .tuple (I f)) := by
    intro y hy
    have hy2 : y ∈ f := List.mem_of_getLast? hy
    have := call_mul T.a20 (p := (q : Int)) (f := monic q f) (g := [y]) hq0 (by omega) (by simp) (small_form (by omega) h1.1) (by intro x hx; simp only [List.mem_singleton] at hx; subst hx; exact sf _ hy2)
    rw [pm_last hq hf hy] at this
    exact this
  have s22 : cAt fs 13 [.tuple (I f), .tuple (I f)] = some (false, .bool true) := call_same T.a13 (sd_tup 1 (by omega))
  -- a value
  have c23 := call_draw T.a11 (b := X14.2) (top := (q : Int)) (v14.up (by omega)) (by omega) (by omega)
  obtain ⟨v23, x23, y23⟩ := draw_inv (top := (q : Int)) v14 (by omega)
  generalize draw X14.2 (q : Int) = X23 at *
  have c24 := call_val T.a21 (p := (q : Int)) (c := X23.1) (f := f) hq0 (by omega) x23 (by omega) hf.1
  have e24 : kAt fs 9 0 0 [] [.int X23.1, .tuple (I f), .int q] = some (false, .int (ev X23.1 f % q)) := by
    rw [T.k9]
    exact call_value_at T.a9 hq0 (by omega) x23 (by omega)
  have s24 : cAt fs 13 [.int (ev X23.1 f % q), .int (ev X23.1 f % q)] = some (false, .bool true) := call_same T.a13 rfl
  have R : bodyF ⟨N, fs, WW⟩ 97 (.one 2) body d ⟨[.val sc, .own (bagD b), a2, a3, a4, a5, a6, a7, a8, a9, a10, a11, a12, a13, a14, a15, a16, a17], []⟩ = some (.nx ⟨[.val sc, .own (bagD X23.2), .val d, .val (.int q), .val (.list (I X1.1)), .val (.list [.tuple (I (formOf q (f.map (a * ·)))), .tuple (I (up f r.toNat))]), .val (.list (I X1.1)), .val (.tuple (I f)), .val (.tuple (I g)), .val (.list [.tuple (I A), .tuple (I S), .tuple (I M)]), .val (.list [.tuple (I A), .tuple (I S2), .tuple (I M)]), .val (.list [.tuple (I f), .tuple (I g), .tuple (I A), .tuple (I M), .tuple [], .tuple (I f)]), .val (.tuple (I (monic q f))), .val (.int a), .val (.int r), .val (.tuple (I (up f r.toNat))), a16, .val (.int X23.1)], []⟩) := by
    show evSs _ 97 body ⟨[.val sc, .own (bagD b), .val d, a3, a4, a5, a6, a7, a8, a9, a10, a11, a12, a13, a14, a15, a16, a17], []⟩ = _
    refine ss_nx (n := 96) (t0 (n := 76) c0) ?_
    refine ss_nx (n := 95) (t1 (n := 75) c1) ?_
    refine ss_nx (n := 94) (t2 (n := 74) (by omega)) ?_
    refine ss_nx (n := 93) (t3 (n := 73) (by omega) c3 c3' s3) ?_
    refine ss_nx (n := 92) (t4 (n := 72) c4) ?_
    refine ss_nx (n := 91) (t5 (n := 71) d3 d4 d5) ?_
    refine ss_nx (n := 90) (t6 (n := 70) d18 d19 d20 s6) ?_
    refine ss_nx (n := 89) (t7 (n := 69) d26) ?_
    refine ss_nx (n := 88) (t8 (n := 68) e3 e4 e5) ?_
    refine ss_nx (n := 87) (t9 (n := 67) e9 s9) ?_
    refine ss_nx (n := 86) (t10 (n := 66)) ?_
    refine ss_nx (n := 85) (t11 (n := 65) h12 (xs := [f, g, A, M, [], f]) rfl (by simp)) ?_
    refine ss_nx (n := 84) (t12 (n := 64) h12 (f5 := []) d2 e2 s12) ?_
    refine ss_nx (n := 83) (t13 (n := 61) hq0 (by omega) c13a c13b c13c) ?_
    refine ss_nx (n := 82) (t14 (n := 62) c14) ?_
    refine ss_nx (n := 81) (t15 (n := 61) r0 (by omega) (by omega)) ?_
    refine ss_nx (n := 80) (t16 (n := 60) h16 hq0 (fun x hx => small_mul sa (sf x hx)) (by omega) c16) ?_
    refine ss_nx (n := 79) (t17 (n := 59) c17 c17b s17) ?_
    refine ss_nx (n := 78) (t18 (n := 58) e6 e7 s17) ?_
    refine ss_nx (n := 77) (t19 (n := 57) c19) ?_
    refine ss_nx (n := 76) (t20 (n := 56) c20 h2 (fun hne => h3 (fun z => by subst z; exact hne (List.length_eq_zero_iff.mp h2)))) ?_
    refine ss_nx (n := 75) (t21 (n := 55) c21 s21) ?_
    refine ss_nx (n := 74) (t22 (n := 54) c22 s22) ?_
    refine ss_nx (n := 73) (t23 (n := 53) c23) ?_
    refine ss_nx (n := 72) (t24 (n := 52) e24 c24 s24) ?_
    refine ss_nx (n := 71) (t25 (n := 51) d25 f25 g25 s25) ?_
    rfl
  exact ⟨X23.2, _, v23.up (by omega), ⟨_, _, _, _, _, _, _, _, _, _, _, _, _, _, _, _, .inr ⟨_, rfl⟩, h16, rfl⟩, R⟩
end
end K02
set_option Elab.async false
set_option linter.all false
set_option maxRecDepth 100000
set_option maxHeartbeats 4000000
namespace K02
open PySem PySem.Spec PyProof.Rows L2 Fz W1
section
variable {fs : List (Str × Fn)} {N : List Str}
theorem turns (T : Tab fs) {sc : D} : ∀ (ds : List D) {b : Bag} {m : Int} {e : En}, Inv b m → m + 400 * ds.length ≤ 900000000 → Sp b sc e → ∃ b' e', Sp b' sc e' ∧ forL (bodyF ⟨N, fs, WW⟩ 97 (.one 2) body) ds e = some (.nx e')
  | [], b, m, e, _, _, he => ⟨b, e, he, rfl⟩
  | d :: ds, b, m, e, hb, hm, he => by
    have hm' : m + 400 * ((ds.length + 1 : Nat) : Int) ≤ 900000000 := hm
    obtain ⟨b1, e1, h1, h2, h3⟩ := turn (N := N) T hb (by omega) (d := d) he
    obtain ⟨b2, e2, h4, h5⟩ := turns T ds h1 (by omega) h2
    exact ⟨b2, e2, h4, by rw [forL_nx h3]; exact h5⟩
def B_law : List RS := [.set 1 (.app 10 [(.nm 0)]), .for (.one 2) (.rng [(.int 4)]) body, .ret (.bl true)]
def d_law : List D → Option (Bool × D × List D)
  | [.dict [(.none, .list l)]] => (allI l).map fun _ => (false, .bool true, [])
  | _ => none
theorem run_law (hN : N.length = 18) (T : Tab fs) {ds : List D} {z : Bool × D × List D} (h : d_law ds = some z) : runD ⟨N, fs, WW⟩ 100 false B_law ds = some z := by
  unfold d_law at h
  split at h
  · rename_i l
    rw [Option.map_eq_some_iff] at h
    obtain ⟨cs, h1, rfl⟩ := h
    rw [allI_eq h1]
    have c10 := call_bag T.a10 cs
    obtain ⟨b', e', he, hl⟩ := turns (N := N) T (sc := .dict [(.none, .list (I cs))]) [.int 0, .int 1, .int 2, .int 3] (bag0_inv cs) (by decide) (e := ⟨[.val (.dict [(.none, .list (I cs))]), .own (bagD (bag0 cs)), .no, .no, .no, .no, .no, .no, .no, .no, .no, .no, .no, .no, .no, .no, .no, .no], []⟩) ⟨_, _, _, _, _, _, _, _, _, _, _, _, _, _, _, _, .inl rfl, .inl rfl, rfl⟩
    have hb : e'.bg = [] := by
      obtain ⟨_, _, _, _, _, _, _, _, _, _, _, _, _, _, _, _, _, _, rfl⟩ := he
      rfl
    have k1 : evS ⟨N, fs, WW⟩ 99 (.set 1 (.app 10 [(.nm 0)])) (en0 N.length false [.dict [(.none, .list (I cs))]]) = some (.nx ⟨[.val (.dict [(.none, .list (I cs))]), .own (bagD (bag0 cs)), .no, .no, .no, .no, .no, .no, .no, .no, .no, .no, .no, .no, .no, .no, .no, .no], []⟩) := by
      rw [hN]
      simp (config := {implicitDefEqProofs := false}) (disch := omega) [c10, List.replicate, q_int, q_bl, q_non, q_nm, q_bin, q_neg, q_negI, q_not, q_bop, q_ife, q_cmp, q_ix, q_ixn, q_sl, q_sln, q_blt, q_lenn, q_isi, q_lst, q_tup, q_lc, q_push, q_pop, q_evc, q_to0, q_to1, q_o0, q_o1, q_intD, q_a0, q_a1, q_tnt, q_tbop, q_tcmp, q_tval, q_tnm, q_iseq, q_irng, q_ienu, q_izip, q_irev, q_sset, q_stgt, q_spar, q_sput, q_sret, q_sretn, q_sife, q_swhl, q_sfor, q_sex, q_spass, q_sbrk, q_scnt, q_ss0, q_ss1, q_gonx, q_gort, q_gobk, q_goct, q_add, q_addl, q_addt, q_sub, q_mul, q_mull, q_mult, q_div, q_mod, q_pow, q_eq, q_ne, q_lt, q_le, q_gt, q_ge, q_is1, q_is2, q_is3, q_is4, q_is5, q_tr0, q_trb, q_tri, q_trl, q_trt, q_ixl, q_ixt, q_sll, q_slt, q_sls, q_lenl, q_lent, q_inti, q_absi, q_lisl, q_list, q_tupl, q_tupt, q_all, q_max, q_min, q_itl, q_itt, q_seql, q_seqt, q_rng1, q_rng2, q_enu1, q_enu2, q_end1, q_end2, q_own, q_val, q_st1, q_stt, q_sta0, q_sta1, q_re1, q_re0, q_appA, q_appioA, q_appkA, ↓bind_o, obind_some, List.getElem?_cons_zero, List.getElem?_cons_succ, List.set_cons_zero, List.set_cons_succ, lockS, slotL, Fz.atS, putL, runD, en0, vals, setS, opStop, wipeE, wipeS, restE, restS, plainS, szB_of, posB_of, b62_of, mulB_of, divB_of, powB_of, repB_one, timB_one, flat_one, I_rep, atI_0, atI_1, atI_2, atI_3, atI_4, ixN_of, cut_from, cut_to, eqv_int, eqv_none, shp_int, shp_bool, shp_none, zip_I]
    have k2 : evS ⟨N, fs, WW⟩ 98 (.for (.one 2) (.rng [(.int 4)]) body) ⟨[.val (.dict [(.none, .list (I cs))]), .own (bagD (bag0 cs)), .no, .no, .no, .no, .no, .no, .no, .no, .no, .no, .no, .no, .no, .no, .no, .no], []⟩ = some (.nx e') := by
      rw [q_sfor]
      show (evI ⟨N, fs, WW⟩ 97 (.rng [(.int 4)]) _).bind _ = _
      rw [show evI ⟨N, fs, WW⟩ 97 (.rng [(.int 4)]) ⟨[.val (.dict [(.none, .list (I cs))]), .own (bagD (bag0 cs)), .no, .no, .no, .no, .no, .no, .no, .no, .no, .no, .no, .no, .no, .no, .no, .no], []⟩ = some ([.int 0, .int 1, .int 2, .int 3], ⟨[.val (.dict [(.none, .list (I cs))]), .own (bagD (bag0 cs)), .no, .no, .no, .no, .no, .no, .no, .no, .no, .no, .no, .no, .no, .no, .no, .no], []⟩) from rfl]
      exact hl
    unfold runD
    rw [show evSs ⟨N, fs, WW⟩ 100 B_law (en0 N.length false [.dict [(.none, .list (I cs))]]) = some (.rt false (.bool true) e') from ss_nx (n := 99) k1 (ss_nx (n := 98) k2 (ss_rt (n := 97) rfl))]
    show some (false, PyData.bool true, e'.bg) = _
    rw [hb]
  · cases h
theorem law_den' (cs : List Int) : d_law [.dict [(.none, .list (I cs))]] = some (false, .bool true, []) := by
  show (allI (I cs)).map _ = _
  rw [allI_I]
  rfl
end
end K02
set_option Elab.async false
set_option linter.all false
set_option maxRecDepth 100000
set_option maxHeartbeats 8000000
namespace K02
open PySem PySem.Spec PyProof.Rows L2 Fz W1
def topS (i : Nat) : Stmt := PySem.Challenge.pw_freetops_k02_forms_reckoned.main.body.getD i (.Pass ⟨0, 0, 0, 0⟩)
abbrev s_inverse : Stmt := topS 1
def N_inverse : List Str := ["prime", "residue", "high", "low", "before", "now", "quotient"]
def g_inverse (den : List D → Option (Bool × D × List D)) : Fn := ⟨["prime", "residue"], false, [], den⟩
abbrev s_form_of : Stmt := topS 3
def N_form_of : List Str := ["prime", "numbers", "residues", "number"]
def g_form_of (den : List D → Option (Bool × D × List D)) : Fn := ⟨["prime", "numbers"], false, [⟨0, ["prime", "numbers"], [0, 1]⟩], den⟩
abbrev s_degree_of : Stmt := topS 4
def N_degree_of : List Str := ["form"]
def g_degree_of (den : List D → Option (Bool × D × List D)) : Fn := ⟨["form"], false, [⟨0, ["form"], [0]⟩], den⟩
abbrev s_add : Stmt := topS 5
def N_add : List Str := ["prime", "one", "other", "shared", "a", "b", "many"]
def g_add (den : List D → Option (Bool × D × List D)) : Fn := ⟨["prime", "one", "other"], false, [⟨0, ["other", "one", "prime"], [2, 1, 0]⟩], den⟩
abbrev s_subtract : Stmt := topS 6
def N_subtract : List Str := ["prime", "one", "other", "shared", "a", "b", "many"]
def g_subtract (den : List D → Option (Bool × D × List D)) : Fn := ⟨["prime", "one", "other"], false, [⟨0, ["other", "one", "prime"], [2, 1, 0]⟩], den⟩
abbrev s_multiply : Stmt := topS 7
def N_multiply : List Str := ["prime", "one", "other", "sums", "shift", "factor", "at", "number"]
def g_multiply (den : List D → Option (Bool × D × List D)) : Fn := ⟨["prime", "one", "other"], false, [⟨0, ["other", "one", "prime"], [2, 1, 0]⟩], den⟩
abbrev s_scaled : Stmt := topS 8
def N_scaled : List Str := ["prime", "form", "number", "residue"]
def g_scaled (den : List D → Option (Bool × D × List D)) : Fn := ⟨["prime", "form", "number"], false, [⟨0, ["number", "form", "prime"], [2, 1, 0]⟩], den⟩
abbrev s_raised : Stmt := topS 9
def N_raised : List Str := ["form", "by"]
def g_raised (den : List D → Option (Bool × D × List D)) : Fn := ⟨["form", "by"], false, [⟨0, ["by", "form"], [1, 0]⟩], den⟩
abbrev s_monic_of : Stmt := topS 10
def N_monic_of : List Str := ["prime", "form"]
def g_monic_of (den : List D → Option (Bool × D × List D)) : Fn := ⟨["prime", "form"], false, [⟨0, ["form", "prime"], [1, 0]⟩], den⟩
abbrev s_value_at : Stmt := topS 11
def N_value_at : List Str := ["prime", "form", "point", "value", "residue"]
def g_value_at (den : List D → Option (Bool × D × List D)) : Fn := ⟨["prime", "form", "point"], false, [⟨0, ["point", "form", "prime"], [2, 1, 0]⟩], den⟩
abbrev s_q_bag : Stmt := topS 13
def N_q_bag : List Str := ["_law_script", "_law_mixed", "_law_cell"]
def g_q_bag (den : List D → Option (Bool × D × List D)) : Fn := ⟨["_law_script"], false, [], den⟩
abbrev s_q_draw : Stmt := topS 14
def N_q_draw : List Str := ["_law_bag_here", "_law_top", "_law_cell", "_law_digit", "_law_seed"]
def g_q_draw (den : List D → Option (Bool × D × List D)) : Fn := ⟨["_law_bag_here", "_law_top"], true, [], den⟩
abbrev s_q_of : Stmt := topS 15
def N_q_of : List Str := ["_law_bag_here", "_law_some"]
def g_q_of (den : List D → Option (Bool × D × List D)) : Fn := ⟨["_law_bag_here", "_law_some"], true, [], den⟩
abbrev s_q_same : Stmt := topS 16
def N_q_same : List Str := ["_law_found", "_law_due", "_law_a", "_law_b"]
def g_q_same (den : List D → Option (Bool × D × List D)) : Fn := ⟨["_law_found", "_law_due"], false, [], den⟩
abbrev s_q_is_num : Stmt := topS 17
def N_q_is_num : List Str := ["_law_v"]
def g_q_is_num (den : List D → Option (Bool × D × List D)) : Fn := ⟨["_law_v"], false, [], den⟩
abbrev s_q_primes : Stmt := topS 18
def N_q_primes : List Str := ["_law_a", "_law_b"]
def g_q_primes (den : List D → Option (Bool × D × List D)) : Fn := ⟨[], false, [], den⟩
abbrev s_q_prime : Stmt := topS 19
def N_q_prime : List Str := ["_law_bag_here"]
def g_q_prime (den : List D → Option (Bool × D × List D)) : Fn := ⟨["_law_bag_here"], true, [], den⟩
abbrev s_q_trim : Stmt := topS 20
def N_q_trim : List Str := ["_law_coefs", "_law_many"]
def g_q_trim (den : List D → Option (Bool × D × List D)) : Fn := ⟨["_law_coefs"], false, [], den⟩
abbrev s_q_plus : Stmt := topS 21
def N_q_plus : List Str := ["_law_p", "_law_f", "_law_g", "_law_many", "_law_k"]
def g_q_plus (den : List D → Option (Bool × D × List D)) : Fn := ⟨["_law_p", "_law_f", "_law_g"], false, [], den⟩
abbrev s_q_minus : Stmt := topS 22
def N_q_minus : List Str := ["_law_p", "_law_f", "_law_g", "_law_many", "_law_k"]
def g_q_minus (den : List D → Option (Bool × D × List D)) : Fn := ⟨["_law_p", "_law_f", "_law_g"], false, [], den⟩
abbrev s_q_mul : Stmt := topS 23
def N_q_mul : List Str := ["_law_p", "_law_f", "_law_g", "_law_sums", "_law_i", "_law_j", "_law_a"]
def g_q_mul (den : List D → Option (Bool × D × List D)) : Fn := ⟨["_law_p", "_law_f", "_law_g"], false, [], den⟩
abbrev s_q_val : Stmt := topS 24
def N_q_val : List Str := ["_law_p", "_law_f", "_law_c", "_law_found", "_law_power", "_law_a"]
def g_q_val (den : List D → Option (Bool × D × List D)) : Fn := ⟨["_law_p", "_law_f", "_law_c"], false, [], den⟩
abbrev s_q_is_form : Stmt := topS 25
def N_q_is_form : List Str := ["_law_p", "_law_v", "_law_a"]
def g_q_is_form (den : List D → Option (Bool × D × List D)) : Fn := ⟨["_law_p", "_law_v"], false, [], den⟩
abbrev s_q_form : Stmt := topS 26
def N_q_form : List Str := ["_law_bag_here", "_law_p", "_law_deg", "_law_k"]
def g_q_form (den : List D → Option (Bool × D × List D)) : Fn := ⟨["_law_bag_here", "_law_p", "_law_deg"], true, [], den⟩
abbrev s_q_read_numbers : Stmt := topS 27
def N_q_read_numbers : List Str := ["_law_bag_here", "_law_p", "_law_many", "_law_coefs", "_law_k", "_law_found", "_law_a"]
def g_q_read_numbers (den : List D → Option (Bool × D × List D)) : Fn := ⟨["_law_bag_here", "_law_p"], true, [], den⟩
abbrev s_q_pair : Stmt := topS 28
def N_q_pair : List Str := ["_law_bag_here", "_law_p", "_law_f", "_law_g", "_law_way", "_law_a", "_law_k", "_law_n"]
def g_q_pair (den : List D → Option (Bool × D × List D)) : Fn := ⟨["_law_bag_here", "_law_p"], true, [], den⟩
abbrev s_q_values_so : Stmt := topS 29
def N_q_values_so : List Str := ["_law_p", "_law_f", "_law_g", "_law_told", "_law_c", "_law_a", "_law_b", "_law_due", "_law_h"]
def g_q_values_so (den : List D → Option (Bool × D × List D)) : Fn := ⟨["_law_p", "_law_f", "_law_g", "_law_told"], false, [], den⟩
abbrev s_law : Stmt := topS 30
def N_law : List Str := ["_law_script", "_law_bag_here", "_law_turn", "_law_p", "_law_coefs", "_law_due", "_law_held", "_law_f", "_law_g", "_law_told", "_law_named", "_law_some", "_law_h", "_law_a", "_law_many", "_law_moved", "_law_b", "_law_c"]
def g_law (den : List D → Option (Bool × D × List D)) : Fn := ⟨["_law_script"], false, [], den⟩
theorem law_den (cs : List Int) (_ : cs.length ≤ 63) : ∃ l, (g_law d_law).den [.dict [(.none, .list (I cs))]] = some (false, .bool true, l) := ⟨[], law_den' cs⟩
noncomputable def fsA : List (Str × Fn) := [("inverse", g_inverse d_inverse), ("form_of", g_form_of d_form_of), ("degree_of", g_degree_of d_degree_of), ("add", g_add d_add), ("subtract", g_subtract d_subtract), ("multiply", g_multiply d_multiply), ("scaled", g_scaled d_scaled), ("raised", g_raised d_raised), ("monic_of", g_monic_of d_monic_of), ("value_at", g_value_at d_value_at), ("_law_bag", g_q_bag d_bag), ("_law_draw", g_q_draw d_draw), ("_law_of", g_q_of d_of), ("_law_same", g_q_same (d_same 2)), ("_law_is_num", g_q_is_num d_is_num), ("_law_primes", g_q_primes d_primes), ("_law_prime", g_q_prime d_prime), ("_law_trim", g_q_trim d_trim), ("_law_plus", g_q_plus d_add), ("_law_minus", g_q_minus d_subtract), ("_law_mul", g_q_mul d_multiply), ("_law_val", g_q_val d_val), ("_law_is_form", g_q_is_form d_is_form), ("_law_form", g_q_form d_form), ("_law_read_numbers", g_q_read_numbers d_read), ("_law_pair", g_q_pair d_pair), ("_law_values_so", g_q_values_so d_values), ("law", g_law d_law)]
theorem ck_inverse : ckSs ⟨N_inverse, fsA.take 0, 1048576⟩ 60 (defScope s_inverse) (defBody s_inverse) B_inverse = true := by decide +kernel
theorem sc_inverse : FnScope N_inverse ["prime", "residue"] (defScope s_inverse) := ⟨rfl, rfl, rfl, by decide +kernel, rfl, by decide +kernel, by decide +kernel⟩
theorem bd_inverse (den : List D → Option (Bool × D × List D)) : Bnd "inverse" s_inverse (g_inverse den) := ⟨fun _ _ _ _ _ _ us hl => match us, hl with | [_, _], _ => rfl, fun kw h => by cases h⟩
theorem ck_form_of : ckSs ⟨N_form_of, fsA.take 1, 1048576⟩ 60 (defScope s_form_of) (defBody s_form_of) B_form_of = true := by decide +kernel
theorem sc_form_of : FnScope N_form_of ["prime", "numbers"] (defScope s_form_of) := ⟨rfl, rfl, rfl, by decide +kernel, rfl, by decide +kernel, by decide +kernel⟩
theorem bd_form_of (den : List D → Option (Bool × D × List D)) : Bnd "form_of" s_form_of (g_form_of den) := ⟨fun _ _ _ _ _ _ us hl => match us, hl with | [_, _], _ => rfl, by
  intro kw h
  simp only [g_form_of, List.mem_cons, List.not_mem_nil, or_false] at h
  rcases h with rfl
  · exact fun _ _ _ _ _ _ us ws h1 h2 => match us, ws, h1, h2 with | [], [_, _], _, _ => rfl⟩
theorem ck_degree_of : ckSs ⟨N_degree_of, fsA.take 2, 1048576⟩ 60 (defScope s_degree_of) (defBody s_degree_of) B_degree_of = true := by decide +kernel
theorem sc_degree_of : FnScope N_degree_of ["form"] (defScope s_degree_of) := ⟨rfl, rfl, rfl, by decide +kernel, rfl, by decide +kernel, by decide +kernel⟩
theorem bd_degree_of (den : List D → Option (Bool × D × List D)) : Bnd "degree_of" s_degree_of (g_degree_of den) := ⟨fun _ _ _ _ _ _ us hl => match us, hl with | [_], _ => rfl, by
  intro kw h
  simp only [g_degree_of, List.mem_cons, List.not_mem_nil, or_false] at h
  rcases h with rfl
  · exact fun _ _ _ _ _ _ us ws h1 h2 => match us, ws, h1, h2 with | [], [_], _, _ => rfl⟩
theorem ck_add : ckSs ⟨N_add, fsA.take 3, 1048576⟩ 60 (defScope s_add) (defBody s_add) (B_add 1) = true := by decide +kernel
theorem sc_add : FnScope N_add ["prime", "one", "other"] (defScope s_add) := ⟨rfl, rfl, rfl, by decide +kernel, rfl, by decide +kernel, by decide +kernel⟩
theorem bd_add (den : List D → Option (Bool × D × List D)) : Bnd "add" s_add (g_add den) := ⟨fun _ _ _ _ _ _ us hl => match us, hl with | [_, _, _], _ => rfl, by
  intro kw h
  simp only [g_add, List.mem_cons, List.not_mem_nil, or_false] at h
  rcases h with rfl
  · exact fun _ _ _ _ _ _ us ws h1 h2 => match us, ws, h1, h2 with | [], [_, _, _], _, _ => rfl⟩
theorem ck_subtract : ckSs ⟨N_subtract, fsA.take 4, 1048576⟩ 60 (defScope s_subtract) (defBody s_subtract) (B_subtract 1) = true := by decide +kernel
theorem sc_subtract : FnScope N_subtract ["prime", "one", "other"] (defScope s_subtract) := ⟨rfl, rfl, rfl, by decide +kernel, rfl, by decide +kernel, by decide +kernel⟩
theorem bd_subtract (den : List D → Option (Bool × D × List D)) : Bnd "subtract" s_subtract (g_subtract den) := ⟨fun _ _ _ _ _ _ us hl => match us, hl with | [_, _, _], _ => rfl, by
  intro kw h
  simp only [g_subtract, List.mem_cons, List.not_mem_nil, or_false] at h
  rcases h with rfl
  · exact fun _ _ _ _ _ _ us ws h1 h2 => match us, ws, h1, h2 with | [], [_, _, _], _, _ => rfl⟩
theorem ck_multiply : ckSs ⟨N_multiply, fsA.take 5, 1048576⟩ 60 (defScope s_multiply) (defBody s_multiply) (B_multiply 1) = true := by decide +kernel
theorem sc_multiply : FnScope N_multiply ["prime", "one", "other"] (defScope s_multiply) := ⟨rfl, rfl, rfl, by decide +kernel, rfl, by decide +kernel, by decide +kernel⟩
theorem bd_multiply (den : List D → Option (Bool × D × List D)) : Bnd "multiply" s_multiply (g_multiply den) := ⟨fun _ _ _ _ _ _ us hl => match us, hl with | [_, _, _], _ => rfl, by
  intro kw h
  simp only [g_multiply, List.mem_cons, List.not_mem_nil, or_false] at h
  rcases h with rfl
  · exact fun _ _ _ _ _ _ us ws h1 h2 => match us, ws, h1, h2 with | [], [_, _, _], _, _ => rfl⟩
theorem ck_scaled : ckSs ⟨N_scaled, fsA.take 6, 1048576⟩ 60 (defScope s_scaled) (defBody s_scaled) (B_scaled 1) = true := by decide +kernel
theorem sc_scaled : FnScope N_scaled ["prime", "form", "number"] (defScope s_scaled) := ⟨rfl, rfl, rfl, by decide +kernel, rfl, by decide +kernel, by decide +kernel⟩
theorem bd_scaled (den : List D → Option (Bool × D × List D)) : Bnd "scaled" s_scaled (g_scaled den) := ⟨fun _ _ _ _ _ _ us hl => match us, hl with | [_, _, _], _ => rfl, by
  intro kw h
  simp only [g_scaled, List.mem_cons, List.not_mem_nil, or_false] at h
  rcases h with rfl
  · exact fun _ _ _ _ _ _ us ws h1 h2 => match us, ws, h1, h2 with | [], [_, _, _], _, _ => rfl⟩
theorem ck_raised : ckSs ⟨N_raised, fsA.take 7, 1048576⟩ 60 (defScope s_raised) (defBody s_raised) B_raised = true := by decide +kernel
theorem sc_raised : FnScope N_raised ["form", "by"] (defScope s_raised) := ⟨rfl, rfl, rfl, by decide +kernel, rfl, by decide +kernel, by decide +kernel⟩
theorem bd_raised (den : List D → Option (Bool × D × List D)) : Bnd "raised" s_raised (g_raised den) := ⟨fun _ _ _ _ _ _ us hl => match us, hl with | [_, _], _ => rfl, by
  intro kw h
  simp only [g_raised, List.mem_cons, List.not_mem_nil, or_false] at h
  rcases h with rfl
  · exact fun _ _ _ _ _ _ us ws h1 h2 => match us, ws, h1, h2 with | [], [_, _], _, _ => rfl⟩
theorem ck_monic_of : ckSs ⟨N_monic_of, fsA.take 8, 1048576⟩ 60 (defScope s_monic_of) (defBody s_monic_of) (B_monic_of 0 6) = true := by decide +kernel
theorem sc_monic_of : FnScope N_monic_of ["prime", "form"] (defScope s_monic_of) := ⟨rfl, rfl, rfl, by decide +kernel, rfl, by decide +kernel, by decide +kernel⟩
theorem bd_monic_of (den : List D → Option (Bool × D × List D)) : Bnd "monic_of" s_monic_of (g_monic_of den) := ⟨fun _ _ _ _ _ _ us hl => match us, hl with | [_, _], _ => rfl, by
  intro kw h
  simp only [g_monic_of, List.mem_cons, List.not_mem_nil, or_false] at h
  rcases h with rfl
  · exact fun _ _ _ _ _ _ us ws h1 h2 => match us, ws, h1, h2 with | [], [_, _], _, _ => rfl⟩
theorem ck_value_at : ckSs ⟨N_value_at, fsA.take 9, 1048576⟩ 60 (defScope s_value_at) (defBody s_value_at) B_value_at = true := by decide +kernel
theorem sc_value_at : FnScope N_value_at ["prime", "form", "point"] (defScope s_value_at) := ⟨rfl, rfl, rfl, by decide +kernel, rfl, by decide +kernel, by decide +kernel⟩
theorem bd_value_at (den : List D → Option (Bool × D × List D)) : Bnd "value_at" s_value_at (g_value_at den) := ⟨fun _ _ _ _ _ _ us hl => match us, hl with | [_, _, _], _ => rfl, by
  intro kw h
  simp only [g_value_at, List.mem_cons, List.not_mem_nil, or_false] at h
  rcases h with rfl
  · exact fun _ _ _ _ _ _ us ws h1 h2 => match us, ws, h1, h2 with | [], [_, _, _], _, _ => rfl⟩
theorem ck_q_bag : ckSs ⟨N_q_bag, fsA.take 10, 1048576⟩ 60 (defScope s_q_bag) (defBody s_q_bag) B_q_bag = true := by decide +kernel
theorem sc_q_bag : FnScope N_q_bag ["_law_script"] (defScope s_q_bag) := ⟨rfl, rfl, rfl, by decide +kernel, rfl, by decide +kernel, by decide +kernel⟩
theorem bd_q_bag (den : List D → Option (Bool × D × List D)) : Bnd "_law_bag" s_q_bag (g_q_bag den) := ⟨fun _ _ _ _ _ _ us hl => match us, hl with | [_], _ => rfl, fun kw h => by cases h⟩
theorem ck_q_draw : ckSs ⟨N_q_draw, fsA.take 11, 1048576⟩ 60 (defScope s_q_draw) (defBody s_q_draw) B_q_draw = true := by decide +kernel
theorem sc_q_draw : FnScope N_q_draw ["_law_bag_here", "_law_top"] (defScope s_q_draw) := ⟨rfl, rfl, rfl, by decide +kernel, rfl, by decide +kernel, by decide +kernel⟩
theorem bd_q_draw (den : List D → Option (Bool × D × List D)) : Bnd "_law_draw" s_q_draw (g_q_draw den) := ⟨fun _ _ _ _ _ _ us hl => match us, hl with | [_, _], _ => rfl, fun kw h => by cases h⟩
theorem ck_q_of : ckSs ⟨N_q_of, fsA.take 12, 1048576⟩ 60 (defScope s_q_of) (defBody s_q_of) (B_q_of 11) = true := by decide +kernel
theorem sc_q_of : FnScope N_q_of ["_law_bag_here", "_law_some"] (defScope s_q_of) := ⟨rfl, rfl, rfl, by decide +kernel, rfl, by decide +kernel, by decide +kernel⟩
theorem bd_q_of (den : List D → Option (Bool × D × List D)) : Bnd "_law_of" s_q_of (g_q_of den) := ⟨fun _ _ _ _ _ _ us hl => match us, hl with | [_, _], _ => rfl, fun kw h => by cases h⟩
theorem ck_q_same_0 : ckSs ⟨N_q_same, (fsA.take 13) ++ [(("_law_same" : Str), g_q_same (fun _ => none))], 1048576⟩ 60 (defScope s_q_same) (defBody s_q_same) (B_q_same 13) = true := by decide +kernel
theorem ck_q_same_1 : ckSs ⟨N_q_same, (fsA.take 13) ++ [(("_law_same" : Str), g_q_same (d_same 0))], 1048576⟩ 60 (defScope s_q_same) (defBody s_q_same) (B_q_same 13) = true := by decide +kernel
theorem ck_q_same_2 : ckSs ⟨N_q_same, (fsA.take 13) ++ [(("_law_same" : Str), g_q_same (d_same 1))], 1048576⟩ 60 (defScope s_q_same) (defBody s_q_same) (B_q_same 13) = true := by decide +kernel
theorem sc_q_same : FnScope N_q_same ["_law_found", "_law_due"] (defScope s_q_same) := ⟨rfl, rfl, rfl, by decide +kernel, rfl, by decide +kernel, by decide +kernel⟩
theorem bd_q_same (den : List D → Option (Bool × D × List D)) : Bnd "_law_same" s_q_same (g_q_same den) := ⟨fun _ _ _ _ _ _ us hl => match us, hl with | [_, _], _ => rfl, fun kw h => by cases h⟩
theorem ck_q_is_num : ckSs ⟨N_q_is_num, fsA.take 14, 1048576⟩ 60 (defScope s_q_is_num) (defBody s_q_is_num) B_q_is_num = true := by decide +kernel
theorem sc_q_is_num : FnScope N_q_is_num ["_law_v"] (defScope s_q_is_num) := ⟨rfl, rfl, rfl, by decide +kernel, rfl, by decide +kernel, by decide +kernel⟩
theorem bd_q_is_num (den : List D → Option (Bool × D × List D)) : Bnd "_law_is_num" s_q_is_num (g_q_is_num den) := ⟨fun _ _ _ _ _ _ us hl => match us, hl with | [_], _ => rfl, fun kw h => by cases h⟩
theorem ck_q_primes : ckSs ⟨N_q_primes, fsA.take 15, 1048576⟩ 60 (defScope s_q_primes) (defBody s_q_primes) B_q_primes = true := by decide +kernel
theorem sc_q_primes : FnScope N_q_primes [] (defScope s_q_primes) := ⟨rfl, rfl, rfl, by decide +kernel, rfl, by decide +kernel, by decide +kernel⟩
theorem bd_q_primes (den : List D → Option (Bool × D × List D)) : Bnd "_law_primes" s_q_primes (g_q_primes den) := ⟨fun _ _ _ _ _ _ us hl => match us, hl with | [], _ => rfl, fun kw h => by cases h⟩
theorem ck_q_prime : ckSs ⟨N_q_prime, fsA.take 16, 1048576⟩ 60 (defScope s_q_prime) (defBody s_q_prime) (B_q_prime 11 12 15) = true := by decide +kernel
theorem sc_q_prime : FnScope N_q_prime ["_law_bag_here"] (defScope s_q_prime) := ⟨rfl, rfl, rfl, by decide +kernel, rfl, by decide +kernel, by decide +kernel⟩
theorem bd_q_prime (den : List D → Option (Bool × D × List D)) : Bnd "_law_prime" s_q_prime (g_q_prime den) := ⟨fun _ _ _ _ _ _ us hl => match us, hl with | [_], _ => rfl, fun kw h => by cases h⟩
theorem ck_q_trim : ckSs ⟨N_q_trim, fsA.take 17, 1048576⟩ 60 (defScope s_q_trim) (defBody s_q_trim) B_q_trim = true := by decide +kernel
theorem sc_q_trim : FnScope N_q_trim ["_law_coefs"] (defScope s_q_trim) := ⟨rfl, rfl, rfl, by decide +kernel, rfl, by decide +kernel, by decide +kernel⟩
theorem bd_q_trim (den : List D → Option (Bool × D × List D)) : Bnd "_law_trim" s_q_trim (g_q_trim den) := ⟨fun _ _ _ _ _ _ us hl => match us, hl with | [_], _ => rfl, fun kw h => by cases h⟩
theorem ck_q_plus : ckSs ⟨N_q_plus, fsA.take 18, 1048576⟩ 60 (defScope s_q_plus) (defBody s_q_plus) (B_q_plus 17) = true := by decide +kernel
theorem sc_q_plus : FnScope N_q_plus ["_law_p", "_law_f", "_law_g"] (defScope s_q_plus) := ⟨rfl, rfl, rfl, by decide +kernel, rfl, by decide +kernel, by decide +kernel⟩
theorem bd_q_plus (den : List D → Option (Bool × D × List D)) : Bnd "_law_plus" s_q_plus (g_q_plus den) := ⟨fun _ _ _ _ _ _ us hl => match us, hl with | [_, _, _], _ => rfl, fun kw h => by cases h⟩
theorem ck_q_minus : ckSs ⟨N_q_minus, fsA.take 19, 1048576⟩ 60 (defScope s_q_minus) (defBody s_q_minus) (B_q_minus 17) = true := by decide +kernel
theorem sc_q_minus : FnScope N_q_minus ["_law_p", "_law_f", "_law_g"] (defScope s_q_minus) := ⟨rfl, rfl, rfl, by decide +kernel, rfl, by decide +kernel, by decide +kernel⟩
theorem bd_q_minus (den : List D → Option (Bool × D × List D)) : Bnd "_law_minus" s_q_minus (g_q_minus den) := ⟨fun _ _ _ _ _ _ us hl => match us, hl with | [_, _, _], _ => rfl, fun kw h => by cases h⟩
theorem ck_q_mul : ckSs ⟨N_q_mul, fsA.take 20, 1048576⟩ 60 (defScope s_q_mul) (defBody s_q_mul) (B_q_mul 17) = true := by decide +kernel
theorem sc_q_mul : FnScope N_q_mul ["_law_p", "_law_f", "_law_g"] (defScope s_q_mul) := ⟨rfl, rfl, rfl, by decide +kernel, rfl, by decide +kernel, by decide +kernel⟩
theorem bd_q_mul (den : List D → Option (Bool × D × List D)) : Bnd "_law_mul" s_q_mul (g_q_mul den) := ⟨fun _ _ _ _ _ _ us hl => match us, hl with | [_, _, _], _ => rfl, fun kw h => by cases h⟩
theorem ck_q_val : ckSs ⟨N_q_val, fsA.take 21, 1048576⟩ 60 (defScope s_q_val) (defBody s_q_val) B_q_val = true := by decide +kernel
theorem sc_q_val : FnScope N_q_val ["_law_p", "_law_f", "_law_c"] (defScope s_q_val) := ⟨rfl, rfl, rfl, by decide +kernel, rfl, by decide +kernel, by decide +kernel⟩
theorem bd_q_val (den : List D → Option (Bool × D × List D)) : Bnd "_law_val" s_q_val (g_q_val den) := ⟨fun _ _ _ _ _ _ us hl => match us, hl with | [_, _, _], _ => rfl, fun kw h => by cases h⟩
theorem ck_q_is_form : ckSs ⟨N_q_is_form, fsA.take 22, 1048576⟩ 60 (defScope s_q_is_form) (defBody s_q_is_form) (B_q_is_form 14) = true := by decide +kernel
theorem sc_q_is_form : FnScope N_q_is_form ["_law_p", "_law_v"] (defScope s_q_is_form) := ⟨rfl, rfl, rfl, by decide +kernel, rfl, by decide +kernel, by decide +kernel⟩
theorem bd_q_is_form (den : List D → Option (Bool × D × List D)) : Bnd "_law_is_form" s_q_is_form (g_q_is_form den) := ⟨fun _ _ _ _ _ _ us hl => match us, hl with | [_, _], _ => rfl, fun kw h => by cases h⟩
theorem ck_q_form : ckSs ⟨N_q_form, fsA.take 23, 1048576⟩ 60 (defScope s_q_form) (defBody s_q_form) (B_q_form 11 17) = true := by decide +kernel
theorem sc_q_form : FnScope N_q_form ["_law_bag_here", "_law_p", "_law_deg"] (defScope s_q_form) := ⟨rfl, rfl, rfl, by decide +kernel, rfl, by decide +kernel, by decide +kernel⟩
theorem bd_q_form (den : List D → Option (Bool × D × List D)) : Bnd "_law_form" s_q_form (g_q_form den) := ⟨fun _ _ _ _ _ _ us hl => match us, hl with | [_, _, _], _ => rfl, fun kw h => by cases h⟩
theorem ck_q_read_numbers : ckSs ⟨N_q_read_numbers, fsA.take 24, 1048576⟩ 60 (defScope s_q_read_numbers) (defBody s_q_read_numbers) (B_q_read_numbers 11 12) = true := by decide +kernel
theorem sc_q_read_numbers : FnScope N_q_read_numbers ["_law_bag_here", "_law_p"] (defScope s_q_read_numbers) := ⟨rfl, rfl, rfl, by decide +kernel, rfl, by decide +kernel, by decide +kernel⟩
theorem bd_q_read_numbers (den : List D → Option (Bool × D × List D)) : Bnd "_law_read_numbers" s_q_read_numbers (g_q_read_numbers den) := ⟨fun _ _ _ _ _ _ us hl => match us, hl with | [_, _], _ => rfl, fun kw h => by cases h⟩
theorem ck_q_pair : ckSs ⟨N_q_pair, fsA.take 25, 1048576⟩ 60 (defScope s_q_pair) (defBody s_q_pair) (B_q_pair 11 12 17 23) = true := by decide +kernel
theorem sc_q_pair : FnScope N_q_pair ["_law_bag_here", "_law_p"] (defScope s_q_pair) := ⟨rfl, rfl, rfl, by decide +kernel, rfl, by decide +kernel, by decide +kernel⟩
theorem bd_q_pair (den : List D → Option (Bool × D × List D)) : Bnd "_law_pair" s_q_pair (g_q_pair den) := ⟨fun _ _ _ _ _ _ us hl => match us, hl with | [_, _], _ => rfl, fun kw h => by cases h⟩
theorem ck_q_values_so : ckSs ⟨N_q_values_so, fsA.take 26, 1048576⟩ 60 (defScope s_q_values_so) (defBody s_q_values_so) (B_q_values_so 9 13 21) = true := by decide +kernel
theorem sc_q_values_so : FnScope N_q_values_so ["_law_p", "_law_f", "_law_g", "_law_told"] (defScope s_q_values_so) := ⟨rfl, rfl, rfl, by decide +kernel, rfl, by decide +kernel, by decide +kernel⟩
theorem bd_q_values_so (den : List D → Option (Bool × D × List D)) : Bnd "_law_values_so" s_q_values_so (g_q_values_so den) := ⟨fun _ _ _ _ _ _ us hl => match us, hl with | [_, _, _, _], _ => rfl, fun kw h => by cases h⟩
theorem ck_law : ckSs ⟨N_law, fsA.take 27, 1048576⟩ 60 (defScope s_law) (defBody s_law) B_law = true := by decide +kernel
theorem sc_law : FnScope N_law ["_law_script"] (defScope s_law) := ⟨rfl, rfl, rfl, by decide +kernel, rfl, by decide +kernel, by decide +kernel⟩
theorem bd_law (den : List D → Option (Bool × D × List D)) : Bnd "law" s_law (g_law den) := ⟨fun _ _ _ _ _ _ us hl => match us, hl with | [_], _ => rfl, fun kw h => by cases h⟩
theorem tab : Tab (fsA.take 27) := { a1 := At.of rfl rfl, a2 := At.of rfl rfl, a3 := At.of rfl rfl, a4 := At.of rfl rfl, a5 := At.of rfl rfl, a6 := At.of rfl rfl, a7 := At.of rfl rfl, a8 := At.of rfl rfl, a9 := At.of rfl rfl, a10 := At.of rfl rfl, a11 := At.of rfl rfl, a12 := At.of rfl rfl, a13 := At.of rfl rfl, a16 := At.of rfl rfl, a17 := At.of rfl rfl, a18 := At.of rfl rfl, a19 := At.of rfl rfl, a20 := At.of rfl rfl, a21 := At.of rfl rfl, a22 := At.of rfl rfl, a24 := At.of rfl rfl, a25 := At.of rfl rfl, a26 := At.of rfl rfl, k1 := fun _ _  => kAt_of rfl rfl rfl rfl rfl, k2 := fun _  => kAt_of rfl rfl rfl rfl rfl, k3 := fun _ _ _  => kAt_of rfl rfl rfl rfl rfl, k4 := fun _ _ _  => kAt_of rfl rfl rfl rfl rfl, k5 := fun _ _ _  => kAt_of rfl rfl rfl rfl rfl, k6 := fun _ _ _  => kAt_of rfl rfl rfl rfl rfl, k7 := fun _ _  => kAt_of rfl rfl rfl rfl rfl, k8 := fun _ _  => kAt_of rfl rfl rfl rfl rfl, k9 := fun _ _ _  => kAt_of rfl rfl rfl rfl rfl }
end K02
set_option Elab.async false
set_option linter.all false
set_option maxRecDepth 100000
set_option maxHeartbeats 8000000
namespace K02
open PySem PySem.Spec PyProof.Rows L2 Fz W1
/-! ### the head -/
def dd_inverse : He.DefD := ⟨("inverse", none), "inverse", "inverse", defArgs s_inverse, defBody s_inverse, defScope s_inverse, [], []⟩
def dd_form_of : He.DefD := ⟨("form_of", none), "form_of", "form_of", defArgs s_form_of, defBody s_form_of, defScope s_form_of, [], []⟩
def dd_degree_of : He.DefD := ⟨("degree_of", none), "degree_of", "degree_of", defArgs s_degree_of, defBody s_degree_of, defScope s_degree_of, [], []⟩
def dd_add : He.DefD := ⟨("add", none), "add", "add", defArgs s_add, defBody s_add, defScope s_add, [], []⟩
def dd_subtract : He.DefD := ⟨("subtract", none), "subtract", "subtract", defArgs s_subtract, defBody s_subtract, defScope s_subtract, [], []⟩
def dd_multiply : He.DefD := ⟨("multiply", none), "multiply", "multiply", defArgs s_multiply, defBody s_multiply, defScope s_multiply, [], []⟩
def dd_scaled : He.DefD := ⟨("scaled", none), "scaled", "scaled", defArgs s_scaled, defBody s_scaled, defScope s_scaled, [], []⟩
def dd_raised : He.DefD := ⟨("raised", none), "raised", "raised", defArgs s_raised, defBody s_raised, defScope s_raised, [], []⟩
def dd_monic_of : He.DefD := ⟨("monic_of", none), "monic_of", "monic_of", defArgs s_monic_of, defBody s_monic_of, defScope s_monic_of, [], []⟩
def dd_value_at : He.DefD := ⟨("value_at", none), "value_at", "value_at", defArgs s_value_at, defBody s_value_at, defScope s_value_at, [], []⟩
def dd_q_bag : He.DefD := ⟨("_law_bag", none), "_law_bag", "_law_bag", defArgs s_q_bag, defBody s_q_bag, defScope s_q_bag, [], []⟩
def dd_q_draw : He.DefD := ⟨("_law_draw", none), "_law_draw", "_law_draw", defArgs s_q_draw, defBody s_q_draw, defScope s_q_draw, [], []⟩
def dd_q_of : He.DefD := ⟨("_law_of", none), "_law_of", "_law_of", defArgs s_q_of, defBody s_q_of, defScope s_q_of, [], []⟩
def dd_q_same : He.DefD := ⟨("_law_same", none), "_law_same", "_law_same", defArgs s_q_same, defBody s_q_same, defScope s_q_same, [], []⟩
def dd_q_is_num : He.DefD := ⟨("_law_is_num", none), "_law_is_num", "_law_is_num", defArgs s_q_is_num, defBody s_q_is_num, defScope s_q_is_num, [], []⟩
def dd_q_primes : He.DefD := ⟨("_law_primes", none), "_law_primes", "_law_primes", defArgs s_q_primes, defBody s_q_primes, defScope s_q_primes, [], []⟩
def dd_q_prime : He.DefD := ⟨("_law_prime", none), "_law_prime", "_law_prime", defArgs s_q_prime, defBody s_q_prime, defScope s_q_prime, [], []⟩
def dd_q_trim : He.DefD := ⟨("_law_trim", none), "_law_trim", "_law_trim", defArgs s_q_trim, defBody s_q_trim, defScope s_q_trim, [], []⟩
def dd_q_plus : He.DefD := ⟨("_law_plus", none), "_law_plus", "_law_plus", defArgs s_q_plus, defBody s_q_plus, defScope s_q_plus, [], []⟩
def dd_q_minus : He.DefD := ⟨("_law_minus", none), "_law_minus", "_law_minus", defArgs s_q_minus, defBody s_q_minus, defScope s_q_minus, [], []⟩
def dd_q_mul : He.DefD := ⟨("_law_mul", none), "_law_mul", "_law_mul", defArgs s_q_mul, defBody s_q_mul, defScope s_q_mul, [], []⟩
def dd_q_val : He.DefD := ⟨("_law_val", none), "_law_val", "_law_val", defArgs s_q_val, defBody s_q_val, defScope s_q_val, [], []⟩
def dd_q_is_form : He.DefD := ⟨("_law_is_form", none), "_law_is_form", "_law_is_form", defArgs s_q_is_form, defBody s_q_is_form, defScope s_q_is_form, [], []⟩
def dd_q_form : He.DefD := ⟨("_law_form", none), "_law_form", "_law_form", defArgs s_q_form, defBody s_q_form, defScope s_q_form, [], []⟩
def dd_q_read_numbers : He.DefD := ⟨("_law_read_numbers", none), "_law_read_numbers", "_law_read_numbers", defArgs s_q_read_numbers, defBody s_q_read_numbers, defScope s_q_read_numbers, [], []⟩
def dd_q_pair : He.DefD := ⟨("_law_pair", none), "_law_pair", "_law_pair", defArgs s_q_pair, defBody s_q_pair, defScope s_q_pair, [], []⟩
def dd_q_values_so : He.DefD := ⟨("_law_values_so", none), "_law_values_so", "_law_values_so", defArgs s_q_values_so, defBody s_q_values_so, defScope s_q_values_so, [], []⟩
def dd_law : He.DefD := ⟨("law", none), "law", "law", defArgs s_law, defBody s_law, defScope s_law, [], []⟩
def fnL : List He.DefD := [dd_inverse, dd_form_of, dd_degree_of, dd_add, dd_subtract, dd_multiply, dd_scaled, dd_raised, dd_monic_of, dd_value_at, dd_q_bag, dd_q_draw, dd_q_of, dd_q_same, dd_q_is_num, dd_q_primes, dd_q_prime, dd_q_trim, dd_q_plus, dd_q_minus, dd_q_mul, dd_q_val, dd_q_is_form, dd_q_form, dd_q_read_numbers, dd_q_pair, dd_q_values_so, dd_law]
def faL : List He.Fa := [.glo "inverse", .glo "form_of", .glo "degree_of", .glo "add", .glo "subtract", .glo "multiply", .glo "scaled", .glo "raised", .glo "monic_of", .glo "value_at", .glo "_law_bag", .glo "_law_draw", .glo "_law_of", .glo "_law_same", .glo "_law_is_num", .glo "_law_primes", .glo "_law_prime", .glo "_law_trim", .glo "_law_plus", .glo "_law_minus", .glo "_law_mul", .glo "_law_val", .glo "_law_is_form", .glo "_law_form", .glo "_law_read_numbers", .glo "_law_pair", .glo "_law_values_so", .glo "law", .free "len", .free "int", .free "abs", .free "list", .free "tuple", .free "all", .free "any", .free "max", .free "min", .free "sum", .free "isinstance", .free "range", .free "enumerate", .free "zip", .free "reversed", .free "bool", .free "str"]
abbrev RR : PySem.W.OpenRow := PySem.W.OpenLaw.row PySem.Challenge.rw_freetops_k02_forms_reckoned
abbrev hk : PySem.W.Hook := He.hookD 4 faL fnL
def ob (s : PySem.W.SharedT) : He.AlD := He.obsDG 4 faL fnL (HandSHeadRun.getT s)
theorem ob_eq (s : PySem.W.SharedT) : ob s = hk.obs s.abs := He.obsDG_eq (HandSHeadRun.getT_eq s)
def loose : List Str := ["inverse", "form_of", "degree_of", "add", "subtract", "multiply", "scaled", "raised", "monic_of", "value_at", "_law_bag", "_law_draw", "_law_of", "_law_same", "_law_is_num", "_law_primes", "_law_prime", "_law_trim", "_law_plus", "_law_minus", "_law_mul", "_law_val", "_law_is_form", "_law_form", "_law_read_numbers", "_law_pair", "_law_values_so"]
theorem run (w : World) : HandSHeadRun.RunEq RR (PySem.W.view RR.prog [30]) hk ob 4000 loose w := by
  intro os
  kernel_rfl
end K02
set_option Elab.async false
set_option linter.all false
set_option maxRecDepth 100000
set_option maxHeartbeats 8000000
namespace K02
open PySem PySem.Spec PyProof.Rows L2 Fz W1
theorem facts {P : Program} {w : World} {K : PySem.W.Frag} {h : Heap} {mg : Str → Option Value} {f : Addr} (X : K.In h) (G : h.Ns mainGlobals mg) (hfa : mg ("law" : Str) = some (.ref f)) (c : He.SaysD faL fnL K) :
    ∃ fd : FuncData, (∀ (s : Shared) (v : Value), BindsTo s fd ⟨[v], []⟩ [("_law_script", v)]) ∧ ∀ base : Heap, K.In base → base.Ns mainGlobals mg → FnOk P w K mg base CX0 31 f fd ["_law_script"] (spD K (g_law d_law)) := by
  have hb : ∀ y, bltNames.contains y = true → mg y = none := by
    intro y hy
    simp only [bltNames, List.contains_cons, List.contains_nil, Bool.or_false, Bool.or_eq_true, beq_iff_eq] at hy
    rcases hy with rfl | rfl | rfl | rfl | rfl | rfl | rfl | rfl | rfl | rfl | rfl | rfl | rfl | rfl | rfl | rfl | rfl
    · exact He.free_ok X G (c.fact 28 (f := .free "len") rfl)
    · exact He.free_ok X G (c.fact 29 (f := .free "int") rfl)
    · exact He.free_ok X G (c.fact 30 (f := .free "abs") rfl)
    · exact He.free_ok X G (c.fact 31 (f := .free "list") rfl)
    · exact He.free_ok X G (c.fact 32 (f := .free "tuple") rfl)
    · exact He.free_ok X G (c.fact 33 (f := .free "all") rfl)
    · exact He.free_ok X G (c.fact 34 (f := .free "any") rfl)
    · exact He.free_ok X G (c.fact 35 (f := .free "max") rfl)
    · exact He.free_ok X G (c.fact 36 (f := .free "min") rfl)
    · exact He.free_ok X G (c.fact 37 (f := .free "sum") rfl)
    · exact He.free_ok X G (c.fact 38 (f := .free "isinstance") rfl)
    · exact He.free_ok X G (c.fact 39 (f := .free "range") rfl)
    · exact He.free_ok X G (c.fact 40 (f := .free "enumerate") rfl)
    · exact He.free_ok X G (c.fact 41 (f := .free "zip") rfl)
    · exact He.free_ok X G (c.fact 42 (f := .free "reversed") rfl)
    · exact He.free_ok X G (c.fact 43 (f := .free "bool") rfl)
    · exact He.free_ok X G (c.fact 44 (f := .free "str") rfl)
  obtain ⟨fd0, F0⟩ := c.def_ 0 (d := dd_inverse) rfl
  have m0 := He.glo_ok X G (c.fact 0 (f := .glo "inverse") rfl)
  obtain ⟨fd1, F1⟩ := c.def_ 1 (d := dd_form_of) rfl
  have m1 := He.glo_ok X G (c.fact 1 (f := .glo "form_of") rfl)
  obtain ⟨fd2, F2⟩ := c.def_ 2 (d := dd_degree_of) rfl
  have m2 := He.glo_ok X G (c.fact 2 (f := .glo "degree_of") rfl)
  obtain ⟨fd3, F3⟩ := c.def_ 3 (d := dd_add) rfl
  have m3 := He.glo_ok X G (c.fact 3 (f := .glo "add") rfl)
  obtain ⟨fd4, F4⟩ := c.def_ 4 (d := dd_subtract) rfl
  have m4 := He.glo_ok X G (c.fact 4 (f := .glo "subtract") rfl)
  obtain ⟨fd5, F5⟩ := c.def_ 5 (d := dd_multiply) rfl
  have m5 := He.glo_ok X G (c.fact 5 (f := .glo "multiply") rfl)
  obtain ⟨fd6, F6⟩ := c.def_ 6 (d := dd_scaled) rfl
  have m6 := He.glo_ok X G (c.fact 6 (f := .glo "scaled") rfl)
  obtain ⟨fd7, F7⟩ := c.def_ 7 (d := dd_raised) rfl
  have m7 := He.glo_ok X G (c.fact 7 (f := .glo "raised") rfl)
  obtain ⟨fd8, F8⟩ := c.def_ 8 (d := dd_monic_of) rfl
  have m8 := He.glo_ok X G (c.fact 8 (f := .glo "monic_of") rfl)
  obtain ⟨fd9, F9⟩ := c.def_ 9 (d := dd_value_at) rfl
  have m9 := He.glo_ok X G (c.fact 9 (f := .glo "value_at") rfl)
  obtain ⟨fd10, F10⟩ := c.def_ 10 (d := dd_q_bag) rfl
  have m10 := He.glo_ok X G (c.fact 10 (f := .glo "_law_bag") rfl)
  obtain ⟨fd11, F11⟩ := c.def_ 11 (d := dd_q_draw) rfl
  have m11 := He.glo_ok X G (c.fact 11 (f := .glo "_law_draw") rfl)
  obtain ⟨fd12, F12⟩ := c.def_ 12 (d := dd_q_of) rfl
  have m12 := He.glo_ok X G (c.fact 12 (f := .glo "_law_of") rfl)
  obtain ⟨fd13, F13⟩ := c.def_ 13 (d := dd_q_same) rfl
  have m13 := He.glo_ok X G (c.fact 13 (f := .glo "_law_same") rfl)
  obtain ⟨fd14, F14⟩ := c.def_ 14 (d := dd_q_is_num) rfl
  have m14 := He.glo_ok X G (c.fact 14 (f := .glo "_law_is_num") rfl)
  obtain ⟨fd15, F15⟩ := c.def_ 15 (d := dd_q_primes) rfl
  have m15 := He.glo_ok X G (c.fact 15 (f := .glo "_law_primes") rfl)
  obtain ⟨fd16, F16⟩ := c.def_ 16 (d := dd_q_prime) rfl
  have m16 := He.glo_ok X G (c.fact 16 (f := .glo "_law_prime") rfl)
  obtain ⟨fd17, F17⟩ := c.def_ 17 (d := dd_q_trim) rfl
  have m17 := He.glo_ok X G (c.fact 17 (f := .glo "_law_trim") rfl)
  obtain ⟨fd18, F18⟩ := c.def_ 18 (d := dd_q_plus) rfl
  have m18 := He.glo_ok X G (c.fact 18 (f := .glo "_law_plus") rfl)
  obtain ⟨fd19, F19⟩ := c.def_ 19 (d := dd_q_minus) rfl
  have m19 := He.glo_ok X G (c.fact 19 (f := .glo "_law_minus") rfl)
  obtain ⟨fd20, F20⟩ := c.def_ 20 (d := dd_q_mul) rfl
  have m20 := He.glo_ok X G (c.fact 20 (f := .glo "_law_mul") rfl)
  obtain ⟨fd21, F21⟩ := c.def_ 21 (d := dd_q_val) rfl
  have m21 := He.glo_ok X G (c.fact 21 (f := .glo "_law_val") rfl)
  obtain ⟨fd22, F22⟩ := c.def_ 22 (d := dd_q_is_form) rfl
  have m22 := He.glo_ok X G (c.fact 22 (f := .glo "_law_is_form") rfl)
  obtain ⟨fd23, F23⟩ := c.def_ 23 (d := dd_q_form) rfl
  have m23 := He.glo_ok X G (c.fact 23 (f := .glo "_law_form") rfl)
  obtain ⟨fd24, F24⟩ := c.def_ 24 (d := dd_q_read_numbers) rfl
  have m24 := He.glo_ok X G (c.fact 24 (f := .glo "_law_read_numbers") rfl)
  obtain ⟨fd25, F25⟩ := c.def_ 25 (d := dd_q_pair) rfl
  have m25 := He.glo_ok X G (c.fact 25 (f := .glo "_law_pair") rfl)
  obtain ⟨fd26, F26⟩ := c.def_ 26 (d := dd_q_values_so) rfl
  have m26 := He.glo_ok X G (c.fact 26 (f := .glo "_law_values_so") rfl)
  obtain ⟨fd27, F27⟩ := c.def_ 27 (d := dd_law) rfl
  have m27 := He.glo_ok X G (c.fact 27 (f := .glo "law") rfl)
  have e := hfa.symm.trans m27
  cases e
  refine ⟨fd27, fun s v => FunD.bindsA (ps := ["_law_script"]) F27 (bd_law d_law).b s [v] rfl, fun base _ _ => ?_⟩
  have G0 : Good P w K mg base 0 (fsA.take 0) := Good.nil
  have E0 : Env1 P w K mg base 1 "inverse" (g_inverse d_inverse) := def_env (st := s_inverse) m0 F0 sc_inverse (bd_inverse _) hb G0 ck_inverse (fun ds z h => ⟨60, run_inverse rfl h⟩) rfl
  have G1 : Good P w K mg base 1 (fsA.take 1) := Good.push G0 E0
  have E1 : Env1 P w K mg base 2 "form_of" (g_form_of d_form_of) := def_env (st := s_form_of) m1 F1 sc_form_of (bd_form_of _) hb G1 ck_form_of (fun ds z h => ⟨60, run_form_of rfl h⟩) rfl
  have G2 : Good P w K mg base 2 (fsA.take 2) := Good.push G1 E1
  have E2 : Env1 P w K mg base 3 "degree_of" (g_degree_of d_degree_of) := def_env (st := s_degree_of) m2 F2 sc_degree_of (bd_degree_of _) hb G2 ck_degree_of (fun ds z h => ⟨60, run_degree_of rfl h⟩) rfl
  have G3 : Good P w K mg base 3 (fsA.take 3) := Good.push G2 E2
  have E3 : Env1 P w K mg base 4 "add" (g_add d_add) := def_env (st := s_add) m3 F3 sc_add (bd_add _) hb G3 ck_add (fun ds z h => ⟨60, run_add rfl (At.of rfl rfl) h⟩) rfl
  have G4 : Good P w K mg base 4 (fsA.take 4) := Good.push G3 E3
  have E4 : Env1 P w K mg base 5 "subtract" (g_subtract d_subtract) := def_env (st := s_subtract) m4 F4 sc_subtract (bd_subtract _) hb G4 ck_subtract (fun ds z h => ⟨60, run_subtract rfl (At.of rfl rfl) h⟩) rfl
  have G5 : Good P w K mg base 5 (fsA.take 5) := Good.push G4 E4
  have E5 : Env1 P w K mg base 6 "multiply" (g_multiply d_multiply) := def_env (st := s_multiply) m5 F5 sc_multiply (bd_multiply _) hb G5 ck_multiply (fun ds z h => ⟨60, run_multiply rfl (At.of rfl rfl) h⟩) rfl
  have G6 : Good P w K mg base 6 (fsA.take 6) := Good.push G5 E5
  have E6 : Env1 P w K mg base 7 "scaled" (g_scaled d_scaled) := def_env (st := s_scaled) m6 F6 sc_scaled (bd_scaled _) hb G6 ck_scaled (fun ds z h => ⟨60, run_scaled rfl (At.of rfl rfl) h⟩) rfl
  have G7 : Good P w K mg base 7 (fsA.take 7) := Good.push G6 E6
  have E7 : Env1 P w K mg base 8 "raised" (g_raised d_raised) := def_env (st := s_raised) m7 F7 sc_raised (bd_raised _) hb G7 ck_raised (fun ds z h => ⟨60, run_raised rfl h⟩) rfl
  have G8 : Good P w K mg base 8 (fsA.take 8) := Good.push G7 E7
  have E8 : Env1 P w K mg base 9 "monic_of" (g_monic_of d_monic_of) := def_env (st := s_monic_of) m8 F8 sc_monic_of (bd_monic_of _) hb G8 ck_monic_of (fun ds z h => ⟨60, run_monic rfl (At.of rfl rfl) (At.of rfl rfl) h⟩) rfl
  have G9 : Good P w K mg base 9 (fsA.take 9) := Good.push G8 E8
  have E9 : Env1 P w K mg base 10 "value_at" (g_value_at d_value_at) := def_env (st := s_value_at) m9 F9 sc_value_at (bd_value_at _) hb G9 ck_value_at (fun ds z h => ⟨60, run_value_at rfl h⟩) rfl
  have G10 : Good P w K mg base 10 (fsA.take 10) := Good.push G9 E9
  have E10 : Env1 P w K mg base 11 "_law_bag" (g_q_bag d_bag) := def_env (st := s_q_bag) m10 F10 sc_q_bag (bd_q_bag _) hb G10 ck_q_bag (fun ds z h => ⟨60, run_bag rfl h⟩) rfl
  have G11 : Good P w K mg base 11 (fsA.take 11) := Good.push G10 E10
  have E11 : Env1 P w K mg base 12 "_law_draw" (g_q_draw d_draw) := def_env (st := s_q_draw) m11 F11 sc_q_draw (bd_q_draw _) hb G11 ck_q_draw (fun ds z h => ⟨60, run_draw rfl h⟩) rfl
  have G12 : Good P w K mg base 12 (fsA.take 12) := Good.push G11 E11
  have E12 : Env1 P w K mg base 13 "_law_of" (g_q_of d_of) := def_env (st := s_q_of) m12 F12 sc_q_of (bd_q_of _) hb G12 ck_q_of (fun ds z h => ⟨60, run_of' rfl (At.of rfl rfl) h⟩) rfl
  have G13 : Good P w K mg base 13 (fsA.take 13) := Good.push G12 E12
  have V13 : Env1 P w K mg base 14 "_law_same" (g_q_same fun _ => none) := void_env (st := s_q_same) m13 F13 sc_q_same (bd_q_same _) (fun _ => rfl) rfl
  have H13_0 := Good.push G13 V13
  have E13_0 : Env1 P w K mg base 15 "_law_same" (g_q_same (d_same 0)) := def_env (st := s_q_same) m13 F13 sc_q_same (bd_q_same _) hb H13_0 ck_q_same_0 (fun ds z h => ⟨60, run_same rfl (fun q => absurd rfl q) h⟩) rfl
  have H13_1 := Good.push (Good.upn 1 G13) E13_0
  have E13_1 : Env1 P w K mg base 16 "_law_same" (g_q_same (d_same 1)) := def_env (st := s_q_same) m13 F13 sc_q_same (bd_q_same _) hb H13_1 ck_q_same_1 (fun ds z h => ⟨60, run_same rfl (fun _ => (At.of rfl rfl)) h⟩) rfl
  have H13_2 := Good.push (Good.upn 2 G13) E13_1
  have E13_2 : Env1 P w K mg base 17 "_law_same" (g_q_same (d_same 2)) := def_env (st := s_q_same) m13 F13 sc_q_same (bd_q_same _) hb H13_2 ck_q_same_2 (fun ds z h => ⟨60, run_same rfl (fun _ => (At.of rfl rfl)) h⟩) rfl
  have G14 : Good P w K mg base 17 (fsA.take 14) := Good.push (Good.upn 3 G13) E13_2
  have E14 : Env1 P w K mg base 18 "_law_is_num" (g_q_is_num d_is_num) := def_env (st := s_q_is_num) m14 F14 sc_q_is_num (bd_q_is_num _) hb G14 ck_q_is_num (fun ds z h => ⟨60, run_is_num rfl h⟩) rfl
  have G15 : Good P w K mg base 18 (fsA.take 15) := Good.push G14 E14
  have E15 : Env1 P w K mg base 19 "_law_primes" (g_q_primes d_primes) := def_env (st := s_q_primes) m15 F15 sc_q_primes (bd_q_primes _) hb G15 ck_q_primes (fun ds z h => ⟨60, run_primes rfl h⟩) rfl
  have G16 : Good P w K mg base 19 (fsA.take 16) := Good.push G15 E15
  have E16 : Env1 P w K mg base 20 "_law_prime" (g_q_prime d_prime) := def_env (st := s_q_prime) m16 F16 sc_q_prime (bd_q_prime _) hb G16 ck_q_prime (fun ds z h => ⟨60, run_prime rfl (At.of rfl rfl) (At.of rfl rfl) (At.of rfl rfl) h⟩) rfl
  have G17 : Good P w K mg base 20 (fsA.take 17) := Good.push G16 E16
  have E17 : Env1 P w K mg base 21 "_law_trim" (g_q_trim d_trim) := def_env (st := s_q_trim) m17 F17 sc_q_trim (bd_q_trim _) hb G17 ck_q_trim (fun ds z h => ⟨60, run_trim rfl h⟩) rfl
  have G18 : Good P w K mg base 21 (fsA.take 18) := Good.push G17 E17
  have E18 : Env1 P w K mg base 22 "_law_plus" (g_q_plus d_add) := def_env (st := s_q_plus) m18 F18 sc_q_plus (bd_q_plus _) hb G18 ck_q_plus (fun ds z h => ⟨60, run_plus rfl (At.of rfl rfl) h⟩) rfl
  have G19 : Good P w K mg base 22 (fsA.take 19) := Good.push G18 E18
  have E19 : Env1 P w K mg base 23 "_law_minus" (g_q_minus d_subtract) := def_env (st := s_q_minus) m19 F19 sc_q_minus (bd_q_minus _) hb G19 ck_q_minus (fun ds z h => ⟨60, run_minus rfl (At.of rfl rfl) h⟩) rfl
  have G20 : Good P w K mg base 23 (fsA.take 20) := Good.push G19 E19
  have E20 : Env1 P w K mg base 24 "_law_mul" (g_q_mul d_multiply) := def_env (st := s_q_mul) m20 F20 sc_q_mul (bd_q_mul _) hb G20 ck_q_mul (fun ds z h => ⟨60, run_mul rfl (At.of rfl rfl) h⟩) rfl
  have G21 : Good P w K mg base 24 (fsA.take 21) := Good.push G20 E20
  have E21 : Env1 P w K mg base 25 "_law_val" (g_q_val d_val) := def_env (st := s_q_val) m21 F21 sc_q_val (bd_q_val _) hb G21 ck_q_val (fun ds z h => ⟨60, run_val rfl h⟩) rfl
  have G22 : Good P w K mg base 25 (fsA.take 22) := Good.push G21 E21
  have E22 : Env1 P w K mg base 26 "_law_is_form" (g_q_is_form d_is_form) := def_env (st := s_q_is_form) m22 F22 sc_q_is_form (bd_q_is_form _) hb G22 ck_q_is_form (fun ds z h => ⟨60, run_is_form rfl (At.of rfl rfl) h⟩) rfl
  have G23 : Good P w K mg base 26 (fsA.take 23) := Good.push G22 E22
  have E23 : Env1 P w K mg base 27 "_law_form" (g_q_form d_form) := def_env (st := s_q_form) m23 F23 sc_q_form (bd_q_form _) hb G23 ck_q_form (fun ds z h => ⟨60, run_form rfl (At.of rfl rfl) (At.of rfl rfl) h⟩) rfl
  have G24 : Good P w K mg base 27 (fsA.take 24) := Good.push G23 E23
  have E24 : Env1 P w K mg base 28 "_law_read_numbers" (g_q_read_numbers d_read) := def_env (st := s_q_read_numbers) m24 F24 sc_q_read_numbers (bd_q_read_numbers _) hb G24 ck_q_read_numbers (fun ds z h => ⟨60, run_read rfl (At.of rfl rfl) (At.of rfl rfl) h⟩) rfl
  have G25 : Good P w K mg base 28 (fsA.take 25) := Good.push G24 E24
  have E25 : Env1 P w K mg base 29 "_law_pair" (g_q_pair d_pair) := def_env (st := s_q_pair) m25 F25 sc_q_pair (bd_q_pair _) hb G25 ck_q_pair (fun ds z h => ⟨60, run_pair rfl (At.of rfl rfl) (At.of rfl rfl) (At.of rfl rfl) (At.of rfl rfl) h⟩) rfl
  have G26 : Good P w K mg base 29 (fsA.take 26) := Good.push G25 E25
  have E26 : Env1 P w K mg base 30 "_law_values_so" (g_q_values_so d_values) := def_env (st := s_q_values_so) m26 F26 sc_q_values_so (bd_q_values_so _) hb G26 ck_q_values_so (fun ds z h => ⟨60, run_values rfl (At.of rfl rfl) (At.of rfl rfl) (At.of rfl rfl) h⟩) rfl
  have G27 : Good P w K mg base 30 (fsA.take 27) := Good.push G26 E26
  exact def_fn (st := s_law) (fn := g_law d_law) F27 sc_law hb G27 ck_law (fun ds z h => ⟨100, run_law rfl tab h⟩)
end K02
set_option Elab.async false
set_option linter.all false
set_option maxRecDepth 100000
set_option maxHeartbeats 8000000
open PySem PySem.W PySem.Calls PyProof.Rows
set_option maxHeartbeats 0 in
theorem PySem.Challenge.cw_freetops_k02_forms_reckoned_holds : PySem.Challenge.rw_freetops_k02_forms_reckoned.Holds := by
  w_on; o_law
  refine HandSHeadRun.head_any (r := OpenLaw.row PySem.Challenge.rw_freetops_k02_forms_reckoned) (q := view (OpenLaw.row PySem.Challenge.rw_freetops_k02_forms_reckoned).prog [30]) (H := K02.hk) (ob := K02.ob) (M := 4000) (loose := K02.loose) (d := HandSHeadRun.topDef (OpenLaw.row PySem.Challenge.rw_freetops_k02_forms_reckoned).prog 30) (kwd := []) K02.ob_eq
    (by kernel_rfl) (fun s => by kernel_rfl) K02.run (by kernel_rfl) (by kernel_rfl) (by kernel_rfl) (by rfl) (by first | assumption | decide +kernel) (by decide +kernel) ⟨rfl, rfl, rfl, rfl, rfl, by decide +kernel⟩ ?hw ?hc
  case hw => w_witness2
  case hc =>
    refine L2.walk_ofE (l := PySem.Challenge.rw_freetops_k02_forms_reckoned) (n := 63) (k := 31) (x := "_law_script") (CX := L2.CX0) rfl (by decide) (by kernel_rfl) ⟨rfl, by decide, by decide⟩ ?F (fun _ _ _ _ z => z)
    intro w mg fa h Y G hmg0
    obtain ⟨K, KX, c⟩ := Y
    have hmg : mg ("law" : PySem.Str) = some (.ref fa) := by
      have e : (HandSHeadRun.topDef (OpenLaw.row PySem.Challenge.rw_freetops_k02_forms_reckoned).prog 30).name = ("law" : PySem.Str) := by kernel_rfl
      rw [← e]
      exact hmg0
    obtain ⟨fd, hb, hF⟩ := K02.facts (P := (PySem.Challenge.rw_freetops_k02_forms_reckoned).prog) (w := w) KX G hmg c
    exact ⟨K, fd, Fz.spD K (K02.g_law K02.d_law), KX, hb, fun H a ns hl hO hS => Fz.law_in rfl rfl K02.law_den H a ns hl hO hS, hF⟩
