import PyProof.Rows.All
import Wide.All
import OpenK.AllK
import Wide.FinOn
import HandS.ForMost
import HandS.Exc
import HandS.ExcInit
import HandS.ExcField
import HandS.TryMany
import HandS.HotCalls
import HandS.Lambda
import HandS.IsInst
import HandS.Defaults
import HandS.WordsExc
import HandS.Wide
import HandS.Gcd
import HandS.Codes
import HandS.Zip
import KE.KTryMore
import HandS.HeadHook1
import HandS.HeadHook2
import HandS.Star
import HandS.HeadHook4
import KE.KExcIs
import KE.KStateDown
import Lean
import HandS.Base
import HandS.Call
import HandS.Ends
import HandS.More
import HandS.Words
import HandS.Head0
import HandS.Head1
import HandS.Head2
import HandS.Head3
import HandS.HeadEnd
import HandS.HeadHook3
import HandS.HeadWalk
import PySem.Challenge.RW_endlessnets_k02_fractions_reckoned
set_option Elab.async false
set_option linter.all false
set_option maxRecDepth 100000
set_option maxHeartbeats 2000000
/-! data as trees, a calculus of what an expression, a statement comes to, told over such trees alone -/
namespace DX
open PySem PySem.Spec PyProof.Rows L2
abbrev St := L2.St

/-- data as a tree: no addresses (adr, bag: things whose address alone is told) -/
inductive D where
  | non | bl (b : Bool) | int (i : Int) | str (x : Str) | ty (n : String) | adr (a : Addr) | bag
  | tup (xs : List D) | lst (xs : List D) | dic (ks : List Key) (xs : List D) | obj (C : Addr) (ns : List Str) (xs : List D) | exc (C : Addr) (ns : List Str) (xs : List D) | cau (a dx : Addr) (ns : List Str) (xs : List D) | lam (f c : Addr) (q : Str)

/-- o is no table of code objects -/
def NT (o : HO) : Prop := ∀ ps, o ≠ .tbl ps
/-- all but S stays; tables of code objects may grow -/
def ExS (S : Addr → Prop) (T : List (Addr × Str)) (H H' : Hp) : Prop := (∀ a o, ¬ S a → H a = some o → NT o → H' a = some o) ∧ (LamX.Tabs T H → LamX.Tabs T H')
/-- a world: the addresses that are set apart (lists that may change), what holds of them -/
structure Wd where
  S : Addr → Prop
  b : Addr
  T : List (Addr × Str)
  I : Hp → Prop
  dom : ∀ H, I H → ∀ a, S a → ∃ xs, H a = some (.lst xs)
  st : ∀ H H', I H → (∀ a, S a → H' a = H a) → ExS S T H H' → I H'

abbrev Ex (W : Wd) (H H' : Hp) : Prop := ExS W.S W.T H H'
structure Go (W : Wd) (H H' : Hp) : Prop where
  ex : Ex W H H'
  i : W.I H'
theorem Ex.refl {W : Wd} {H : Hp} : Ex W H H := ⟨fun _ _ _ h _ => h, fun h => h⟩
theorem Ex.trans {W : Wd} {H H1 H2 : Hp} (a : Ex W H H1) (b : Ex W H1 H2) : Ex W H H2 := ⟨fun x o n h t => b.1 x o n (a.1 x o n h t) t, fun h => b.2 (a.2 h)⟩
theorem tabS_of {H H' : Hp} {P : Addr} {q : Str} (h : ∀ a o, H a = some o → (∀ xs, o ≠ .lst xs) → H' a = some o) : LamX.TabS H P q → LamX.TabS H' P q := fun ⟨ps, e1, e2, e3⟩ => ⟨ps, h P _ e1 (fun xs z => by cases z), e2, fun pos cv hc => by
    obtain ⟨c, a1, a2⟩ := e3 pos cv hc
    exact ⟨c, a1, h c _ a2 fun xs z => by unfold LamX.CodeO at z; cases z⟩⟩
theorem tabs_of {H H' : Hp} {T : List (Addr × Str)} (h : ∀ a o, H a = some o → (∀ xs, o ≠ .lst xs) → H' a = some o) (t : LamX.Tabs T H) : LamX.Tabs T H' := fun p hp => tabS_of h (t p hp)
/-- nothing but lists is set apart: what else stays makes the tables stay -/
theorem exS_of {S : Addr → Prop} {T : List (Addr × Str)} {H H' : Hp} (dom : ∀ a, S a → ∃ xs, H a = some (.lst xs)) (h : ∀ a o, ¬ S a → H a = some o → H' a = some o) : ExS S T H H' := ⟨fun a o n e _ => h a o n e, tabs_of fun a o e no => h a o (fun s => by
    obtain ⟨xs, z⟩ := dom a s
    rw [e] at z; exact no xs (Option.some.inj z)) e⟩
theorem Ex.of {W : Wd} {H H' : Hp} (i : W.I H) (h : ∀ a o, ¬ W.S a → H a = some o → H' a = some o) : Ex W H H' := exS_of (W.dom H i) h
theorem Go.refl {W : Wd} {H : Hp} (i : W.I H) : Go W H H := ⟨Ex.refl, i⟩
theorem Go.trans {W : Wd} {H H1 H2 : Hp} (a : Go W H H1) (b : Go W H1 H2) : Go W H H2 := ⟨a.ex.trans b.ex, b.i⟩
theorem Wd.out {W : Wd} {H : Hp} {a : Addr} (i : W.I H) (h : H a = none) : ¬ W.S a := fun s => by
  obtain ⟨xs, e⟩ := W.dom H i a s
  rw [h] at e; cases e
theorem Wd.outO {W : Wd} {H : Hp} {a : Addr} {o : HO} (i : W.I H) (h : H a = some o) (n : ∀ xs, o ≠ .lst xs) : ¬ W.S a := fun s => by
  obtain ⟨xs, e⟩ := W.dom H i a s
  rw [h] at e; cases e; exact n xs rfl
theorem Go.new {W : Wd} {H : Hp} {p : Addr} {o : HO} (i : W.I H) (h : H p = none) : Go W H (upd H p o) :=
  have ex : Ex W H (upd H p o) := Ex.of i fun a u _ e => by rw [upd_ne (ne_of_none e h)]; exact e
  ⟨ex, W.st H _ i (fun a s => by
    obtain ⟨xs, e⟩ := W.dom H i a s
    rw [upd_ne (ne_of_none e h)]) ex⟩

theorem nt_exo (a C : Addr) (d : Option Addr) : NT (exo a C d) := fun ps z => by unfold exo at z; cases z
theorem nt_exd (a : Addr) (fs : List (Str × V)) : NT (exd a fs) := fun ps z => by unfold exd at z; cases z
mutual
/-- v stands for d in H; no list of it is set apart -/
def Rp (K : PySem.W.Frag) (W : Wd) (H : Hp) : D → V → Prop
  | .non, v => v = .non
  | .bl b, v => v = .bl b
  | .int i, v => v = .int i
  | .str x, v => v = .str x
  | .ty n, v => v = .ty n
  | .adr a, v => v = .ref a
  | .bag, v => v = .ref W.b
  | .tup ds, v => ∃ a xs, v = .ref a ∧ SqT K H a xs ∧ RpL K W H ds xs
  | .lst ds, v => ∃ a xs, v = .ref a ∧ ¬ W.S a ∧ H a = some (.lst xs) ∧ RpL K W H ds xs
  | .dic ks ds, v => ∃ a xs, v = .ref a ∧ ¬ W.S a ∧ H a = some (.dK (ks.zip xs)) ∧ ks.length = ds.length ∧ RpL K W H ds xs
  | .obj C ns ds, v => ∃ a dx xs, v = .ref a ∧ ¬ W.S a ∧ H a = some (.ins C dx (ns.zip xs)) ∧ ns.length = ds.length ∧ RpL K W H ds xs
  | .exc C ns ds, v => ∃ a dx xs, v = .ref a ∧ ¬ W.S a ∧ ¬ W.S dx ∧ H a = some (exo a C (some dx)) ∧ H dx = some (exd dx (ns.zip xs)) ∧ ns.length = ds.length ∧ RpL K W H ds xs
  | .cau a dx ns ds, v => v = .ref a ∧ ¬ W.S dx ∧ ∃ xs, H dx = some (.xd (ns.zip xs)) ∧ ns.length = ds.length ∧ RpL K W H ds xs
  | .lam f c q, v => v = .ref f ∧ H c = some (LamX.CodeO c q)
def RpL (K : PySem.W.Frag) (W : Wd) (H : Hp) : List D → List V → Prop
  | [], vs => vs = []
  | d :: ds, vs => ∃ v r, vs = v :: r ∧ Rp K W H d v ∧ RpL K W H ds r
end
theorem rd_go {W : Wd} {H H' : Hp} {a : Addr} {xs : List V} (i : W.I H) (e : Ex W H H') (h : Rd H a (.tup xs)) : Rd H' a (.tup xs) := by
  rcases h with h | ⟨o, h⟩
  · exact .inl (e.1 a _ (W.outO i h fun _ z => by cases z) h fun _ z => by cases z)
  · exact .inr ⟨o, e.1 a _ (W.outO i h fun _ z => by cases z) h fun _ z => by cases z⟩
theorem sqT_go {K : PySem.W.Frag} {W : Wd} {H H' : Hp} {a : Addr} {xs : List V} (i : W.I H) (e : Ex W H H') (h : SqT K H a xs) : SqT K H' a xs := h.imp (rd_go i e) id
mutual
theorem Rp.mono {K : PySem.W.Frag} {W : Wd} {H H' : Hp} (i : W.I H) (e : Ex W H H') : ∀ (d : D) {v : V}, Rp K W H d v → Rp K W H' d v
  | .non, v, h => h
  | .bl b, v, h => h
  | .int _, v, h => h
  | .str x, v, h => h
  | .ty n, v, h => h
  | .adr a, v, h => h
  | .bag, v, h => h
  | .tup ds, v, h => by
    obtain ⟨a, xs, e1, e2, e3⟩ := h
    exact ⟨a, xs, e1, sqT_go i e e2, RpL.mono i e ds e3⟩
  | .lst ds, v, h => by
    obtain ⟨a, xs, e1, n, e2, e3⟩ := h
    exact ⟨a, xs, e1, n, e.1 a _ n e2 (fun _ z => by cases z), RpL.mono i e ds e3⟩
  | .dic ks ds, v, h => by
    obtain ⟨a, xs, e1, n, e2, l, e3⟩ := h
    exact ⟨a, xs, e1, n, e.1 a _ n e2 (fun _ z => by cases z), l, RpL.mono i e ds e3⟩
  | .obj C ns ds, v, h => by
    obtain ⟨a, dx, xs, e1, n, e2, l, e3⟩ := h
    exact ⟨a, dx, xs, e1, n, e.1 a _ n e2 (fun _ z => by cases z), l, RpL.mono i e ds e3⟩
  | .exc C ns ds, v, h => by
    obtain ⟨a, dx, xs, e1, n, n2, e2, e4, l, e3⟩ := h
    exact ⟨a, dx, xs, e1, n, n2, e.1 a _ n e2 (nt_exo _ _ _), e.1 dx _ n2 e4 (nt_exd _ _), l, RpL.mono i e ds e3⟩
  | .cau a dx ns ds, v, h => by
    obtain ⟨e1, n, xs, e2, l, e3⟩ := h
    exact ⟨e1, n, xs, e.1 dx _ n e2 (fun _ z => by cases z), l, RpL.mono i e ds e3⟩
  | .lam f c q, v, h => ⟨h.1, e.1 c _ (W.outO i h.2 fun _ z => by unfold LamX.CodeO at z; cases z) h.2 fun _ z => by unfold LamX.CodeO at z; cases z⟩
theorem RpL.mono {K : PySem.W.Frag} {W : Wd} {H H' : Hp} (i : W.I H) (e : Ex W H H') : ∀ (ds : List D) {vs : List V}, RpL K W H ds vs → RpL K W H' ds vs
  | [], vs, h => h
  | d :: ds, vs, h => by
    obtain ⟨v, r, e1, e2, e3⟩ := h
    exact ⟨v, r, e1, Rp.mono i e d e2, RpL.mono i e ds e3⟩
end
section
variable {K : PySem.W.Frag} {W : Wd} {H H' : Hp} {d : D} {ds es : List D} {v : V} {vs ws : List V}
theorem Rp.go (i : W.I H) (g : Go W H H') (h : Rp K W H d v) : Rp K W H' d v := Rp.mono i g.ex d h
theorem RpL.go (i : W.I H) (g : Go W H H') (h : RpL K W H ds vs) : RpL K W H' ds vs := RpL.mono i g.ex ds h
theorem RpL.len : ∀ {ds : List D} {vs : List V}, RpL K W H ds vs → vs.length = ds.length
  | [], _, h => by rw [show _ = [] from h] <;> rfl
  | d :: ds, _, h => by
    obtain ⟨v, r, rfl, _, h2⟩ := h
    simp [RpL.len h2]
theorem RpL.get : ∀ {ds : List D} {vs : List V} {i : Nat} {d : D}, RpL K W H ds vs → ds[i]? = some d → ∃ v, vs[i]? = some v ∧ Rp K W H d v
  | [], _, _, _, _, e => by simp at e
  | d :: ds, _, 0, d', h, e => by
    obtain ⟨v, r, rfl, h1, _⟩ := h
    simp at e; subst e
    exact ⟨v, rfl, h1⟩
  | d :: ds, _, i + 1, d', h, e => by
    obtain ⟨v, r, rfl, _, h2⟩ := h
    obtain ⟨v', e1, e2⟩ := RpL.get (i := i) (d := d') h2 (by simpa using e)
    exact ⟨v', by simpa using e1, e2⟩
theorem RpL.getV : ∀ {ds : List D} {vs : List V} {i : Nat} {v : V}, RpL K W H ds vs → vs[i]? = some v → ∃ d, ds[i]? = some d ∧ Rp K W H d v
  | [], _, _, _, h, e => by rw [show _ = [] from h] at e; simp at e
  | d :: ds, _, 0, v', h, e => by
    obtain ⟨v, r, rfl, h1, _⟩ := h
    simp at e; subst e
    exact ⟨d, rfl, h1⟩
  | d :: ds, _, i + 1, v', h, e => by
    obtain ⟨v, r, rfl, _, h2⟩ := h
    obtain ⟨d', e1, e2⟩ := RpL.getV (i := i) (v := v') h2 (by simpa using e)
    exact ⟨d', by simpa using e1, e2⟩
theorem RpL.app : ∀ {ds : List D} {vs : List V}, RpL K W H ds vs → RpL K W H es ws → RpL K W H (ds ++ es) (vs ++ ws)
  | [], _, h, k => by rw [show _ = [] from h]; exact k
  | d :: ds, _, h, k => by
    obtain ⟨v, r, rfl, h1, h2⟩ := h
    exact ⟨v, r ++ ws, rfl, h1, RpL.app h2 k⟩
theorem RpL.take : ∀ {ds : List D} {vs : List V} (n : Nat), RpL K W H ds vs → RpL K W H (ds.take n) (vs.take n)
  | [], _, n, h => by rw [show _ = [] from h]; simp [RpL]
  | d :: ds, _, 0, h => by simp [RpL]
  | d :: ds, _, n + 1, h => by
    obtain ⟨v, r, rfl, h1, h2⟩ := h
    exact ⟨v, r.take n, rfl, h1, RpL.take n h2⟩
theorem RpL.drop : ∀ {ds : List D} {vs : List V} (n : Nat), RpL K W H ds vs → RpL K W H (ds.drop n) (vs.drop n)
  | [], _, n, h => by rw [show _ = [] from h]; simp [RpL]
  | d :: ds, _, 0, h => h
  | d :: ds, _, n + 1, h => by
    obtain ⟨v, r, rfl, h1, h2⟩ := h
    exact RpL.drop n h2
theorem RpL.ints : ∀ {ns : List Int}, RpL K W H (ns.map D.int) (ns.map V.int)
  | [] => rfl
  | n :: ns => ⟨_, _, rfl, rfl, RpL.ints⟩
theorem RpL.toInts : ∀ {ns : List Int} {vs : List V}, RpL K W H (ns.map D.int) vs → vs = ns.map V.int
  | [], _, h => h
  | n :: ns, _, h => by
    obtain ⟨v, r, rfl, h1, h2⟩ := h
    rw [show v = _ from h1, RpL.toInts h2]
    rfl
theorem RpL.toBls : ∀ {ns : List Bool} {vs : List V}, RpL K W H (ns.map D.bl) vs → vs = ns.map V.bl
  | [], _, h => h
  | n :: ns, _, h => by
    obtain ⟨v, r, rfl, h1, h2⟩ := h
    rw [show v = _ from h1, RpL.toBls h2]
    rfl
theorem RpL.toStrs : ∀ {ns : List Str} {vs : List V}, RpL K W H (ns.map D.str) vs → vs = ns.map V.str
  | [], _, h => h
  | n :: ns, _, h => by
    obtain ⟨v, r, rfl, h1, h2⟩ := h
    rw [show v = _ from h1, RpL.toStrs h2]
    rfl
end
/-- the frame's values by slot; none: nothing is told -/
def Env (K : PySem.W.Frag) (W : Wd) (H : Hp) (Γ : List (Option D)) (σ : St) : Prop := Γ.length = σ.length ∧ ∀ (i : Nat) (d : D), Γ[i]? = some (some d) → ∃ v, σ[i]? = some (some v) ∧ Rp K W H d v
theorem Env.go {K : PySem.W.Frag} {W : Wd} {H H' : Hp} {Γ : List (Option D)} {σ : St} (i : W.I H) (g : Go W H H') (h : Env K W H Γ σ) : Env K W H' Γ σ := ⟨h.1, fun j d e => by
  obtain ⟨v, e1, e2⟩ := h.2 j d e
  exact ⟨v, e1, e2.go i g⟩⟩
theorem Env.set {K : PySem.W.Frag} {W : Wd} {H : Hp} {Γ : List (Option D)} {σ : St} {d : D} {v : V} (j : Nat) (h : Env K W H Γ σ) (r : Rp K W H d v) : Env K W H (Γ.set j (some d)) (σ.set j (some v)) := ⟨by simp [h.1], fun k e hk => by
  by_cases hj : k = j
  · subst hj
    by_cases hl : k < Γ.length
    · rw [List.getElem?_set_self hl] at hk
      cases hk
      exact ⟨v, by rw [List.getElem?_set_self (by rw [← h.1]; exact hl)], r⟩
    · rw [List.getElem?_eq_none (by simpa using hl)] at hk; cases hk
  · rw [List.getElem?_set_ne (Ne.symm hj)] at hk
    obtain ⟨w, e1, e2⟩ := h.2 k e hk
    exact ⟨w, by rw [List.getElem?_set_ne (Ne.symm hj)]; exact e1, e2⟩⟩
/-- what is told may be less -/
theorem Env.weak {K : PySem.W.Frag} {W : Wd} {H : Hp} {Γ Γ' : List (Option D)} {σ : St} (h : Env K W H Γ σ) (hl : Γ'.length = Γ.length) (w : ∀ (i : Nat) (d : D), Γ'[i]? = some (some d) → Γ[i]? = some (some d)) : Env K W H Γ' σ := ⟨hl.trans h.1, fun i d e => h.2 i d (w i d e)⟩
/-- the slots of vs forgotten -/
def wipeG (Γ : List (Option D)) : List Nat → List (Option D)
  | [] => Γ
  | v :: vs => (wipeG Γ vs).set v none
theorem Env.setNone {K : PySem.W.Frag} {W : Wd} {H : Hp} {Γ : List (Option D)} {σ : St} (j : Nat) (h : Env K W H Γ σ) : Env K W H (Γ.set j none) (σ.set j none) := ⟨by simp [h.1], fun k e hk => by
  by_cases hj : k = j
  · subst hj
    by_cases hl : k < Γ.length
    · rw [List.getElem?_set_self hl] at hk; cases hk
    · rw [List.getElem?_eq_none (by simpa using hl)] at hk; cases hk
  · rw [List.getElem?_set_ne (Ne.symm hj)] at hk
    obtain ⟨w, e1, e2⟩ := h.2 k e hk
    exact ⟨w, by rw [List.getElem?_set_ne (Ne.symm hj)]; exact e1, e2⟩⟩
theorem Env.wipe {K : PySem.W.Frag} {W : Wd} {H : Hp} {Γ : List (Option D)} {σ : St} (h : Env K W H Γ σ) : ∀ vs : List Nat, Env K W H (wipeG Γ vs) (L2.wipe σ vs)
  | [] => h
  | v :: vs => (Env.wipe h vs).setNone v

/-! ### any reading that the rules give -/
def tU (X : Cx) (e : Expr) : TE := fun σ H Q => ∃ t : TE, PE X e t ∧ t σ H Q
theorem pe_U {X : Cx} {e : Expr} : PE X e (tU X e) := ⟨fun pins s σ H Q I ⟨_, p, h⟩ => p.run pins s σ H Q I h⟩
def tUT (X : Cx) (e : Expr) : TT := fun σ H Q => ∃ t : TT, PT X e t ∧ t σ H Q
theorem pt_U {X : Cx} {e : Expr} : PT X e (tUT X e) := ⟨fun pins s σ H Q I ⟨_, p, h⟩ => p.run pins s σ H Q I h⟩
def tUA (X : Cx) (es : List Expr) : TA := fun σ H Q => ∃ t : TA, PA X es t ∧ t σ H Q
theorem pa_U {X : Cx} {es : List Expr} : PA X es (tUA X es) := ⟨fun pos pins s σ H Q I ⟨_, p, h⟩ => p.run pos pins s σ H Q I h⟩
def tU1 (X : Cx) (st : Stmt) : TS := fun D σ H => ∃ t : TS, PS X st t ∧ t D σ H
theorem ps_U {X : Cx} {st : Stmt} : PS X st (tU1 X st) := ⟨fun pins s σ H Q I ⟨_, p, h⟩ => p.run pins s σ H Q I h⟩
def tUS (X : Cx) (ss : List Stmt) : TS := fun D σ H => ∃ t : TS, PSs X ss t ∧ t D σ H
theorem pss_U {X : Cx} {ss : List Stmt} : PSs X ss (tUS X ss) := ⟨fun pins s σ H Q I ⟨_, p, h⟩ => p.run pins s σ H Q I h⟩

/-- what is wanted of an exception: its class, its fields -/
abbrev ZK := Addr → List Str → List D → Prop
def ZOk (K : PySem.W.Frag) (W : Wd) (H : Hp) (E : XK) (Z : ZK) : Prop := ∀ (C : Addr) (ns : List Str) (ds : List D) (dx : Addr) (H' : Hp) (xs : List V), Z C ns ds → Go W H H' → H' dx = some (.xd (ns.zip xs)) → ns.length = ds.length → RpL K W H' ds xs → E (.ref C) (some dx) H'
theorem ZOk.go {K : PySem.W.Frag} {W : Wd} {H H' : Hp} {E : XK} {Z : ZK} (z : ZOk K W H E Z) (g : Go W H H') : ZOk K W H' E Z := fun C ns ds dx H2 xs hz g2 => z C ns ds dx H2 xs hz (g.trans g2)
abbrev Z0 : ZK := fun _ _ _ => False
theorem zok0 {K : PySem.W.Frag} {W : Wd} {H : Hp} {E : XK} : ZOk K W H E Z0 := fun _ _ _ _ _ _ z => z.elim

/-! ### the judgements -/
section
variable (X : Cx) (E : XK) (W : Wd)
def EX (e : Expr) (Γ : List (Option D)) (K : D → Prop) (Z : ZK) : Prop := ∀ (σ : St) (H : Hp) (Q : VK), Env X.K W H Γ σ → W.I H → (∀ d v H', K d → Go W H H' → Rp X.K W H' d v → Q v H') → ZOk X.K W H E Z → tU X e σ H Q
def TX (e : Expr) (Γ : List (Option D)) (K : Bool → Prop) (Z : ZK) : Prop := ∀ (σ : St) (H : Hp) (Q : Bool → Hp → Prop), Env X.K W H Γ σ → W.I H → (∀ b H', K b → Go W H H' → Q b H') → ZOk X.K W H E Z → tUT X e σ H Q
def AX (es : List Expr) (Γ : List (Option D)) (K : List D → Prop) (Z : ZK) : Prop := ∀ (σ : St) (H : Hp) (Q : List V → Hp → Prop), Env X.K W H Γ σ → W.I H → (∀ ds vs H', K ds → Go W H H' → RpL X.K W H' ds vs → Q vs H') → ZOk X.K W H E Z → tUA X es σ H Q
/-- ends of statements: next, return, break, continue -/
structure Nd where
  n : List (Option D) → Prop
  r : D → Prop
  b : List (Option D) → Prop := fun _ => False
  c : List (Option D) → Prop := fun _ => False
structure Rch (N : Nd) (T : Ends) (H : Hp) : Prop where
  n : ∀ Γ σ H', N.n Γ → Go W H H' → Env X.K W H' Γ σ → T.nx σ H'
  r : ∀ d v H', N.r d → Go W H H' → Rp X.K W H' d v → T.rt v H'
  b : ∀ Γ σ H', N.b Γ → Go W H H' → Env X.K W H' Γ σ → T.bk σ H'
  c : ∀ Γ σ H', N.c Γ → Go W H H' → Env X.K W H' Γ σ → T.ct σ H'
def S1 (st : Stmt) (Γ : List (Option D)) (N : Nd) (Z : ZK) : Prop := ∀ (σ : St) (H : Hp) (T : Ends), Env X.K W H Γ σ → W.I H → Rch X W N T H → ZOk X.K W H E Z → tU1 X st T σ H
def SX (ss : List Stmt) (Γ : List (Option D)) (N : Nd) (Z : ZK) : Prop := ∀ (σ : St) (H : Hp) (T : Ends), Env X.K W H Γ σ → W.I H → Rch X W N T H → ZOk X.K W H E Z → tUS X ss T σ H
end
section
variable {X : Cx} {E : XK} {W : Wd} {Γ : List (Option D)} {Z : ZK}
theorem Rch.go {N : Nd} {T : Ends} {H H' : Hp} (r : Rch X W N T H) (g : Go W H H') : Rch X W N T H' :=
  ⟨fun Γ σ H2 n g2 e => r.n Γ σ H2 n (g.trans g2) e, fun d v H2 n g2 e => r.r d v H2 n (g.trans g2) e, fun Γ σ H2 n g2 e => r.b Γ σ H2 n (g.trans g2) e, fun Γ σ H2 n g2 e => r.c Γ σ H2 n (g.trans g2) e⟩
theorem EX.imp {e : Expr} {K K' : D → Prop} (h : EX X E W e Γ K Z) (k : ∀ d, K d → K' d) : EX X E W e Γ K' Z := fun σ H Q en i q z => h σ H Q en i (fun d v H' kd g r => q d v H' (k d kd) g r) z
theorem TX.imp {e : Expr} {K K' : Bool → Prop} (h : TX X E W e Γ K Z) (k : ∀ d, K d → K' d) : TX X E W e Γ K' Z := fun σ H Q en i q z => h σ H Q en i (fun d H' kd g => q d H' (k d kd) g) z
end
end DX

set_option Elab.async false
set_option linter.all false
set_option maxRecDepth 100000
set_option maxHeartbeats 2000000
namespace DX
open PySem PySem.Spec PyProof.Rows L2

/-! ### standing facts -/
structure Gb where
  prog : Program
  w : World
  K : PySem.W.Frag
  mg : Str → Option Value
  base : Heap
structure Cn (G : Gb) (X : Cx) (E : XK) (n : Nat) (N : List Str) (sc : Scope) : Prop where
  e1 : X.prog = G.prog
  e2 : X.w = G.w
  e3 : X.K = G.K
  e4 : X.mg = G.mg
  e5 : X.base = G.base
  calm : n ≠ 0 → X.calm = true
  room : n ≠ 0 → Room n X.A
  un : X.A.units + 64 < cLine
  nN : X.N = N
  nd : N.Nodup
  scp : X.env.scope = sc
  px : Passes (L2N.CX X.prog X.w) X E
theorem un_room {k : Nat} {A : Around} (r : Room k A) : A.units + 64 < cLine := by have := r.un; omega
theorem un_roomH {k : Nat} {A : Around} (r : L2H.RoomH k A) : A.units + 64 < cLine := by have := r.un; omega
/-- a def's own frame -/
structure Df (X : Cx) (E : XK) : Prop where
  fn : ∀ x, X.fn x = true
  hs : X.stack = X.env :: X.outer
  hf : X.env.frame = some X.env.locals
  hex : X.ex = []
  tk : L2N.Takes X (fun cls d _ H => E cls d H)
abbrev FSpec := Wd → List D → (D → Prop) → ZK → Prop
/-- the promise of a def, told over trees -/
def SpD (K : PySem.W.Frag) (F : FSpec) : Sp := fun vs H Q E => ∃ (W : Wd) (ds : List D) (Kc : D → Prop) (Z : ZK), W.I H ∧ RpL K W H ds vs ∧ F W ds Kc Z ∧ (∀ d v H', Kc d → Go W H H' → Rp K W H' d v → Q v H') ∧ ZOk K W H E Z
structure Fn (G : Gb) (x : Str) (ps : List Str) (k : Nat) (F : FSpec) : Prop where
  ex : ∃ f fd, G.mg x = some (.ref f) ∧ PySem.W.keepIn G.K (.ref f) = true ∧ Binds G.K fd ps [] ∧ FnOk G.prog G.w G.K G.mg G.base (L2N.CX G.prog G.w) k f fd ps (SpD G.K F)
theorem Fn.mono {G : Gb} {x : Str} {ps : List Str} {j k : Nat} {F : FSpec} (h : Fn G x ps j F) (l : j ≤ k) : Fn G x ps k F := by
  obtain ⟨f, fd, a, b, c, d⟩ := h.ex
  exact ⟨f, fd, a, b, c, d.mono l⟩

def visB (sc : Scope) (x : Str) : Bool := (match sc.names.lookup x with | some .local => true | some .cell => true | some .free => true | _ => false) && !(x == ("__debug__" : Str)) && !(x == ("__classdict__" : Str))
def gloB (sc : Scope) (x : Str) : Bool := (match sc.names.lookup x with | some .globalImplicit => true | _ => false) && !(x == ("__debug__" : Str)) && !(x == ("__name__" : Str))
def locB (sc : Scope) (x : Str) : Bool := (match sc.names.lookup x with | some .local => true | _ => false)
def celB (sc : Scope) (x : Str) : Bool := (match sc.names.lookup x with | some .cell => true | _ => false)
theorem visB_ok {sc : Scope} {x : Str} (h : visB sc x = true) : Vis sc x ∧ (x == ("__debug__" : Str)) = false ∧ (x == ("__classdict__" : Str)) = false := by
  unfold visB at h
  simp only [Bool.and_eq_true, Bool.not_eq_true'] at h
  obtain ⟨⟨h1, h2⟩, h3⟩ := h
  refine ⟨?_, h2, h3⟩
  unfold Vis
  split at h1
  · rename_i e; exact .inl e
  · rename_i e; exact .inr (.inl e)
  · rename_i e; exact .inr (.inr e)
  · cases h1
theorem gloB_ok {X : Cx} {sc : Scope} {x : Str} (e : X.env.scope = sc) (h : gloB sc x = true) : Gl X x ∧ (x == ("__debug__" : Str)) = false ∧ x ≠ "__name__" := by
  unfold gloB at h
  simp only [Bool.and_eq_true, Bool.not_eq_true'] at h
  obtain ⟨⟨h1, h2⟩, h3⟩ := h
  refine ⟨?_, h2, by simpa using h3⟩
  show X.env.scope.names.lookup x = _
  rw [e]
  split at h1
  · assumption
  · cases h1
theorem locB_ok {sc : Scope} {x : Str} (h : locB sc x = true) : sc.names.lookup x = some .local := by
  unfold locB at h
  split at h
  · assumption
  · cases h
theorem celB_ok {sc : Scope} {x : Str} (h : celB sc x = true) : sc.names.lookup x = some .cell := by
  unfold celB at h
  split at h
  · assumption
  · cases h

section
variable {G : Gb} {X : Cx} {E : XK} {n : Nat} {N : List Str} {sc : Scope} {W : Wd} {Γ : List (Option D)} {Z : ZK} {K : D → Prop} {pos p p2 : Pos}

/-! ### names, constants -/
theorem ex_name {x : Str} {i : Nat} {d : D} (cn : Cn G X E n N sc) (ix : N[i]? = some x) (hv : visB sc x = true) (hd : Γ[i]? = some (some d)) (k : K d) : EX X E W (.Name x pos) Γ K Z := fun σ H Q en hi q z => by
  obtain ⟨v, e1, r⟩ := en.2 i d hd
  obtain ⟨h1, h2, h3⟩ := visB_ok hv
  exact ⟨_, pe_var (i := i) (by rw [cn.nN]; exact ix) (by rw [cn.scp]; exact h1) h2 h3, v, e1, q d v H k (Go.refl hi) r⟩
theorem ex_int {i : Int} {j : Nat} (k : K (.int i)) : EX X E W (.Constant (.int i) j pos) Γ K Z := fun σ H Q en hi q z => ⟨_, pe_int, q _ _ H k (Go.refl hi) rfl⟩
theorem ex_bl {b : Bool} {j : Nat} (k : K (.bl b)) : EX X E W (.Constant (.bool b) j pos) Γ K Z := fun σ H Q en hi q z => ⟨_, pe_bl, q _ _ H k (Go.refl hi) rfl⟩
theorem ex_non {j : Nat} (k : K .non) : EX X E W (.Constant .none j pos) Γ K Z := fun σ H Q en hi q z => ⟨_, pe_non, q _ _ H k (Go.refl hi) rfl⟩
theorem ex_str {x : Str} {j : Nat} (k : K (.str x)) : EX X E W (.Constant (.str x) j pos) Γ K Z := fun σ H Q en hi q z => ⟨_, pe_str, q _ _ H k (Go.refl hi) rfl⟩
/-- a module's constant -/
def GlV (G : Gb) (x : Str) (d : D) : Prop := ∃ u v, G.mg x = some u ∧ RelV v u ∧ ∀ W H, W.I H → Rp G.K W H d v
theorem ex_glob {x : Str} {d : D} (cn : Cn G X E n N sc) (hg : gloB sc x = true) (h : GlV G x d) (k : K d) : EX X E W (.Name x pos) Γ K Z := fun σ H Q en hi q z => by
  obtain ⟨u, v, e, r, rp⟩ := h
  obtain ⟨h1, h2, _⟩ := gloB_ok cn.scp hg
  exact ⟨_, pe_glob h1 (by rw [cn.e4]; exact e) r h2, q d v H k (Go.refl hi) (by rw [cn.e3]; exact rp W H hi)⟩
/-- a built-in's name as a value -/
theorem ex_bltn {x : Str} {T : String} (cn : Cn G X E n N sc) (hg : gloB sc x = true) (hm : G.mg x = none) (hv : bootBuiltins x = some (.type T)) (k : K (.ty T)) : EX X E W (.Name x pos) Γ K Z := fun σ H Q en hi q z => by
  obtain ⟨h1, h2, h3⟩ := gloB_ok cn.scp hg
  exact ⟨_, pe_bltn h1 (by rw [cn.e4]; exact hm) hv (v := .ty T) rfl h3 h2, q _ _ H k (Go.refl hi) rfl⟩

/-! ### operators -/
def RO (X : Cx) (W : Wd) (r : R2) (x y : D) (K : D → Prop) : Prop := ∀ v w H Q, Rp X.K W H x v → Rp X.K W H y w → W.I H → (∀ d u H', K d → Go W H H' → Rp X.K W H' d u → Q u H') → r v w H Q
theorem ex_bin {op : Operator} {a b : Expr} {r : R2} (ho : OpR X (binaryOp op) r) (h : EX X E W a Γ (fun x => EX X E W b Γ (fun y => RO X W r x y K) Z) Z) : EX X E W (.BinOp a op b pos) Γ K Z := fun σ H Q en hi q z => by
  refine ⟨_, pe_op ho pe_U pe_U, ?_⟩
  refine h σ H _ en hi (fun x v H1 kx g1 rx => ?_) z
  refine kx σ H1 _ (en.go hi g1) g1.i (fun y w H2 ky g2 ry => ?_) (z.go g1)
  exact ky v w H2 Q (rx.go g1.i g2) ry g2.i (fun d u H3 kd g3 rd => q d u H3 kd ((g1.trans g2).trans g3) rd)
theorem ex_cmp {op : CmpOp} {a b : Expr} {r : R2} (ho : OpR X (compareOp op) r) (hm : behindInMarks op b = false) (h : EX X E W a Γ (fun x => EX X E W b Γ (fun y => RO X W r x y K) Z) Z) : EX X E W (.Compare a [op] [b] pos) Γ K Z := fun σ H Q en hi q z => by
  refine ⟨_, pe_cmpR ho pe_U pe_U hm, ?_⟩
  refine h σ H _ en hi (fun x v H1 kx g1 rx => ?_) z
  refine kx σ H1 _ (en.go hi g1) g1.i (fun y w H2 ky g2 ry => ?_) (z.go g1)
  exact ky v w H2 Q (rx.go g1.i g2) ry g2.i (fun d u H3 kd g3 rd => q d u H3 kd ((g1.trans g2).trans g3) rd)
/-- a < b < c over ints, or what r, r' are -/
theorem ex_chain {op op' : CmpOp} {a b c : Expr} {r r' : R2} (ho : OpR X (compareOp op) r) (ho' : OpR X (compareOp op') r')
    (h : EX X E W a Γ (fun x => EX X E W b Γ (fun y => RO X W r x y (fun u => ∃ t, u = .bl t ∧ (t = true → EX X E W c Γ (fun z => RO X W r' y z K) Z) ∧ (t = false → K (.bl false)))) Z) Z)
    (hm : lastMarks [op, op'] [b, c] = false := by with_unfolding_all rfl) : EX X E W (.Compare a [op, op'] [b, c] pos) Γ K Z := fun σ H Q en hi q z => by
  refine ⟨_, pe_chain ho ho' pe_U pe_U pe_U hm, ?_⟩
  refine h σ H _ en hi (fun x v H1 kx g1 rx => ?_) z
  refine kx σ H1 _ (en.go hi g1) g1.i (fun y w H2 ky g2 ry => ?_) (z.go g1)
  refine ky v w H2 _ (rx.go g1.i g2) ry g2.i (fun d u H3 kd g3 rd => ?_)
  obtain ⟨t, rfl, k1, k2⟩ := kd
  obtain rfl : u = V.bl t := rd
  refine ⟨t, rfl, ?_⟩
  cases t with
  | false => rw [if_neg (by decide)]; exact q _ _ H3 (k2 rfl) ((g1.trans g2).trans g3) rfl
  | true =>
    rw [if_pos rfl]
    refine k1 rfl σ H3 _ (((en.go hi g1).go g1.i g2).go g2.i g3) g3.i (fun e w2 H4 ke g4 re => ?_) (((z.go g1).go g2).go g3)
    exact ke w w2 H4 Q ((ry.go g2.i g3).go g3.i g4) re g4.i (fun d u H5 kd g5 rd => q d u H5 kd (((((g1.trans g2).trans g3).trans g4)).trans g5) rd)
def RU (X : Cx) (W : Wd) (r : V → Hp → VK → Prop) (x : D) (K : D → Prop) : Prop := ∀ v H Q, Rp X.K W H x v → W.I H → (∀ d u H', K d → Go W H H' → Rp X.K W H' d u → Q u H') → r v H Q
theorem ex_un {op : UnaryOp} {a : Expr} {r : V → Hp → VK → Prop} (ho : UnR X (unaryOp op) r) (h : EX X E W a Γ (fun x => RU X W r x K) Z) : EX X E W (.UnaryOp op a pos) Γ K Z := fun σ H Q en hi q z => by
  refine ⟨_, pe_un ho pe_U, ?_⟩
  refine h σ H _ en hi (fun x v H1 kx g1 rx => ?_) z
  exact kx v H1 Q rx g1.i (fun d u H3 kd g3 rd => q d u H3 kd (g1.trans g3) rd)
theorem ex_neg {a : Expr} (h : EX X E W a Γ (fun x => ∃ i, x = .int i ∧ K (.int (-i))) Z) : EX X E W (.UnaryOp .USub a pos) Γ K Z :=
  ex_un un_neg (h.imp fun d ⟨i, e, k⟩ v H Q r hi q => by
    subst e
    exact ⟨i, r, q _ _ H k (Go.refl hi) rfl⟩)
theorem ex_not {a : Expr} (h : EX X E W a Γ (fun x => ∃ c, x = .bl c ∧ K (.bl (!c))) Z) : EX X E W (.UnaryOp .Not a pos) Γ K Z := fun σ H Q en hi q z => by
  refine ⟨_, pe_not pe_U, ?_⟩
  refine h σ H _ en hi (fun x v H1 kx g1 rx => ?_) z
  obtain ⟨c, rfl, k⟩ := kx
  exact ⟨c, rx, q _ _ H1 k g1 rfl⟩
theorem ex_one {op : BoolOp} {a : Expr} (h : EX X E W a Γ K Z) : EX X E W (.BoolOp op [a] pos) Γ K Z := fun σ H Q en hi q z => ⟨_, pe_one pe_U, h σ H Q en hi q z⟩
theorem ex_and {a b : Expr} {rest : List Expr} (h : EX X E W a Γ (fun x => ∃ c, x = .bl c ∧ (c = true → EX X E W (.BoolOp .And (b :: rest) pos) Γ K Z) ∧ (c = false → K (.bl false))) Z) : EX X E W (.BoolOp .And (a :: b :: rest) pos) Γ K Z := fun σ H Q en hi q z => by
  refine ⟨_, pe_and pe_U pe_U, ?_⟩
  refine h σ H _ en hi (fun x v H1 kx g1 rx => ?_) z
  obtain ⟨c, rfl, k1, k2⟩ := kx
  refine ⟨c, rx, ?_⟩
  cases c with
  | true => rw [if_pos rfl]; exact k1 rfl σ H1 Q (en.go hi g1) g1.i (fun d u H3 kd g3 rd => q d u H3 kd (g1.trans g3) rd) (z.go g1)
  | false => rw [if_neg (by decide)]; exact q _ _ H1 (k2 rfl) g1 rfl
theorem ex_or {a b : Expr} {rest : List Expr} (h : EX X E W a Γ (fun x => ∃ c, x = .bl c ∧ (c = false → EX X E W (.BoolOp .Or (b :: rest) pos) Γ K Z) ∧ (c = true → K (.bl true))) Z) : EX X E W (.BoolOp .Or (a :: b :: rest) pos) Γ K Z := fun σ H Q en hi q z => by
  refine ⟨_, pe_or pe_U pe_U, ?_⟩
  refine h σ H _ en hi (fun x v H1 kx g1 rx => ?_) z
  obtain ⟨c, rfl, k1, k2⟩ := kx
  refine ⟨c, rx, ?_⟩
  cases c with
  | false => rw [if_neg (by decide)]; exact k1 rfl σ H1 Q (en.go hi g1) g1.i (fun d u H3 kd g3 rd => q d u H3 kd (g1.trans g3) rd) (z.go g1)
  | true => rw [if_pos rfl]; exact q _ _ H1 (k2 rfl) g1 rfl
theorem ex_if {c a b : Expr} (h : TX X E W c Γ (fun t => (t = true → EX X E W a Γ K Z) ∧ (t = false → EX X E W b Γ K Z)) Z) : EX X E W (.IfExp c a b pos) Γ K Z := fun σ H Q en hi q z => by
  refine ⟨_, pe_ifExp pt_U pe_U pe_U, ?_⟩
  refine h σ H _ en hi (fun t H1 k g1 => ?_) z
  cases t with
  | true => rw [if_pos rfl]; exact k.1 rfl σ H1 Q (en.go hi g1) g1.i (fun d u H3 kd g3 rd => q d u H3 kd (g1.trans g3) rd) (z.go g1)
  | false => rw [if_neg (by decide)]; exact k.2 rfl σ H1 Q (en.go hi g1) g1.i (fun d u H3 kd g3 rd => q d u H3 kd (g1.trans g3) rd) (z.go g1)

/-! ### tests -/
theorem tx_val {e : Expr} {K : Bool → Prop} (h : EX X E W e Γ (fun d => ∃ b, d = .bl b ∧ K b) Z) (he : ∀ whole, isTrue e X.env whole = (do let v ← whole; standAt e.pos; holding [v] (truthy v)) := by intro _; rfl) : TX X E W e Γ K Z := fun σ H Q en hi q z => by
  refine ⟨_, pt_val pe_U he, ?_⟩
  refine h σ H _ en hi (fun x v H1 kx g1 rx => ?_) z
  obtain ⟨c, rfl, k⟩ := kx
  exact ⟨c, rx, q _ H1 k g1⟩
theorem tx_cmp {op : CmpOp} {a b : Expr} {r : R2} {K : Bool → Prop} (ho : OpR X (compareOp op) r) (hm : behindInMarks op b = false) (h : EX X E W a Γ (fun x => EX X E W b Γ (fun y => RO X W r x y (fun d => ∃ b, d = .bl b ∧ K b)) Z) Z) : TX X E W (.Compare a [op] [b] pos) Γ K Z := fun σ H Q en hi q z => by
  refine ⟨_, pt_cmpR ho pe_U pe_U hm, ?_⟩
  refine h σ H _ en hi (fun x v H1 kx g1 rx => ?_) z
  refine kx σ H1 _ (en.go hi g1) g1.i (fun y w H2 ky g2 ry => ?_) (z.go g1)
  refine ky v w H2 _ (rx.go g1.i g2) ry g2.i (fun d u H3 kd g3 rd => ?_)
  obtain ⟨c, rfl, k⟩ := kd
  exact ⟨c, rd, q _ H3 k ((g1.trans g2).trans g3)⟩
theorem tx_chain {op op' : CmpOp} {a b c : Expr} {r r' : R2} {K : Bool → Prop} (ho : OpR X (compareOp op) r) (ho' : OpR X (compareOp op') r')
    (h : EX X E W a Γ (fun x => EX X E W b Γ (fun y => RO X W r x y (fun u => ∃ t, u = .bl t ∧ (t = true → EX X E W c Γ (fun z => RO X W r' y z (fun d => ∃ b, d = .bl b ∧ K b)) Z) ∧ (t = false → K false))) Z) Z)
    (hm : lastMarks [op, op'] [b, c] = false := by with_unfolding_all rfl) : TX X E W (.Compare a [op, op'] [b, c] pos) Γ K Z := fun σ H Q en hi q z => by
  refine ⟨_, pt_chain ho ho' pe_U pe_U pe_U hm, ?_⟩
  refine h σ H _ en hi (fun x v H1 kx g1 rx => ?_) z
  refine kx σ H1 _ (en.go hi g1) g1.i (fun y w H2 ky g2 ry => ?_) (z.go g1)
  refine ky v w H2 _ (rx.go g1.i g2) ry g2.i (fun d u H3 kd g3 rd => ?_)
  obtain ⟨t, rfl, k1, k2⟩ := kd
  obtain rfl : u = V.bl t := rd
  refine ⟨t, rfl, ?_⟩
  cases t with
  | false => rw [if_neg (by decide)]; exact ⟨false, rfl, q _ H3 (k2 rfl) ((g1.trans g2).trans g3)⟩
  | true =>
    rw [if_pos rfl]
    refine k1 rfl σ H3 _ (((en.go hi g1).go g1.i g2).go g2.i g3) g3.i (fun e w2 H4 ke g4 re => ?_) (((z.go g1).go g2).go g3)
    refine ke w w2 H4 _ ((ry.go g2.i g3).go g3.i g4) re g4.i (fun d u H5 kd g5 rd => ?_)
    obtain ⟨c, rfl, k⟩ := kd
    exact ⟨c, rd, q _ H5 k (((((g1.trans g2).trans g3).trans g4)).trans g5)⟩
theorem tx_not {a : Expr} {K : Bool → Prop} (h : TX X E W a Γ (fun b => K (!b)) Z) : TX X E W (.UnaryOp .Not a pos) Γ K Z := fun σ H Q en hi q z => by
  refine ⟨_, pt_not pt_U, ?_⟩
  exact h σ H _ en hi (fun t H1 k g1 => q _ H1 k g1) z
/-- and, or as tests -/
def TW (X : Cx) (E : XK) (W : Wd) (e : Expr) (Γ : List (Option D)) (K : Bool → Prop) (Z : ZK) : Prop := ∀ (σ : St) (H : Hp) (Q : Bool → Hp → Prop), Env X.K W H Γ σ → W.I H → (∀ b H', K b → Go W H H' → Q b H') → ZOk X.K W H E Z → ∃ t : TT, L2.PW X e t ∧ t σ H Q
def tUW (X : Cx) (e : Expr) : TT := fun σ H Q => ∃ t : TT, L2.PW X e t ∧ t σ H Q
theorem pw_U {X : Cx} {e : Expr} : L2.PW X e (tUW X e) := ⟨fun wh pins s σ H Q I ⟨_, p, h⟩ => p.run wh pins s σ H Q I h⟩
theorem tx_bool {e : Expr} {K : Bool → Prop} (h : TW X E W e Γ K Z) : TX X E W e Γ K Z := fun σ H Q en hi q z => by
  obtain ⟨t, p, hh⟩ := h σ H Q en hi q z
  exact ⟨t, p.pt, hh⟩
theorem tw_and1 {a : Expr} {K : Bool → Prop} (h : TX X E W a Γ K Z) : TW X E W (.BoolOp .And [a] pos) Γ K Z := fun σ H Q en hi q z => ⟨_, pw_and1 pt_U, h σ H Q en hi q z⟩
theorem tw_or1 {a : Expr} {K : Bool → Prop} (h : TX X E W a Γ K Z) : TW X E W (.BoolOp .Or [a] pos) Γ K Z := fun σ H Q en hi q z => ⟨_, pw_or1 pt_U, h σ H Q en hi q z⟩
theorem tw_and {a b : Expr} {rest : List Expr} {K : Bool → Prop} (h : TX X E W a Γ (fun t => (t = true → TW X E W (.BoolOp .And (b :: rest) pos) Γ K Z) ∧ (t = false → K false)) Z) : TW X E W (.BoolOp .And (a :: b :: rest) pos) Γ K Z := fun σ H Q en hi q z => by
  refine ⟨_, pw_and pt_U pw_U, ?_⟩
  refine h σ H _ en hi (fun t H1 k g1 => ?_) z
  cases t with
  | true => rw [if_pos rfl]; exact k.1 rfl σ H1 Q (en.go hi g1) g1.i (fun d H3 kd g3 => q d H3 kd (g1.trans g3)) (z.go g1)
  | false => rw [if_neg (by decide)]; exact q _ H1 (k.2 rfl) g1
theorem tw_or {a b : Expr} {rest : List Expr} {K : Bool → Prop} (h : TX X E W a Γ (fun t => (t = false → TW X E W (.BoolOp .Or (b :: rest) pos) Γ K Z) ∧ (t = true → K true)) Z) : TW X E W (.BoolOp .Or (a :: b :: rest) pos) Γ K Z := fun σ H Q en hi q z => by
  refine ⟨_, pw_or pt_U pw_U, ?_⟩
  refine h σ H _ en hi (fun t H1 k g1 => ?_) z
  cases t with
  | false => rw [if_neg (by decide)]; exact k.1 rfl σ H1 Q (en.go hi g1) g1.i (fun d H3 kd g3 => q d H3 kd (g1.trans g3)) (z.go g1)
  | true => rw [if_pos rfl]; exact q _ H1 (k.2 rfl) g1

/-! ### argument lists, displays -/
theorem ax_nil {K : List D → Prop} (k : K []) : AX X E W [] Γ K Z := fun σ H Q en hi q z => ⟨_, pa_nil, q [] [] H k (Go.refl hi) rfl⟩
theorem ax_cons {e : Expr} {es : List Expr} {K : List D → Prop} (h : EX X E W e Γ (fun x => AX X E W es Γ (fun xs => K (x :: xs)) Z) Z) (hs : starEach (e :: es) X.env = (false, eval e X.env) :: starEach es X.env := by rfl) : AX X E W (e :: es) Γ K Z := fun σ H Q en hi q z => by
  refine ⟨_, pa_cons pe_U pa_U hs, ?_⟩
  refine h σ H _ en hi (fun x v H1 kx g1 rx => ?_) z
  refine kx σ H1 _ (en.go hi g1) g1.i (fun xs vs H2 k g2 r => ?_) (z.go g1)
  exact q (x :: xs) (v :: vs) H2 k (g1.trans g2) ⟨v, vs, rfl, rx.go g1.i g2, r⟩
theorem ex_tup {es : List Expr} {x1} (h : AX X E W es Γ (fun ds => ds.length ≤ 100000 ∧ K (.tup ds)) Z) : EX X E W (.Tuple es x1 pos) Γ K Z := fun σ H Q en hi q z => by
  refine ⟨_, pe_tup pa_U, ?_⟩
  refine h σ H _ en hi (fun ds vs H1 kx g1 rx => ?_) z
  refine ⟨by rw [rx.len]; exact Nat.le_trans kx.1 (by decide), fun p hp => ?_⟩
  have g2 : Go W H1 (upd H1 p (.tup vs)) := Go.new g1.i hp
  exact q _ _ _ kx.2 (g1.trans g2) ⟨p, vs, rfl, SqT.of upd_same, rx.go g1.i g2⟩
theorem ex_lst {es : List Expr} (h : AX X E W es Γ (fun ds => ds.length ≤ 100000 ∧ K (.lst ds)) Z) : EX X E W (.List es pos) Γ K Z := fun σ H Q en hi q z => by
  refine ⟨_, pe_lst pa_U, ?_⟩
  refine h σ H _ en hi (fun ds vs H1 kx g1 rx => ?_) z
  refine ⟨by rw [rx.len]; exact Nat.le_trans kx.1 (by decide), fun p hp => ?_⟩
  have g2 : Go W H1 (upd H1 p (.lst vs)) := Go.new g1.i hp
  exact q _ _ _ kx.2 (g1.trans g2) ⟨p, vs, rfl, W.out g1.i hp, upd_same, rx.go g1.i g2⟩

/-! ### calls of defs -/
theorem ex_call {x : Str} {e : Expr} {es : List Expr} {ps : List Str} {k : Nat} {F : FSpec} (cn : Cn G X E n N sc) (hg : gloB sc x = true) (f : Fn G x ps k F) (hk : k ≤ n ∧ n ≠ 0) (h : AX X E W (e :: es) Γ (fun ds => F W ds K Z) Z)
    (he : starEach (e :: es) X.env = (false, eval e X.env) :: starEach es X.env := by rfl) (hpl : (backTo pos (starEach es X.env)).any (·.1) = false := by rfl) : EX X E W (.Call (.Name x p) (e :: es) [] pos) Γ K Z := fun σ H Q en hi q z => by
  obtain ⟨a, fd, m1, m2, m3, m4⟩ := f.ex
  obtain ⟨h1, h2, _⟩ := gloB_ok cn.scp hg
  rw [← cn.e1, ← cn.e2, ← cn.e3, ← cn.e4, ← cn.e5] at m4
  rw [← cn.e4] at m1
  rw [← cn.e3] at m2 m3
  refine ⟨_, pe_call m4 ((cn.room hk.2).mono hk.1) h1 m1 m2 m3 .nil cn.px pa_U h2 he hpl, ?_⟩
  refine h σ H _ en hi (fun ds vs H1 kx g1 rx => ?_) z
  show SpD X.K F (vs ++ []) H1 Q E
  rw [List.append_nil]
  exact ⟨W, ds, K, Z, g1.i, rx, kx, fun d v H' kd g r => q d v H' kd (g1.trans g) r, z.go g1⟩
theorem ex_call0 {x : Str} {ps : List Str} {k : Nat} {F : FSpec} (cn : Cn G X E n N sc) (hg : gloB sc x = true) (f : Fn G x ps k F) (hk : k ≤ n ∧ n ≠ 0) (h : F W [] K Z) : EX X E W (.Call (.Name x p) [] [] pos) Γ K Z := fun σ H Q en hi q z => by
  obtain ⟨a, fd, m1, m2, m3, m4⟩ := f.ex
  obtain ⟨h1, h2, _⟩ := gloB_ok cn.scp hg
  rw [← cn.e1, ← cn.e2, ← cn.e3, ← cn.e4, ← cn.e5] at m4
  rw [← cn.e4] at m1
  rw [← cn.e3] at m2 m3
  refine ⟨_, pe_call0 m4 ((cn.room hk.2).mono hk.1) h1 m1 m2 m3 .nil cn.px h2, ?_⟩
  show SpD X.K F ([] ++ []) H Q E
  exact ⟨W, [], K, Z, hi, rfl, h, fun d v H' kd g r => q d v H' kd g r, z⟩

/-! ### calls of built-ins -/
def RC (X : Cx) (W : Wd) (r : List V → Hp → VK → Prop) (ds : List D) (K : D → Prop) : Prop := ∀ vs H Q, RpL X.K W H ds vs → W.I H → (∀ d u H', K d → Go W H H' → Rp X.K W H' d u → Q u H') → r vs H Q
theorem ex_callB {x : Str} {id : String} {e : Expr} {es : List Expr} {r : List V → Hp → VK → Prop} (cn : Cn G X E n N sc) (hc : CallR X (.builtin id) r) (hg : gloB sc x = true) (hm : G.mg x = none) (hv : bootBuiltins x = some (.builtin id)) (h : AX X E W (e :: es) Γ (fun ds => RC X W r ds K) Z)
    (he : starEach (e :: es) X.env = (false, eval e X.env) :: starEach es X.env := by rfl) (hpl : (backTo pos (starEach es X.env)).any (·.1) = false := by rfl) : EX X E W (.Call (.Name x p) (e :: es) [] pos) Γ K Z := fun σ H Q en hi q z => by
  obtain ⟨h1, h2, h3⟩ := gloB_ok cn.scp hg
  refine ⟨_, pe_callB hc h1 (by rw [cn.e4]; exact hm) hv pa_U h3 h2 he hpl, ?_⟩
  refine h σ H _ en hi (fun ds vs H1 kx g1 rx => ?_) z
  exact kx vs H1 Q rx g1.i (fun d u H' kd g r => q d u H' kd (g1.trans g) r)
theorem ex_callTy {x : Str} {T : String} {e : Expr} {es : List Expr} {r : List V → Hp → VK → Prop} (cn : Cn G X E n N sc) (hc : CallR X (.type T) r) (hg : gloB sc x = true) (hm : G.mg x = none) (hv : bootBuiltins x = some (.type T)) (h : AX X E W (e :: es) Γ (fun ds => RC X W r ds K) Z)
    (he : starEach (e :: es) X.env = (false, eval e X.env) :: starEach es X.env := by rfl) (hpl : (backTo pos (starEach es X.env)).any (·.1) = false := by rfl) : EX X E W (.Call (.Name x p) (e :: es) [] pos) Γ K Z := fun σ H Q en hi q z => by
  obtain ⟨h1, h2, h3⟩ := gloB_ok cn.scp hg
  refine ⟨_, pe_callTy hc h1 (by rw [cn.e4]; exact hm) hv pa_U h3 h2 he hpl, ?_⟩
  refine h σ H _ en hi (fun ds vs H1 kx g1 rx => ?_) z
  exact kx vs H1 Q rx g1.i (fun d u H' kd g r => q d u H' kd (g1.trans g) r)

/-! ### statements -/
theorem sx_nil {N' : Nd} (k : N'.n Γ) : SX X E W [] Γ N' Z := fun σ H T en hi r z => ⟨_, pss_nil, r.n Γ σ H k (Go.refl hi) en⟩
theorem sx_cons {st : Stmt} {rest : List Stmt} {N' : Nd} (h : S1 X E W st Γ { N' with n := fun Γ' => SX X E W rest Γ' N' Z } Z) : SX X E W (st :: rest) Γ N' Z := fun σ H T en hi r z => by
  refine ⟨_, pss_cons ps_U pss_U, ?_⟩
  show tU1 X st { T with nx := tUS X rest T } σ H
  exact h σ H _ en hi ⟨fun Γ' σ' H' k g e => k σ' H' T e g.i (r.go g) (z.go g), r.r, r.b, r.c⟩ z
theorem sx_one {st : Stmt} {N' : Nd} (h : S1 X E W st Γ N' Z) : SX X E W [st] Γ N' Z := fun σ H T en hi r z => ⟨_, pss_one ps_U, h σ H T en hi r z⟩
theorem s_set {x : Str} {i : Nat} {e : Expr} {N' : Nd} (cn : Cn G X E n N sc) (ix : N[i]? = some x) (hl : locB sc x = true) (h : EX X E W e Γ (fun d => N'.n (Γ.set i (some d))) Z) (hs : swapsWith e (some (.Name x p)) pos.line X.env = pure false := by rfl) : S1 X E W (.Assign [.Name x p] e pos) Γ N' Z := fun σ H T en hi r z => by
  have hx := locB_ok hl
  have hx' : X.env.scope.names.lookup x = some .local := by rw [cn.scp]; exact hx
  refine ⟨_, ps_set (i := i) (by rw [cn.nN]; exact cn.nd) (by rw [cn.nN]; exact ix) (.inl hx') pe_U hs (.inr hx'), ?_⟩
  exact h σ H _ en hi (fun d v H1 kx g1 rx => r.n _ _ _ kx g1 ((en.go hi g1).set i rx)) z
/-- a name that an inner scope reads, too -/
theorem s_setc {x : Str} {i : Nat} {e : Expr} {N' : Nd} (cn : Cn G X E n N sc) (df : Df X E) (ix : N[i]? = some x) (hl : celB sc x = true) (h : EX X E W e Γ (fun d => N'.n (Γ.set i (some d))) Z) (hs : swapsWith e (some (.Name x p)) pos.line X.env = pure false := by rfl) : S1 X E W (.Assign [.Name x p] e pos) Γ N' Z := fun σ H T en hi r z => by
  have hx := celB_ok hl
  have hx' : X.env.scope.names.lookup x = some .cell := by rw [cn.scp]; exact hx
  refine ⟨_, ps_set (i := i) (by rw [cn.nN]; exact cn.nd) (by rw [cn.nN]; exact ix) (.inr hx') pe_U hs (.inl (df.fn x)), ?_⟩
  exact h σ H _ en hi (fun d v H1 kx g1 rx => r.n _ _ _ kx g1 ((en.go hi g1).set i rx)) z
theorem s_ret {e : Expr} {N' : Nd} (h : EX X E W e Γ N'.r Z) : S1 X E W (.Return (some e) pos) Γ N' Z := fun σ H T en hi r z => ⟨_, ps_ret pe_U, h σ H _ en hi (fun d v H1 kx g1 rx => r.r _ _ _ kx g1 rx) z⟩
theorem s_retN {N' : Nd} (k : N'.r .non) : S1 X E W (.Return none pos) Γ N' Z := fun σ H T en hi r z => ⟨_, ps_retN, r.r _ _ _ k (Go.refl hi) rfl⟩
theorem s_pass {N' : Nd} (k : N'.n Γ) : S1 X E W (.Pass pos) Γ N' Z := fun σ H T en hi r z => ⟨_, ps_pass, r.n _ _ _ k (Go.refl hi) en⟩
theorem s_brk {N' : Nd} (k : N'.b Γ) : S1 X E W (.Break pos) Γ N' Z := fun σ H T en hi r z => ⟨_, ps_break, r.b _ _ _ k (Go.refl hi) en⟩
theorem s_cont {N' : Nd} (k : N'.c Γ) : S1 X E W (.Continue pos) Γ N' Z := fun σ H T en hi r z => ⟨_, ps_continue, r.c _ _ _ k (Go.refl hi) en⟩
theorem s_if {c : Expr} {a b : List Stmt} {N' : Nd} (h : TX X E W c Γ (fun t => (t = true → SX X E W a Γ N' Z) ∧ (t = false → SX X E W b Γ N' Z)) Z) : S1 X E W (.If c a b pos) Γ N' Z := fun σ H T en hi r z => by
  refine ⟨_, ps_if pt_U pss_U pss_U, ?_⟩
  refine h σ H _ en hi (fun t H1 k g1 => ?_) z
  cases t with
  | true => rw [if_pos rfl]; exact k.1 rfl σ H1 T (en.go hi g1) g1.i (r.go g1) (z.go g1)
  | false => rw [if_neg (by decide)]; exact k.2 rfl σ H1 T (en.go hi g1) g1.i (r.go g1) (z.go g1)
end
end DX

set_option Elab.async false
set_option linter.all false
set_option maxRecDepth 100000
set_option maxHeartbeats 2000000
namespace DX
open PySem PySem.Spec PyProof.Rows L2
section
variable {G : Gb} {X : Cx} {E : XK} {n : Nat} {N : List Str} {sc : Scope} {W : Wd} {Γ : List (Option D)} {Z : ZK} {K : D → Prop} {pos p p2 : Pos}

/-! ### what is made of a value: an answer without a change, a new object -/
theorem ro0 {r : R2} {x y d : D} (h : ∀ v w H (Q : VK), Rp X.K W H x v → Rp X.K W H y w → W.I H → (∀ u, Rp X.K W H d u → Q u H) → r v w H Q) (k : K d) : RO X W r x y K := fun v w H Q rx ry hi q => h v w H Q rx ry hi fun u ru => q d u H k (Go.refl hi) ru
abbrev rAdd (K : PySem.W.Frag) : R2 := fun x y H Q => (rI0 fun i j => .int (i + j)) x y H Q ∨ ((fun x y H Q => ∃ i j, x = .str i ∧ y = .str j ∧ i.length + j.length ≤ sizeLine ∧ Q (.str (i ++ j)) H) x y H Q ∨ (rCat x y H Q ∨ rCatT K x y H Q))
theorem op_addA : OpR X (binaryOp .Add) (rAdd X.K) := op_add.or (op_add_str.or (op_cat.or op_catT))
theorem ex_add {a b : Expr} (h : EX X E W a Γ (fun x => EX X E W b Γ (fun y => RO X W (rAdd X.K) x y K) Z) Z) : EX X E W (.BinOp a .Add b pos) Γ K Z := ex_bin op_addA h
theorem add_int {i j : Int} (k : K (.int (i + j))) : RO X W (rAdd X.K) (.int i) (.int j) K := ro0 (d := .int (i + j)) (fun v w H Q rx ry hi q => .inl ⟨i, j, rx, ry, q _ rfl⟩) k
theorem add_str {a b : Str} (hl : a.length + b.length ≤ 16777216) (k : K (.str (a ++ b))) : RO X W (rAdd X.K) (.str a) (.str b) K := ro0 (d := .str (a ++ b)) (fun v w H Q rx ry hi q => .inr (.inl ⟨a, b, rx, ry, by rw [sizeLine_eq]; exact hl, q _ rfl⟩)) k
theorem add_lst {xs ys : List D} (hl : xs.length + ys.length ≤ 100000) (k : K (.lst (xs ++ ys))) : RO X W (rAdd X.K) (.lst xs) (.lst ys) K := fun v w H Q rx ry hi q => by
  obtain ⟨a, vs, rfl, n1, e1, r1⟩ := rx
  obtain ⟨b, ws, rfl, n2, e2, r2⟩ := ry
  refine .inr (.inr (.inl ⟨a, b, vs, ws, rfl, rfl, e1, e2, by rw [r1.len, r2.len]; exact Nat.le_trans hl (by decide), fun p hp => ?_⟩))
  have g : Go W H (upd H p (.lst (vs ++ ws))) := Go.new hi hp
  exact q _ _ _ k g ⟨p, _, rfl, W.out hi hp, upd_same, (r1.go hi g).app (r2.go hi g)⟩
theorem add_tup {xs ys : List D} (hn : xs ≠ []) (hl : xs.length + ys.length ≤ 100000) (k : K (.tup (xs ++ ys))) : RO X W (rAdd X.K) (.tup xs) (.tup ys) K := fun v w H Q rx ry hi q => by
  obtain ⟨a, vs, rfl, e1, r1⟩ := rx
  obtain ⟨b, ws, rfl, e2, r2⟩ := ry
  refine .inr (.inr (.inr ⟨a, b, vs, ws, rfl, rfl, e1, e2, fun z => hn (by have := r1.len; rw [z] at this; exact List.length_eq_zero_iff.mp this.symm), by rw [r1.len, r2.len]; exact Nat.le_trans hl (by decide), fun z => ?_, fun z p hp => ?_⟩))
  · have ye : ys = [] := List.length_eq_zero_iff.mp (by rw [← r2.len, z]; rfl)
    subst ye
    refine q _ _ _ k (Go.refl hi) ⟨a, vs, rfl, e1, by rw [List.append_nil]; exact r1⟩
  · have g : Go W H (upd H p (.tup (vs ++ ws))) := Go.new hi hp
    exact q _ _ _ k g ⟨p, _, rfl, SqT.of upd_same, (r1.go hi g).app (r2.go hi g)⟩
theorem ex_sub {a b : Expr} (h : EX X E W a Γ (fun x => EX X E W b Γ (fun y => ∃ i j, x = .int i ∧ y = .int j ∧ K (.int (i - j))) Z) Z) : EX X E W (.BinOp a .Sub b pos) Γ K Z :=
  ex_bin op_sub (h.imp fun x hx => hx.imp fun y ⟨i, j, e1, e2, k⟩ v w H Q rx ry hi q => by subst e1 e2; exact ⟨i, j, rx, ry, q _ _ H k (Go.refl hi) rfl⟩)
/-- ints of any size to a million bits -/
def MulOk (i j : Int) : Prop := CMul i j ∨ CMulW i j
abbrev rMul : R2 := fun x y H Q => (rI CMul fun i j => .int (i * j)) x y H Q ∨ (rI CMulW fun i j => .int (i * j)) x y H Q
theorem op_mulA : OpR X (binaryOp .Mult) rMul := op_mul.or op_mulW
theorem ex_mul {a b : Expr} (h : EX X E W a Γ (fun x => EX X E W b Γ (fun y => ∃ i j, x = .int i ∧ y = .int j ∧ MulOk i j ∧ K (.int (i * j))) Z) Z) : EX X E W (.BinOp a .Mult b pos) Γ K Z :=
  ex_bin op_mulA (h.imp fun x hx => hx.imp fun y ⟨i, j, e1, e2, c, k⟩ v w H Q rx ry hi q => by
    subst e1 e2
    rcases c with c | c
    · exact .inl ⟨i, j, rx, ry, c, q _ _ H k (Go.refl hi) rfl⟩
    · exact .inr ⟨i, j, rx, ry, c, q _ _ H k (Go.refl hi) rfl⟩)
def DivOk (j : Int) : Prop := CDiv 0 j ∨ CDivN 0 j ∨ CDivW 0 j
theorem ex_mod {a b : Expr} (h : EX X E W a Γ (fun x => EX X E W b Γ (fun y => ∃ i j, x = .int i ∧ y = .int j ∧ j ≠ 0 ∧ K (.int (i.fmod j))) Z) Z) : EX X E W (.BinOp a .Mod b pos) Γ K Z :=
  ex_bin op_modN (h.imp fun x hx => hx.imp fun y ⟨i, j, e1, e2, c, k⟩ v w H Q rx ry hi q => by subst e1 e2; exact ⟨i, j, rx, ry, c, q _ _ H k (Go.refl hi) rfl⟩)
theorem ex_pow {a b : Expr} (h : EX X E W a Γ (fun x => EX X E W b Γ (fun y => ∃ i j, x = .int i ∧ y = .int j ∧ (0 ≤ j ∧ j ≤ 1000000 ∧ i.natAbs < 2 ^ 64) ∧ K (.int (i ^ j.toNat))) Z) Z) : EX X E W (.BinOp a .Pow b pos) Γ K Z :=
  ex_bin op_pow (h.imp fun x hx => hx.imp fun y ⟨i, j, e1, e2, c, k⟩ v w H Q rx ry hi q => by subst e1 e2; exact ⟨i, j, rx, ry, c, q _ _ H k (Go.refl hi) rfl⟩)
def CDivZ (_ j : Int) : Prop := j ≠ 0 ∧ j.natAbs < 2 ^ 9000
abbrev rDiv : R2 := fun x y H Q => (rI CDivN fun i j => .int (i.fdiv j)) x y H Q ∨ (rI CDivZ fun i j => .int (i.fdiv j)) x y H Q
theorem op_fdivZ : OpR X (binaryOp .FloorDiv) (rI CDivZ fun i j => .int (i.fdiv j)) := opI fun _ _ _ _ _ _ _ hc q => floordiv_int hc.1 q (.inl (PyProof.noPylong_of_log2 (PySem.Flt.log2_lt_of (by decide) hc.2)))
theorem op_divA : OpR X (binaryOp .FloorDiv) rDiv := op_fdivN.or op_fdivZ
/-- // by a number that is not 0 and small, or below 2^9000 -/
theorem ex_div {a b : Expr} (h : EX X E W a Γ (fun x => EX X E W b Γ (fun y => ∃ i j, x = .int i ∧ y = .int j ∧ ((j ≠ 0 ∧ j.natAbs < 1073741824) ∨ (j ≠ 0 ∧ j.natAbs < 2 ^ 9000)) ∧ K (.int (i.fdiv j))) Z) Z) : EX X E W (.BinOp a .FloorDiv b pos) Γ K Z :=
  ex_bin op_divA (h.imp fun x hx => hx.imp fun y ⟨i, j, e1, e2, c, k⟩ v w H Q rx ry hi q => by
    subst e1 e2
    rcases c with c | c
    · exact .inl ⟨i, j, rx, ry, c, q _ _ H k (Go.refl hi) rfl⟩
    · exact .inr ⟨i, j, rx, ry, c, q _ _ H k (Go.refl hi) rfl⟩)

/-! ### comparisons -/
theorem ro_int {f : Int → Int → Bool} {i j : Int} (k : K (.bl (f i j))) : RO X W (rI0 fun i j => .bl (f i j)) (.int i) (.int j) K := ro0 (d := .bl (f i j)) (fun v w H Q rx ry hi q => ⟨i, j, rx, ry, q _ rfl⟩) k
abbrev rLt : R2 := rI0 fun i j => .bl (decide (i < j))
abbrev rLe : R2 := rI0 fun i j => .bl (decide (i ≤ j))
abbrev rGt : R2 := rI0 fun i j => .bl (decide (j < i))
abbrev rGe : R2 := rI0 fun i j => .bl (decide (j ≤ i))
theorem lt_int {i j : Int} (k : K (.bl (decide (i < j)))) : RO X W rLt (.int i) (.int j) K := ro0 (d := .bl (decide (i < j))) (fun v w H Q rx ry hi q => ⟨i, j, rx, ry, q _ rfl⟩) k
theorem le_int {i j : Int} (k : K (.bl (decide (i ≤ j)))) : RO X W rLe (.int i) (.int j) K := ro0 (d := .bl (decide (i ≤ j))) (fun v w H Q rx ry hi q => ⟨i, j, rx, ry, q _ rfl⟩) k
theorem gt_int {i j : Int} (k : K (.bl (decide (j < i)))) : RO X W rGt (.int i) (.int j) K := ro0 (d := .bl (decide (j < i))) (fun v w H Q rx ry hi q => ⟨i, j, rx, ry, q _ rfl⟩) k
theorem ge_int {i j : Int} (k : K (.bl (decide (j ≤ i)))) : RO X W rGe (.int i) (.int j) K := ro0 (d := .bl (decide (j ≤ i))) (fun v w H Q rx ry hi q => ⟨i, j, rx, ry, q _ rfl⟩) k
abbrev rEqA (K : PySem.W.Frag) : R2 := fun x y H Q => L2.rEq x y H Q ∨ rEqD K x y H Q
abbrev rNeA (K : PySem.W.Frag) : R2 := fun x y H Q => L2.rNe x y H Q ∨ rNeD K x y H Q
theorem op_eqA (hu : X.A.units + 64 < cLine) : OpR X (compareOp .Eq) (rEqA X.K) := op_eq.or (op_eqD hu)
theorem op_neA (hu : X.A.units + 64 < cLine) : OpR X (compareOp .NotEq) (rNeA X.K) := op_ne.or (op_neD hu)
theorem eq_int {i j : Int} (k : K (.bl (decide (i = j)))) : RO X W (rEqA X.K) (.int i) (.int j) K := ro0 (d := .bl (decide (i = j))) (fun v w H Q rx ry hi q => .inl (by
  rw [show v = _ from rx, show w = _ from ry]
  refine ⟨rfl, ?_⟩
  have e : decide (V.int i = V.int j) = decide (i = j) := by by_cases h : i = j <;> simp [h]
  rw [e]; exact q _ rfl)) k
theorem eq_bl {i j : Bool} (k : K (.bl (decide (i = j)))) : RO X W (rEqA X.K) (.bl i) (.bl j) K := ro0 (d := .bl (decide (i = j))) (fun v w H Q rx ry hi q => .inl (by
  rw [show v = _ from rx, show w = _ from ry]
  refine ⟨rfl, ?_⟩
  have e : decide (V.bl i = V.bl j) = decide (i = j) := by by_cases h : i = j <;> simp [h]
  rw [e]; exact q _ rfl)) k
theorem eq_str {i j : Str} (k : K (.bl (decide (i = j)))) : RO X W (rEqA X.K) (.str i) (.str j) K := ro0 (d := .bl (decide (i = j))) (fun v w H Q rx ry hi q => .inl (by
  rw [show v = _ from rx, show w = _ from ry]
  refine ⟨rfl, ?_⟩
  have e : decide (V.str i = V.str j) = decide (i = j) := by by_cases h : i = j <;> simp [h]
  rw [e]; exact q _ rfl)) k
theorem ne_int {i j : Int} (k : K (.bl (!decide (i = j)))) : RO X W (rNeA X.K) (.int i) (.int j) K := ro0 (d := .bl (!decide (i = j))) (fun v w H Q rx ry hi q => .inl (by
  rw [show v = _ from rx, show w = _ from ry]
  refine ⟨rfl, ?_⟩
  have e : decide (V.int i = V.int j) = decide (i = j) := by by_cases h : i = j <;> simp [h]
  rw [e]; exact q _ rfl)) k
theorem ne_bl {i j : Bool} (k : K (.bl (!decide (i = j)))) : RO X W (rNeA X.K) (.bl i) (.bl j) K := ro0 (d := .bl (!decide (i = j))) (fun v w H Q rx ry hi q => .inl (by
  rw [show v = _ from rx, show w = _ from ry]
  refine ⟨rfl, ?_⟩
  have e : decide (V.bl i = V.bl j) = decide (i = j) := by by_cases h : i = j <;> simp [h]
  rw [e]; exact q _ rfl)) k
theorem ne_str {i j : Str} (k : K (.bl (!decide (i = j)))) : RO X W (rNeA X.K) (.str i) (.str j) K := ro0 (d := .bl (!decide (i = j))) (fun v w H Q rx ry hi q => .inl (by
  rw [show v = _ from rx, show w = _ from ry]
  refine ⟨rfl, ?_⟩
  have e : decide (V.str i = V.str j) = decide (i = j) := by by_cases h : i = j <;> simp [h]
  rw [e]; exact q _ rfl)) k
mutual
/-- as the library's data -/
def py : D → Option PyData
  | .non => some .none
  | .bl b => some (.bool b)
  | .int i => some (.int i)
  | .str x => some (.str x)
  | .tup ds => (pyL ds).map .tuple
  | .lst ds => (pyL ds).map .list
  | _ => none
def pyL : List D → Option (List PyData)
  | [] => some []
  | d :: ds => (py d).bind fun x => (pyL ds).map fun xs => x :: xs
end
mutual
theorem dp_of {K : PySem.W.Frag} {H : Hp} : ∀ (d : D) {v : V} {e : PyData}, Rp K W H d v → py d = some e → Dp K H v e
  | .non, v, e, h, q => by cases q; rw [show v = _ from h]; exact .non
  | .bl b, v, e, h, q => by cases q; rw [show v = _ from h]; exact .bl b
  | .int i, v, e, h, q => by cases q; rw [show v = _ from h]; exact .int i
  | .str x, v, e, h, q => by cases q; rw [show v = _ from h]; exact .str x
  | .ty _, v, e, h, q => by cases q
  | .adr _, v, e, h, q => by cases q
  | .bag, v, e, h, q => by cases q
  | .tup ds, v, e, h, q => by
    obtain ⟨a, xs, rfl, e2, e3⟩ := h
    cases z : pyL ds with
    | none => simp [py, z] at q
    | some es =>
      simp [py, z] at q
      subst q
      exact .tup e2 (dpl_of ds e3 z)
  | .lst ds, v, e, h, q => by
    obtain ⟨a, xs, rfl, _, e2, e3⟩ := h
    cases z : pyL ds with
    | none => simp [py, z] at q
    | some es =>
      simp [py, z] at q
      subst q
      exact .lst (SqL.of e2) (dpl_of ds e3 z)
  | .dic _ _, v, e, h, q => by cases q
  | .obj _ _ _, v, e, h, q => by cases q
  | .exc _ _ _, v, e, h, q => by cases q
  | .cau _ _ _ _, v, e, h, q => by cases q
  | .lam _ _ _, v, e, h, q => by cases q
theorem dpl_of {K : PySem.W.Frag} {H : Hp} : ∀ (ds : List D) {vs : List V} {es : List PyData}, RpL K W H ds vs → pyL ds = some es → DpAll K H vs es
  | [], vs, es, h, q => by cases q; rw [show vs = _ from h]; exact .nil
  | d :: ds, vs, es, h, q => by
    obtain ⟨v, r, rfl, h1, h2⟩ := h
    cases z : py d with
    | none => simp [pyL, z] at q
    | some x =>
      cases y : pyL ds with
      | none => simp [pyL, z, y] at q
      | some xs =>
        simp [pyL, z, y] at q
        subst q
        exact .cons (dp_of d h1 z) (dpl_of ds h2 y)
end
theorem eq_py {x y : D} {a b : PyData} (hx : py x = some a) (hy : py y = some b) (sx : SeqAt.shaped a = true) (sy : SeqAt.shaped b = true) (k : K (.bl (PyData.eqv a b))) : RO X W (rEqA X.K) x y K := ro0 (d := .bl (PyData.eqv a b)) (fun v w H Q rx ry hi q => .inr ⟨a, b, dp_of x rx hx, dp_of y ry hy, sx, sy, q _ rfl⟩) k
theorem ne_py {x y : D} {a b : PyData} (hx : py x = some a) (hy : py y = some b) (sx : SeqAt.shaped a = true) (sy : SeqAt.shaped b = true) (k : K (.bl (!PyData.eqv a b))) : RO X W (rNeA X.K) x y K := ro0 (d := .bl (!PyData.eqv a b)) (fun v w H Q rx ry hi q => .inr ⟨a, b, dp_of x rx hx, dp_of y ry hy, sx, sy, q _ rfl⟩) k
/-- is None -/
def isNon : D → Bool
  | .non => true | _ => false
theorem isNon_ok {K : PySem.W.Frag} {H : Hp} {x : D} {v : V} (rx : Rp K W H x v) : decide (v = V.non) = isNon x := by
  cases x with
  | non => rw [show v = _ from rx]; rfl
  | bl _ => rw [show v = _ from rx]; rfl
  | int _ => rw [show v = _ from rx]; rfl
  | str _ => rw [show v = _ from rx]; rfl
  | ty _ => rw [show v = _ from rx]; rfl
  | adr _ => rw [show v = _ from rx]; rfl
  | bag => rw [show v = _ from rx]; rfl
  | tup _ => obtain ⟨a, _, rfl, _⟩ := rx; rfl
  | lst _ => obtain ⟨a, _, rfl, _⟩ := rx; rfl
  | dic _ _ => obtain ⟨a, _, rfl, _⟩ := rx; rfl
  | obj _ _ _ => obtain ⟨a, _, _, rfl, _⟩ := rx; rfl
  | exc _ _ _ => obtain ⟨a, _, _, rfl, _⟩ := rx; rfl
  | cau _ _ _ _ => obtain ⟨rfl, _⟩ := rx; rfl
  | lam _ _ _ => obtain ⟨rfl, _⟩ := rx; rfl
theorem ex_isN {a : Expr} {j : Nat} (h : EX X E W a Γ (fun x => K (.bl (isNon x))) Z) : EX X E W (.Compare a [.Is] [.Constant .none j p] pos) Γ K Z :=
  ex_cmp op_isN (by rfl) (h.imp fun x k => ex_non (fun v w H Q rx ry hi q => by
    rw [show w = _ from ry]
    exact ⟨rfl, by rw [isNon_ok rx]; exact q _ _ H k (Go.refl hi) rfl⟩))
theorem ex_notN {a : Expr} {j : Nat} (h : EX X E W a Γ (fun x => K (.bl (!isNon x))) Z) : EX X E W (.Compare a [.IsNot] [.Constant .none j p] pos) Γ K Z :=
  ex_cmp op_notN (by rfl) (h.imp fun x k => ex_non (fun v w H Q rx ry hi q => by
    rw [show w = _ from ry]
    exact ⟨rfl, by rw [isNon_ok rx]; exact q _ _ H k (Go.refl hi) rfl⟩))
theorem tx_isN {a : Expr} {j : Nat} {K : Bool → Prop} (h : EX X E W a Γ (fun x => K (isNon x)) Z) : TX X E W (.Compare a [.Is] [.Constant .none j p] pos) Γ K Z :=
  tx_cmp op_isN (by rfl) (h.imp fun x k => ex_non (fun v w H Q rx ry hi q => by
    rw [show w = _ from ry]
    exact ⟨rfl, by rw [isNon_ok rx]; exact q (.bl (isNon x)) _ H ⟨_, rfl, k⟩ (Go.refl hi) rfl⟩))
theorem tx_notN {a : Expr} {j : Nat} {K : Bool → Prop} (h : EX X E W a Γ (fun x => K (!isNon x)) Z) : TX X E W (.Compare a [.IsNot] [.Constant .none j p] pos) Γ K Z :=
  tx_cmp op_notN (by rfl) (h.imp fun x k => ex_non (fun v w H Q rx ry hi q => by
    rw [show w = _ from ry]
    exact ⟨rfl, by rw [isNon_ok rx]; exact q (.bl (!isNon x)) _ H ⟨_, rfl, k⟩ (Go.refl hi) rfl⟩))
/-- a sign in a text -/
theorem ex_inS {a b : Expr} (hm : behindInMarks .In b = false) (h : EX X E W a Γ (fun x => EX X E W b Γ (fun y => ∃ c z, x = .str ⟨#[c]⟩ ∧ y = .str z ∧ K (.bl (decide (c ∈ z.cps.toList)))) Z) Z) : EX X E W (.Compare a [.In] [b] pos) Γ K Z :=
  ex_cmp op_in_sign hm (h.imp fun x hx => hx.imp fun y ⟨c, z, e1, e2, k⟩ v w H Q rx ry hi q => by subst e1 e2; exact ⟨c, z, rx, ry, q _ _ H k (Go.refl hi) rfl⟩)
/-- in a list, a tuple of flat things -/
def flatD : D → Bool
  | .non => true | .bl _ => true | .int _ => true | .str _ => true | _ => false
def flV : D → V
  | .non => .non | .bl b => .bl b | .int i => .int i | .str x => .str x | _ => .non
theorem fl_rp {K : PySem.W.Frag} {H : Hp} {d : D} {v : V} (f : flatD d = true) (r : Rp K W H d v) : v = flV d := by
  cases d <;> first | exact r | cases f
theorem fl_flat {d : D} (f : flatD d = true) : flatV (flV d) = true := by cases d <;> first | rfl | cases f
theorem fl_rpL {K : PySem.W.Frag} {H : Hp} : ∀ {ds : List D} {vs : List V}, ds.all flatD = true → RpL K W H ds vs → vs = ds.map flV
  | [], _, _, h => h
  | d :: ds, _, f, h => by
    obtain ⟨v, r, rfl, h1, h2⟩ := h
    rw [List.all_cons, Bool.and_eq_true] at f
    rw [fl_rp f.1 h1, fl_rpL f.2 h2]
    rfl
theorem fl_all : ∀ {ds : List D}, ds.all flatD = true → (ds.map flV).all flatV = true
  | [], _ => rfl
  | d :: ds, f => by
    rw [List.all_cons, Bool.and_eq_true] at f
    rw [List.map_cons, List.all_cons, fl_flat f.1, fl_all f.2]
    rfl
def inD (x : D) (ds : List D) : Bool := inV (flV x) (ds.map flV)
def itemsD : D → Option (List D)
  | .tup ds => some ds | .lst ds => some ds | _ => none
theorem ex_in {a b : Expr} (hm : behindInMarks .In b = false) (h : EX X E W a Γ (fun x => EX X E W b Γ (fun y => ∃ ds, itemsD y = some ds ∧ flatD x = true ∧ ds.all flatD = true ∧ K (.bl (inD x ds))) Z) Z) : EX X E W (.Compare a [.In] [b] pos) Γ K Z :=
  ex_cmp op_in_seq hm (h.imp fun x hx => hx.imp fun y ⟨ds, e, f1, f2, k⟩ v w H Q rx ry hi q => by
    have rx' := fl_rp f1 rx
    subst rx'
    cases y with
    | tup ys =>
      cases e
      obtain ⟨b, ws, rfl, e2, r2⟩ := ry
      have e3 := fl_rpL f2 r2
      subst e3
      exact ⟨b, _, rfl, .inr e2, fl_flat f1, fl_all f2, q _ _ H k (Go.refl hi) rfl⟩
    | lst ys =>
      cases e
      obtain ⟨b, ws, rfl, _, e2, r2⟩ := ry
      have e3 := fl_rpL f2 r2
      subst e3
      exact ⟨b, _, rfl, .inl (SqL.of e2), fl_flat f1, fl_all f2, q _ _ H k (Go.refl hi) rfl⟩
    | _ => cases e)

/-! ### items, parts -/
theorem atI_rp {K : PySem.W.Frag} {H : Hp} {ds : List D} {vs : List V} {i : Int} {d : D} (r : RpL K W H ds vs) (h : atI ds i = some d) : ∃ v, atI vs i = some v ∧ Rp K W H d v := by
  unfold atI at h ⊢
  rw [r.len]
  cases e : ixN ds.length i with
  | none => rw [e] at h; cases h
  | some j =>
    rw [e] at h
    exact r.get h
def ixD (x y : D) (K : D → Prop) : Prop := match x, y with
  | .tup ds, .int i => ∃ d, atI ds i = some d ∧ K d
  | .lst ds, .int i => ∃ d, atI ds i = some d ∧ K d
  | .str z, .int i => z.length ≤ 16777216 ∧ ∃ c, atI z.cps.toList i = some c ∧ K (.str ⟨#[c]⟩)
  | _, _ => False
theorem ex_ix {a b : Expr} (hs : PlainIx b) (h : EX X E W a Γ (fun x => EX X E W b Γ (fun y => ixD x y K) Z) Z) : EX X E W (.Subscript a b pos) Γ K Z := fun σ H Q en hi q z => by
  refine ⟨_, pe_ix ix_seq pe_U pe_U hs, ?_⟩
  refine h σ H _ en hi (fun x v H1 kx g1 rx => ?_) z
  refine kx σ H1 _ (en.go hi g1) g1.i (fun y w H2 ky g2 ry => ?_) (z.go g1)
  have rx2 := rx.go g1.i g2
  have ky : ixD x y K := ky
  unfold ixD at ky
  split at ky
  · obtain ⟨d, e, k⟩ := ky
    obtain ⟨a, vs, rfl, e2, r2⟩ := rx2
    obtain ⟨u, e3, r3⟩ := atI_rp r2 e
    exact .inr (.inl ⟨a, vs, _, u, rfl, ry, e2, e3, q _ _ H2 k (g1.trans g2) r3⟩)
  · obtain ⟨d, e, k⟩ := ky
    obtain ⟨a, vs, rfl, _, e2, r2⟩ := rx2
    obtain ⟨u, e3, r3⟩ := atI_rp r2 e
    exact .inl ⟨a, vs, _, u, rfl, ry, SqL.of e2, e3, q _ _ H2 k (g1.trans g2) r3⟩
  · obtain ⟨hl, c, e, k⟩ := ky
    exact .inr (.inr ⟨_, _, c, rx2, ry, by rw [sizeLine_eq]; exact hl, e, q _ _ H2 k (g1.trans g2) rfl⟩)
  · exact ky.elim
theorem ix_tupA {ds : List D} {i : Int} {d : D} (h : atI ds i = some d) (k : K d) : ixD (.tup ds) (.int i) K := ⟨d, h, k⟩
theorem ix_lstA {ds : List D} {i : Int} {d : D} (h : atI ds i = some d) (k : K d) : ixD (.lst ds) (.int i) K := ⟨d, h, k⟩
theorem ix_strA {z : Str} {i : Int} {c : Nat} (hl : z.length ≤ 16777216) (h : atI z.cps.toList i = some c) (k : K (.str ⟨#[c]⟩)) : ixD (.str z) (.int i) K := ⟨hl, c, h, k⟩
def cutL {α : Type} (xs : List α) (lo hi : Option Int) : List α := (xs.drop (HT.sIx xs.length 0 lo)).take (HT.sIx xs.length xs.length hi - HT.sIx xs.length 0 lo)
theorem cutL_rp {K : PySem.W.Frag} {H : Hp} {ds : List D} {vs : List V} {lo hi : Option Int} (r : RpL K W H ds vs) : RpL K W H (cutL ds lo hi) (cutV vs lo hi) := by
  unfold cutL cutV
  rw [r.len]
  exact (r.drop _).take _
def PX (X : Cx) (E : XK) (W : Wd) (o : Option Expr) (Γ : List (Option D)) (K : Option Int → Prop) (Z : ZK) : Prop := ∀ (σ : St) (H : Hp) (Q : Option Int → Hp → Prop), Env X.K W H Γ σ → W.I H → (∀ i H', K i → Go W H H' → Q i H') → ZOk X.K W H E Z → ∃ t, PO X o t ∧ t σ H Q
theorem px_none {K : Option Int → Prop} (k : K none) : PX X E W none Γ K Z := fun σ H Q en hi q z => ⟨_, po_none, q _ H k (Go.refl hi)⟩
theorem px_some {e : Expr} {K : Option Int → Prop} (h : EX X E W e Γ (fun x => ∃ i, x = .int i ∧ K (some i)) Z) : PX X E W (some e) Γ K Z := fun σ H Q en hi q z => ⟨_, po_some pe_U, h σ H _ en hi (fun d v H' ⟨i, e, k⟩ g r => by subst e; exact ⟨i, r, q _ H' k g⟩) z⟩
def tUP (X : Cx) (o : Option Expr) : TO := fun σ H Q => ∃ t, PO X o t ∧ t σ H Q
theorem po_U {o : Option Expr} : PO X o (tUP X o) := ⟨fun pins s σ H Q I ⟨_, p, h⟩ => p.run pins s σ H Q I h⟩
def slD (x : D) (lo hi : Option Int) (K : D → Prop) : Prop := match x with
  | .tup ds => ¬ (HT.sIx ds.length 0 lo = 0 ∧ HT.sIx ds.length ds.length hi = ds.length) ∧ K (.tup (cutL ds lo hi))
  | .lst ds => K (.lst (cutL ds lo hi))
  | .str z => z.length ≤ 16777216 ∧ K (.str (cutS z lo hi))
  | _ => False
theorem ex_slice {a : Expr} {lo hi : Option Expr} (h : EX X E W a Γ (fun x => PX X E W lo Γ (fun l => PX X E W hi Γ (fun u => slD x l u K) Z) Z) Z) : EX X E W (.Subscript a (.Slice lo hi none p2) pos) Γ K Z := fun σ H Q en hi' q z => by
  refine ⟨_, pe_slice (sl_list.or (sl_tup.or sl_str)) pe_U po_U po_U, ?_⟩
  refine h σ H _ en hi' (fun x v H1 kx g1 rx => ?_) z
  refine kx σ H1 _ (en.go hi' g1) g1.i (fun l H2 kl g2 => ?_) (z.go g1)
  refine kl σ H2 _ ((en.go hi' g1).go g1.i g2) g2.i (fun u H3 ku g3 => ?_) ((z.go g1).go g2)
  have rx2 := (rx.go g1.i g2).go g2.i g3
  have g := (g1.trans g2).trans g3
  have ku : slD x l u K := ku
  unfold slD at ku
  split at ku
  · obtain ⟨a, vs, rfl, e2, r2⟩ := rx2
    refine .inr (.inl ⟨a, vs, rfl, e2, by rw [r2.len]; exact ku.1, fun p hp => ?_⟩)
    have g4 : Go W H3 (upd H3 p (.tup (cutV vs l u))) := Go.new g3.i hp
    exact q _ _ _ ku.2 (g.trans g4) ⟨p, _, rfl, SqT.of upd_same, cutL_rp (r2.go g3.i g4)⟩
  · obtain ⟨a, vs, rfl, _, e2, r2⟩ := rx2
    refine .inl ⟨a, vs, rfl, SqL.of e2, fun p hp => ?_⟩
    have g4 : Go W H3 (upd H3 p (.lst (cutV vs l u))) := Go.new g3.i hp
    exact q _ _ _ ku (g.trans g4) ⟨p, _, rfl, W.out g3.i hp, upd_same, cutL_rp (r2.go g3.i g4)⟩
  · exact .inr (.inr ⟨_, rx2, by rw [sizeLine_eq]; exact ku.1, q _ _ H3 ku.2 g rfl⟩)
  · exact ku.elim

/-! ### built-ins -/
theorem rc1 {r : List V → Hp → VK → Prop} {x d : D} (h : ∀ v H (Q : VK), Rp X.K W H x v → W.I H → (∀ u, Rp X.K W H d u → Q u H) → r [v] H Q) (k : K d) : RC X W r [x] K := fun vs H Q rx hi q => by
  obtain ⟨v, r', rfl, h1, h2⟩ := rx
  rw [show r' = [] from h2]
  exact h v H Q h1 hi fun u ru => q d u H k (Go.refl hi) ru
def lenD : D → Option Nat
  | .str z => some z.length
  | .tup ds => some ds.length
  | .lst ds => some ds.length
  | _ => none
theorem ex_len {e : Expr} (cn : Cn G X E n N sc) (hg : gloB sc "len" = true) (hm : G.mg "len" = none) (h : EX X E W e Γ (fun x => ∃ m, lenD x = some m ∧ m ≤ 16777216 ∧ K (.int m)) Z) (he : starEach [e] X.env = (false, eval e X.env) :: starEach [] X.env := by rfl) : EX X E W (.Call (.Name "len" p) [e] [] pos) Γ K Z :=
  ex_callB cn call_len hg hm PySem.boot_len (ax_cons (h.imp fun x ⟨m, e, hl, k⟩ => ax_nil (rc1 (fun v H Q rx hi q => by
    refine ⟨v, m, rfl, ?_, q _ rfl⟩
    cases x with
    | str z => cases e; rw [show v = _ from rx]; exact ⟨by rw [sizeLine_eq]; exact hl, rfl⟩
    | tup ds => cases e; obtain ⟨a, vs, rfl, e2, r2⟩ := rx; exact .inr ⟨vs, e2, r2.len.symm⟩
    | lst ds => cases e; obtain ⟨a, vs, rfl, _, e2, r2⟩ := rx; exact .inl ⟨vs, SqL.of e2, r2.len.symm⟩
    | _ => cases e) k)) he) he (by rfl)
theorem len_str {z : Str} (hl : z.length ≤ 16777216) (k : K (.int z.length)) : ∃ m, lenD (.str z) = some m ∧ m ≤ 16777216 ∧ K (.int m) := ⟨_, rfl, hl, k⟩
theorem len_tup {ds : List D} (hl : ds.length ≤ 16777216) (k : K (.int ds.length)) : ∃ m, lenD (.tup ds) = some m ∧ m ≤ 16777216 ∧ K (.int m) := ⟨_, rfl, hl, k⟩
theorem len_lst {ds : List D} (hl : ds.length ≤ 16777216) (k : K (.int ds.length)) : ∃ m, lenD (.lst ds) = some m ∧ m ≤ 16777216 ∧ K (.int m) := ⟨_, rfl, hl, k⟩
theorem ex_abs {e : Expr} (cn : Cn G X E n N sc) (hg : gloB sc "abs" = true) (hm : G.mg "abs" = none) (h : EX X E W e Γ (fun x => ∃ i, x = .int i ∧ K (.int (if i < 0 then -i else i))) Z) (he : starEach [e] X.env = (false, eval e X.env) :: starEach [] X.env := by rfl) : EX X E W (.Call (.Name "abs" p) [e] [] pos) Γ K Z :=
  ex_callB cn call_abs hg hm (by decide +kernel) (ax_cons (h.imp fun x ⟨i, e, k⟩ => ax_nil (rc1 (fun v H Q rx hi q => by subst e; rw [show v = _ from rx]; exact ⟨i, rfl, q _ rfl⟩) k)) he) he (by rfl)
theorem ex_intc {e : Expr} (cn : Cn G X E n N sc) (hg : gloB sc "int" = true) (hm : G.mg "int" = none) (h : EX X E W e Γ (fun x => (∃ i, x = .int i ∧ K (.int i)) ∨ ∃ b, x = .bl b ∧ K (.int (if b then 1 else 0))) Z) (he : starEach [e] X.env = (false, eval e X.env) :: starEach [] X.env := by rfl) : EX X E W (.Call (.Name "int" p) [e] [] pos) Γ K Z :=
  ex_callTy cn call_int1 hg hm (by decide +kernel) (ax_cons (h.imp fun x hk => ax_nil (by
    rcases hk with ⟨i, rfl, k⟩ | ⟨b, rfl, k⟩
    · exact rc1 (d := .int i) (fun v H Q rx hi q => by rw [show v = _ from rx]; exact .inl ⟨i, rfl, q _ rfl⟩) k
    · exact rc1 (d := .int (if b then 1 else 0)) (fun v H Q rx hi q => by rw [show v = _ from rx]; exact .inr ⟨b, rfl, q _ rfl⟩) k)) he) he (by rfl)
theorem ex_allc {e : Expr} (cn : Cn G X E n N sc) (hg : gloB sc "all" = true) (hm : G.mg "all" = none) (h : EX X E W e Γ (fun x => ∃ bs : List Bool, x = .lst (bs.map .bl) ∧ K (.bl (bs.all id))) Z) (he : starEach [e] X.env = (false, eval e X.env) :: starEach [] X.env := by rfl) (hn0 : n ≠ 0 := by decide) : EX X E W (.Call (.Name "all" p) [e] [] pos) Γ K Z :=
  ex_callB cn (cr_all (cn.calm hn0)) hg hm (by decide +kernel) (ax_cons (h.imp fun x ⟨bs, e, k⟩ => ax_nil (rc1 (fun v H Q rx hi q => by
    subst e
    obtain ⟨a, vs, rfl, _, e2, r2⟩ := rx
    rw [RpL.toBls r2] at e2
    exact ⟨a, bs, rfl, SqL.of e2, q _ rfl⟩) k)) he) he (by rfl)
theorem ex_anyc {e : Expr} (cn : Cn G X E n N sc) (hg : gloB sc "any" = true) (hm : G.mg "any" = none) (h : EX X E W e Γ (fun x => ∃ bs : List Bool, x = .lst (bs.map .bl) ∧ K (.bl (bs.any id))) Z) (he : starEach [e] X.env = (false, eval e X.env) :: starEach [] X.env := by rfl) (hn0 : n ≠ 0 := by decide) : EX X E W (.Call (.Name "any" p) [e] [] pos) Γ K Z :=
  ex_callB cn (cr_any (cn.calm hn0)) hg hm (by decide +kernel) (ax_cons (h.imp fun x ⟨bs, e, k⟩ => ax_nil (rc1 (fun v H Q rx hi q => by
    subst e
    obtain ⟨a, vs, rfl, _, e2, r2⟩ := rx
    rw [RpL.toBls r2] at e2
    exact ⟨a, bs, rfl, SqL.of e2, q _ rfl⟩) k)) he) he (by rfl)
theorem ex_sumc {e : Expr} (cn : Cn G X E n N sc) (hg : gloB sc "sum" = true) (hm : G.mg "sum" = none) (h : EX X E W e Γ (fun x => ∃ ns : List Int, x = .lst (ns.map .int) ∧ K (.int ns.sum)) Z) (he : starEach [e] X.env = (false, eval e X.env) :: starEach [] X.env := by rfl) (hn0 : n ≠ 0 := by decide) : EX X E W (.Call (.Name "sum" p) [e] [] pos) Γ K Z :=
  ex_callB cn (cr_sum (cn.calm hn0)) hg hm (by decide +kernel) (ax_cons (h.imp fun x ⟨bs, e, k⟩ => ax_nil (rc1 (fun v H Q rx hi q => by
    subst e
    obtain ⟨a, vs, rfl, _, e2, r2⟩ := rx
    rw [RpL.toInts r2] at e2
    exact ⟨a, bs, rfl, SqL.of e2, q _ rfl⟩) k)) he) he (by rfl)
theorem ex_min2 {e e2 : Expr} (cn : Cn G X E n N sc) (hg : gloB sc "min" = true) (hm : G.mg "min" = none) (h : EX X E W e Γ (fun x => EX X E W e2 Γ (fun y => ∃ i j, x = .int i ∧ y = .int j ∧ K (.int (if j < i then j else i))) Z) Z) (he : starEach [e, e2] X.env = (false, eval e X.env) :: starEach [e2] X.env := by rfl) (he2 : starEach [e2] X.env = (false, eval e2 X.env) :: starEach [] X.env := by rfl) (hpl : (backTo pos (starEach [e2] X.env)).any (·.1) = false := by rfl) (hn0 : n ≠ 0 := by decide) : EX X E W (.Call (.Name "min" p) [e, e2] [] pos) Γ K Z :=
  ex_callB cn (call_min2 (cn.calm hn0)) hg hm (by decide +kernel) (ax_cons (h.imp fun x hx => ax_cons (hx.imp fun y ⟨i, j, e1, e2, k⟩ => ax_nil (fun vs H Q rx hi q => by
    subst e1 e2
    obtain ⟨v, r, rfl, h1, w, r', rfl, h2, h3⟩ := rx
    rw [show r' = [] from h3, show v = _ from h1, show w = _ from h2]
    exact ⟨i, j, rfl, q _ _ H k (Go.refl hi) rfl⟩)) he2) he) he hpl
/-- math.gcd, imported -/
theorem ex_gcd {e e2 : Expr} (cn : Cn G X E n N sc) (hg : gloB sc "gcd" = true) (hm : G.mg "gcd" = some (.builtin "math.gcd")) (h : EX X E W e Γ (fun x => EX X E W e2 Γ (fun y => ∃ i j, x = .int i ∧ y = .int j ∧ K (.int ((Nat.gcd i.natAbs j.natAbs : Nat) : Int))) Z) Z) (he : starEach [e, e2] X.env = (false, eval e X.env) :: starEach [e2] X.env := by rfl) (he2 : starEach [e2] X.env = (false, eval e2 X.env) :: starEach [] X.env := by rfl) (hpl : (backTo pos (starEach [e2] X.env)).any (·.1) = false := by rfl) : EX X E W (.Call (.Name "gcd" p) [e, e2] [] pos) Γ K Z := fun σ H Q en hi q z => by
  obtain ⟨h1, h2, h3⟩ := gloB_ok cn.scp hg
  refine ⟨_, pe_callBfun cr_gcd h1 (by rw [cn.e4]; exact hm) pa_U h2 he hpl, ?_⟩
  refine (ax_cons (K := fun ds => RC X W rGcd ds K) (h.imp fun x hx => ax_cons (hx.imp fun y ⟨i, j, e1, e2, k⟩ => ax_nil (fun vs H Q rx hi q => by
    subst e1 e2
    obtain ⟨v, r, rfl, h1, w, r', rfl, h2, h3⟩ := rx
    rw [show r' = [] from h3, show v = _ from h1, show w = _ from h2]
    exact ⟨i, j, rfl, q _ _ H k (Go.refl hi) rfl⟩)) he2) he) σ H _ en hi (fun ds vs H1 kx g1 rx => ?_) z
  exact kx vs H1 Q rx g1.i (fun d u H' kd g r => q d u H' kd (g1.trans g) r)
theorem ex_listc {e : Expr} (cn : Cn G X E n N sc) (hg : gloB sc "list" = true) (hm : G.mg "list" = none) (h : EX X E W e Γ (fun x => ∃ ds, itemsD x = some ds ∧ K (.lst ds)) Z) (he : starEach [e] X.env = (false, eval e X.env) :: starEach [] X.env := by rfl) : EX X E W (.Call (.Name "list" p) [e] [] pos) Γ K Z :=
  ex_callTy cn call_list_of hg hm (by decide +kernel) (ax_cons (h.imp fun x ⟨ds, e, k⟩ => ax_nil (fun vs H Q rx hi q => by
    obtain ⟨v, r', rfl, h1, h2⟩ := rx
    rw [show r' = [] from h2]
    cases x with
    | tup ds =>
      cases e; obtain ⟨a, vs, rfl, e2, r2⟩ := h1
      refine ⟨a, vs, rfl, .inr e2, fun l hl => ?_⟩
      have g : Go W H (upd H l (.lst vs)) := Go.new hi hl
      exact q _ _ _ k g ⟨l, vs, rfl, W.out hi hl, upd_same, r2.go hi g⟩
    | lst ds =>
      cases e; obtain ⟨a, vs, rfl, _, e2, r2⟩ := h1
      refine ⟨a, vs, rfl, .inl (SqL.of e2), fun l hl => ?_⟩
      have g : Go W H (upd H l (.lst vs)) := Go.new hi hl
      exact q _ _ _ k g ⟨l, vs, rfl, W.out hi hl, upd_same, r2.go hi g⟩
    | _ => cases e)) he) he (by rfl)
theorem ex_tuplec {e : Expr} (cn : Cn G X E n N sc) (hg : gloB sc "tuple" = true) (hm : G.mg "tuple" = none) (h : EX X E W e Γ (fun x => ∃ ds, itemsD x = some ds ∧ K (.tup ds)) Z) (he : starEach [e] X.env = (false, eval e X.env) :: starEach [] X.env := by rfl) : EX X E W (.Call (.Name "tuple" p) [e] [] pos) Γ K Z :=
  ex_callTy cn call_tuple_of hg hm (by decide +kernel) (ax_cons (h.imp fun x ⟨ds, e, k⟩ => ax_nil (fun vs H Q rx hi q => by
    obtain ⟨v, r', rfl, h1, h2⟩ := rx
    rw [show r' = [] from h2]
    cases x with
    | tup ds =>
      cases e; obtain ⟨a, vs, rfl, e2, r2⟩ := h1
      exact ⟨a, vs, rfl, .inr ⟨e2, q _ _ H k (Go.refl hi) ⟨a, vs, rfl, e2, r2⟩⟩⟩
    | lst ds =>
      cases e; obtain ⟨a, vs, rfl, _, e2, r2⟩ := h1
      refine ⟨a, vs, rfl, .inl ⟨SqL.of e2, fun l hl => ?_⟩⟩
      have g : Go W H (upd H l (.tup vs)) := Go.new hi hl
      exact q _ _ _ k g ⟨l, vs, rfl, SqT.of upd_same, r2.go hi g⟩
    | _ => cases e)) he) he (by rfl)
/-- sep.join(list of texts) -/
theorem ex_join {o e : Expr} {apos : Pos} (h : EX X E W o Γ (fun x => ∃ a, x = .str a ∧ EX X E W e Γ (fun y => ∃ ys : List Str, y = .lst (ys.map .str) ∧ (ys.map (·.length)).sum + ys.length * a.length ≤ 16777216 ∧ K (.str (Txt.join a ys))) Z) Z)
    (hs : starEach [e] X.env = [(false, eval e X.env)] := by rfl) (hbase : attributeBase o "join" X.env (eval o X.env) = eval o X.env := by rfl) (hline : (apos.endLine == pos.line) = true := by rfl) : EX X E W (.Call (.Attribute o "join" apos) [e] [] pos) Γ K Z := fun σ H Q en hi q z => by
  refine ⟨_, pe_join pe_U pe_U hs hbase hline, ?_⟩
  refine h σ H _ en hi (fun x v H1 kx g1 rx => ?_) z
  obtain ⟨a, rfl, kx⟩ := kx
  refine ⟨⟨a, rx⟩, ?_⟩
  refine kx σ H1 _ (en.go hi g1) g1.i (fun y w H2 ky g2 ry => ?_) (z.go g1)
  obtain ⟨ys, rfl, hl, k⟩ := ky
  obtain ⟨b, ws, rfl, _, e2, r2⟩ := ry
  rw [RpL.toStrs r2] at e2
  exact ⟨a, b, ys, rx, rfl, .inl (SqL.of e2), hl, q _ _ H2 k (g1.trans g2) rfl⟩
end
end DX

set_option Elab.async false
set_option linter.all false
set_option maxRecDepth 100000
set_option maxHeartbeats 2000000
namespace DX
open PySem PySem.Spec PyProof.Rows L2

/-! ### one more list set apart -/
theorem del_le {H : Hp} {A a : Addr} {o : HO} (e : del H A a = some o) : H a = some o := by
  by_cases ha : a = A
  · rw [ha, del_same] at e; cases e
  · rw [del_ne ha] at e; exact e
def Wd.ext (W : Wd) (A : Addr) (us : List V) : Wd where
  S := fun a => W.S a ∨ a = A
  b := W.b
  T := W.T
  I := fun H => H A = some (.lst us) ∧ W.I (del H A)
  dom := fun H i a s => by
    rcases s with s | s
    · obtain ⟨xs, e⟩ := W.dom _ i.2 a s
      by_cases h : a = A
      · rw [h]; exact ⟨_, i.1⟩
      · rw [del_ne h] at e; exact ⟨xs, e⟩
    · rw [s]; exact ⟨_, i.1⟩
  st := fun H H' i hs hx => ⟨by rw [hs A (.inr rfl)]; exact i.1, W.st (del H A) (del H' A) i.2 (fun a s => by
      have ha : a ≠ A := fun z => by
        obtain ⟨xs, e⟩ := W.dom _ i.2 a s
        rw [z, del_same] at e; cases e
      rw [del_ne ha, del_ne ha]; exact hs a (.inl s)) ⟨fun a o n e nt => by
      by_cases ha : a = A
      · rw [ha, del_same] at e; cases e
      · rw [del_ne ha] at e ⊢
        exact hx.1 a o (fun z => z.elim n ha) e nt, fun t => tabs_of (H := H') (fun a o e no => by
        have ha : a ≠ A := fun z => by
          rw [z, hs A (.inr rfl), i.1] at e
          exact no us (Option.some.inj e).symm
        rw [del_ne ha]; exact e) (hx.2 (tabs_of (H := del H A) (fun a o e _ => del_le e) t))⟩⟩
section
variable {K : PySem.W.Frag} {W : Wd} {H H' : Hp} {A : Addr} {o : HO} {us ws : List V}
theorem del_upd_new (h : H A = none) : del (upd H A o) A = H := by
  funext a
  by_cases ha : a = A
  · rw [ha, del_same, h]
  · rw [del_ne ha, upd_ne ha]
theorem ext_i (i : W.I H) (h : H A = none) : (W.ext A us).I (upd H A (.lst us)) := ⟨upd_same, by rw [del_upd_new h]; exact i⟩
theorem ext_down (i : (W.ext A us).I H) : W.I H := W.st _ _ i.2 (fun a s => by
    have ha : a ≠ A := fun z => by
      obtain ⟨xs, e⟩ := W.dom _ i.2 a s
      rw [z, del_same] at e; cases e
    rw [del_ne ha]) (exS_of (W.dom _ i.2) fun a o n e => del_le e)
theorem ext_out (i : (W.ext A us).I H) : ¬ W.S A := fun s => by
  obtain ⟨xs, e⟩ := W.dom _ i.2 A s
  rw [del_same] at e; cases e
theorem ext_put (i : (W.ext A us).I H) : (W.ext A ws).I (upd H A (.lst ws)) := ⟨upd_same, by
  have e : del (upd H A (.lst ws)) A = del H A := by
    funext a
    by_cases ha : a = A
    · rw [ha, del_same, del_same]
    · rw [del_ne ha, del_ne ha, upd_ne ha]
  rw [e]; exact i.2⟩
theorem ex_put (i : (W.ext A us).I H) : Ex (W.ext A us) H (upd H A o) := Ex.of i fun a u n e => by rw [upd_ne (fun z => n (.inr z))]; exact e
/-- seen from without -/
theorem Ex.down (hn : H A = none) (e : Ex (W.ext A us) (upd H A o) H') : Ex W H H' := ⟨fun a u n q nt => e.1 a u (fun z => z.elim n fun z => by rw [z, hn] at q; cases q) (by rw [upd_ne (ne_of_none q hn)]; exact q) nt, fun t => e.2 (t.ext fun b u z => by rw [upd_ne (ne_of_none z hn)]; exact z)⟩
theorem Go.down (hn : H A = none) (e : Ex (W.ext A us) (upd H A o) H') (i : (W.ext A ws).I H') : Go W H H' := ⟨Ex.down hn e, ext_down i⟩
end
mutual
/-- fewer lists set apart -/
theorem Rp.sub {K : PySem.W.Frag} {W V' : Wd} {H : Hp} (hs : ∀ a, V'.S a → W.S a) (hb : V'.b = W.b) : ∀ (d : D) {v : V}, Rp K W H d v → Rp K V' H d v
  | .non, v, h => h
  | .bl b, v, h => h
  | .int _, v, h => h
  | .str x, v, h => h
  | .ty n, v, h => h
  | .adr a, v, h => h
  | .bag, v, h => by
    have h : v = .ref W.b := h
    show v = .ref V'.b
    rw [hb]; exact h
  | .tup ds, v, h => by
    obtain ⟨a, xs, e1, e2, e3⟩ := h
    exact ⟨a, xs, e1, e2, RpL.sub hs hb ds e3⟩
  | .lst ds, v, h => by
    obtain ⟨a, xs, e1, n, e2, e3⟩ := h
    exact ⟨a, xs, e1, fun z => n (hs _ z), e2, RpL.sub hs hb ds e3⟩
  | .dic ks ds, v, h => by
    obtain ⟨a, xs, e1, n, e2, l, e3⟩ := h
    exact ⟨a, xs, e1, fun z => n (hs _ z), e2, l, RpL.sub hs hb ds e3⟩
  | .obj C ns ds, v, h => by
    obtain ⟨a, dx, xs, e1, n, e2, l, e3⟩ := h
    exact ⟨a, dx, xs, e1, fun z => n (hs _ z), e2, l, RpL.sub hs hb ds e3⟩
  | .exc C ns ds, v, h => by
    obtain ⟨a, dx, xs, e1, n, n2, e2, e4, l, e3⟩ := h
    exact ⟨a, dx, xs, e1, fun z => n (hs _ z), fun z => n2 (hs _ z), e2, e4, l, RpL.sub hs hb ds e3⟩
  | .cau a dx ns ds, v, h => by
    obtain ⟨e1, n, xs, e2, l, e3⟩ := h
    exact ⟨e1, fun z => n (hs _ z), xs, e2, l, RpL.sub hs hb ds e3⟩
  | .lam _ _ _, v, h => h
theorem RpL.sub {K : PySem.W.Frag} {W V' : Wd} {H : Hp} (hs : ∀ a, V'.S a → W.S a) (hb : V'.b = W.b) : ∀ (ds : List D) {vs : List V}, RpL K W H ds vs → RpL K V' H ds vs
  | [], vs, h => h
  | d :: ds, vs, h => by
    obtain ⟨v, r, e1, e2, e3⟩ := h
    exact ⟨v, r, e1, Rp.sub hs hb d e2, RpL.sub hs hb ds e3⟩
end
theorem Env.sub {K : PySem.W.Frag} {W V' : Wd} {H : Hp} {Γ : List (Option D)} {σ : St} (hs : ∀ a, V'.S a → W.S a) (hb : V'.b = W.b) (h : Env K W H Γ σ) : Env K V' H Γ σ := ⟨h.1, fun i d e => by
  obtain ⟨v, e1, e2⟩ := h.2 i d e
  exact ⟨v, e1, Rp.sub hs hb d e2⟩⟩
mutual
theorem Rp.up {K : PySem.W.Frag} {W : Wd} {H : Hp} {A : Addr} {us : List V} {o : HO} (hn : H A = none) : ∀ (d : D) {v : V}, Rp K W H d v → Rp K (W.ext A us) (upd H A o) d v
  | .non, v, h => h
  | .bl b, v, h => h
  | .int _, v, h => h
  | .str x, v, h => h
  | .ty n, v, h => h
  | .adr a, v, h => h
  | .bag, v, h => h
  | .tup ds, v, h => by
    obtain ⟨a, xs, e1, e2, e3⟩ := h
    refine ⟨a, xs, e1, e2.imp (fun r => ?_) id, RpL.up hn ds e3⟩
    rcases r with r | ⟨u, r⟩
    · exact .inl (by rw [upd_ne (ne_of_none r hn)]; exact r)
    · exact .inr ⟨u, by rw [upd_ne (ne_of_none r hn)]; exact r⟩
  | .lst ds, v, h => by
    obtain ⟨a, xs, e1, n, e2, e3⟩ := h
    have ne := ne_of_none e2 hn
    exact ⟨a, xs, e1, fun z => z.elim n ne, by rw [upd_ne ne]; exact e2, RpL.up hn ds e3⟩
  | .dic ks ds, v, h => by
    obtain ⟨a, xs, e1, n, e2, l, e3⟩ := h
    have ne := ne_of_none e2 hn
    exact ⟨a, xs, e1, fun z => z.elim n ne, by rw [upd_ne ne]; exact e2, l, RpL.up hn ds e3⟩
  | .obj C ns ds, v, h => by
    obtain ⟨a, dx, xs, e1, n, e2, l, e3⟩ := h
    have ne := ne_of_none e2 hn
    exact ⟨a, dx, xs, e1, fun z => z.elim n ne, by rw [upd_ne ne]; exact e2, l, RpL.up hn ds e3⟩
  | .exc C ns ds, v, h => by
    obtain ⟨a, dx, xs, e1, n, n2, e2, e4, l, e3⟩ := h
    have ne := ne_of_none e2 hn
    have ne2 := ne_of_none e4 hn
    exact ⟨a, dx, xs, e1, fun z => z.elim n ne, fun z => z.elim n2 ne2, by rw [upd_ne ne]; exact e2, by rw [upd_ne ne2]; exact e4, l, RpL.up hn ds e3⟩
  | .cau a dx ns ds, v, h => by
    obtain ⟨e1, n, xs, e2, l, e3⟩ := h
    have ne := ne_of_none e2 hn
    exact ⟨e1, fun z => z.elim n ne, xs, by rw [upd_ne ne]; exact e2, l, RpL.up hn ds e3⟩
  | .lam f c q, v, h => ⟨h.1, by rw [upd_ne (ne_of_none h.2 hn)]; exact h.2⟩
theorem RpL.up {K : PySem.W.Frag} {W : Wd} {H : Hp} {A : Addr} {us : List V} {o : HO} (hn : H A = none) : ∀ (ds : List D) {vs : List V}, RpL K W H ds vs → RpL K (W.ext A us) (upd H A o) ds vs
  | [], vs, h => h
  | d :: ds, vs, h => by
    obtain ⟨v, r, e1, e2, e3⟩ := h
    exact ⟨v, r, e1, Rp.up hn d e2, RpL.up hn ds e3⟩
end
theorem Env.up {K : PySem.W.Frag} {W : Wd} {H : Hp} {A : Addr} {us : List V} {o : HO} {Γ : List (Option D)} {σ : St} (hn : H A = none) (h : Env K W H Γ σ) : Env K (W.ext A us) (upd H A o) Γ σ := ⟨h.1, fun i d e => by
  obtain ⟨v, e1, e2⟩ := h.2 i d e
  exact ⟨v, e1, Rp.up hn d e2⟩⟩

/-! ### the bag -/
/-- a row of draws: its cells, and four numbers -/
def BagC (H : Hp) (c : Addr) (xs : List V) : Prop := ∃ (cells : List Int) (i g s m : Int), xs = [.ref c, .int i, .int g, .int s, .int m] ∧ H c = some (.lst (cells.map .int)) ∧ cells.length ≤ 63 ∧ 0 ≤ i ∧ 0 ≤ g ∧ 0 ≤ s ∧ s < 2147483249 ∧ 0 ≤ m
structure Bagged (W : Wd) : Prop where
  s : W.S W.b
  at_ : ∀ H, W.I H → ∃ c xs, H W.b = some (.lst xs) ∧ c ≠ W.b ∧ ¬ W.S c ∧ BagC H c xs
  put : ∀ H c xs ys, W.I H → H W.b = some (.lst xs) → BagC H c xs → BagC H c ys → W.I (upd H W.b (.lst ys))
theorem Bagged.ext {W : Wd} {A : Addr} {us : List V} (h : Bagged W) : Bagged (W.ext A us) where
  s := .inl h.s
  at_ := fun H i => by
    obtain ⟨c, xs, e, n, m, hb⟩ := h.at_ _ i.2
    have hb2 := hb
    obtain ⟨cells, a, g, s, q, rfl, e2, r⟩ := hb
    have bA : W.b ≠ A := fun z => by rw [z, del_same] at e; cases e
    have cA : c ≠ A := fun z => by rw [z, del_same] at e2; cases e2
    rw [del_ne bA] at e
    rw [del_ne cA] at e2
    exact ⟨c, _, e, n, fun z => z.elim m cA, cells, a, g, s, q, rfl, e2, r⟩
  put := fun H c xs ys i e h1 h2 => by
    have e : H W.b = some (.lst xs) := e
    obtain ⟨c', xs', e', _, _, hb'⟩ := h.at_ _ i.2
    have bA : W.b ≠ A := fun z => by rw [z, del_same] at e'; cases e'
    have cA : c ≠ A := by
      obtain ⟨cells, a, g, s, q, rfl, e2, r⟩ := h1
      rw [del_ne bA, e] at e'
      obtain ⟨cells', a', g', s', q', ex, e2', r'⟩ := hb'
      intro z
      cases e'
      cases ex
      rw [z, del_same] at e2'; cases e2'
    refine ⟨?_, ?_⟩
    · exact (upd_ne (Ne.symm bA)).trans i.1
    · have ed : del (upd H W.b (.lst ys)) A = upd (del H A) W.b (.lst ys) := by
        funext a
        by_cases ha : a = A
        · rw [ha, del_same, upd_ne (Ne.symm bA), del_same]
        · rw [del_ne ha]
          by_cases hb : a = W.b
          · rw [hb, upd_same, upd_same]
          · rw [upd_ne hb, upd_ne hb, del_ne ha]
      show W.I (del (upd H W.b (.lst ys)) A)
      rw [ed]
      refine h.put _ c xs ys i.2 (by rw [del_ne bA]; exact e) ?_ ?_
      · obtain ⟨cells, a, g, s, q, rfl, e2, r⟩ := h1
        exact ⟨cells, a, g, s, q, rfl, by rw [del_ne cA]; exact e2, r⟩
      · obtain ⟨cells, a, g, s, q, rfl, e2, r⟩ := h2
        exact ⟨cells, a, g, s, q, rfl, by rw [del_ne cA]; exact e2, r⟩
/-- a world that sets more apart -/
structure WExt (W W' : Wd) : Prop where
  b : W'.b = W.b
  bag : Bagged W → Bagged W'
theorem wext {W : Wd} {A : Addr} {us : List V} : WExt W (W.ext A us) := ⟨rfl, fun h => h.ext⟩

/-! ### what a loop, a comprehension walks -/
def ItOf (K : PySem.W.Frag) (J : It) (srcs : List D) (vs : List V) (items : List D) : Prop := ∀ (W : Wd) (i : Nat) (H : Hp), W.I H → RpL K W H srcs vs →
  (items.length ≤ i → J.stop i H) ∧ ∀ d, items[i]? = some d → J.go i H ∧ ∀ x H', J.yld i H x H' → Go W H H' ∧ Rp K W H' d x
def tUI (X : Cx) (tg e : Expr) : TI := fun σ H R => ∃ wi, PI X tg e wi ∧ wi σ H R
theorem pi_U {X : Cx} {tg e : Expr} : PI X tg e (tUI X tg e) := ⟨fun pins s σ H R I ⟨_, p, h⟩ => p.run pins s σ H R I h⟩
def IX (X : Cx) (E : XK) (W : Wd) (tg e : Expr) (Γ : List (Option D)) (K : List D → Prop) (Z : ZK) : Prop := ∀ (σ : St) (H : Hp) (R : It → Hp → Prop), Env X.K W H Γ σ → W.I H →
  (∀ J items srcs vs H', K items → Go W H H' → RpL X.K W H' srcs vs → ItOf X.K J srcs vs items → R J H') → ZOk X.K W H E Z → tUI X tg e σ H R
section
variable {G : Gb} {X : Cx} {E : XK} {n : Nat} {N : List Str} {sc : Scope} {W : Wd} {Γ : List (Option D)} {Z : ZK} {K : List D → Prop} {pos p p2 : Pos} {tg : Expr}
theorem it_list {K : PySem.W.Frag} {a : Addr} {items : List D} : ItOf K (Itl K a) [.lst items] [.ref a] items := fun W i H hi r => by
  obtain ⟨v, r', e, ⟨b, xs, e1, n, e2, e3⟩, _⟩ := r
  cases e; cases e1
  refine ⟨fun h => ⟨xs, SqL.of e2, by rw [e3.len]; exact h⟩, fun d hd => ?_⟩
  obtain ⟨u, eu, ru⟩ := e3.get hd
  refine ⟨⟨xs, u, SqL.of e2, eu⟩, fun x H' y => ?_⟩
  obtain ⟨rfl, y⟩ := y
  have := y xs (SqL.of e2)
  rw [eu] at this
  cases this
  exact ⟨Go.refl hi, ru⟩
theorem it_tup {K : PySem.W.Frag} {a : Addr} {items : List D} : ItOf K (Itt K a) [.tup items] [.ref a] items := fun W i H hi r => by
  obtain ⟨v, r', e, ⟨b, xs, e1, e2, e3⟩, _⟩ := r
  cases e; cases e1
  refine ⟨fun h => ⟨xs, e2, by rw [e3.len]; exact h⟩, fun d hd => ?_⟩
  obtain ⟨u, eu, ru⟩ := e3.get hd
  refine ⟨⟨xs, u, e2, eu⟩, fun x H' y => ?_⟩
  obtain ⟨rfl, y⟩ := y
  have := y xs e2
  rw [eu] at this
  cases this
  exact ⟨Go.refl hi, ru⟩
def signs (z : Str) : List D := z.cps.toList.map fun c => .str ⟨#[c]⟩
theorem it_str {K : PySem.W.Frag} {z : Str} : ItOf K (Its z) [] [] (signs z) := fun W i H hi _ => by
  have hlen : (signs z).length = z.cps.size := by simp [signs]
  refine ⟨fun h => by rw [hlen] at h; exact h, fun d hd => ?_⟩
  have hil : i < z.cps.size := by
    rw [← hlen]
    exact (List.getElem?_eq_some_iff.mp hd).1
  refine ⟨hil, fun x H' y => ?_⟩
  obtain ⟨rfl, c, e, rfl⟩ := y
  refine ⟨Go.refl hi, ?_⟩
  unfold signs at hd
  rw [List.getElem?_map, Array.getElem?_toList, e] at hd
  cases hd
  rfl
def rangeD (lo : Int) (m : Nat) : List D := (List.range m).map fun (k : Nat) => .int (lo + (k : Int))
theorem rangeD_len {lo : Int} {m : Nat} : (rangeD lo m).length = m := by simp [rangeD]
theorem it_range {K : PySem.W.Frag} {lo : Int} {m : Nat} : ItOf K (Itr lo m) [] [] (rangeD lo m) := fun W i H hi _ => by
  refine ⟨fun h => by rw [rangeD_len] at h; exact h, fun d hd => ?_⟩
  have hil : i < m := by
    have := (List.getElem?_eq_some_iff.mp hd).1
    rw [rangeD_len] at this; exact this
  refine ⟨hil, fun x H' y => ?_⟩
  obtain ⟨rfl, rfl⟩ := y
  refine ⟨Go.refl hi, ?_⟩
  unfold rangeD at hd
  rw [List.getElem?_map, List.getElem?_range hil] at hd
  cases hd
  rfl
def zipD (xs ys : List D) : List D := (xs.zip ys).map fun p => .tup [p.1, p.2]
theorem it_zip {K : PySem.W.Frag} {a b : Addr} {xs ys : List D} : ItOf K (Itz K a b) [.lst xs, .lst ys] [.ref a, .ref b] (zipD xs ys) := fun W i H hi r => by
  obtain ⟨v, r', e, ⟨a', us, e1, n1, e2, e3⟩, w, r'', e', ⟨b', ws, e4, n2, e5, e6⟩, _⟩ := r
  cases e; cases e1; cases e'; cases e4
  have hlen : (zipD xs ys).length = min xs.length ys.length := by simp [zipD]
  refine ⟨fun h => ⟨us, ws, SqL.of e2, SqL.of e5, by rw [hlen] at h; rw [e3.len, e6.len]; omega⟩, fun d hd => ?_⟩
  unfold zipD at hd
  rw [List.getElem?_map] at hd
  cases hz : (xs.zip ys)[i]? with
  | none => rw [hz] at hd; cases hd
  | some p =>
    rw [hz] at hd
    cases hd
    rw [List.getElem?_zip_eq_some] at hz
    obtain ⟨u, eu, ru⟩ := e3.get hz.1
    obtain ⟨w, ew, rw'⟩ := e6.get hz.2
    refine ⟨⟨us, ws, u, w, SqL.of e2, SqL.of e5, eu, ew⟩, fun x H' y => ?_⟩
    obtain ⟨T, x1, y1, rfl, hT, rfl, f1, f2⟩ := y
    have q1 := f1 us (SqL.of e2)
    have q2 := f2 ws (SqL.of e5)
    rw [eu] at q1
    rw [ew] at q2
    cases q1; cases q2
    have g : Go W H (upd H T (.tup [u, w])) := Go.new hi hT
    exact ⟨g, T, _, rfl, SqT.of upd_same, u, _, rfl, ru.go hi g, w, _, rfl, rw'.go hi g, rfl⟩
theorem ix_list {e : Expr} (h : EX X E W e Γ (fun x => ∃ ds, x = .lst ds ∧ K ds) Z) : IX X E W tg e Γ K Z := fun σ H R en hi q z => by
  refine ⟨_, pi_list pe_U, ?_⟩
  refine h σ H _ en hi (fun x v H1 kx g1 rx => ?_) z
  obtain ⟨ds, rfl, k⟩ := kx
  have rx2 := rx
  obtain ⟨a, xs, rfl, n, e2, e3⟩ := rx
  exact ⟨a, rfl, ⟨xs, SqL.of e2⟩, q _ ds [.lst ds] [.ref a] H1 k g1 ⟨_, _, rfl, rx2, rfl⟩ it_list⟩
theorem ix_tup {e : Expr} (h : EX X E W e Γ (fun x => ∃ ds, x = .tup ds ∧ K ds) Z) : IX X E W tg e Γ K Z := fun σ H R en hi q z => by
  refine ⟨_, pi_tup pe_U, ?_⟩
  refine h σ H _ en hi (fun x v H1 kx g1 rx => ?_) z
  obtain ⟨ds, rfl, k⟩ := kx
  have rx2 := rx
  obtain ⟨a, xs, rfl, e2, e3⟩ := rx
  exact ⟨a, rfl, ⟨xs, e2⟩, q _ ds [.tup ds] [.ref a] H1 k g1 ⟨_, _, rfl, rx2, rfl⟩ it_tup⟩
theorem ix_str {e : Expr} (h : EX X E W e Γ (fun x => ∃ s, x = .str s ∧ K (signs s)) Z) : IX X E W tg e Γ K Z := fun σ H R en hi q z => by
  refine ⟨_, pi_str pe_U, ?_⟩
  refine h σ H _ en hi (fun x v H1 kx g1 rx => ?_) z
  obtain ⟨s, rfl, k⟩ := kx
  exact ⟨s, rx, q _ _ [] [] H1 k g1 rfl it_str⟩
theorem ix_range1 {e : Expr} (cn : Cn G X E n N sc) (hg : gloB sc "range" = true) (hm : G.mg "range" = none) (h : EX X E W e Γ (fun x => ∃ j : Int, x = .int j ∧ -(2 ^ 62) ≤ j ∧ j < 2 ^ 62 ∧ K (rangeD 0 j.toNat)) Z) (hs : starEach [e] X.env = [(false, eval e X.env)] := by rfl) :
    IX X E W tg (.Call (.Name "range" p) [e] [] pos) Γ K Z := fun σ H R en hi q z => by
  obtain ⟨h1, h2, _⟩ := gloB_ok cn.scp hg
  refine ⟨_, pi_range1 h1 (by rw [cn.e4]; exact hm) pa_U hs, ?_⟩
  refine (ax_cons (K := fun ds => ∃ j : Int, ds = [.int j] ∧ -(2 ^ 62) ≤ j ∧ j < 2 ^ 62 ∧ K (rangeD 0 j.toNat)) (h.imp fun x ⟨j, e, h1, h2, k⟩ => ax_nil ⟨j, by rw [e], h1, h2, k⟩) hs) σ H _ en hi (fun ds vs H1 kx g1 rx => ?_) z
  obtain ⟨j, rfl, b1, b2, k⟩ := kx
  obtain ⟨v, r, rfl, r1, r2⟩ := rx
  rw [show r = [] from r2, show v = _ from r1]
  exact ⟨j, rfl, b1, b2, q _ _ [] [] H1 k g1 rfl it_range⟩
theorem ix_range2 {e e2 : Expr} (cn : Cn G X E n N sc) (hg : gloB sc "range" = true) (hm : G.mg "range" = none) (h : EX X E W e Γ (fun x => EX X E W e2 Γ (fun y => ∃ i j : Int, x = .int i ∧ y = .int j ∧ (-(2 ^ 62) ≤ i ∧ i < 2 ^ 62 ∧ -(2 ^ 62) ≤ j ∧ j < 2 ^ 62) ∧ K (rangeD i (j - i).toNat)) Z) Z)
    (hs : starEach [e, e2] X.env = [(false, eval e X.env), (false, eval e2 X.env)] := by rfl) (hs2 : starEach [e2] X.env = [(false, eval e2 X.env)] := by rfl) :
    IX X E W tg (.Call (.Name "range" p) [e, e2] [] pos) Γ K Z := fun σ H R en hi q z => by
  obtain ⟨h1, h2, _⟩ := gloB_ok cn.scp hg
  refine ⟨_, pi_range2 h1 (by rw [cn.e4]; exact hm) pa_U hs hs2, ?_⟩
  refine (ax_cons (K := fun ds => ∃ i j : Int, ds = [.int i, .int j] ∧ (-(2 ^ 62) ≤ i ∧ i < 2 ^ 62 ∧ -(2 ^ 62) ≤ j ∧ j < 2 ^ 62) ∧ K (rangeD i (j - i).toNat)) (h.imp fun x hx => ax_cons (hx.imp fun y ⟨i, j, e1, e2, b, k⟩ => ax_nil ⟨i, j, by rw [e1, e2], b, k⟩) hs2) (hs.trans (by rw [hs2]))) σ H _ en hi (fun ds vs H1 kx g1 rx => ?_) z
  obtain ⟨i, j, rfl, b, k⟩ := kx
  obtain ⟨v, r, rfl, r1, w, r', rfl, r2, r3⟩ := rx
  rw [show r' = [] from r3, show v = _ from r1, show w = _ from r2]
  exact ⟨i, j, rfl, b, q _ _ [] [] H1 k g1 rfl it_range⟩
theorem ix_zip {e e2 : Expr} {tpos : Pos} {elts : List Expr} {kk : Nat} (cn : Cn G X E n N sc) (hg : gloB sc "zip" = true) (hm : G.mg "zip" = none) (h : EX X E W e Γ (fun x => EX X E W e2 Γ (fun y => ∃ xs ys, x = .lst xs ∧ y = .lst ys ∧ K (zipD xs ys)) Z) Z)
    (hs : starEach [e, e2] X.env = (false, eval e X.env) :: starEach [e2] X.env := by rfl) (hs2 : starEach [e2] X.env = (false, eval e2 X.env) :: starEach [] X.env := by rfl) (hpl : (backTo pos (starEach [e2] X.env)).any (·.1) = false := by rfl) :
    IX X E W (.Tuple elts kk tpos) (.Call (.Name "zip" p) [e, e2] [] pos) Γ K Z := fun σ H R en hi q z => by
  obtain ⟨h1, h2, _⟩ := gloB_ok cn.scp hg
  refine ⟨_, pi_zip h1 (by rw [cn.e4]; exact hm) pa_U hs hpl, ?_⟩
  refine (ax_cons (K := fun ds => ∃ xs ys, ds = [.lst xs, .lst ys] ∧ K (zipD xs ys)) (h.imp fun x hx => ax_cons (hx.imp fun y ⟨xs, ys, e1, e2, k⟩ => ax_nil ⟨xs, ys, by rw [e1, e2], k⟩) hs2) hs) σ H _ en hi (fun ds vs H1 kx g1 rx => ?_) z
  obtain ⟨xs, ys, rfl, k⟩ := kx
  have rx2 := rx
  obtain ⟨v, r, rfl, ⟨a, us, rfl, n1, e1, r1⟩, w, r', rfl, ⟨b, ws, rfl, n2, e2, r2⟩, r3⟩ := rx
  cases (show r' = [] from r3)
  exact ⟨a, b, us, ws, rfl, SqL.of e1, SqL.of e2, q _ _ _ _ H1 k g1 rx2 it_zip⟩

/-! ### targets -/
def gU (X : Cx) (tg : Expr) : TG := fun v σ H Q => ∃ g, PG X tg g ∧ g v σ H Q
theorem pg_U {X : Cx} {tg : Expr} : PG X tg (gU X tg) := ⟨fun pins s σ H v u Q I r ⟨_, p, h⟩ => p.run pins s σ H v u Q I r h⟩
/-- d is stored into the target -/
def GX (X : Cx) (W : Wd) (tg : Expr) (d : D) (Γ : List (Option D)) (K : List (Option D) → Prop) : Prop := ∀ (σ : St) (H : Hp) (v : V) (Q : St → Hp → Prop), Env X.K W H Γ σ → W.I H → Rp X.K W H d v →
  (∀ Γ' σ' H', K Γ' → Go W H H' → Env X.K W H' Γ' σ' → Q σ' H') → gU X tg v σ H Q
def GXs (X : Cx) (W : Wd) (ts : List Expr) (ds : List D) (Γ : List (Option D)) (K : List (Option D) → Prop) : Prop := ∀ (σ : St) (H : Hp) (vs : List V) (Q : St → Hp → Prop), Env X.K W H Γ σ → W.I H → RpL X.K W H ds vs →
  (∀ Γ' σ' H', K Γ' → Go W H H' → Env X.K W H' Γ' σ' → Q σ' H') → ∃ t, PGs X ts t ∧ t vs σ H Q
def gUs (X : Cx) (ts : List Expr) : TGs := fun vs σ H Q => ∃ t, PGs X ts t ∧ t vs σ H Q
theorem pgs_U {X : Cx} {ts : List Expr} : PGs X ts (gUs X ts) := ⟨fun pins s σ H v u Q I r ⟨_, p, h⟩ => p.run pins s σ H v u Q I r h⟩
theorem gx_name {x : Str} {i : Nat} {d : D} {K : List (Option D) → Prop} (cn : Cn G X E n N sc) (ix : N[i]? = some x) (hl : locB sc x = true) (k : K (Γ.set i (some d))) : GX X W (.Name x p) d Γ K := fun σ H v Q en hi r q => by
  have hx' : X.env.scope.names.lookup x = some .local := by rw [cn.scp]; exact locB_ok hl
  exact ⟨_, pg_name (i := i) (by rw [cn.nN]; exact cn.nd) (by rw [cn.nN]; exact ix) (.inl hx') (.inr hx'), q _ _ H k (Go.refl hi) (en.set i r)⟩
theorem gx_namec {x : Str} {i : Nat} {d : D} {K : List (Option D) → Prop} (cn : Cn G X E n N sc) (df : Df X E) (ix : N[i]? = some x) (hl : celB sc x = true) (k : K (Γ.set i (some d))) : GX X W (.Name x p) d Γ K := fun σ H v Q en hi r q => by
  have hx' : X.env.scope.names.lookup x = some .cell := by rw [cn.scp]; exact celB_ok hl
  exact ⟨_, pg_name (i := i) (by rw [cn.nN]; exact cn.nd) (by rw [cn.nN]; exact ix) (.inr hx') (.inl (df.fn x)), q _ _ H k (Go.refl hi) (en.set i r)⟩
theorem gxs_nil {K : List (Option D) → Prop} (k : K Γ) : GXs X W [] [] Γ K := fun σ H vs Q en hi r q => ⟨_, pgs_nil, r, q _ _ H k (Go.refl hi) en⟩
theorem gxs_cons {t : Expr} {ts : List Expr} {d : D} {ds : List D} {K : List (Option D) → Prop} (h : GX X W t d Γ (fun Γ' => GXs X W ts ds Γ' K)) (hs : (assignEach (t :: ts) X.env).map (·.2) = assign t X.env :: (assignEach ts X.env).map (·.2) := by rfl) : GXs X W (t :: ts) (d :: ds) Γ K := fun σ H vs Q en hi r q => by
  obtain ⟨v, r', rfl, r1, r2⟩ := r
  refine ⟨_, pgs_cons pg_U pgs_U hs, v, r', rfl, ?_⟩
  refine h σ H v _ en hi r1 (fun Γ' σ' H' k g e => ?_)
  exact k σ' H' r' Q e g.i (r2.go hi g) (fun Γ2 σ2 H2 k2 g2 e2 => q Γ2 σ2 H2 k2 (g.trans g2) e2)
theorem gx_tup {es : List Expr} {kk : Nat} {ds : List D} {K : List (Option D) → Prop} (cn : Cn G X E n N sc) (h : GXs X W es ds Γ K)
    (hn : (assignEach es X.env).length = ds.length := by rfl) (hst : (assignEach es X.env).findIdx? (·.1) = none := by rfl) (hn0 : n ≠ 0 := by decide) : GX X W (.Tuple es kk p) (.tup ds) Γ K := fun σ H v Q en hi r q => by
  obtain ⟨a, xs, rfl, e2, e3⟩ := r
  exact ⟨_, pg_tup (cn.calm hn0) pgs_U hn hst, a, xs, rfl, e2, e3.len, h σ H xs Q en hi e3 q⟩
theorem s_asg {tg e : Expr} {N' : Nd} (h : EX X E W e Γ (fun d => GX X W tg d Γ N'.n) Z) (hs : swapsWithSole [tg] e pos.line X.env = pure false := by rfl) (hw : swappedStores [tg] e X.env = pure none := by rfl)
    (h1 : (assignEach [tg] X.env).map (·.2) = [assign tg X.env] := by rfl) : S1 X E W (.Assign [tg] e pos) Γ N' Z := fun σ H T en hi r z => by
  refine ⟨_, ps_asg pe_U pg_U hs hw h1, ?_⟩
  refine h σ H _ en hi (fun d v H1 kx g1 rx => ?_) z
  exact kx σ H1 v _ (en.go hi g1) g1.i rx (fun Γ' σ' H' k g e => r.n Γ' σ' H' k (g1.trans g) e)

/-! ### for, while -/
theorem s_for {iter : Expr} {body : List Stmt} {N' : Nd} (cn : Cn G X E n N sc) (hp : PassesOwn (model X.prog X.w) X.A X.env X.xe)
    (h : IX X E W tg iter Γ (fun items => ∃ Iv : Nat → List (Option D) → Prop, Iv 0 Γ ∧ (∀ i d Γ', items[i]? = some d → Iv i Γ' → GX X W tg d Γ' (fun Γ2 => SX X E W body Γ2 { n := Iv (i + 1), r := N'.r, b := N'.n, c := Iv (i + 1) } Z)) ∧ ∀ Γ', Iv items.length Γ' → N'.n Γ') Z)
    (hs : ∀ x, foldedSetIterable iter X.env x = pure x := by intro _; rfl) (hn0 : n ≠ 0 := by decide) : S1 X E W (.For tg iter body [] pos) Γ N' Z := fun σ H T en hi r z => by
  refine ⟨_, ps_for hp (cn.calm hn0) pi_U pg_U pss_U hs, ?_⟩
  refine h σ H _ en hi (fun J items srcs vs H1 k g1 rs it => ?_) z
  obtain ⟨Iv, i0, turn, done⟩ := k
  refine ⟨fun i m σ' H' => m = items.length - i ∧ i ≤ items.length ∧ ∃ Γ', Iv i Γ' ∧ Go W H1 H' ∧ Env X.K W H' Γ' σ', ⟨items.length, rfl, Nat.zero_le _, Γ, i0, Go.refl g1.i, en.go hi g1⟩, ?_⟩
  rintro i m σ' H' ⟨rfl, hle, Γ', iv, g, e⟩
  have hit := it W i H' g.i (rs.go g1.i g)
  by_cases hlt : i < items.length
  · have hd : items[i]? = some items[i] := List.getElem?_eq_getElem hlt
    obtain ⟨go, yl⟩ := hit.2 _ hd
    refine .inr ⟨go, fun σ2 H2 => ∃ Γ2, Iv (i + 1) Γ2 ∧ Go W H1 H2 ∧ Env X.K W H2 Γ2 σ2, fun σ2 H2 ⟨Γ2, a, b, c⟩ => ⟨items.length - (i + 1), by omega, rfl, hlt, Γ2, a, b, c⟩, fun x H2 y => ?_⟩
    obtain ⟨g2, rx⟩ := yl x H2 y
    refine turn i _ Γ' hd iv σ' H2 x _ (e.go g.i g2) g2.i rx (fun Γ3 σ3 H3 k3 g3 e3 => ?_)
    have gg := (g.trans g2).trans g3
    exact k3 σ3 H3 _ e3 g3.i ⟨fun Γ4 σ4 H4 a b c => ⟨Γ4, a, gg.trans b, c⟩, fun d v H4 a b c => r.r d v H4 a ((g1.trans gg).trans b) c, fun Γ4 σ4 H4 a b c => r.n Γ4 σ4 H4 a ((g1.trans gg).trans b) c, fun Γ4 σ4 H4 a b c => ⟨Γ4, a, gg.trans b, c⟩⟩ (z.go (g1.trans gg))
  · have e0 : i = items.length := by omega
    subst e0
    exact .inl ⟨hit.1 (Nat.le_refl _), r.n Γ' σ' H' (done Γ' iv) (g1.trans g) e⟩
theorem s_while {c : Expr} {body : List Stmt} {N' : Nd} (hp : PassesOwn (model X.prog X.w) X.A X.env X.xe) (Iv : Nat → List (Option D) → Prop) (m : Nat) (h0 : Iv m Γ)
    (h : ∀ m Γ', Iv m Γ' → TX X E W c Γ' (fun b => (b = true → SX X E W body Γ' { n := fun Γ2 => ∃ m', m' < m ∧ Iv m' Γ2, r := N'.r, b := N'.n, c := fun Γ2 => ∃ m', m' < m ∧ Iv m' Γ2 } Z) ∧ (b = false → N'.n Γ')) Z) : S1 X E W (.While c body [] pos) Γ N' Z := fun σ H T en hi r z => by
  refine ⟨_, ps_while hp pt_U pss_U, ?_⟩
  refine ⟨fun m σ' H' => ∃ Γ', Iv m Γ' ∧ Go W H H' ∧ Env X.K W H' Γ' σ', ⟨m, Γ, h0, Go.refl hi, en⟩, ?_⟩
  rintro m σ' H' ⟨Γ', iv, g, e⟩
  refine h m Γ' iv σ' H' _ e g.i (fun b H2 kb g2 => ?_) (z.go g)
  have gg := g.trans g2
  cases b with
  | true =>
    rw [if_pos rfl]
    refine ⟨fun σ2 H2 => ∃ m', m' < m ∧ ∃ Γ2, Iv m' Γ2 ∧ Go W H H2 ∧ Env X.K W H2 Γ2 σ2, fun σ2 H2 ⟨m', l, x⟩ => ⟨m', l, x⟩, ?_⟩
    exact kb.1 rfl σ' H2 _ (e.go g.i g2) g2.i ⟨fun Γ4 σ4 H4 ⟨m', l, a⟩ b c => ⟨m', l, Γ4, a, gg.trans b, c⟩, fun d v H4 a b c => r.r d v H4 a (gg.trans b) c, fun Γ4 σ4 H4 a b c => r.n Γ4 σ4 H4 a (gg.trans b) c, fun Γ4 σ4 H4 ⟨m', l, a⟩ b c => ⟨m', l, Γ4, a, gg.trans b, c⟩⟩ (z.go gg)
  | false =>
    rw [if_neg (by decide)]
    exact r.n Γ' σ' H2 (kb.2 rfl) gg (e.go g.i g2)
end
end DX

set_option Elab.async false
set_option linter.all false
set_option maxRecDepth 100000
set_option maxHeartbeats 2000000
namespace DX
open PySem PySem.Spec PyProof.Rows L2

abbrev XE0 : XK := fun _ _ _ => False
theorem wipe_get : ∀ (vs : List Nat) (τ : St) (j : Nat), (L2.wipe τ vs)[j]? = if j ∈ vs ∧ j < τ.length then some none else τ[j]?
  | [], τ, j => by simp [L2.wipe]
  | v :: vs, τ, j => by
    unfold L2.wipe
    by_cases h : v = j
    · subst h
      by_cases hl : v < τ.length
      · rw [List.getElem?_set_self (by rw [wipe_length]; exact hl), if_pos ⟨List.mem_cons_self .., hl⟩]
      · rw [List.getElem?_eq_none (by rw [List.length_set, wipe_length]; omega), if_neg (fun z => hl z.2), List.getElem?_eq_none (by omega)]
    · rw [List.getElem?_set_ne h, wipe_get vs τ j]
      have : j ∈ v :: vs ↔ j ∈ vs := by simp [Ne.symm h]
      simp only [this]
theorem wipe_eq {vs : List Nat} {σ τ : St} (hl : σ.length = τ.length) (h : ∀ j, j ∉ vs → σ[j]? = τ[j]?) : L2.wipe σ vs = L2.wipe τ vs := by
  refine List.ext_getElem? fun j => ?_
  rw [wipe_get, wipe_get, hl]
  by_cases hj : j ∈ vs
  · by_cases hl2 : j < τ.length
    · rw [if_pos ⟨hj, hl2⟩, if_pos ⟨hj, hl2⟩]
    · rw [if_neg (fun z => hl2 z.2), if_neg (fun z => hl2 z.2), List.getElem?_eq_none (by omega), List.getElem?_eq_none (by omega)]
  · rw [if_neg (fun z => hj z.1), if_neg (fun z => hj z.1)]
    exact h j hj
theorem wipe_wipe {vs : List Nat} {σ : St} : L2.wipe (L2.wipe σ vs) vs = L2.wipe σ vs := wipe_eq (wipe_length ..) fun j hj => by rw [wipe_get, if_neg (fun z => hj z.1)]
theorem wipe_set {vs : List Nat} {σ : St} {i : Nat} {y : Option V} (h : i ∈ vs) : L2.wipe ((L2.wipe σ vs).set i y) vs = L2.wipe σ vs := by
  refine (wipe_eq (τ := L2.wipe σ vs) List.length_set fun j hj => ?_).trans wipe_wipe
  rw [List.getElem?_set_ne (fun z => hj (by rw [← z]; exact h))]
theorem wipe_set2 {vs : List Nat} {σ : St} {i j : Nat} {y z : Option V} (h : i ∈ vs) (h2 : j ∈ vs) : L2.wipe (((L2.wipe σ vs).set i y).set j z) vs = L2.wipe σ vs := by
  refine (wipe_eq (τ := L2.wipe σ vs) (List.length_set.trans List.length_set) fun k hk => ?_).trans wipe_wipe
  rw [List.getElem?_set_ne (fun z => hk (by rw [← z]; exact h2)), List.getElem?_set_ne (fun z => hk (by rw [← z]; exact h))]
theorem paired_app {α β : Type} {F : α → β → Prop} : ∀ {xs : List α} {ys : List β} {us : List α} {ws : List β}, Paired F xs ys → Paired F us ws → Paired F (xs ++ us) (ys ++ ws)
  | _, _, _, _, .nil, h => h
  | _, _, _, _, .cons a t, h => .cons a (paired_app t h)
theorem Env.mono {K : PySem.W.Frag} {W : Wd} {H H' : Hp} {Γ : List (Option D)} {σ : St} (i : W.I H) (e : Ex W H H') (h : Env K W H Γ σ) : Env K W H' Γ σ := ⟨h.1, fun j d q => by
  obtain ⟨v, e1, e2⟩ := h.2 j d q
  exact ⟨v, e1, Rp.mono i e d e2⟩⟩
section
variable {G : Gb} {X : Cx} {E : XK} {n : Nat} {N : List Str} {sc : Scope} {W : Wd} {Γ : List (Option D)} {Z : ZK} {K : D → Prop} {pos p p2 : Pos}
theorem cn_blk {scope : Scope} {s : Shared} {H : Hp} {C : Addr} {cl : List (Str × Addr)} {fp : List Addr} (cn : Cn G X E n N sc) : Cn G (X.blk s H scope (compEnvC scope cl C X.env) fp) XE0 n N (relS scope sc) where
  e1 := cn.e1
  e2 := cn.e2
  e3 := cn.e3
  e4 := cn.e4
  e5 := cn.e5
  calm := cn.calm
  room := cn.room
  un := cn.un
  nN := cn.nN
  nd := cn.nd
  scp := by
    show relabel scope X.env = relS scope sc
    rw [← cn.scp]
    rfl
  px := fun _ _ _ _ _ _ _ h => by
    obtain ⟨_, _, _, _, _, _, _, _, _, _, _, _, z⟩ := h
    exact z.elim
/-- the rest of a comprehension, its target and test told; Nm what the target does to the slots -/
theorem lc_gen {tg iter : Expr} {own : List (Str × Nat)} {g : TG} {tt : TT} {te : TE} {σ : St} {H : Hp} {Q : VK} {Sx : List D → Prop}
    (hx : ∀ R : It → Hp → Prop, (∀ J items srcs vs H', Sx items → Go W H H' → RpL X.K W H' srcs vs → ItOf X.K J srcs vs items → R J H') → tUI X tg iter σ H R)
    (hi : W.I H)
    (hs : ∀ items, Sx items → ∃ (keep : D → Bool) (Gd : D → D → Prop), items.length ≤ 100000 ∧
      (∀ d ∈ items, ∀ (A : Addr) (us : List V) (H1 H2 : Hp) (x : V) (Qn : Hp → Prop), H1 A = none → Go W H H1 → (W.ext A us).I H2 → Ex (W.ext A []) (upd H1 A (.lst [])) H2 → Rp X.K (W.ext A us) H2 d x →
        (∀ e w H4, (keep d = true → Gd d e) → keep d = true → Go (W.ext A us) H2 H4 → Rp X.K (W.ext A us) H4 e w → ∃ acc, H4 A = some (.lst acc) ∧ acc.length < sizeLine ∧ Qn (upd H4 A (.lst (acc ++ [w])))) →
        (∀ H4, keep d = false → Go (W.ext A us) H2 H4 → Qn H4) →
        g x (L2.wipe σ (own.map (·.2))) H2 fun σ2 H3 => L2.wipe σ2 (own.map (·.2)) = L2.wipe σ (own.map (·.2)) ∧ tt σ2 H3 fun b H4 => if b = true then te σ2 H4 fun y H5 => ∃ acc, H5 A = some (.lst acc) ∧ acc.length < sizeLine ∧ Qn (upd H5 A (.lst (acc ++ [y]))) else Qn H4) ∧
      (∀ (ys : List D) (A : Addr) (H' : Hp), Paired Gd (items.filter keep) ys → Go W H H' → Rp X.K W H' (.lst ys) (.ref A) → Q (.ref A) H')) :
    tLc (tUI X tg iter) g tt te (own.map (·.2)) σ H Q := by
  refine hx _ (fun J items srcs vs H1 sx g1 rs it => ?_)
  intro A hA
  obtain ⟨keep, Gd, hlen, hturn, hend⟩ := hs items sx
  refine ⟨fun i m H' => m = items.length - i ∧ i ≤ items.length ∧ ∃ ys us, Paired Gd ((items.take i).filter keep) ys ∧ (W.ext A us).I H' ∧ RpL X.K (W.ext A us) H' ys us ∧ Ex (W.ext A []) (upd H1 A (.lst [])) H', ⟨items.length, rfl, Nat.zero_le _, [], [], .nil, ext_i g1.i hA, rfl, Ex.refl⟩, ?_⟩
  rintro i m H' ⟨rfl, hle, ys, us, pr, iv, rp, ex⟩
  have rs' : RpL X.K (W.ext A us) H' srcs vs := RpL.sub (W := W.ext A []) (V' := W.ext A us) (fun _ z => z) rfl srcs (RpL.mono (W := W.ext A []) (ext_i g1.i hA) ex srcs (RpL.up hA srcs rs))
  have hit := it (W.ext A us) i H' iv rs'
  by_cases hlt : i < items.length
  · have hd : items[i]? = some items[i] := List.getElem?_eq_getElem hlt
    obtain ⟨go, yl⟩ := hit.2 _ hd
    refine .inr ⟨go, fun H2 => i + 1 ≤ items.length ∧ ∃ ys us, Paired Gd ((items.take (i + 1)).filter keep) ys ∧ (W.ext A us).I H2 ∧ RpL X.K (W.ext A us) H2 ys us ∧ Ex (W.ext A []) (upd H1 A (.lst [])) H2, fun H2 ⟨l, x⟩ => ⟨items.length - (i + 1), by omega, rfl, l, x⟩, fun x H2 y => ?_⟩
    obtain ⟨g2, rx⟩ := yl x H2 y
    have ex2 : Ex (W.ext A []) (upd H1 A (.lst [])) H2 := Ex.trans ex g2.ex
    have htk : (items.take (i + 1)).filter keep = (items.take i).filter keep ++ (if keep items[i] then [items[i]] else []) := by
      rw [List.take_add_one, hd, List.filter_append]
      congr 1
      simp only [Option.toList_some, List.filter_cons, List.filter_nil]
    refine hturn items[i] (List.getElem_mem hlt) A us H1 H2 x _ hA g1 g2.i ex2 rx (fun e w H4 hg hk g4 re => ?_) (fun H4 hk g4 => ?_)
    · have hl := rp.len
      have hpl := pr.length
      have hfl : ((items.take i).filter keep).length ≤ items.length := Nat.le_trans (List.length_filter_le ..) (by rw [List.length_take]; omega)
      refine ⟨us, g4.i.1, Nat.lt_of_le_of_lt (m := 100000) (by omega) (by decide), hlt, ys ++ [e], us ++ [w], ?_, ext_put g4.i, ?_, Ex.trans (Ex.trans ex2 g4.ex) (ex_put (us := us) g4.i)⟩
      · rw [htk, if_pos hk]
        exact paired_app pr (.cons (hg hk) .nil)
      · have r1 := (rp.go iv g2).go g2.i g4
        have r2 : RpL X.K (W.ext A us) H4 (ys ++ [e]) (us ++ [w]) := r1.app ⟨w, [], rfl, re, rfl⟩
        exact RpL.sub (W := W.ext A us) (V' := W.ext A (us ++ [w])) (fun _ z => z) rfl _ (RpL.mono g4.i (ex_put g4.i) _ r2)
    · refine ⟨hlt, ys, us, ?_, g4.i, (rp.go iv g2).go g2.i g4, Ex.trans ex2 g4.ex⟩
      rw [htk, if_neg (by rw [hk]; decide), List.append_nil]
      exact pr
  · have e0 : i = items.length := by omega
    subst e0
    rw [List.take_length] at pr
    have gd : Go W H1 H' := Go.down (us := []) hA ex iv
    exact .inl ⟨hit.1 (Nat.le_refl _), hend ys A H' pr (g1.trans gd) ⟨A, us, rfl, W.out g1.i hA, iv.1, RpL.sub (W := W.ext A us) (fun _ z => .inl z) rfl _ rp⟩⟩
/-- the block's element, whatever frame it runs in -/
def teB (X : Cx) (scope : Scope) (elt : Expr) : TE := fun σ H Q => ∀ (s : Shared) (H0 : Hp) (C : Addr) (cl : List (Str × Addr)) (fp : List Addr), tU (X.blk s H0 scope (compEnvC scope cl C X.env) fp) elt σ H Q
theorem pe_B {scope : Scope} {elt : Expr} {s : Shared} {H : Hp} {C : Addr} {cl : List (Str × Addr)} {fp : List Addr} : PE (X.blk s H scope (compEnvC scope cl C X.env) fp) elt (teB X scope elt) :=
  ⟨fun pins s' σ' H' Q I hh => pe_U.run pins s' σ' H' Q I (hh s H C cl fp)⟩
def ttB (X : Cx) (scope : Scope) (c : Expr) : TT := fun σ H Q => ∀ (s : Shared) (H0 : Hp) (C : Addr) (cl : List (Str × Addr)) (fp : List Addr), tUT (X.blk s H0 scope (compEnvC scope cl C X.env) fp) c σ H Q
theorem pt_B {scope : Scope} {c : Expr} {s : Shared} {H : Hp} {C : Addr} {cl : List (Str × Addr)} {fp : List Addr} : PT (X.blk s H scope (compEnvC scope cl C X.env) fp) c (ttB X scope c) :=
  ⟨fun pins s' σ' H' Q I hh => pt_U.run pins s' σ' H' Q I (hh s H C cl fp)⟩
theorem pg_B {scope : Scope} {x : Str} {i : Nat} {s : Shared} {H : Hp} {C : Addr} {cl : List (Str × Addr)} {fp : List Addr} (cn : Cn G X E n N sc) (ixn : N[i]? = some x) (hl : locB (relS scope sc) x = true) : PG (X.blk s H scope (compEnvC scope cl C X.env) fp) (.Name x p) (gName i) := by
  have cb : Cn G (X.blk s H scope (compEnvC scope cl C X.env) fp) XE0 n N (relS scope sc) := cn_blk cn
  have hx' : (X.blk s H scope (compEnvC scope cl C X.env) fp).env.scope.names.lookup x = some .local := by rw [cb.scp]; exact locB_ok hl
  exact pg_name (by rw [cb.nN]; exact cb.nd) (by rw [cb.nN]; exact ixn) (.inl hx') (.inr hx')
theorem blk_of {scope : Scope} {own : List (Str × Nat)} (cn : Cn G X E n N sc) (ok : blkC N sc scope own = true) : BlkOk X.N X.env.scope scope own := by
  rw [cn.nN, cn.scp]; exact blkOk_by ok
/-- what a one-name comprehension asks: each item's element, the list of them -/
def LcS (G : Gb) (W : Wd) (n : Nat) (N : List Str) (sc scope : Scope) (i : Nat) (elt : Expr) (Γ : List (Option D)) (K : D → Prop) (items : List D) : Prop := items.length ≤ 100000 ∧ ∃ Gd : D → D → Prop,
  (∀ d, d ∈ items → ∀ X' W', Cn G X' XE0 n N (relS scope sc) → WExt W W' → EX X' XE0 W' elt ((wipeG Γ [i]).set i (some d)) (Gd d) Z0) ∧ ∀ ys, Paired Gd items ys → K (.lst ys)
theorem lc_body {x : Str} {i : Nat} {elt iter : Expr} {scope : Scope} (cn : Cn G X E n N sc)
    (h : IX X E W (.Name x p) iter Γ (LcS G W n N sc scope i elt Γ K) Z) {σ : St} {H : Hp} {Q : VK} (en : Env X.K W H Γ σ) (hi : W.I H) (q : ∀ d v H', K d → Go W H H' → Rp X.K W H' d v → Q v H') (z : ZOk X.K W H E Z) :
    tLc (tUI X (.Name x p) iter) (gName i) tYes (teB X scope elt) ([(x, i)].map (·.2)) σ H Q := by
  refine lc_gen (own := [(x, i)]) (fun R hR => h σ H R en hi hR z) hi (fun items sx => ?_)
  obtain ⟨hlen, Gd, hb, he⟩ := sx
  refine ⟨fun _ => true, Gd, hlen, fun d hd A us H1 H2 xv Qn hA g1 i2 ex2 rx kn _ => ?_, fun ys A H' pr gg rl => q _ _ H' (he ys (by rw [List.filter_eq_self.mpr (fun _ _ => rfl)] at pr; exact pr)) gg rl⟩
  refine ⟨wipe_set (List.mem_cons_self ..), ?_⟩
  unfold tYes
  dsimp only
  rw [if_pos rfl]
  intro s H0 C cl fp
  have en2 : Env X.K (W.ext A us) H2 Γ σ := Env.sub (W := W.ext A []) (V' := W.ext A us) (fun _ z => z) rfl (Env.mono (W := W.ext A []) (ext_i g1.i hA) ex2 ((en.go hi g1).up hA))
  exact hb d hd _ (W.ext A us) (cn_blk cn) wext _ H2 _ ((en2.wipe [i]).set i rx) i2 (fun e w H4 ke g4 re => kn e w H4 (fun _ => ke) rfl g4 re) zok0
/-- [elt for x in iter] -/
theorem ex_lc {x : Str} {i : Nat} {elt iter : Expr} {scope : Scope} (cn : Cn G X E n N sc) (ok : blkC N sc scope [(x, i)] = true) (hl : locB (relS scope sc) x = true)
    (h : IX X E W (.Name x p) iter Γ (LcS G W n N sc scope i elt Γ K) Z) (hs : ∀ v, foldedSetIterable iter X.env v = pure v := by intro _; rfl) (hn0 : n ≠ 0 := by decide) : EX X E W (.ListComp elt [⟨.Name x p, iter, [], 0⟩] scope pos) Γ K Z := fun σ H Q en hi q z =>
  have bo := blk_of cn ok
  have ixn : N[i]? = some x := by rw [← cn.nN]; exact bo.ix (x, i) (List.mem_cons_self ..)
  ⟨_, pe_lc (cn.calm hn0) (by rw [cn.nN]; exact cn.nd) pi_U bo (fun _ _ _ _ _ => pg_B cn ixn hl) (fun _ _ _ _ _ => pts_nil) (fun _ _ _ _ _ => pe_B) hs, lc_body cn h en hi q z⟩
/-- y = [elt for x in iter] -/
theorem s_setlc {x y : Str} {i j : Nat} {elt iter : Expr} {scope : Scope} {N' : Nd} {py : Pos} (cn : Cn G X E n N sc) (iy : N[j]? = some y) (hy : locB sc y = true) (ok : blkC N sc scope [(x, i)] = true) (hl : locB (relS scope sc) x = true)
    (ha : (scope.names.any fun (m, k) => m == y && (k == .local || k == .cell)) = false) (hline : (py.line == pos.line) = true)
    (h : IX X E W (.Name x p) iter Γ (LcS G W n N sc scope i elt Γ (fun d => N'.n (Γ.set j (some d)))) Z) (hs : ∀ v, foldedSetIterable iter X.env v = pure v := by intro _; rfl) (hk : sc.kind = .function := by rfl) (hn0 : n ≠ 0 := by decide) : S1 X E W (.Assign [.Name y py] (.ListComp elt [⟨.Name x p, iter, [], 0⟩] scope pos) p2) Γ N' Z := fun σ H T en hi r z =>
  have bo := blk_of cn ok
  have ixn : N[i]? = some x := by rw [← cn.nN]; exact bo.ix (x, i) (List.mem_cons_self ..)
  have hyl : X.env.scope.names.lookup y = some .local := by rw [cn.scp]; exact locB_ok hy
  ⟨_, ps_setLc (i := j) (cn.calm hn0) (by rw [cn.nN]; exact cn.nd) (by rw [cn.nN]; exact iy) hyl (sw_true (by rw [cn.scp]; exact hk) hyl hline ha) pi_U bo (fun _ _ _ _ _ => pg_B cn ixn hl) (fun _ _ _ _ _ => pts_nil) (fun _ _ _ _ _ => pe_B) hs,
    lc_body (Q := fun v H1 => gName j v σ H1 T.nx) cn h en hi (fun d v H' k g rd => r.n _ _ _ k g ((en.go hi g).set j rd)) z⟩
/-- [elt for x in iter if c] -/
def LcF (G : Gb) (W : Wd) (n : Nat) (N : List Str) (sc scope : Scope) (i : Nat) (elt c : Expr) (Γ : List (Option D)) (K : D → Prop) (items : List D) : Prop := items.length ≤ 100000 ∧ ∃ (keep : D → Bool) (Gd : D → D → Prop),
  (∀ d, d ∈ items → ∀ X' W', Cn G X' XE0 n N (relS scope sc) → WExt W W' → TX X' XE0 W' c ((wipeG Γ [i]).set i (some d)) (fun b => b = keep d) Z0 ∧ (keep d = true → EX X' XE0 W' elt ((wipeG Γ [i]).set i (some d)) (Gd d) Z0)) ∧ ∀ ys, Paired Gd (items.filter keep) ys → K (.lst ys)
theorem lcf_body {x : Str} {i : Nat} {elt iter c : Expr} {scope : Scope} (cn : Cn G X E n N sc)
    (h : IX X E W (.Name x p) iter Γ (LcF G W n N sc scope i elt c Γ K) Z) {σ : St} {H : Hp} {Q : VK} (en : Env X.K W H Γ σ) (hi : W.I H) (q : ∀ d v H', K d → Go W H H' → Rp X.K W H' d v → Q v H') (z : ZOk X.K W H E Z) :
    tLc (tUI X (.Name x p) iter) (gName i) (ttB X scope c) (teB X scope elt) ([(x, i)].map (·.2)) σ H Q := by
  refine lc_gen (own := [(x, i)]) (fun R hR => h σ H R en hi hR z) hi (fun items sx => ?_)
  obtain ⟨hlen, keep, Gd, hb, he⟩ := sx
  refine ⟨keep, Gd, hlen, fun d hd A us H1 H2 xv Qn hA g1 i2 ex2 rx kn kn0 => ?_, fun ys A H' pr gg rl => q _ _ H' (he ys pr) gg rl⟩
  refine ⟨wipe_set (List.mem_cons_self ..), ?_⟩
  intro s H0 C cl fp
  have en2 : Env X.K (W.ext A us) H2 Γ σ := Env.sub (W := W.ext A []) (V' := W.ext A us) (fun _ z => z) rfl (Env.mono (W := W.ext A []) (ext_i g1.i hA) ex2 ((en.go hi g1).up hA))
  have en3 := (en2.wipe [i]).set i rx
  refine (hb d hd _ (W.ext A us) (cn_blk cn) wext).1 _ H2 _ en3 i2 (fun b H3 kb g3 => ?_) zok0
  cases b with
  | false => rw [if_neg (by decide)]; exact kn0 H3 kb.symm g3
  | true =>
    rw [if_pos rfl]
    intro s H0 C cl fp
    exact (hb d hd _ (W.ext A us) (cn_blk cn) wext).2 kb.symm _ H3 _ (en3.go i2 g3) g3.i (fun e w H4 ke g4 re => kn e w H4 (fun _ => ke) kb.symm (g3.trans g4) re) zok0
theorem ex_lcf {x : Str} {i : Nat} {elt iter c : Expr} {scope : Scope} (cn : Cn G X E n N sc) (ok : blkC N sc scope [(x, i)] = true) (hl : locB (relS scope sc) x = true)
    (h : IX X E W (.Name x p) iter Γ (LcF G W n N sc scope i elt c Γ K) Z) (hs : ∀ v, foldedSetIterable iter X.env v = pure v := by intro _; rfl) (hn0 : n ≠ 0 := by decide) : EX X E W (.ListComp elt [⟨.Name x p, iter, [c], 0⟩] scope pos) Γ K Z := fun σ H Q en hi q z =>
  have bo := blk_of cn ok
  have ixn : N[i]? = some x := by rw [← cn.nN]; exact bo.ix (x, i) (List.mem_cons_self ..)
  ⟨_, pe_lc (cn.calm hn0) (by rw [cn.nN]; exact cn.nd) pi_U bo (fun _ _ _ _ _ => pg_B cn ixn hl) (fun _ _ _ _ _ => pts_one pt_B) (fun _ _ _ _ _ => pe_B) hs, lcf_body cn h en hi q z⟩
theorem s_setlcf {x y : Str} {i j : Nat} {elt iter c : Expr} {scope : Scope} {N' : Nd} {py : Pos} (cn : Cn G X E n N sc) (iy : N[j]? = some y) (hy : locB sc y = true) (ok : blkC N sc scope [(x, i)] = true) (hl : locB (relS scope sc) x = true)
    (ha : (scope.names.any fun (m, k) => m == y && (k == .local || k == .cell)) = false) (hline : (py.line == pos.line) = true)
    (h : IX X E W (.Name x p) iter Γ (LcF G W n N sc scope i elt c Γ (fun d => N'.n (Γ.set j (some d)))) Z) (hs : ∀ v, foldedSetIterable iter X.env v = pure v := by intro _; rfl) (hk : sc.kind = .function := by rfl) (hn0 : n ≠ 0 := by decide) : S1 X E W (.Assign [.Name y py] (.ListComp elt [⟨.Name x p, iter, [c], 0⟩] scope pos) p2) Γ N' Z := fun σ H T en hi r z =>
  have bo := blk_of cn ok
  have ixn : N[i]? = some x := by rw [← cn.nN]; exact bo.ix (x, i) (List.mem_cons_self ..)
  have hyl : X.env.scope.names.lookup y = some .local := by rw [cn.scp]; exact locB_ok hy
  ⟨_, ps_setLc (i := j) (cn.calm hn0) (by rw [cn.nN]; exact cn.nd) (by rw [cn.nN]; exact iy) hyl (sw_true (by rw [cn.scp]; exact hk) hyl hline ha) pi_U bo (fun _ _ _ _ _ => pg_B cn ixn hl) (fun _ _ _ _ _ => pts_one pt_B) (fun _ _ _ _ _ => pe_B) hs,
    lcf_body (Q := fun v H1 => gName j v σ H1 T.nx) cn h en hi (fun d v H' k g rd => r.n _ _ _ k g ((en.go hi g).set j rd)) z⟩
/-- [elt for x, y in iter] -/
def LcT (G : Gb) (W : Wd) (n : Nat) (N : List Str) (sc scope : Scope) (i j : Nat) (elt : Expr) (Γ : List (Option D)) (K : D → Prop) (items : List D) : Prop := items.length ≤ 100000 ∧ ∃ Gd : D → D → Prop,
  (∀ d, d ∈ items → ∃ a b, d = .tup [a, b] ∧ ∀ X' W', Cn G X' XE0 n N (relS scope sc) → WExt W W' → EX X' XE0 W' elt (((wipeG Γ [i, j]).set i (some a)).set j (some b)) (Gd d) Z0) ∧ ∀ ys, Paired Gd items ys → K (.lst ys)
theorem lct_body {x y : Str} {i j : Nat} {elt iter : Expr} {scope : Scope} {tg : Expr} (cn : Cn G X E n N sc)
    (h : IX X E W tg iter Γ (LcT G W n N sc scope i j elt Γ K) Z) {σ : St} {H : Hp} {Q : VK} (en : Env X.K W H Γ σ) (hi : W.I H) (q : ∀ d v H', K d → Go W H H' → Rp X.K W H' d v → Q v H') (z : ZOk X.K W H E Z) :
    tLc (tUI X tg iter) (gTup X.K 2 (gCons (gName i) (gCons (gName j) gNil))) tYes (teB X scope elt) ([(x, i), (y, j)].map (·.2)) σ H Q := by
  refine lc_gen (own := [(x, i), (y, j)]) (fun R hR => h σ H R en hi hR z) hi (fun items sx => ?_)
  obtain ⟨hlen, Gd, hb, he⟩ := sx
  refine ⟨fun _ => true, Gd, hlen, fun d hd A us H1 H2 xv Qn hA g1 i2 ex2 rx kn _ => ?_, fun ys A H' pr gg rl => q _ _ H' (he ys (by rw [List.filter_eq_self.mpr (fun _ _ => rfl)] at pr; exact pr)) gg rl⟩
  obtain ⟨a, b, rfl, hb⟩ := hb d hd
  obtain ⟨t, xs, rfl, e2, e3⟩ := rx
  have e3' := e3
  obtain ⟨v, r, rfl, r1, w, r', rfl, r2, r3⟩ := e3
  cases (show r' = [] from r3)
  refine ⟨t, _, rfl, e2, rfl, v, _, rfl, w, _, rfl, rfl, ?_⟩
  refine ⟨wipe_set2 (List.mem_cons_self ..) (List.mem_cons_of_mem _ (List.mem_cons_self ..)), ?_⟩
  unfold tYes
  dsimp only
  rw [if_pos rfl]
  intro s H0 C cl fp
  have en2 : Env X.K (W.ext A us) H2 Γ σ := Env.sub (W := W.ext A []) (V' := W.ext A us) (fun _ z => z) rfl (Env.mono (W := W.ext A []) (ext_i g1.i hA) ex2 ((en.go hi g1).up hA))
  exact hb _ (W.ext A us) (cn_blk cn) wext _ H2 _ (((en2.wipe [i, j]).set i r1).set j r2) i2 (fun e w H4 ke g4 re => kn e w H4 (fun _ => ke) rfl g4 re) zok0
theorem pg_B2 {scope : Scope} {x y : Str} {i j : Nat} {s : Shared} {H : Hp} {C : Addr} {cl : List (Str × Addr)} {fp : List Addr} {px py pt : Pos} {kk : Nat} (cn : Cn G X E n N sc) (ixn : N[i]? = some x) (iyn : N[j]? = some y) (hl : locB (relS scope sc) x = true) (hl2 : locB (relS scope sc) y = true) (hn0 : n ≠ 0 := by decide) :
    PG (X.blk s H scope (compEnvC scope cl C X.env) fp) (.Tuple [.Name x px, .Name y py] kk pt) (gTup X.K 2 (gCons (gName i) (gCons (gName j) gNil))) :=
  pg_tup (X := X.blk s H scope (compEnvC scope cl C X.env) fp) (cn.calm hn0) (pgs_cons (pg_B cn ixn hl) (pgs_cons (pg_B cn iyn hl2) pgs_nil))
theorem ex_lct {x y : Str} {i j : Nat} {elt iter : Expr} {scope : Scope} {px py pt : Pos} {kk : Nat} (cn : Cn G X E n N sc) (ok : blkC N sc scope [(x, i), (y, j)] = true) (hl : locB (relS scope sc) x = true) (hl2 : locB (relS scope sc) y = true)
    (h : IX X E W (.Tuple [.Name x px, .Name y py] kk pt) iter Γ (LcT G W n N sc scope i j elt Γ K) Z) (hs : ∀ v, foldedSetIterable iter X.env v = pure v := by intro _; rfl) (hn0 : n ≠ 0 := by decide) : EX X E W (.ListComp elt [⟨.Tuple [.Name x px, .Name y py] kk pt, iter, [], 0⟩] scope pos) Γ K Z := fun σ H Q en hi q z =>
  have bo := blk_of cn ok
  have ixn : N[i]? = some x := by rw [← cn.nN]; exact bo.ix (x, i) (List.mem_cons_self ..)
  have iyn : N[j]? = some y := by rw [← cn.nN]; exact bo.ix (y, j) (List.mem_cons_of_mem _ (List.mem_cons_self ..))
  ⟨_, pe_lc (cn.calm hn0) (by rw [cn.nN]; exact cn.nd) pi_U bo (fun _ _ _ _ _ => pg_B2 cn ixn iyn hl hl2 hn0) (fun _ _ _ _ _ => pts_nil) (fun _ _ _ _ _ => pe_B) hs, lct_body (x := x) (y := y) cn h en hi q z⟩

/-! ### a def keeps its promise -/
def startG (N : List Str) (ds : List D) : List (Option D) := ds.map some ++ List.replicate (N.length - ds.length) none
theorem env_start {K : PySem.W.Frag} {H : Hp} {ds : List D} {vs : List V} (r : RpL K W H ds vs) : Env K W H (startG N ds) (L2.start N vs) := by
  have hl := r.len
  refine ⟨by simp [startG, L2.start, hl], fun i d e => ?_⟩
  unfold startG at e
  by_cases h : i < ds.length
  · rw [List.getElem?_append_left (by simpa using h), List.getElem?_map] at e
    cases q : ds[i]? with
    | none => rw [q] at e; cases e
    | some d' =>
      rw [q] at e
      cases e
      obtain ⟨v, e1, e2⟩ := r.get q
      refine ⟨v, ?_, e2⟩
      unfold L2.start
      rw [List.getElem?_append_left (by rw [List.length_map, hl]; exact h), List.getElem?_map, e1]
      rfl
  · rw [List.getElem?_append_right (by simpa using h), List.getElem?_replicate] at e
    split at e <;> cases e
end
/-- a def's body, told over trees -/
theorem fn_intro {G : Gb} {N ps : List Str} {m : Nat} {F : FSpec} {f : Addr} {fd : FuncData} {x qual : Str} {params : Arguments} {body : List Stmt} {scope : Scope} {dvs : List V} {kws : List (Str × V)}
    (FD : FunD G.K x qual params body scope dvs kws f fd) (S : FnScope N ps scope) (hm : G.mg x = some (.ref f)) (hb : Binds G.K fd ps []) (hlen : ∀ W ds Kc Z, F W ds Kc Z → ds.length = ps.length)
    (h : ∀ (X : Cx) (E : XK), Cn G X E m N scope → Df X E → PassesOwn (model X.prog X.w) X.A X.env X.xe → ∀ (W : Wd) (ds : List D) (Kc : D → Prop) (Z : ZK), F W ds Kc Z → SX X E W body (startG N ds) { n := fun _ => Kc .non, r := Kc } Z) : Fn G x ps (m + 1) F := by
  refine ⟨f, fd, hm, FD.kp, hb, ?_⟩
  refine FD.ok S (fun vs H Q E hsp => ?_) (fun cdv A outer s H vs Q E hr hsp => ?_)
  · obtain ⟨W, ds, Kc, Z, hi, rp, hF, _⟩ := hsp
    rw [rp.len]; exact hlen W ds Kc Z hF
  · obtain ⟨W, ds, Kc, Z, hi, rp, hF, hq, hz⟩ := hsp
    have tk : L2N.Takes (cxOf (L2N.CX G.prog G.w) G.prog G.w G.K G.mg G.base N qual scope f cdv A outer s H E) (fun cls d _ H' => E cls d H') := L2N.takes_of rfl rfl rfl rfl
    refine ⟨_, pss_U, h _ E ⟨rfl, rfl, rfl, rfl, rfl, fun _ => rfl, fun _ => hr, un_room hr, rfl, S.nd, rfl, L2N.passes_call tk fun _ _ _ _ z => z⟩ ⟨fun _ => rfl, rfl, rfl, rfl, tk⟩ (passes_of rfl) W ds Kc Z hF (L2.start N vs) H _ (env_start rp) hi ⟨fun Γ σ H' k g e => hq _ _ H' k g rfl, fun d v H' k g r => hq d v H' k g r, fun _ _ _ z => z.elim, fun _ _ _ z => z.elim⟩ hz⟩
end DX

set_option Elab.async false
set_option linter.all false
set_option maxRecDepth 100000
set_option maxHeartbeats 2000000
/-! exceptions of own classes: made, raised, caught by a pair of classes, their fields read -/
namespace DX
open PySem PySem.Spec PyProof.Rows L2
section
variable {X : Cx}
/-- the words of a class x that stands over another: its base's __init__ is ValueError's own -/
structure BInit (K : PySem.W.Frag) (B : Addr) : Prop where
  rd : PySem.W.readsIn K B (.type "type") = true
  ga : PySem.W.specialIn K (.ref B) "__getattribute__" = some (some (.builtin "type.__getattribute__"))
  fi : PySem.W.findCls K (.ref B) (.type "type") "__init__" = some (.val (.builtin "ValueError.__init__"))
/-- Base.__init__(self, ..), Base a class of the text -/
theorem pe_binit {pl : Sem Bool} {x : Str} {B : Addr} {e : Expr} {es : List Expr} {ta : TA} {p1 p2 pos : Pos} (hg : Gl X x) (hm : X.mg x = some (.ref B)) (bi : BInit X.K B) (ha : PA X (e :: es) ta)
    (hdb : (x == ("__debug__" : Str)) = false := by decide)
    (hc : eval (.Call (.Attribute (.Name x p1) "__init__" p2) (e :: es) [] pos) X.env = (do
      let ov ← eval (.Name x p1) X.env
      standAt p2.atName
      let (f, first) ← holding [ov] (getMethod ov "__init__" pl)
      callWith pos f first (backTo pos (starEach (e :: es) X.env)) (backToKw pos (keywordEach [] X.env))) := by rfl)
    (h1 : starEach (e :: es) X.env = (false, eval e X.env) :: starEach es X.env := by rfl) (h2 : (backTo pos (starEach es X.env)).any (·.1) = false := by rfl) :
    PE X (.Call (.Attribute (.Name x p1) "__init__" p2) (e :: es) [] pos) (tVeI X.K ta) := ⟨fun pins s σ H Q I h => by
  refine PySem.W.methodCall_KW (ld_glob I hg hm ?_ hdb) hc
  refine PySem.W.method_cls I.kIn bi.ga (PySem.W.cls_value I.kIn bi.rd bi.fi (by decide +kernel) ?_)
  refine PyProof.Rows.callWith_method1 (thn (ha.run pos pins _ σ H _ (I.tok _) h) fun us s1 hh => ?_) h1 h2
  obtain ⟨vs, H1, I1, r1, a, C, ws, rfl, hl, T, ea, q⟩ := hh
  cases r1 with
  | @cons _ u0 _ ur ra rr =>
    cases (show u0 = Value.ref a from ra)
    have hz : ur.length ≤ sizeLine := Nat.le_trans (by rw [← Paired.length rr]; exact hl) (by decide)
    exact oinit_ok T I1 ea hz fun s' J => ⟨V.non, H1, J, rfl, q⟩⟩
/-- C(e, ..) raised: as the layer's, the context known to be None -/
theorem pmk_oexN {CX : CXT} {x : Str} {C fI : Addr} {k : Nat} {fd : FuncData} {ps : List Str} {sp : Sp} {e : Expr} {es : List Expr} {ta : TA} {p pos : Pos} (T : OexC X.K C) (iC : PySem.W.findIn X.K (.ref C) "__init__" = some (some (.ref fI))) (tI : PySem.W.typeIn X.K (.ref fI) = some (.type "function"))
    (F1 : FnOk X.prog X.w X.K X.mg X.base CX k fI fd ps sp) (hr : Room (k + 1) X.A) (hb : Binds X.K fd ps []) (hx : Passes CX X (fun _ _ _ => False)) (hg : Gl X x) (hm : X.mg x = some (.ref C)) (ha : PA X (e :: es) ta)
    (hdb : (x == ("__debug__" : Str)) = false := by decide) (h1 : starEach (e :: es) X.env = (false, eval e X.env) :: starEach es X.env := by rfl) (h2 : (backTo pos (starEach es X.env)).any (·.1) = false := by rfl) :
    L2N.PMk X (.Call (.Name x p) (e :: es) [] pos) (tMkO C sp [] ta) := fun pins s σ H Q I h => by
  obtain ⟨nm, q, N, bs, bm, sn, sub, ab, col, dd, k0, k1, k2, k3, k5, lC, hbm⟩ := T.cls
  refine wpAny_Call_Name_kw (ld_glob I hg hm ?_ hdb)
  refine PySem.W.callWith_K (h₀ := X.base) I.ok.mod.kin T.kC (thn (ha.run pos pins s σ H _ I h) fun us s1 hh => ?_) h1 h2
  obtain ⟨vs, H1, I1, r1, hz, q1⟩ := hh
  refine ⟨I1.kIn, ?_⟩
  obtain ⟨hp, g, dr, tk, os⟩ := s1
  have at_ : hp.objs.size ≤ hp.objs.size + 1 := Nat.le_succ _
  have q2 := q1 (hp.objs.size + 1) (I1.hok.fresh at_)
  have hk : ∀ b o, hp.get? b = some o → ((hp.push (PySem.W.kdv_tup us)).push (PySem.HandSPX.excO C hp.objs.size)).get? b = some o := fun b o z => Heap.get?_push_of_some _ (Heap.get?_push_of_some _ z)
  have hn : ((hp.push (PySem.W.kdv_tup us)).push (PySem.HandSPX.excO C hp.objs.size)).get? (hp.objs.size + 1) = some (PySem.HandSPX.excO C hp.objs.size) := by heap_get
  have I2 := I1.laid (t' := tk) (o := exo (hp.objs.size + 1) C none) hk at_ (exo_ok hn)
  have r2 : Vals (V.ref (hp.objs.size + 1) :: (vs ++ [])) (Value.ref (hp.objs.size + 1) :: (us ++ [])) := .cons rfl (r1.append .nil)
  have hl : (Value.ref (hp.objs.size + 1) :: us ++ []).length = ps.length := by
    have z := F1.len _ _ _ _ q2
    rw [← z]
    exact r2.length.symm
  have hus : us.length ≤ sizeLine := Nat.le_trans (by rw [← Paired.length r1]; exact hz) (by decide)
  refine wpAny_call (PySem.HandSPX.call_own F.excBase_ValueError (fun Y => PySem.HandSPX.refsVE_contains Y bm hbm) (I1.kIn _ _ lC) (PySem.W.looks_findIn I1.kIn iC) (fun self => PySem.W.bind_fn I1.kIn self tI) hus
    (codeAny_mono (F1.run _ X.stack _ _ ⟨Value.ref (hp.objs.size + 1) :: us, []⟩ _ _ _ (fun _ _ _ => False) (hr.make C us []) (I2.env0.make C us []) (hb _ (Value.ref (hp.objs.size + 1) :: us) I2.kIn hl) r2 q2) fun r s' z => ?_))
  cases r with
  | error er => exact hx pins σ _ _ er s' I2 z
  | ok fl =>
    cases fl with
    | ret u =>
      obtain ⟨v, H2, os2, bare2, un2, hok2, rv, rfl, d, fs, ea, ed, hd1, q3⟩ := z
      obtain ⟨h2, g2, d2, t2, os'⟩ := s'
      obtain ⟨t0, Gr, J, kG, ge, hoe, na⟩ := mk_end0 (d2 := d2) (t2 := t2) I1 at_ hk un2 hok2 os2 bare2 ea ed hd1
      exact ⟨rv, _, _, _, ⟨Gr, g2, d2, t2, os'⟩, _, .ref C, some d, rfl, J, kG, ge, hoe, ⟨rfl, rfl, fun ws z => by cases z; rfl⟩, rfl, rfl, na, rfl, bare2, raises_own T.exC T.tyC, q3⟩
    | next => exact z.elim
    | brk => exact z.elim
    | cont => exact z.elim
/-- the field n of an exception that is pinned -/
def tXp (K : PySem.W.Frag) (p : Addr × Obj) (C : Addr) (n : Str) (te : TE) : TE := fun σ H Q => te σ H fun x H1 => x = .ref p.1 ∧ ∃ (dd : Addr) (fs : List (Str × V)) (v : V), L2N.Zn (.ref C) (some dd) p.2 ∧ H1 dd = some (.xd fs) ∧ fs.lookup n = some v ∧ Q v H1
theorem pe_xp {pr : Addr × Obj} {C : Addr} {e : Expr} {te : TE} {pos : Pos} {n : Str} (T : XfC X.K C) (hno : PySem.W.findIn X.K (.ref C) n = some none) (hp : pr ∈ X.pn) (hf : ∃ vs, pr.2.data = .fields vs) (he : PE X e te)
    (hb : attributeBase e n X.env (eval e X.env) = eval e X.env := by rfl) : PE X (.Attribute e n pos) (tXp X.K pr C n te) := ⟨fun pins s σ H Q I h => by
  refine attr_of hb (thn (he.run pins s σ H _ I h) fun u s1 hh => ?_)
  obtain ⟨x, H1, I1, rx, rfl, dd, fs, v, hz, ea, l, q⟩ := hh
  cases (show u = Value.ref pr.1 from rx)
  obtain ⟨vs, hd⟩ := hf
  obtain ⟨mA, hns, hr⟩ := (show ObjOk X.prog X.w H1 s1.heap dd (.xd fs) from I1.hok dd _ ea)
  obtain ⟨od, ho, hl⟩ := lookIn_ns hns
  obtain ⟨u, hu, ru⟩ := RelO.some_of (v := v) (o := mA n) (by rw [← l]; exact hr n)
  have J : PySem.W.InstAt s1.heap pr.1 pr.2 C (some od) := ⟨(I1.pin pr (List.mem_append_left _ hp)).1, hz.1, by unfold PySem.W.notCls; rw [hd] <;> rfl, by rw [hz.2.1]; exact ho⟩
  exact HandSPX.exc_get I1.kIn J T.ga T.gg T.exC (PySem.W.findObj_own T.hdC hno rfl (by rw [hl, hu])) (handed_of ru) ⟨v, H1, I1.tok _, ru, q⟩⟩

/-! ### except (A, B) as n -/
def wAs2 (K : PySem.W.Frag) (c1 c2 : Value) (i : Nat) (ts : Addr → Obj → Value → Option Addr → TS) (D : Ends) : WX := fun cls d σ H =>
  PySem.W.exmAny K cls [c1, c2] = some true ∧ ∀ a oe, H a = none → L2N.Zn cls d oe → ts a oe cls d { nx := fun σ' H' => D.nx (σ'.set i none) H', rt := D.rt, bk := fun σ' H' => D.bk (σ'.set i none) H', ct := fun σ' H' => D.ct (σ'.set i none) H' } (σ.set i (some (.ref a))) H
theorem flying_push {B h : Heap} {l : List PySem.Env} {a : Addr} {Z : Obj → Prop} {o : Obj} (x : HandSPX.FlyingZ B l a Z h) : HandSPX.FlyingZ B l a Z (h.push o) := by
  obtain ⟨x1, x2, x3, oe, vs, T, oT, ts, h1, h2, h3, h4, h5, h6, h7, h8, h9⟩ := x
  have k : ∀ b u, h.get? b = some u → (h.push o).get? b = some u := fun b u z => Heap.get?_push_of_some _ z
  exact ⟨fun b u z => k b u (x1 b u z), x2, x3.of_keeps fun b u z _ => ⟨u, k b u z, rfl⟩, oe, vs, T, oT, ts, k _ _ h1, h2, h3, h4, h5, h6, k _ _ h7, h8, h9⟩
theorem ps_try_as2 {x1 x2 n : Str} {c1 c2 : Value} {i kk : Nat} {body suite : List Stmt} {b₀ : Stmt} {n1 n2 pt pos pos' : Pos} {tb : WX → TS} {ts : Addr → Obj → Value → Option Addr → TS}
    (hs : X.stack = X.env :: X.outer) (hf : X.env.frame = some X.env.locals) (hN : X.N.Nodup) (hi : X.N[i]? = some n) (hln : X.env.kindOf n = some .local)
    (g1 : Gl X x1) (m1 : X.mg x1 = some c1) (d1 : (x1 == ("__debug__" : Str)) = false) (g2 : Gl X x2) (m2 : X.mg x2 = some c2) (d2 : (x2 == ("__debug__" : Str)) = false)
    (hb : ∀ (W : WX) (pn : List (Addr × Obj)) (xe : Value → Shared → Prop), L2N.Takes (X.tr pn xe) W → PassesOwn (model X.prog X.w) X.A X.env xe → PSs (X.tr pn xe) body (tb W))
    (hsu : ∀ (a : Addr) (oe : Obj) (cls : Value) (d : Option Addr) (pn : List (Addr × Obj)), L2N.Zn cls d oe → (∃ vs, oe.data = .fields vs) → PSs (X.suite a ((a, oe) :: pn)) (b₀ :: suite) (ts a oe cls d)) :
    PS X (.Try body [.ExceptHandler (some (.Tuple [.Name x1 n1, .Name x2 n2] kk pt)) (some n) (b₀ :: suite) pos'] [] [] pos) (fun D σ H => tb (wAs2 X.K c1 c2 i ts D) D σ H) := ⟨fun pins s σ H D I h => by
  have ok := I.ok
  have hfr : X.A.frames = some (X.env :: X.outer) := ok.frames.trans (by rw [hs])
  refine wpAny_Try_except ?_
  refine wpAny_mono ((hb _ (X.pn ++ pins) (fun e s₁ => wpAny (model X.prog X.w) X.A (noteFrame e X.env) (fun _ s₂ => wpAny (model X.prog X.w) X.A (setFlight e none) (fun _ s₃ =>
    wpAny (model X.prog X.w) X.A (handleBy e X.env [.ExceptHandler (some (.Tuple [.Name x1 n1, .Name x2 n2] kk pt)) (some n) (b₀ :: suite) pos']) (SP X pins D) X.xe s₃) X.xe s₂) X.xe s₁) (fun u s' xx => ?_) PassesOwn.looking).run [] s σ H D (I.toTry _) h) (fun f s1 hsp => ?_) (fun e s1 he => he)
  · obtain ⟨a, B, sI, pins', σ', H', cls, d, rfl, J', nb, up, sky, na, os, ag, hm, hyes⟩ := xx
    have J : Inv X pins σ' H' sI := J'.ofTry ok
    refine L2N.Sky.land L2N.Zn.steady hfr hf (show Sky B (X.env :: X.outer) a (L2N.Zn cls d) X.env.locals s'.heap from hs ▸ sky) fun h3 fl3 up3 => ?_
    obtain ⟨oe3, vs3, he3, hz3, hd3⟩ := fl3.there
    have apart : a ∉ frs (X.env :: X.outer) := fun hm => by
      obtain ⟨_, o', e', hnf⟩ := fl3.2.2.1.mem hm
      rw [he3] at e'
      cases e'
      exact hnf _ hd3
    have nL : a ≠ X.env.locals := fun z => apart (List.mem_filterMap.mpr ⟨X.env, List.mem_cons_self, hf.trans (by rw [z])⟩)
    have nF : a ∉ X.fs := fun hm => by
      obtain ⟨e, he, q⟩ := List.mem_filterMap.mp hm
      exact apart (List.mem_filterMap.mpr ⟨e, List.mem_cons_of_mem _ he, q⟩)
    have J3 : Inv X pins σ' H' { s' with heap := h3 } := J.landed nb fl3.1 (up.trans up3) os ag
    have S3 := J3.suite he3 hd3 na nL nF
    refine wpAny_handleBy_cons (codeAny_handlers_test ?_) (fun q => nomatch q)
    have nm : ∀ {x : Str} {np : Pos} {c : Value} {Q : Value → Shared → Prop} {Er : Value → Shared → Prop}, Gl X x → X.mg x = some c → (x == ("__debug__" : Str)) = false → Q c { s' with heap := h3 } → wpAny (model X.prog X.w) (X.A.mark (some (.ref a))) (eval (.Name x np) X.env) Q Er { s' with heap := h3 } :=
      fun hg hm hd q => ld_glob (X := X.suite a ((a, oe3) :: (X.pn ++ pins))) S3 hg hm q hd
    refine wpAny_Tuple (wpAny_items_cons (nm g1 m1 d1 (wpAny_items_cons (nm g2 m2 d2 (wpAny_items_nil ⟨by size_fits, ?_⟩)))))
    have kp : ∀ q o, h3.get? q = some o → (h3.push { cls := .type "tuple", data := .seq [c1, c2].toArray }).get? q = some o := fun _ _ z => Heap.get?_push_of_some _ z
    have LT : PySem.W.Looks (model X.prog X.w) (h3.push { cls := .type "tuple", data := .seq [c1, c2].toArray }) (typeOf (.ref a)) cls := fun A Q E s k q => wpAny_typeOf_ref (k _ _ (kp _ _ he3)) (by rw [hz3.1]; exact q)
    refine (PySem.W.exm_tup2 (M := model X.prog X.w) (J3.kIn.keeps kp) LT (Heap.get?_push_size h3 rfl) hm).here ?_
    have fl3' : HandSPX.FlyingZ B (X.env :: X.outer) a (L2N.Zn cls d) (h3.push { cls := .type "tuple", data := .seq [c1, c2].toArray }) := flying_push fl3
    have up3' := (up.trans up3).trans (PySem.Heap.UpToSlots.of_keeps kp)
    refine codeAny_handlers_suite_as ?_
    refine HandSPX.lands_againZ fl3' fun h4 fl4 up4 => ?_
    have J4 : Inv X pins σ' H' { s' with heap := h4 } := J.landed nb fl4.1 (up3'.trans up4) os ag
    obtain ⟨oe4, vs4, he4, hz4, hd4⟩ := fl4.there
    have S4 := J4.suite he4 hd4 na nL nF
    refine store_ok (X := X.suite a ((a, oe4) :: (X.pn ++ pins))) (v := .ref a) S4 hN hi (.inl hln) rfl (fun s5 S5 => ?_) (.inr hln)
    refine wpAny_mono ((hsu a oe4 cls d (X.pn ++ pins) hz4 ⟨_, hd4⟩).run [] s5 _ H' _ S5 (hyes a oe4 na hz4)) (fun f s6 hsp => ?_) (fun _ _ z => False.elim z)
    have gone : ∀ {σ6 : L2.St} {H6 : Hp} {R : Shared → Prop}, Inv (X.suite a ((a, oe4) :: (X.pn ++ pins))) [] σ6 H6 s6 → (∀ s7, Inv X pins (σ6.set i none) H6 s7 → R s7) →
        wpAny (model X.prog X.w) X.A (do bindName X.env n .none; unbindBehindTheSuite X.env n pos') (fun _ s7 => R s7) X.xe s6 := fun S6 hq => gone_ok (S6.unsuite ok) hN hi hln hq
    cases f with
    | next => exact hsp.elim fun σ6 hsp => hsp.elim fun H6 hsp => gone hsp.1 fun s7 J7 => ⟨_, _, J7, hsp.2⟩
    | brk => exact hsp.elim fun σ6 hsp => hsp.elim fun H6 hsp => gone hsp.1 fun s7 J7 => ⟨_, _, J7, hsp.2⟩
    | cont => exact hsp.elim fun σ6 hsp => hsp.elim fun H6 hsp => gone hsp.1 fun s7 J7 => ⟨_, _, J7, hsp.2⟩
    | ret u => exact hsp.elim fun v6 hsp => hsp.elim fun σ6 hsp => hsp.elim fun H6 hsp => gone hsp.1 fun s7 J7 => ⟨_, _, _, J7, hsp.2.1, hsp.2.2⟩
  · cases f with
    | next =>
      obtain ⟨σ', H', J', q⟩ := hsp
      exact wpAny_execs_nil ⟨σ', H', J'.ofTry ok, q⟩
    | brk =>
      obtain ⟨σ', H', J', q⟩ := hsp
      exact ⟨σ', H', J'.ofTry ok, q⟩
    | cont =>
      obtain ⟨σ', H', J', q⟩ := hsp
      exact ⟨σ', H', J'.ofTry ok, q⟩
    | ret u =>
      obtain ⟨v, σ', H', J', r, q⟩ := hsp
      exact ⟨v, σ', H', J'.ofTry ok, r, q⟩⟩
end
end DX

set_option Elab.async false
set_option linter.all false
set_option maxRecDepth 100000
set_option maxHeartbeats 2000000
/-! a lambda handed on through several defs -/
namespace DX
open PySem PySem.Spec PyProof.Rows L2
/-- one stretch behind another, the frames of the second one told apart from what stood -/
theorem Un.behind {fs fs2 : List Addr} {H0 H1 H2 : Hp} {h0 h1 h2 : Heap} (a : Un fs [] H0 H1 h0 h1) (b : Un fs2 [] H1 H2 h1 h2) (new : ∀ c ∈ fs2, c ∉ fs → h0.get? c = none) : Un fs [] H0 H2 h0 h2 where
  keep := fun c o e n nf nx => b.keep c o (a.keep c o e n nf nx) (a.free c o e n nx) (fun m => by rw [new c m nf] at e; cases e) nx
  slot := fun c o e n mf nx => by
    obtain ⟨s1, e1⟩ := a.slot c o e n mf nx
    obtain ⟨s2, e2⟩ := b.any e1 (a.free c o e n nx) nx
    exact ⟨s2, e2⟩
  free := fun c o e n nx => by
    obtain ⟨o1, e1⟩ := a.there c o e nx
    exact b.free c o1 e1 (a.free c o e n nx) nx
  there := fun c o e nx => by
    obtain ⟨o1, e1⟩ := a.there c o e nx
    exact b.there c o1 e1 nx
  tups := fun c xs e => b.tups c xs (a.tups c xs e)
  frzs := fun c o u e => b.frzs c o u (a.frzs c o u e)
  tbls := fun c ps e => by
    obtain ⟨m1, e1⟩ := a.tbls c ps e
    obtain ⟨m2, e2⟩ := b.tbls c _ e1
    exact ⟨m1 ++ m2, by rw [e2, Array.append_assoc]⟩
/-- the context of the lambda's body; the context of what it lets out is told -/
def lamN (X : Cx) (A : Around) (outer : List PySem.Env) (s : Shared) (H : Hp) (E : XK) (scope : Scope) (f c' : Addr) : Cx :=
  (LamX.lamCx X A outer s H E scope f c').wish fun e s' => wpAny (model X.prog X.w) (A.deeper (LamX.lamEnv X scope s.heap.objs.size f c')) (leaving (LamX.lamEnv X scope s.heap.objs.size f c') e) (fun _ z => L2N.CX X.prog X.w outer H s E e z) (fun e' z => L2N.CX X.prog X.w outer H s E e' z) s'
section
variable {X Z : Cx} {pins : List (Addr × Obj)} {σ : L2.St} {H : Hp} {s : Shared}
/-- what is known of the lambda's object f since the state (H, s) of its maker -/
structure LamK (X : Cx) (σ : L2.St) (f c' : Addr) (params : Arguments) (body : Expr) (scope : Scope) (H : Hp) (s : Shared) : Prop where
  at_ : ∃ pins pm ctv, Inv X pins σ H s ∧ s.heap.get? f = some (PySem.W.kla_obj "<lambda>" (X.env.qual ++ "<lambda>") params body scope (cloFrom X.env.cells scope.names []) pm c' ctv)
  fn : H f = none
  fr : f ∉ frs X.stack
  sc : LamX.LamS X.env.scope scope
/-- x(), x bound to the lambda's object, anywhere above its maker -/
theorem pe_lamK {params : Arguments} {body : Expr} {scope : Scope} {f c' : Addr} {a : Str} {k i : Nat} {E : XK} {tb : TE} {p1 p2 : Pos}
    (lk : LamK X σ f c' params body scope H s) (e1 : Z.prog = X.prog) (e2 : Z.w = X.w) (e3 : Z.K = X.K) (e4 : Z.mg = X.mg) (e5 : Z.base = X.base)
    (un : Un (frs X.stack) [] H Z.H_0 s.heap Z.s_0.heap) (new : ∀ c ∈ Z.fs, c ∉ frs X.stack → s.heap.get? c = none) (hex : Z.ex = [])
    (hbind : ∀ (pm ctv : Value), bindArgs (PySem.W.kla_fn "<lambda>" (X.env.qual ++ "<lambda>") params body scope (cloFrom X.env.cells scope.names []) pm (.ref c') ctv) ⟨[], []⟩ = pure [])
    (hx : Passes (L2N.CX Z.prog Z.w) Z E) (hr : Room (k + 1) Z.A)
    (hbody : ∀ (s : Shared) (H : Hp), PE (lamN X Z.A Z.stack s H E scope f c') body tb)
    (hN : Z.N[i]? = some a) (hv : Vis Z.env.scope a) (hd : (a == ("__debug__" : Str)) = false) (hcd : (a == ("__classdict__" : Str)) = false) :
    PE Z (.Call (.Name a p1) [] [] p2) (fun σZ HZ Q => σZ[i]? = some (some (.ref f)) ∧ HZ c' = some (LamX.CodeO c' (X.env.qual ++ "<lambda>")) ∧ tb σ HZ Q) := by
  obtain ⟨pins, pm, ctv, I, hf⟩ := lk.at_
  refine ⟨fun pinsZ sZ σZ HZ Q IZ ⟨hs, hc, ht⟩ => ?_⟩
  refine wpAny_Call_Name_kw (thn ((pe_var (pos := p1) (i := i) hN hv hd hcd).run pinsZ sZ σZ HZ (fun v H1 => v = .ref f ∧ H1 = HZ) IZ ⟨.ref f, hs, rfl, rfl⟩) fun u s1 ⟨v, H1, I1, r1, q1⟩ => ?_)
  obtain ⟨rfl, rfl⟩ := q1
  cases (show u = Value.ref f from r1)
  have ub : Un Z.fs [] Z.H_0 H1 Z.s_0.heap s1.heap := by
    have q := I1.base
    rw [hex] at q; exact q
  have un1 : Un (frs X.stack) [] H H1 s.heap s1.heap := Un.behind un ub new
  have of1 := un1.keep f _ hf lk.fn lk.fr (fun z => nomatch z)
  refine PySem.W.callWith_F0 ⟨_, _, _, _, of1⟩ ?_
  obtain ⟨⟨oc, vs, t, hoc, hdc, hvc⟩, _, _⟩ := I1.hok c' _ hc
  have rc : codeAny (model X.prog X.w) Z.A (.call (.ref f) ⟨[], []⟩) (CR (L2N.CX X.prog X.w) Z.stack X.prog X.w H1 s1 Q E) s1 := by
    refine PySem.W.kla_callFunE hr.depth of1 rfl lk.sc.co lk.sc.gen rfl ⟨c', oc, vs, t, rfl, hoc, hdc, hvc⟩ ?_
    rw [hbind]
    have own : ∀ y ∈ scope.names, y.2 ≠ .cell := fun y hy => (lk.sc.own y hy).2
    refine wpAny_pure (wpAny_newFunctionEnv own (fun y hy => nomatch hy) (fun h₁ hns hsb => ⟨I1.nolimit.fresh _ hsb, ?_⟩) lk.sc.kind)
    have kp : ∀ b o, s1.heap.get? b = some o → h₁.get? b = some o := fun b o e => hsb.extBut b o (Nat.ne_of_lt (Heap.lt_size e)) (Heap.get?_push_of_some _ e)
    have e0 : Env0 X.prog X.w X.K X.mg X.base Z.A Z.stack s1 H1 := by
      have q := I1.env0
      rw [e1, e2, e3, e4, e5] at q; exact q
    have J := (LamX.lam_start2 (E := E) (f := f) (c' := c') (tk := s1.toks + ([] : List (Str × Value)).length) I lk.sc e0 hr.hd un1 hns kp).wish fun e s' => wpAny (model X.prog X.w) (Z.A.deeper (LamX.lamEnv X scope s1.heap.objs.size f c')) (leaving (LamX.lamEnv X scope s1.heap.objs.size f c') e) (fun _ z => L2N.CX X.prog X.w Z.stack H1 s1 E e z) (fun e' z => L2N.CX X.prog X.w Z.stack H1 s1 E e' z) s'
    refine PySem.W.kla_codeExpr (wpAny_mono ((hbody s1 H1).run [] _ _ H1 Q J ht) (fun v s' hq => ?_) fun e s' hq => hq)
    obtain ⟨w', H', J', rv, q⟩ := hq
    exact ⟨w', H', J'.os, J'.bare, J'.base, J'.hok, rv, q⟩
  rw [← e1, ← e2] at rc
  refine wpAny_call (codeAny_mono rc fun r s' hq => ?_)
  cases r with
  | error e => exact hx pinsZ σZ H1 s1 e s' I1 hq
  | ok fl =>
    cases fl with
    | ret u => exact I1.after hq
    | next => exact hq.elim
    | brk => exact hq.elim
    | cont => exact hq.elim
end
end DX

set_option Elab.async false
set_option linter.all false
set_option maxRecDepth 100000
set_option maxHeartbeats 2000000
/-! try with a pair of classes, what is caught, defs called there -/
namespace DX
open PySem PySem.Spec PyProof.Rows L2
/-- the exception a, pinned and handled: its class C, its dict dx -/
structure HotX (X : Cx) (a : Addr) (oe : Obj) (C dx : Addr) : Prop where
  pin : (a, oe) ∈ X.pn
  zn : L2N.Zn (.ref C) (some dx) oe
  fld : ∃ vs, oe.data = .fields vs
  hand : X.A.handled = some (.ref a)
theorem HotX.hot {X : Cx} {a C dx : Addr} {oe : Obj} (h : HotX X a oe C dx) : L2H.Hot1 X.A (a, oe) := by
  obtain ⟨vs, hd⟩ := h.fld
  exact ⟨h.hand, vs, hd, h.zn.2.2 vs hd⟩
section
variable {G : Gb} {X : Cx} {E : XK} {n : Nat} {N : List Str} {sc : Scope} {W : Wd} {Γ : List (Option D)} {Z : ZK} {K : D → Prop} {pos p p2 : Pos}
/-! ### try -/
def Cau (G : Gb) (N : List Str) (sc : Scope) (W : Wd) (i : Nat) (c1 c2 : Value) (suite : List Stmt) (N' : Nd) : ZK := fun C ns ds =>
  PySem.W.exmAny G.K (.ref C) [c1, c2] = some true ∧ ∀ (Xs : Cx) (a dx : Addr) (oe : Obj), Cn G Xs XE0 0 N sc → HotX Xs a oe C dx → L2H.RoomH 1 Xs.A →
    SX Xs XE0 W suite ((List.replicate N.length none).set i (some (.cau a dx ns ds))) { n := fun Γ' => N'.n (Γ'.set i none), r := N'.r, b := fun Γ' => N'.b (Γ'.set i none), c := fun Γ' => N'.c (Γ'.set i none) } Z0
theorem s_try2 {x1 x2 x : Str} {c1 c2 : Value} {i kk m : Nat} {body suite : List Stmt} {b₀ : Stmt} {n1 n2 pt pos' : Pos} {N' : Nd} (cn : Cn G X E n N sc) (hn : n = m + 1) (df : Df X E) (ix : N[i]? = some x) (hl : locB sc x = true) (g1 : gloB sc x1 = true) (m1 : G.mg x1 = some c1) (g2 : gloB sc x2 = true) (m2 : G.mg x2 = some c2)
    (hb : ∀ (X' : Cx) (E' : XK), Cn G X' E' n N sc → Df X' E' → (X'.s_0 = X.s_0 ∧ X'.H_0 = X.H_0 ∧ X'.outer = X.outer ∧ X'.stack = X.stack ∧ X'.A = X.A ∧ X'.ex = X.ex) → SX X' E' W body Γ N' (Cau G N sc W i c1 c2 (b₀ :: suite) N')) :
    S1 X E W (.Try body [.ExceptHandler (some (.Tuple [.Name x1 n1, .Name x2 n2] kk pt)) (some x) (b₀ :: suite) pos'] [] [] pos) Γ N' Z := fun σ H T en hi r z => by
  obtain ⟨q1, q2, _⟩ := gloB_ok cn.scp g1
  obtain ⟨q3, q4, _⟩ := gloB_ok cn.scp g2
  have n0 : n ≠ 0 := by omega
  refine ⟨_, ps_try_as2 (X := X) (c1 := c1) (c2 := c2) (i := i) (n := x)
    (tb := fun Wx D σ H => ∀ (pn : List (Addr × Obj)) (xe : Value → Shared → Prop), L2N.Takes (X.tr pn xe) Wx → PassesOwn (model X.prog X.w) X.A X.env xe → tUS (X.tr pn xe) body D σ H)
    (ts := fun a oe cls d D σ H => σ.length = X.N.length → ∀ pn : List (Addr × Obj), L2N.Zn cls d oe → (∃ vs, oe.data = .fields vs) → tUS (X.suite a ((a, oe) :: pn)) (b₀ :: suite) D σ H)
    df.hs df.hf (by rw [cn.nN]; exact cn.nd) (by rw [cn.nN]; exact ix) (show X.env.scope.names.lookup x = some .local by rw [cn.scp]; exact locB_ok hl) q1 (by rw [cn.e4]; exact m1) q2 q3 (by rw [cn.e4]; exact m2) q4
    (fun Wx pn xe tk po => ⟨fun pins s σ H D I h => (pss_U (X := X.tr pn xe)).run pins s σ H D I (h pn xe tk po)⟩)
    (fun a oe cls d pn zn hf => ⟨fun pins s σ H D I h => (pss_U (X := X.suite a ((a, oe) :: pn))).run pins s σ H D I (h I.len pn zn hf)⟩), fun pn xe tk po => ?_⟩
  refine hb (X.tr pn xe) (fun cls d H => ∀ σ', wAs2 X.K c1 c2 i _ T cls d σ' H) ⟨cn.e1, cn.e2, cn.e3, cn.e4, cn.e5, cn.calm, cn.room, cn.un, cn.nN, cn.nd, cn.scp, L2N.passes_call tk fun cls d σ H h => h σ⟩ ⟨df.fn, df.hs, df.hf, df.hex, tk.imp fun c d σ H h => h σ⟩ ⟨rfl, rfl, rfl, rfl, rfl, rfl⟩ σ H T en hi ⟨r.n, r.r, r.b, r.c⟩ ?_
  intro C ns ds dx H' xs zt g hdx hl2 rp σ'
  refine ⟨by rw [cn.e3]; exact zt.1, fun a oe na zn hlen pn _ hf => ?_⟩
  have hr := cn.room n0
  refine zt.2 (X.suite a ((a, oe) :: pn)) a dx oe ⟨cn.e1, cn.e2, cn.e3, cn.e4, cn.e5, fun h => (h rfl).elim, fun h => (h rfl).elim, cn.un, cn.nN, cn.nd, cn.scp, fun _ _ _ _ _ _ _ c => ?_⟩
    ⟨List.mem_cons_self .., zn, hf, rfl⟩ ⟨by have := hr.dp; show X.A.depth + 3 * 1 + 5 < _; omega, by have := hr.un; show X.A.units + 16 * 1 + 200 < _; omega⟩ _ H' _ ⟨?_, fun j d hj => ?_⟩ g.i
    ⟨fun Γ' σ2 H2 k g2 e => r.n _ _ _ k (g.trans g2) (e.setNone i), fun d v H2 k g2 rv => r.r d v H2 k (g.trans g2) rv, fun Γ' σ2 H2 k g2 e => r.b _ _ _ k (g.trans g2) (e.setNone i), fun Γ' σ2 H2 k g2 e => r.c _ _ _ k (g.trans g2) (e.setNone i)⟩ zok0
  · obtain ⟨_, _, _, _, _, _, _, _, _, _, _, _, z⟩ := c
    exact z
  · rw [hlen, cn.nN]; simp
  · by_cases hj' : j = i
    · subst hj'
      by_cases hlt : j < N.length
      · rw [List.getElem?_set_self (by simpa using hlt)] at hj
        cases hj
        refine ⟨.ref a, ?_, rfl, W.outO g.i hdx (fun _ z => by cases z), xs, hdx, hl2, rp⟩
        rw [List.length_set] at hlen
        rw [List.getElem?_set_self (by rw [hlen, cn.nN]; exact hlt)]
      · rw [List.getElem?_eq_none (by simpa using hlt)] at hj; cases hj
    · rw [List.getElem?_set_ne (Ne.symm hj'), List.getElem?_replicate] at hj
      split at hj <;> cases hj
/-! ### a field of what is caught -/
/-- the fields of C's objects are read from their dict -/
structure FldC (G : Gb) (C : Addr) (nm : Str) : Prop where
  xf : XfC G.K C
  no : PySem.W.findIn G.K (.ref C) nm = some none
def look (nm : Str) (ns : List Str) (ds : List D) : Option D := (ns.zip ds).lookup nm
theorem look_rp {Kf : PySem.W.Frag} {H : Hp} {nm : Str} {v : D} : ∀ {ns : List Str} {ds : List D} {xs : List V}, look nm ns ds = some v → RpL Kf W H ds xs → ∃ u, (ns.zip xs).lookup nm = some u ∧ Rp Kf W H v u
  | [], _, _, e, _ => by simp [look] at e
  | _ :: _, [], _, e, _ => by simp [look] at e
  | y :: ns, d :: ds, _, e, r => by
    obtain ⟨u, r', rfl, r1, r2⟩ := r
    unfold look at e
    rw [List.zip_cons_cons, List.lookup_cons] at e
    rw [List.zip_cons_cons, List.lookup_cons]
    split at e
    · cases e; exact ⟨u, rfl, r1⟩
    · exact look_rp (ns := ns) (ds := ds) e r2
theorem ex_cau {e : Expr} {nm : Str} {a dx C : Addr} {oe : Obj} (cn : Cn G X E n N sc) (hx : HotX X a oe C dx) (fc : FldC G C nm) (h : EX X E W e Γ (fun d => ∃ ns ds v, d = .cau a dx ns ds ∧ look nm ns ds = some v ∧ K v) Z)
    (hb : attributeBase e nm X.env (eval e X.env) = eval e X.env := by rfl) : EX X E W (.Attribute e nm pos) Γ K Z := fun σ H Q en hi q z => by
  refine ⟨_, pe_xp (C := C) (pr := (a, oe)) (by rw [cn.e3]; exact fc.xf) (by rw [cn.e3]; exact fc.no) hx.pin hx.fld pe_U hb, ?_⟩
  refine h σ H _ en hi (fun d v H1 kd g1 rd => ?_) z
  obtain ⟨ns, ds, w, rfl, l, k⟩ := kd
  obtain ⟨rfl, _, xs, hdx, _, rp⟩ := rd
  obtain ⟨u, l2, r2⟩ := look_rp l rp
  exact ⟨rfl, dx, _, u, hx.zn, hdx, l2, q w u H1 k g1 r2⟩
end
/-! ### a def called with what is caught -/
abbrev XSpec := Addr → List Str → List D → (D → Prop) → Prop
structure FnX (G : Gb) (x y : Str) (F : XSpec) : Prop where
  ex : ∃ f fd, G.mg x = some (.ref f) ∧ PySem.W.keepIn G.K (.ref f) = true ∧ Binds G.K fd [y] [] ∧
    ∀ (A : Around) (outer : List PySem.Env) (s : Shared) (H : Hp) (args : Args) (us : List Value) (vs : List V) (Q : VK) (pr : Addr × Obj) (C dx : Addr) (W : Wd) (ns : List Str) (ds : List D) (Kc : D → Prop),
      L2H.RoomH 1 A → L2H.Hot1 A pr → L2H.PinOk outer H s pr → L2N.Zn (.ref C) (some dx) pr.2 → Env0 G.prog G.w G.K G.mg G.base A outer s H → BindsTo s fd args ([y].zip us) → Vals vs us → vs.length = 1 →
      W.I H → RpL G.K W H [.cau pr.1 dx ns ds] vs → F C ns ds Kc → (∀ d v H', Kc d → Go W H H' → Rp G.K W H' d v → Q v H') → codeAny (model G.prog G.w) A (.call (.ref f) args) (CR (L2N.CX G.prog G.w) outer G.prog G.w H s Q XE0) s
theorem fnx_intro {G : Gb} {N : List Str} {y : Str} {F : XSpec} {f : Addr} {fd : FuncData} {x qual : Str} {params : Arguments} {body : List Stmt} {scope : Scope} {dvs : List V} {kws : List (Str × V)}
    (FD : FunD G.K x qual params body scope dvs kws f fd) (S : FnScope N [y] scope) (hm : G.mg x = some (.ref f)) (hb : Binds G.K fd [y] [])
    (h : ∀ (X : Cx) (a C dx : Addr) (oe : Obj), Cn G X XE0 0 N scope → HotX X a oe C dx → ∀ (W : Wd) (ns : List Str) (ds : List D) (Kc : D → Prop), F C ns ds Kc → SX X XE0 W body (startG N [.cau a dx ns ds]) { n := fun _ => Kc .non, r := Kc } Z0) : FnX G x y F := by
  obtain ⟨oc, od, dV, kV, doc, pm, an, cdv, ct, osl, rfl, lk, hcd, _, _⟩ := FD.ex
  refine ⟨f, _, hm, FD.kp, hb, fun A outer s H args us vs Q pr C dx W ns ds Kc hr hot hpin zn e0 hbt r hl hi rp hF hq => ?_⟩
  have keep : ∀ b o, G.base.get? b = some o → s.heap.get? b = some o := fun b o e => (e0.bs b o e).1
  have inK : G.K.In s.heap := e0.mod.kin.keeps keep
  have kinds : ∀ y' ∈ [y].zip us, scope.names.lookup y'.1 = some .local ∨ (scope.names.lookup y'.1 = some .cell ∧ ((cellsFrom (s.heap.objs.size + 1) scope.names []).lookup y'.1).isSome = true) := fun ⟨m, v⟩ hy =>
    (S.par m (List.of_mem_zip hy).1).imp id fun q => ⟨q, PySem.W.cellsFrom_some _ _ _ (.inl q)⟩
  refine codeAny_call_function hr.depth (inK _ _ lk) rfl S.co S.gen rfl (PySem.W.codeRec_of inK hcd) (hbt _ _ _ _ (wpAny_newFunctionEnv_cells S.kind kinds fun env he s1 x => ?_))
  subst he
  refine ⟨(e0.mod.nolimit.keeps keep).keeps x.toInCall.keep, codeAny_func ?_⟩
  obtain ⟨vs0, hd⟩ := hot.2
  have hx : HotX (L2H.cxH (L2N.CX G.prog G.w) G.prog G.w G.K G.mg G.base N qual scope f cdv A outer s H XE0 pr) pr.1 pr.2 C dx := ⟨List.mem_cons_self .., zn, ⟨vs0, hd.1⟩, hot.1⟩
  have cn : Cn G (L2H.cxH (L2N.CX G.prog G.w) G.prog G.w G.K G.mg G.base N qual scope f cdv A outer s H XE0 pr) XE0 0 N scope := ⟨rfl, rfl, rfl, rfl, rfl, fun z => (z rfl).elim, fun z => (z rfl).elim, un_roomH (hr.deeper (envOfC qual scope s.heap.objs.size f cdv)), rfl, S.nd, rfl, fun _ _ _ _ _ _ _ c => by
    obtain ⟨_, _, _, _, _, _, _, _, _, _, _, _, z⟩ := c
    exact z.elim⟩
  have I := L2H.inv_startH (CX := L2N.CX G.prog G.w) (E := XE0) (cd := cdv) (f := f) (qual := qual) S hpin e0 hl r x
  have hs := (pss_U (X := L2H.cxH (L2N.CX G.prog G.w) G.prog G.w G.K G.mg G.base N qual scope f cdv A outer s H XE0 pr) (ss := body)).run [] s1 (L2.start N vs) H { nx := fun _ H' => Q .non H', rt := Q } I
    (h _ _ _ _ _ cn hx W ns ds Kc hF _ H _ (env_start rp) hi ⟨fun Γ σ H' k g e => hq _ _ H' k g rfl, fun d v H' k g rv => hq d v H' k g rv, fun _ _ _ z => z.elim, fun _ _ _ z => z.elim⟩ zok0)
  refine wpAny_mono hs (fun fl s' w => ?_) fun e s' w => w
  cases fl with
  | ret u => exact w.elim fun v w => w.elim fun σ' w => w.elim fun H' w => ⟨v, H', w.1.os, w.1.bare, w.1.base, w.1.hok, w.2.1, w.2.2⟩
  | next => exact w.elim fun σ' w => w.elim fun H' w => ⟨.non, H', w.1.os, w.1.bare, w.1.base, w.1.hok, rfl, w.2⟩
  | brk => exact w.elim fun σ' w => w.elim fun H' w => w.2.elim
  | cont => exact w.elim fun σ' w => w.elim fun H' w => w.2.elim
section
variable {G : Gb} {X : Cx} {E : XK} {n : Nat} {N : List Str} {sc : Scope} {W : Wd} {Γ : List (Option D)} {Z : ZK} {K : D → Prop} {pos p p2 : Pos}
theorem ex_callX {x y : Str} {e : Expr} {F : XSpec} {a C dx : Addr} {oe : Obj} (cn : Cn G X XE0 n N sc) (hx : HotX X a oe C dx) (hr : L2H.RoomH 1 X.A) (hg : gloB sc x = true) (f : FnX G x y F) (h : EX X XE0 W e Γ (fun d => ∃ ns ds, d = .cau a dx ns ds ∧ F C ns ds K) Z)
    (he : starEach [e] X.env = (false, eval e X.env) :: starEach [] X.env := by rfl) : EX X XE0 W (.Call (.Name x p) [e] [] pos) Γ K Z := fun σ H Q en hi q z => by
  obtain ⟨fa, fd, m1, m2, m3, m4⟩ := f.ex
  obtain ⟨h1, h2, _⟩ := gloB_ok cn.scp hg
  refine ⟨fun σ H Q => tU X e σ H fun v H1 => ∃ v', [v] = [v'] ∧ ∃ ns ds Kc, W.I H1 ∧ Rp X.K W H1 (.cau a dx ns ds) v' ∧ F C ns ds Kc ∧ ∀ d v H', Kc d → Go W H1 H' → Rp X.K W H' d v → Q v H', ⟨fun pins s σ H Q I h => ?_⟩,
    h σ H _ en hi (fun d v H1 ⟨ns, ds, ed, hF⟩ g r => ⟨v, rfl, ns, ds, K, g.i, ed ▸ r, hF, fun d v H' k g2 r2 => q d v H' k (g.trans g2) r2⟩) z⟩
  refine wpAny_Call_Name_kw (ld_glob I h1 (by rw [cn.e4]; exact m1) ?_ h2)
  refine PySem.W.callWith_K (h₀ := X.base) I.ok.mod.kin (by rw [cn.e3]; exact m2) (thn ((pa_cons pe_U pa_nil he).run pos pins s σ H (fun vs H1 => ∃ v, vs = [v] ∧ ∃ ns ds Kc, W.I H1 ∧ Rp X.K W H1 (.cau a dx ns ds) v ∧ F C ns ds Kc ∧ ∀ d v H', Kc d → Go W H1 H' → Rp X.K W H' d v → Q v H') I h) fun us s1 ⟨vs, H1, I1, r, hq⟩ => ⟨I1.kIn, ?_⟩) he (by rfl)
  obtain ⟨v, rfl, ns, ds, Kc, hi1, rp, hF, hq⟩ := hq
  have P1 := I1.pin (a, oe) (List.mem_append_left _ hx.pin)
  have hpin : L2H.PinOk X.stack H1 s1 (a, oe) := ⟨P1.1, P1.2.1, fun hm => (List.mem_cons.mp (I1.stkSub a hm)).elim P1.2.2.1 P1.2.2.2.1, P1.2.2.2.2⟩
  have b := m3 s1 us (by rw [← cn.e3]; exact I1.kIn) (by rw [List.append_nil, ← r.length]; rfl)
  rw [List.append_nil] at b
  have e0 := I1.env0
  rw [cn.e1, cn.e2, cn.e3, cn.e4, cn.e5] at e0
  have rc := m4 X.A X.stack s1 H1 ⟨us, []⟩ us [v] Q (a, oe) C dx W ns ds Kc hr hx.hot hpin hx.zn e0 b r rfl hi1 ⟨v, [], rfl, by rw [← cn.e3]; exact rp, rfl⟩ hF (fun d v H' k g2 r2 => hq d v H' k g2 (by rw [cn.e3]; exact r2))
  rw [← cn.e1, ← cn.e2] at rc
  refine wpAny_call (codeAny_mono rc fun r s' hq => ?_)
  cases r with
  | error e => exact cn.px pins σ H1 s1 e s' I1 hq
  | ok fl =>
    cases fl with
    | ret u => exact I1.after hq
    | next => exact hq.elim
    | brk => exact hq.elim
    | cont => exact hq.elim
end
end DX

set_option Elab.async false
set_option linter.all false
set_option maxRecDepth 100000
set_option maxHeartbeats 2000000
/-! a lambda handed to a def, handed on, called there -/
namespace DX
open PySem PySem.Spec PyProof.Rows L2
/-- a world in which more holds -/
def Wd.and (W : Wd) (P : Hp → Prop) (mono : ∀ H H', W.I H → W.I H' → Ex W H H' → P H → P H') : Wd where
  S := W.S
  b := W.b
  T := W.T
  I := fun H => W.I H ∧ P H
  dom := fun H i => W.dom H i.1
  st := fun H H' i hs hx => have i' := W.st H H' i.1 hs hx
    ⟨i', mono H H' i.1 i' hx i.2⟩
section
variable {W : Wd} {P : Hp → Prop} {mono : ∀ H H', W.I H → W.I H' → Ex W H H' → P H → P H'} {H H' : Hp} {Kf : PySem.W.Frag}
theorem and_go (i : (W.and P mono).I H) (g : Go W H H') : Go (W.and P mono) H H' := ⟨g.ex, g.i, mono _ _ i.1 g.i g.ex i.2⟩
theorem go_and (g : Go (W.and P mono) H H') : Go W H H' := ⟨g.ex, g.i.1⟩
theorem rp_and {d : D} {v : V} (r : Rp Kf W H d v) : Rp Kf (W.and P mono) H d v := Rp.sub (W := W) (V' := W.and P mono) (fun _ z => z) rfl d r
theorem and_rp {d : D} {v : V} (r : Rp Kf (W.and P mono) H d v) : Rp Kf W H d v := Rp.sub (W := W.and P mono) (V' := W) (fun _ z => z) rfl d r
theorem rpl_and {d : List D} {v : List V} (r : RpL Kf W H d v) : RpL Kf (W.and P mono) H d v := RpL.sub (W := W) (V' := W.and P mono) (fun _ z => z) rfl d r
theorem and_env {Γ : List (Option D)} {σ : St} (e : Env Kf (W.and P mono) H Γ σ) : Env Kf W H Γ σ := Env.sub (W := W.and P mono) (V' := W) (fun _ z => z) rfl e
theorem zok_and {E : XK} {Z : ZK} (i : (W.and P mono).I H) (z : ZOk Kf (W.and P mono) H E Z) : ZOk Kf W H E Z := fun C ns ds dx H' xs zt g hd hl rp => z C ns ds dx H' xs zt (and_go i g) hd hl (rpl_and rp)
theorem EX.and {X : Cx} {E : XK} {e : Expr} {Γ : List (Option D)} {K : D → Prop} {Z : ZK} (h : EX X E W e Γ K Z) : EX X E (W.and P mono) e Γ K Z := fun σ H Q en hi q z =>
  h σ H Q (and_env en) hi.1 (fun d v H' k g r => q d v H' k (and_go hi g) (rp_and r)) (zok_and hi z)
end
/-- the maker's names go on to stand for what they stood for -/
abbrev Wd.mem (W : Wd) (Kf : PySem.W.Frag) (Γ : List (Option D)) (σ : St) : Wd := W.and (fun H => Env Kf W H Γ σ) fun _ _ i _ e h => Env.mono i e h
/-- Z stands above the maker X of the lambda's object f -/
structure LamA (X : Cx) (σ : St) (f c' : Addr) (params : Arguments) (body : Expr) (scope : Scope) (Z : Cx) : Prop where
  ex : ∃ H s, LamK X σ f c' params body scope H s ∧ Un (frs X.stack) [] H Z.H_0 s.heap Z.s_0.heap ∧ ∀ c ∈ Z.fs, c ∉ frs X.stack → s.heap.get? c = none
  hex : Z.ex = []
section
variable {G : Gb} {X Z1 Z2 : Cx} {E E1 : XK} {n m k : Nat} {N N1 N2 : List Str} {sc sc1 sc2 : Scope} {W W1 : Wd} {Γ Γ1 : List (Option D)} {Z : ZK} {K : D → Prop} {pos p p2 : Pos} {σ : St} {f c' : Addr} {params : Arguments} {body : Expr} {scope : Scope}
theorem cn_lamN {s : Shared} {H : Hp} (cx : Cn G X E n N sc) (nz : n ≠ 0) (hr : Room (k + 1) Z1.A) : Cn G (lamN X Z1.A Z1.stack s H E1 scope f c') E1 k N scope where
  e1 := cx.e1
  e2 := cx.e2
  e3 := cx.e3
  e4 := cx.e4
  e5 := cx.e5
  calm := fun _ => rfl
  room := fun _ => hr.deeper _
  un := un_room (hr.deeper (LamX.lamEnv X scope s.heap.objs.size f c'))
  nN := cx.nN
  nd := cx.nd
  scp := rfl
  px := L2N.passes_call (L2N.takes_of (X := lamN X Z1.A Z1.stack s H E1 scope f c') rfl rfl rfl rfl) fun _ _ _ _ z => z
/-- x() -/
theorem ex_ask {a : Str} {i : Nat} (cx : Cn G X E n N sc) (nz : n ≠ 0) (cz : Cn G Z1 E1 (k + 1) N1 sc1) (la : LamA X σ f c' params body scope Z1)
    (hbind : ∀ (pm ctv : Value), bindArgs (PySem.W.kla_fn "<lambda>" (X.env.qual ++ "<lambda>") params body scope (cloFrom X.env.cells scope.names []) pm (.ref c') ctv) ⟨[], []⟩ = pure [])
    (ix : N1[i]? = some a) (hv : visB sc1 a = true) (hd : Γ1[i]? = some (some (.lam f c' (X.env.qual ++ "<lambda>")))) (h : ∀ X', Cn G X' E1 k N scope → EX X' E1 W body Γ K Z) :
    EX Z1 E1 (W.mem X.K Γ σ) (.Call (.Name a p) [] [] p2) Γ1 K Z := fun σz H Q en hi q z => by
  obtain ⟨h1, h2, h3⟩ := visB_ok hv
  obtain ⟨H0, s0, lk, un, new⟩ := la.ex
  have hr := cz.room (Nat.succ_ne_zero k)
  obtain ⟨v, e1, r1, r2⟩ := en.2 i _ hd
  refine ⟨_, pe_lamK (E := E1) (k := k) (i := i) (a := a) (tb := fun σ H Q => ∀ s1 H1, tU (lamN X Z1.A Z1.stack s1 H1 E1 scope f c') body σ H Q) lk (cz.e1.trans cx.e1.symm) (cz.e2.trans cx.e2.symm) (cz.e3.trans cx.e3.symm) (cz.e4.trans cx.e4.symm) (cz.e5.trans cx.e5.symm) un new la.hex hbind cz.px hr
    (fun s1 H1 => ⟨fun pins s σ H Q I h => (pe_U (X := lamN X Z1.A Z1.stack s1 H1 E1 scope f c')).run pins s σ H Q I (h s1 H1)⟩) (by rw [cz.nN]; exact ix) (by rw [cz.scp]; exact h1) h2 h3, by rw [e1, r1], r2, fun s1 H1 => ?_⟩
  have cl : Cn G (lamN X Z1.A Z1.stack s1 H1 E1 scope f c') E1 k N scope := cn_lamN cx nz hr
  have kk : Z1.K = X.K := cz.e3.trans cx.e3.symm
  rw [kk] at q z
  exact h _ cl σ H Q hi.2 hi.1 (fun d v H' k g r => q d v H' k (and_go hi g) (rp_and r)) (zok_and hi z)
/-- y(e): e stands for the lambda, or what else the def takes; told with the relation to the maker -/
theorem ex_pass {y : Str} {e : Expr} {es : List Expr} {ps : List Str} {pY : Arguments} {bY : List Stmt} {scY : Scope} {dvs : List V} {kws : List (Str × V)} {fY : Addr} {fdY : FuncData}
    (cz : Cn G Z1 E1 (k + 1) N1 sc1) (hg : gloB sc1 y = true) (FD : FunD G.K y y pY bY scY dvs kws fY fdY) (S : FnScope N2 ps scY) (hm : G.mg y = some (.ref fY)) (hb : Binds G.K fdY ps []) (la : LamA X σ f c' params body scope Z1)
    (h : AX Z1 E1 W (e :: es) Γ1 (fun ds => ds.length = ps.length ∧ ∀ Z2, Cn G Z2 XE0 k N2 scY → Df Z2 XE0 → LamA X σ f c' params body scope Z2 → SX Z2 XE0 W bY (startG N2 ds) { n := fun _ => K .non, r := K } Z0) Z)
    (he : starEach (e :: es) Z1.env = (false, eval e Z1.env) :: starEach es Z1.env := by rfl) (hpl : (backTo pos (starEach es Z1.env)).any (·.1) = false := by rfl) : EX Z1 E1 W (.Call (.Name y p) (e :: es) [] pos) Γ1 K Z := fun σz H Q en hi q z => by
  obtain ⟨h1, h2, _⟩ := gloB_ok cz.scp hg
  let R : List V → Hp → VK → Prop := fun vs H1 Q => ∃ ds Kc, W.I H1 ∧ RpL Z1.K W H1 ds vs ∧ ds.length = ps.length ∧ (∀ Z2, Cn G Z2 XE0 k N2 scY → Df Z2 XE0 → LamA X σ f c' params body scope Z2 → SX Z2 XE0 W bY (startG N2 ds) { n := fun _ => Kc .non, r := Kc } Z0) ∧ ∀ d v H', Kc d → Go W H1 H' → Rp Z1.K W H' d v → Q v H'
  refine ⟨fun σ H Q => tUA Z1 (e :: es) σ H fun vs H1 => R vs H1 Q, ⟨fun pins s σz H Q I h => ?_⟩,
    h σz H _ en hi (fun ds vs H1 hF g r => ⟨ds, K, g.i, r, hF.1, hF.2, fun d v H' k g2 r2 => q d v H' k (g.trans g2) r2⟩) z⟩
  refine wpAny_Call_Name_kw (ld_glob I h1 (by rw [cz.e4]; exact hm) ?_ h2)
  refine PySem.W.callWith_K (h₀ := Z1.base) I.ok.mod.kin (by rw [cz.e3]; exact FD.kp) (thn (pa_U.run pos pins s σz H (fun vs H1 => R vs H1 Q) I h) fun us s1 ⟨vs, H1, I1, r, hq⟩ => ⟨I1.kIn, ?_⟩) he hpl
  obtain ⟨ds, Kc, hi1, rp, hl, hF, hq⟩ := hq
  obtain ⟨oc, od, dV, kV, doc, pm, an, cdv, ct, osl, rfl, lk, hcd, _, _⟩ := FD.ex
  have b := hb s1 us (by rw [← cz.e3]; exact I1.kIn) (by rw [List.append_nil, ← r.length, rp.len]; exact hl)
  rw [List.append_nil] at b
  have e0 := I1.env0
  rw [cz.e1, cz.e2, cz.e3, cz.e4, cz.e5] at e0
  have la2 : ∀ E2 CX, LamA X σ f c' params body scope (cxOf CX G.prog G.w G.K G.mg G.base N2 y scY fY cdv Z1.A Z1.stack s1 H1 E2) := fun E2 CX => by
    obtain ⟨H0, s0, lk0, un, new⟩ := la.ex
    have ub : Un Z1.fs [] Z1.H_0 H1 Z1.s_0.heap s1.heap := by
      have q := I1.base
      rw [la.hex] at q; exact q
    refine ⟨⟨H0, s0, lk0, Un.behind un ub new, fun c hc nc => ?_⟩, rfl⟩
    rcases List.mem_cons.mp (I1.stkSub c hc) with e | e
    · cases g : s0.heap.get? c with
      | none => rfl
      | some o =>
        obtain ⟨o1, e1⟩ := un.there c o g (fun z => nomatch z)
        have l1 := Heap.lt_size e1
        have l2 := I1.ok.above
        rw [← e] at l2
        exact absurd l1 (Nat.not_lt.mpr l2)
    · exact new c e nc
  have rc : codeAny (model G.prog G.w) Z1.A (.call (.ref fY) ⟨us, []⟩) (CR (L2N.CX G.prog G.w) Z1.stack G.prog G.w H1 s1 Q XE0) s1 := by
    refine LamX.run_ofS (N := N2) (ps := ps) (us := us) (vs := vs) (E := XE0) lk hcd S (cz.room (Nat.succ_ne_zero k)) e0 b r (by rw [rp.len]; exact hl) fun hr' => ⟨_, pss_U, ?_⟩
    have tk := L2N.takes_of (X := cxOf (L2N.CX G.prog G.w) G.prog G.w G.K G.mg G.base N2 y scY fY cdv Z1.A Z1.stack s1 H1 XE0) (E := XE0) rfl rfl rfl rfl
    refine hF (cxOf (L2N.CX G.prog G.w) G.prog G.w G.K G.mg G.base N2 y scY fY cdv Z1.A Z1.stack s1 H1 XE0) ⟨rfl, rfl, rfl, rfl, rfl, fun _ => rfl, fun _ => hr', un_room hr', rfl, S.nd, rfl, L2N.passes_call tk fun _ _ _ _ z => z⟩ ⟨fun _ => rfl, rfl, rfl, rfl, tk⟩ (la2 _ _) _ H1 _ (env_start (by rw [← cz.e3]; exact rp)) hi1
      ⟨fun Γ σ H' k g e => hq _ _ H' k g rfl, fun d v H' k g r => hq d v H' k g (by rw [cz.e3]; exact r), fun _ _ _ z => z.elim, fun _ _ _ z => z.elim⟩ zok0
  rw [← cz.e1, ← cz.e2] at rc
  refine wpAny_call (codeAny_mono rc fun r s' hq => ?_)
  cases r with
  | error e =>
    obtain ⟨_, _, _, _, _, _, _, _, _, _, _, _, z⟩ := (show L2N.CX Z1.prog Z1.w Z1.stack H1 s1 XE0 e s' from hq)
    exact z.elim
  | ok fl =>
    cases fl with
    | ret u => exact I1.after hq
    | next => exact hq.elim
    | brk => exact hq.elim
    | cont => exact hq.elim
end
end DX

set_option Elab.async false
set_option linter.all false
set_option maxRecDepth 100000
set_option maxHeartbeats 2000000
/-! a lambda made and handed to a def -/
namespace DX
open PySem PySem.Spec PyProof.Rows L2
/-- a def's body told over trees, its code object told -/
theorem fn_introC {G : Gb} {N ps : List Str} {m : Nat} {F : FSpec} {f : Addr} {fd : FuncData} {x qual : Str} {params : Arguments} {body : List Stmt} {scope : Scope} {dvs : List V} {kws : List (Str × V)}
    (FD : FunD G.K x qual params body scope dvs kws f fd) (S : FnScope N ps scope) (hm : G.mg x = some (.ref f)) (hb : Binds G.K fd ps []) (hlen : ∀ W ds Kc Z, F W ds Kc Z → ds.length = ps.length)
    (h : ∀ (X : Cx) (E : XK), Cn G X E m N scope → Df X E → PassesOwn (model X.prog X.w) X.A X.env X.xe → X.env.qual = qual ++ ".<locals>." → X.env.code = fd.code → ∀ (W : Wd) (ds : List D) (Kc : D → Prop) (Z : ZK), F W ds Kc Z → SX X E W body (startG N ds) { n := fun _ => Kc .non, r := Kc } Z) : Fn G x ps (m + 1) F := by
  refine ⟨f, fd, hm, FD.kp, hb, ?_⟩
  obtain ⟨oc, od, dV, kV, doc, pm, an, cdv, ct, osl, rfl, lk, hcd, _, _⟩ := FD.ex
  refine fn_of lk hcd S (fun vs H Q E hsp => ?_) fun A outer s H vs Q E hr hsp => ?_
  · obtain ⟨W, ds, Kc, Z, hi, rp, hF, _⟩ := hsp
    rw [rp.len]; exact hlen W ds Kc Z hF
  · obtain ⟨W, ds, Kc, Z, hi, rp, hF, hq, hz⟩ := hsp
    have tk : L2N.Takes (cxOf (L2N.CX G.prog G.w) G.prog G.w G.K G.mg G.base N qual scope f cdv A outer s H E) (fun cls d _ H' => E cls d H') := L2N.takes_of rfl rfl rfl rfl
    refine ⟨_, pss_U, h _ E ⟨rfl, rfl, rfl, rfl, rfl, fun _ => rfl, fun _ => hr, un_room hr, rfl, S.nd, rfl, L2N.passes_call tk fun _ _ _ _ z => z⟩ ⟨fun _ => rfl, rfl, rfl, rfl, tk⟩ (passes_of rfl) rfl rfl W ds Kc Z hF (L2.start N vs) H _ (env_start rp) hi ⟨fun Γ σ H' k g e => hq _ _ H' k g rfl, fun d v H' k g r => hq d v H' k g r, fun _ _ _ z => z.elim, fun _ _ _ z => z.elim⟩ hz⟩
/-- the tables of code objects that a world tells of -/
structure TabW (W : Wd) (T : List (Addr × Str)) : Prop where
  t : W.T = T
  i : ∀ H, W.I H → LamX.Tabs W.T H
/-- the maker's code object at c, its table at P: told once -/
structure Mk (G : Gb) (T : List (Addr × Str)) (c P : Addr) (q : Str) : Prop where
  tb : LamX.TabB G.base G.mg c P
  mem : (P, q) ∈ T
  one : ∀ p ∈ T, p.1 = P → p.2 = q
section
variable {G : Gb} {X : Cx} {E : XK} {n k : Nat} {N NI : List Str} {sc scI : Scope} {W : Wd} {Γ : List (Option D)} {Z : ZK} {K : D → Prop} {pos p lpos : Pos} {params : Arguments} {body due : Expr} {scope : Scope}
theorem ex_lamcall {T : List (Addr × Str)} {x : Str} {ps : List Str} {pI : Arguments} {bI : List Stmt} {dvs : List V} {kws : List (Str × V)} {fI c P : Addr} {fdI : FuncData} {q : Str}
    (cx : Cn G X E (k + 1) N sc) (df : Df X E) (hg : gloB sc x = true) (FD : FunD G.K x x pI bI scI dvs kws fI fdI) (S : FnScope NI ps scI) (hl2 : ps.length = 2) (hm : G.mg x = some (.ref fI)) (hb : Binds G.K fdI ps [])
    (tw : TabW W T) (mk : Mk G T c P (q ++ "<lambda>")) (hcode : X.env.code = .ref c) (hq0 : X.env.qual = q) (L : LamX.lamSB sc scope = true)
    (h : EX X E W due Γ (fun d => ∀ f c' σ Z1, Cn G Z1 XE0 k NI scI → Df Z1 XE0 → LamA X σ f c' params body scope Z1 → SX Z1 XE0 (W.mem X.K Γ σ) bI (startG NI [.lam f c' (X.env.qual ++ "<lambda>"), d]) { n := fun _ => K .non, r := K } Z0) Z)
    (hdef : defaultsOf params X.env = ([], []) := by rfl) (h1 : starEach [.Lambda params body scope lpos, due] X.env = (false, eval (.Lambda params body scope lpos) X.env) :: starEach [due] X.env := by rfl) (h2 : starEach [due] X.env = (false, eval due X.env) :: starEach [] X.env := by rfl) (h3 : (backTo pos (starEach [due] X.env)).any (·.1) = false := by rfl) :
    EX X E W (.Call (.Name x p) [.Lambda params body scope lpos, due] [] pos) Γ K Z := fun σ₀ H₀ Q₀ en₀ hi₀ q₀ z₀ => by
  obtain ⟨g1, g2, _⟩ := gloB_ok cx.scp hg
  have Ls := LamX.lamS_by L
  rw [← cx.scp] at Ls
  refine ⟨fun σ H Q => Env X.K W H Γ σ ∧ W.I H ∧ (∀ d v H', K d → Go W H H' → Rp X.K W H' d v → Q v H') ∧ ZOk X.K W H E Z, ⟨fun pins s σ H Q I ⟨en, hi, q, z⟩ => ?_⟩, en₀, hi₀, q₀, z₀⟩
  have hT : LamX.Tabs T H := by
    have := tw.i H hi
    rw [tw.t] at this; exact this
  refine wpAny_Call_Name_kw (ld_glob I g1 (by rw [cx.e4]; exact hm) ?_ g2)
  refine PySem.W.callWith_K (h₀ := X.base) I.ok.mod.kin (by rw [cx.e3]; exact FD.kp) ?_ h1 h3
  rw [h1]
  refine Calls.spliced_cons (LamX.lam_make2 (T := T) (c := c) (P := P) I (by rw [cx.e4, cx.e5]; exact mk.tb) hcode (by rw [hq0]; exact mk.mem) (by rw [hq0]; exact mk.one) hT hdef (Ls.has I.ok) fun f c' pm ctv H1 s' I1 eN T1 hf hfn hfr hco => ?_)
  have ex1 : Ex W H H1 := ⟨fun a o n e nt => eN a o e nt, fun _ => by rw [tw.t]; exact T1⟩
  have go1 : Go W H H1 := ⟨ex1, W.st H H1 hi (fun a sa => by
    obtain ⟨xs, e⟩ := W.dom H hi a sa
    rw [eN a _ e (fun _ z => by cases z), e]) ex1⟩
  have hfr' : ∀ b ∈ X.env.locals :: X.fs, f ≠ b := fun b hb' z => by
    rw [df.hs] at hfr
    rcases List.mem_cons.mp hb' with e | e
    · exact hfr (List.mem_filterMap.mpr ⟨X.env, List.mem_cons_self, df.hf.trans (by rw [z, e])⟩)
    · obtain ⟨e', he, qe⟩ := List.mem_filterMap.mp e
      exact hfr (List.mem_filterMap.mpr ⟨e', List.mem_cons_of_mem _ he, by rw [z]; exact qe⟩)
  have I1' : Inv X ((f, PySem.W.kla_obj "<lambda>" (X.env.qual ++ "<lambda>") params body scope (cloFrom X.env.cells scope.names []) pm c' ctv) :: pins) σ H1 s' := I1.pins_of fun pr hp => by
    rcases List.mem_cons.mp hp with e | e
    · rw [e]
      exact ⟨hf, hfn, hfr' _ (List.mem_cons_self ..), fun m => hfr' _ (List.mem_cons_of_mem _ m) rfl, fun v z => by cases z⟩
    · exact I1.pin pr (List.mem_append_right _ e)
  refine thn ((pa_cons pe_U pa_nil h2).run pos _ s' σ H1 (fun vs H2 => ∃ v d, vs = [v] ∧ Go W H1 H2 ∧ Rp X.K W H2 d v ∧ ∀ f c' σ Z1, Cn G Z1 XE0 k NI scI → Df Z1 XE0 → LamA X σ f c' params body scope Z1 → SX Z1 XE0 (W.mem X.K Γ σ) bI (startG NI [.lam f c' (X.env.qual ++ "<lambda>"), d]) { n := fun _ => K .non, r := K } Z0) I1'
    (h σ H1 _ (en.go hi go1) go1.i (fun d v H2 kd g r => ⟨v, d, rfl, g, r, kd⟩) (z.go go1))) fun us s2 ⟨vs, H2, I2, r, hq⟩ => ⟨I2.kIn, ?_⟩
  obtain ⟨v, d, rfl, gd, rd, hbody⟩ := hq
  have P0 := I2.pin _ (List.mem_append_right _ (List.mem_cons_self ..))
  have I2' : Inv X pins σ H2 s2 := I2.pins_of fun pr hp => I2.pin pr (List.mem_append_right _ (List.mem_cons_of_mem _ hp))
  have lk : LamK X σ f c' params body scope H2 s2 := ⟨⟨_, pm, ctv, I2, P0.1⟩, P0.2.1, hfr, Ls⟩
  have go2 : Go W H H2 := go1.trans gd
  have hco2 : H2 c' = some (LamX.CodeO c' (X.env.qual ++ "<lambda>")) := gd.ex.1 c' _ (W.outO go1.i hco fun _ z => by unfold LamX.CodeO at z; cases z) hco fun _ z => by unfold LamX.CodeO at z; cases z
  obtain ⟨oc, od, dV, kV, doc, pm', an, cdv, ct, osl, rfl, lkI, hcd, _, _⟩ := FD.ex
  have b := hb s2 (.ref f :: us) (by rw [← cx.e3]; exact I2.kIn) (by rw [List.append_nil, List.length_cons, ← r.length, hl2]; rfl)
  rw [List.append_nil] at b
  have e0 := I2'.env0
  rw [cx.e1, cx.e2, cx.e3, cx.e4, cx.e5] at e0
  have rc : codeAny (model G.prog G.w) X.A (.call (.ref fI) ⟨.ref f :: us, []⟩) (CR (L2N.CX G.prog G.w) X.stack G.prog G.w H2 s2 Q XE0) s2 := by
    refine LamX.run_ofS (N := NI) (ps := ps) (us := .ref f :: us) (vs := [.ref f, v]) (E := XE0) lkI hcd S (cx.room (Nat.succ_ne_zero k)) e0 b (.cons rfl r) hl2.symm fun hr' => ⟨_, pss_U, ?_⟩
    have tk := L2N.takes_of (X := cxOf (L2N.CX G.prog G.w) G.prog G.w G.K G.mg G.base NI x scI fI cdv X.A X.stack s2 H2 XE0) (E := XE0) rfl rfl rfl rfl
    refine hbody f c' σ (cxOf (L2N.CX G.prog G.w) G.prog G.w G.K G.mg G.base NI x scI fI cdv X.A X.stack s2 H2 XE0) ⟨rfl, rfl, rfl, rfl, rfl, fun _ => rfl, fun _ => hr', un_room hr', rfl, S.nd, rfl, L2N.passes_call tk fun _ _ _ _ z => z⟩ ⟨fun _ => rfl, rfl, rfl, rfl, tk⟩ ⟨⟨H2, s2, lk, Un.refl, fun c hc nc => (nc hc).elim⟩, rfl⟩ _ H2 _
      (env_start ⟨.ref f, [v], rfl, ⟨rfl, hco2⟩, rpl_and (show RpL _ W H2 [d] [v] from ⟨v, [], rfl, by rw [← cx.e3]; exact rd, rfl⟩)⟩) ⟨gd.i, (en.go hi go1).go go1.i gd⟩
      ⟨fun Γ σ H' k g e => q _ _ H' k (go2.trans (go_and g)) rfl, fun d v H' k g r => q d v H' k (go2.trans (go_and g)) (by rw [cx.e3]; exact and_rp r), fun _ _ _ z => z.elim, fun _ _ _ z => z.elim⟩ zok0
  rw [← cx.e1, ← cx.e2] at rc
  refine wpAny_call (codeAny_mono rc fun r s' hq => ?_)
  cases r with
  | error e =>
    obtain ⟨_, _, _, _, _, _, _, _, _, _, _, _, z⟩ := (show L2N.CX X.prog X.w X.stack H2 s2 XE0 e s' from hq)
    exact z.elim
  | ok fl =>
    cases fl with
    | ret u => exact I2'.after hq
    | next => exact hq.elim
    | brk => exact hq.elim
    | cont => exact hq.elim
end
end DX

set_option Elab.async false
set_option linter.all false
set_option maxRecDepth 100000
set_option maxHeartbeats 2000000
/-! isinstance; raise -/
namespace DX
open PySem PySem.Spec PyProof.Rows L2
def tyD : D → Option String
  | .non => some "NoneType" | .bl _ => some "bool" | .int _ => some "int" | .str _ => some "str" | .tup _ => some "tuple" | .lst _ => some "list" | .dic _ _ => some "dict" | _ => none
theorem tyD_ok {K : PySem.W.Frag} {W : Wd} {H : Hp} {x : D} {v : V} {t : String} (h : tyD x = some t) (r : Rp K W H x v) : TyX K H v (.type t) := by
  cases x with
  | non => cases h; rw [show v = _ from r]; exact .base .non
  | bl b => cases h; rw [show v = _ from r]; exact .base (.bl b)
  | int i => cases h; rw [show v = _ from r]; exact .base (.int i)
  | str y => cases h; rw [show v = _ from r]; exact .base (.str y)
  | tup ds =>
    cases h
    obtain ⟨a, xs, rfl, e, _⟩ := r
    rcases e with (e | ⟨o, e⟩) | ⟨o, its, n, e, c, _⟩
    · exact .base (.tup e)
    · exact .fTuple e
    · exact .kTuple e c
  | lst ds => cases h; obtain ⟨a, xs, rfl, _, e, _⟩ := r; exact .base (.lst e)
  | dic ks ds => cases h; obtain ⟨a, xs, rfl, _, e, _⟩ := r; exact .base (.dK e)
  | ty _ => cases h
  | adr _ => cases h
  | bag => cases h
  | obj _ _ _ => cases h
  | exc _ _ _ => cases h
  | cau _ _ _ _ => cases h
  | lam _ _ _ => cases h
/-- x is one of the class T: answered -/
def isD (x : D) (T : String) (b : Bool) : Prop := ∃ t, tyD x = some t ∧ kitB t T = some b
section
variable {G : Gb} {X : Cx} {E : XK} {n : Nat} {N : List Str} {sc : Scope} {W : Wd} {Γ : List (Option D)} {Z : ZK} {K : D → Prop} {pos p p2 : Pos}
theorem ex_isi {e : Expr} {y : Str} {T : String} (cn : Cn G X E n N sc) (hg : gloB sc "isinstance" = true) (hm : G.mg "isinstance" = none) (hg2 : gloB sc y = true) (hm2 : G.mg y = none) (hv2 : bootBuiltins y = some (.type T))
    (h : EX X E W e Γ (fun x => ∃ b, isD x T b ∧ K (.bl b)) Z) (he : starEach [e, .Name y p2] X.env = (false, eval e X.env) :: starEach [.Name y p2] X.env := by rfl) (hs : starEach [.Name y p2] X.env = (false, eval (.Name y p2) X.env) :: starEach [] X.env := by rfl)
    (hpl : (backTo pos (starEach [.Name y p2] X.env)).any (·.1) = false := by rfl) : EX X E W (.Call (.Name "isinstance" p) [e, .Name y p2] [] pos) Γ K Z :=
  ex_callB cn call_isi hg hm (by decide +kernel) (ax_cons (h.imp fun x ⟨b, ⟨t, e1, e2⟩, k⟩ => ax_cons (ex_bltn cn hg2 hm2 hv2 (ax_nil (fun vs H Q rx hi q => by
    obtain ⟨v, r, rfl, h1, w, r', rfl, h2, h3⟩ := rx
    cases (show r' = [] from h3)
    cases (show w = V.ty T from h2)
    exact ⟨v, .ty T, .type t, .type T, b, rfl, .ty T, tyD_ok e1 h1, kit_ty e2, q (.bl b) _ H k (Go.refl hi) rfl⟩))) hs) he) he hpl
theorem tx_isi {e : Expr} {y : Str} {T : String} {K : Bool → Prop} (cn : Cn G X E n N sc) (hg : gloB sc "isinstance" = true) (hm : G.mg "isinstance" = none) (hg2 : gloB sc y = true) (hm2 : G.mg y = none) (hv2 : bootBuiltins y = some (.type T))
    (h : EX X E W e Γ (fun x => ∃ b, isD x T b ∧ K b) Z) (he : starEach [e, .Name y p2] X.env = (false, eval e X.env) :: starEach [.Name y p2] X.env := by rfl) (hs : starEach [.Name y p2] X.env = (false, eval (.Name y p2) X.env) :: starEach [] X.env := by rfl)
    (hpl : (backTo pos (starEach [.Name y p2] X.env)).any (·.1) = false := by rfl) : TX X E W (.Call (.Name "isinstance" p) [e, .Name y p2] [] pos) Γ K Z :=
  tx_val (ex_isi cn hg hm hg2 hm2 hv2 (h.imp fun x ⟨b, i, k⟩ => ⟨b, i, b, rfl, k⟩) he hs hpl)
/-- isinstance(e, (y, z)) -/
theorem ex_isi2 {e : Expr} {y z : Str} {T U : String} {kk : Nat} {pt py pz : Pos} (cn : Cn G X E n N sc) (hg : gloB sc "isinstance" = true) (hm : G.mg "isinstance" = none) (hg2 : gloB sc y = true) (hm2 : G.mg y = none) (hv2 : bootBuiltins y = some (.type T)) (hg3 : gloB sc z = true) (hm3 : G.mg z = none) (hv3 : bootBuiltins z = some (.type U))
    (h : EX X E W e Γ (fun x => ∃ b c, isD x T b ∧ isD x U c ∧ K (.bl (b || c))) Z) (he : starEach [e, .Tuple [.Name y py, .Name z pz] kk pt] X.env = (false, eval e X.env) :: starEach [.Tuple [.Name y py, .Name z pz] kk pt] X.env := by rfl)
    (hs : starEach [.Tuple [.Name y py, .Name z pz] kk pt] X.env = (false, eval (.Tuple [.Name y py, .Name z pz] kk pt) X.env) :: starEach [] X.env := by rfl) (hpl : (backTo pos (starEach [.Tuple [.Name y py, .Name z pz] kk pt] X.env)).any (·.1) = false := by rfl)
    (s1 : starEach [.Name y py, .Name z pz] X.env = (false, eval (.Name y py) X.env) :: starEach [.Name z pz] X.env := by rfl) (s2 : starEach [.Name z pz] X.env = (false, eval (.Name z pz) X.env) :: starEach [] X.env := by rfl) :
    EX X E W (.Call (.Name "isinstance" p) [e, .Tuple [.Name y py, .Name z pz] kk pt] [] pos) Γ K Z := fun σ H Q en hi q zz => by
  obtain ⟨i1, i2, i3⟩ := gloB_ok cn.scp hg
  obtain ⟨j1, j2, j3⟩ := gloB_ok cn.scp hg2
  obtain ⟨k1, k2, k3⟩ := gloB_ok cn.scp hg3
  refine ⟨_, pe_callB call_isiT i1 (by rw [cn.e4]; exact hm) (by decide +kernel) (pa_cons pe_U (pa_cons (pe_tup (pa_cons (pe_bltn j1 (by rw [cn.e4]; exact hm2) hv2 (v := .ty T) rfl j3 j2) (pa_cons (pe_bltn k1 (by rw [cn.e4]; exact hm3) hv3 (v := .ty U) rfl k3 k2) pa_nil s2) s1)) pa_nil hs) he) i3 i2 he hpl, ?_⟩
  refine h σ H _ en hi (fun x v H1 kx g1 rx => ?_) zz
  obtain ⟨b, c, ⟨t, e1, e2⟩, ⟨t', e3, e4⟩, k⟩ := kx
  rw [e1] at e3
  cases e3
  refine ⟨show 2 ≤ sizeLine by decide, fun tp hp => ?_⟩
  have g2 : Go W H1 (upd H1 tp (.tup [.ty T, .ty U])) := Go.new g1.i hp
  refine ⟨v, tp, [.ty T, .ty U], .type t, [.type T, .type U], b || c, rfl, upd_same, .cons (.ty T) (.cons (.ty U) .nil), tyD_ok e1 (rx.go g1.i g2), ?_, q _ _ _ k (g1.trans g2) rfl⟩
  refine kitAny_cons (kit_ty e2) (fun hb => ?_) fun hb => by rw [hb]; rfl
  rw [hb]
  exact kitAny_cons (kit_ty e4) (fun hc => by rw [hc]; exact kitAny_nil) fun hc => by rw [hc]; rfl
theorem tx_isi2 {e : Expr} {y z : Str} {T U : String} {kk : Nat} {pt py pz : Pos} {K : Bool → Prop} (cn : Cn G X E n N sc) (hg : gloB sc "isinstance" = true) (hm : G.mg "isinstance" = none) (hg2 : gloB sc y = true) (hm2 : G.mg y = none) (hv2 : bootBuiltins y = some (.type T)) (hg3 : gloB sc z = true) (hm3 : G.mg z = none) (hv3 : bootBuiltins z = some (.type U))
    (h : EX X E W e Γ (fun x => ∃ b c, isD x T b ∧ isD x U c ∧ K (b || c)) Z) (he : starEach [e, .Tuple [.Name y py, .Name z pz] kk pt] X.env = (false, eval e X.env) :: starEach [.Tuple [.Name y py, .Name z pz] kk pt] X.env := by rfl)
    (hs : starEach [.Tuple [.Name y py, .Name z pz] kk pt] X.env = (false, eval (.Tuple [.Name y py, .Name z pz] kk pt) X.env) :: starEach [] X.env := by rfl) (hpl : (backTo pos (starEach [.Tuple [.Name y py, .Name z pz] kk pt] X.env)).any (·.1) = false := by rfl)
    (s1 : starEach [.Name y py, .Name z pz] X.env = (false, eval (.Name y py) X.env) :: starEach [.Name z pz] X.env := by rfl) (s2 : starEach [.Name z pz] X.env = (false, eval (.Name z pz) X.env) :: starEach [] X.env := by rfl) :
    TX X E W (.Call (.Name "isinstance" p) [e, .Tuple [.Name y py, .Name z pz] kk pt] [] pos) Γ K Z :=
  tx_val (ex_isi2 cn hg hm hg2 hm2 hv2 hg3 hm3 hv3 (h.imp fun x ⟨b, c, i, j, k⟩ => ⟨b, c, i, j, _, rfl, k⟩) he hs hpl s1 s2)
end
end DX

set_option Elab.async false
set_option linter.all false
set_option maxRecDepth 100000
set_option maxHeartbeats 2000000
/-! own errors: their __init__, raised -/
namespace DX
open PySem PySem.Spec PyProof.Rows L2
/-- what an own error's __init__ does: its parameters' values become its attributes, then its code -/
def spI (C : Addr) (ps : List Str) (c : Str) : Sp := fun vs H Q _ => ∃ a ws, vs = .ref a :: ws ∧ ws.length = ps.length ∧ H a = some (exo a C none) ∧
  ∀ (dx : Addr) (H' : Hp), H dx = none → dx ≠ a → H' a = some (exo a C (some dx)) → H' dx = some (exd dx (("code", .str c) :: (ps.zip ws).reverse)) → (∀ b, b ≠ a → b ≠ dx → H' b = H b) → Q .non H'
structure InitP (G : Gb) (C : Addr) (ps : List Str) (c : Str) (k : Nat) : Prop where
  ex : ∃ f fd, PySem.W.findIn G.K (.ref C) "__init__" = some (some (.ref f)) ∧ PySem.W.typeIn G.K (.ref f) = some (.type "function") ∧ Binds G.K fd ("self" :: ps) [] ∧ FnOk G.prog G.w G.K G.mg G.base (L2N.CX G.prog G.w) k f fd ("self" :: ps) (spI C ps c)
theorem init1 {G : Gb} {C B f : Addr} {fd : FuncData} {x y : Str} {N : List Str} {c msg base qual : Str} {params : Arguments} {scope : Scope} {dvs : List V} {kws : List (Str × V)} {p1 p2 p3 p4 p5 p6 p7 p8 p9 p10 p11 p12 p13 p14 : Pos} {j1 j2 : Nat}
    (T : OexC G.K C) (bi : BInit G.K B) (hB : G.mg base = some (.ref B)) (n1 : PySem.W.findIn G.K (.ref C) y = some none) (n2 : PySem.W.findIn G.K (.ref C) "code" = some none)
    (FD : FunD G.K x qual params [.Expr (.Call (.Attribute (.Name base p1) "__init__" p2) [.Name "self" p3, .Constant (.str msg) j1 p4] [] p5) p6, .Assign [.Attribute (.Name "self" p7) y p8] (.Name y p9) p10, .Assign [.Attribute (.Name "self" p11) "code" p12] (.Constant (.str c) j2 p13) p14] scope dvs kws f fd)
    (S : FnScope N ["self", y] scope) (g : gloB scope base = true) (v1 : visB scope "self" = true) (v2 : visB scope y = true) (fi : PySem.W.findIn G.K (.ref C) "__init__" = some (some (.ref f))) (ti : PySem.W.typeIn G.K (.ref f) = some (.type "function")) (hb : Binds G.K fd ["self", y] [])
    (i0 : N[0]? = some ("self" : Str) := by rfl) (i1 : N[1]? = some y := by rfl)
    (hc : ∀ X : Cx, ∃ pl : Sem Bool, eval (.Call (.Attribute (.Name base p1) "__init__" p2) [.Name "self" p3, .Constant (.str msg) j1 p4] [] p5) X.env = (do
      let ov ← eval (.Name base p1) X.env
      standAt p2.atName
      let (f, first) ← holding [ov] (getMethod ov "__init__" pl)
      callWith p5 f first (backTo p5 (starEach [.Name "self" p3, .Constant (.str msg) j1 p4] X.env)) (backToKw p5 (keywordEach [] X.env))) := by intro _; exact ⟨_, rfl⟩) : InitP G C [y] c 1 := by
  refine ⟨f, fd, fi, ti, hb, FD.ok S (fun vs H Q E h => ?_) fun cdv A outer s H vs Q E hr h => ?_⟩
  · obtain ⟨a, ws, rfl, hl, _⟩ := h
    simpa using hl
  obtain ⟨a, ws, rfl, hl, ha, hq⟩ := h
  obtain ⟨w, rfl⟩ : ∃ w, ws = [w] := by
    match ws, hl with
    | [w], _ => exact ⟨w, rfl⟩
  obtain ⟨h1, h2, h3⟩ := visB_ok v1
  obtain ⟨k1, k2, k3⟩ := visB_ok v2
  let X : Cx := (cxOf (L2N.CX G.prog G.w) G.prog G.w G.K G.mg G.base N qual scope f cdv A outer s H E).nox
  obtain ⟨g1, g2, _⟩ := gloB_ok (X := X) rfl g
  obtain ⟨pl, hc⟩ := hc X
  have e0 : ∀ {pp : Pos}, PE X (.Name "self" pp) (tVar 0) := pe_var i0 h1 h2 h3
  have e1 : ∀ {pp : Pos}, PE X (.Name y pp) (tVar 1) := pe_var i1 k1 k2 k3
  refine ⟨_, PSs.nox (pss_cons (ps_expr (pe_binit (X := X) (bi := bi) g1 hB (pa_cons e0 (pa_cons pe_str pa_nil)) g2 hc) (by rfl)) (pss_cons (ps_ost e0 e1 (by rfl)) (pss_one (ps_ost e0 pe_str (by rfl))))), ?_⟩
  have l0 : (L2.start N [V.ref a, w])[0]? = some (some (V.ref a)) := by simp [L2.start]
  have l1 : (L2.start N [V.ref a, w])[1]? = some (some w) := by simp [L2.start]
  refine ⟨.ref a, l0, ?_⟩
  refine ⟨a, C, [.str msg], rfl, show 1 ≤ 1000 by decide, T, ha, ?_⟩
  refine ⟨w, l1, .ref a, l0, a, C, rfl, T, n1, .inl ⟨ha, fun dx n ne => ?_⟩⟩
  refine ⟨.ref a, l0, a, C, rfl, T, n2, .inr ⟨dx, [(y, w)], upd_same, by rw [upd_ne ne, upd_same], show 1 ≤ 900 by decide, ?_⟩⟩
  refine hq dx _ n ne (by rw [upd_ne (Ne.symm ne), upd_same]) upd_same fun b h1 h2 => by rw [upd_ne h2, upd_ne h1, upd_ne h2]
theorem zip_rev {α β : Type} : ∀ {xs : List α} {ys : List β}, xs.length = ys.length → (xs.zip ys).reverse = xs.reverse.zip ys.reverse
  | [], [], _ => rfl
  | x :: xs, y :: ys, h => by
    have h' : xs.length = ys.length := by simpa using h
    rw [List.zip_cons_cons, List.reverse_cons, zip_rev h', List.reverse_cons, List.reverse_cons, List.zip_append (by simpa using h')]
    rfl
structure Err (G : Gb) (x : Str) (ps : List Str) (c : Str) (k : Nat) (C : Addr) : Prop where
  mg : G.mg x = some (.ref C)
  T : OexC G.K C
  init : InitP G C ps c k
theorem RpL.rev {K : PySem.W.Frag} {W : Wd} {H : Hp} : ∀ {ds : List D} {vs : List V}, RpL K W H ds vs → RpL K W H ds.reverse vs.reverse
  | [], _, h => by rw [show _ = [] from h]; rfl
  | d :: ds, _, h => by
    obtain ⟨v, r, rfl, h1, h2⟩ := h
    rw [List.reverse_cons, List.reverse_cons]
    exact RpL.app (RpL.rev h2) ⟨v, [], rfl, h1, rfl⟩
section
variable {G : Gb} {X : Cx} {E : XK} {n : Nat} {N : List Str} {sc : Scope} {W : Wd} {Γ : List (Option D)} {Z : ZK} {pos p p2 : Pos}
theorem s_raise {x c : Str} {ps : List Str} {k : Nat} {C : Addr} {e : Expr} {es : List Expr} {N' : Nd} (cn : Cn G X E n N sc) (df : Df X E) (hg : gloB sc x = true) (er : Err G x ps c k C) (hk : k + 1 ≤ n)
    (h : AX X E W (e :: es) Γ (fun ds => ds.length = ps.length ∧ ds.length ≤ 1000 ∧ Z C ("code" :: ps.reverse) (.str c :: ds.reverse)) Z)
    (h1 : starEach (e :: es) X.env = (false, eval e X.env) :: starEach es X.env := by rfl) (h2 : (backTo pos (starEach es X.env)).any (·.1) = false := by rfl) :
    S1 X E W (.Raise (some (.Call (.Name x p) (e :: es) [] pos)) none p2) Γ N' Z := fun σ H T en hi r z => by
  have n0 : n ≠ 0 := by omega
  obtain ⟨g1, g2, _⟩ := gloB_ok cn.scp hg
  obtain ⟨f, fd, fi, ti, hb, F⟩ := er.init.ex
  have hm := er.mg
  have hT := er.T
  rw [← cn.e1, ← cn.e2, ← cn.e3, ← cn.e4, ← cn.e5] at F
  rw [← cn.e4] at hm
  rw [← cn.e3] at fi ti hb hT
  refine ⟨_, L2N.ps_raise (cn.calm n0) df.tk (pmk_oexN (CX := L2N.CX X.prog X.w) hT fi ti F ((cn.room n0).mono hk) hb (fun _ _ _ _ _ _ _ c => ?_) g1 hm pa_U g2 h1 h2), ?_⟩
  · obtain ⟨_, _, _, _, _, _, _, _, _, _, _, _, z⟩ := c
    exact z.elim
  refine h σ H _ en hi (fun ds vs H1 kd g rp => ?_) z
  obtain ⟨hl, hl2, hz⟩ := kd
  have lv := rp.len
  refine ⟨by rw [lv]; exact hl2, fun a na => ⟨a, vs, by rw [List.append_nil], by rw [lv, hl], upd_same, fun dx H' hd ne ea ed keep => ?_⟩⟩
  have hd1 : H1 dx = none := by rwa [upd_ne ne] at hd
  refine ⟨rfl, dx, _, ea, ed, hd1, ?_⟩
  have at_ : ∀ b o, H1 b = some o → (upd (del H' a) dx (.xd (("code", .str c) :: (ps.zip vs).reverse))) b = some o := fun b o e => by
    have b1 := ne_of_none e na
    have b2 := ne_of_none e hd1
    rw [upd_ne b2, del_ne b1, keep b b1 b2, upd_ne b1]; exact e
  have go : Go W H1 (upd (del H' a) dx (.xd (("code", .str c) :: (ps.zip vs).reverse))) := by
    have ex : Ex W H1 (upd (del H' a) dx (.xd (("code", .str c) :: (ps.zip vs).reverse))) := Ex.of g.i fun b o _ e => at_ b o e
    exact ⟨ex, W.st _ _ g.i (fun b sb => by
      obtain ⟨xs, e⟩ := W.dom _ g.i b sb
      rw [at_ b _ e, e]) ex⟩
  refine z C _ _ dx _ (.str c :: vs.reverse) hz (g.trans go) ?_ (by simp [hl]) ⟨.str c, vs.reverse, rfl, rfl, (rp.go g.i go).rev⟩
  rw [upd_same, zip_rev (by rw [lv, hl])]
  rfl
end
end DX

set_option Elab.async false
set_option linter.all false
set_option maxRecDepth 100000
set_option maxHeartbeats 2000000
/-! the bag: its five places read and written -/
namespace DX
open PySem PySem.Spec PyProof.Rows L2
/-! checks of many names at once -/
def visL (sc : Scope) (V : List Str) : Bool := V.all (visB sc)
def gloL (sc : Scope) (V : List Str) : Bool := V.all (gloB sc)
def locL (sc : Scope) (V : List Str) : Bool := V.all (locB sc)
theorem memOf {x : Str} {V : List Str} {i : Nat} (h : V[i]? = some x) : x ∈ V := List.mem_of_getElem? h
theorem visL_ok {sc : Scope} {V : List Str} {x : Str} (h : visL sc V = true) (i : Nat) (hx : V[i]? = some x) : visB sc x = true := List.all_eq_true.mp h x (memOf hx)
theorem gloL_ok {sc : Scope} {V : List Str} {x : Str} (h : gloL sc V = true) (hx : V.contains x = true) : gloB sc x = true := List.all_eq_true.mp h x (List.contains_iff_mem.mp hx)
theorem locL_ok {sc : Scope} {V : List Str} {x : Str} (h : locL sc V = true) (hx : V.contains x = true) : locB sc x = true := List.all_eq_true.mp h x (List.contains_iff_mem.mp hx)
theorem visC_ok {sc : Scope} {V : List Str} {x : Str} (h : visL sc V = true) (hx : V.contains x = true) : visB sc x = true := List.all_eq_true.mp h x (List.contains_iff_mem.mp hx)
/-! ### one rule for each comparison -/
section
variable {G : Gb} {X : Cx} {E : XK} {n : Nat} {N : List Str} {sc : Scope} {W : Wd} {Γ : List (Option D)} {Z : ZK} {K : D → Prop} {Kb : Bool → Prop} {pos p p2 : Pos} {a b c : Expr}
theorem tx_lt (h : EX X E W a Γ (fun x => EX X E W b Γ (fun y => RO X W rLt x y (fun d => ∃ b, d = .bl b ∧ Kb b)) Z) Z) (hm : behindInMarks .Lt b = false := by rfl) : TX X E W (.Compare a [.Lt] [b] pos) Γ Kb Z := tx_cmp op_lt hm h
theorem ex_lt (h : EX X E W a Γ (fun x => EX X E W b Γ (fun y => RO X W rLt x y K) Z) Z) (hm : behindInMarks .Lt b = false := by rfl) : EX X E W (.Compare a [.Lt] [b] pos) Γ K Z := ex_cmp op_lt hm h
theorem tx_le (h : EX X E W a Γ (fun x => EX X E W b Γ (fun y => RO X W rLe x y (fun d => ∃ b, d = .bl b ∧ Kb b)) Z) Z) (hm : behindInMarks .LtE b = false := by rfl) : TX X E W (.Compare a [.LtE] [b] pos) Γ Kb Z := tx_cmp op_le hm h
theorem ex_le (h : EX X E W a Γ (fun x => EX X E W b Γ (fun y => RO X W rLe x y K) Z) Z) (hm : behindInMarks .LtE b = false := by rfl) : EX X E W (.Compare a [.LtE] [b] pos) Γ K Z := ex_cmp op_le hm h
theorem tx_gt (h : EX X E W a Γ (fun x => EX X E W b Γ (fun y => RO X W rGt x y (fun d => ∃ b, d = .bl b ∧ Kb b)) Z) Z) (hm : behindInMarks .Gt b = false := by rfl) : TX X E W (.Compare a [.Gt] [b] pos) Γ Kb Z := tx_cmp op_gt hm h
theorem ex_gt (h : EX X E W a Γ (fun x => EX X E W b Γ (fun y => RO X W rGt x y K) Z) Z) (hm : behindInMarks .Gt b = false := by rfl) : EX X E W (.Compare a [.Gt] [b] pos) Γ K Z := ex_cmp op_gt hm h
theorem tx_ge (h : EX X E W a Γ (fun x => EX X E W b Γ (fun y => RO X W rGe x y (fun d => ∃ b, d = .bl b ∧ Kb b)) Z) Z) (hm : behindInMarks .GtE b = false := by rfl) : TX X E W (.Compare a [.GtE] [b] pos) Γ Kb Z := tx_cmp op_ge hm h
theorem ex_ge (h : EX X E W a Γ (fun x => EX X E W b Γ (fun y => RO X W rGe x y K) Z) Z) (hm : behindInMarks .GtE b = false := by rfl) : EX X E W (.Compare a [.GtE] [b] pos) Γ K Z := ex_cmp op_ge hm h
theorem tx_eq (cn : Cn G X E n N sc) (h : EX X E W a Γ (fun x => EX X E W b Γ (fun y => RO X W (rEqA X.K) x y (fun d => ∃ b, d = .bl b ∧ Kb b)) Z) Z) (hm : behindInMarks .Eq b = false := by rfl) : TX X E W (.Compare a [.Eq] [b] pos) Γ Kb Z := tx_cmp (op_eqA cn.un) hm h
theorem ex_eq (cn : Cn G X E n N sc) (h : EX X E W a Γ (fun x => EX X E W b Γ (fun y => RO X W (rEqA X.K) x y K) Z) Z) (hm : behindInMarks .Eq b = false := by rfl) : EX X E W (.Compare a [.Eq] [b] pos) Γ K Z := ex_cmp (op_eqA cn.un) hm h
theorem tx_ne (cn : Cn G X E n N sc) (h : EX X E W a Γ (fun x => EX X E W b Γ (fun y => RO X W (rNeA X.K) x y (fun d => ∃ b, d = .bl b ∧ Kb b)) Z) Z) (hm : behindInMarks .NotEq b = false := by rfl) : TX X E W (.Compare a [.NotEq] [b] pos) Γ Kb Z := tx_cmp (op_neA cn.un) hm h
theorem ex_ne (cn : Cn G X E n N sc) (h : EX X E W a Γ (fun x => EX X E W b Γ (fun y => RO X W (rNeA X.K) x y K) Z) Z) (hm : behindInMarks .NotEq b = false := by rfl) : EX X E W (.Compare a [.NotEq] [b] pos) Γ K Z := ex_cmp (op_neA cn.un) hm h
theorem tx_ltlt (h : EX X E W a Γ (fun x => EX X E W b Γ (fun y => RO X W rLt x y (fun u => ∃ t, u = .bl t ∧ (t = true → EX X E W c Γ (fun z => RO X W rLt y z (fun d => ∃ b, d = .bl b ∧ Kb b)) Z) ∧ (t = false → Kb false))) Z) Z) (hm : lastMarks [.Lt, .Lt] [b, c] = false := by with_unfolding_all rfl) : TX X E W (.Compare a [.Lt, .Lt] [b, c] pos) Γ Kb Z := tx_chain op_lt op_lt h hm
theorem ex_ltlt (h : EX X E W a Γ (fun x => EX X E W b Γ (fun y => RO X W rLt x y (fun u => ∃ t, u = .bl t ∧ (t = true → EX X E W c Γ (fun z => RO X W rLt y z K) Z) ∧ (t = false → K (.bl false)))) Z) Z) (hm : lastMarks [.Lt, .Lt] [b, c] = false := by with_unfolding_all rfl) : EX X E W (.Compare a [.Lt, .Lt] [b, c] pos) Γ K Z := ex_chain op_lt op_lt h hm
theorem tx_ltle (h : EX X E W a Γ (fun x => EX X E W b Γ (fun y => RO X W rLt x y (fun u => ∃ t, u = .bl t ∧ (t = true → EX X E W c Γ (fun z => RO X W rLe y z (fun d => ∃ b, d = .bl b ∧ Kb b)) Z) ∧ (t = false → Kb false))) Z) Z) (hm : lastMarks [.Lt, .LtE] [b, c] = false := by with_unfolding_all rfl) : TX X E W (.Compare a [.Lt, .LtE] [b, c] pos) Γ Kb Z := tx_chain op_lt op_le h hm
theorem ex_ltle (h : EX X E W a Γ (fun x => EX X E W b Γ (fun y => RO X W rLt x y (fun u => ∃ t, u = .bl t ∧ (t = true → EX X E W c Γ (fun z => RO X W rLe y z K) Z) ∧ (t = false → K (.bl false)))) Z) Z) (hm : lastMarks [.Lt, .LtE] [b, c] = false := by with_unfolding_all rfl) : EX X E W (.Compare a [.Lt, .LtE] [b, c] pos) Γ K Z := ex_chain op_lt op_le h hm
theorem tx_lelt (h : EX X E W a Γ (fun x => EX X E W b Γ (fun y => RO X W rLe x y (fun u => ∃ t, u = .bl t ∧ (t = true → EX X E W c Γ (fun z => RO X W rLt y z (fun d => ∃ b, d = .bl b ∧ Kb b)) Z) ∧ (t = false → Kb false))) Z) Z) (hm : lastMarks [.LtE, .Lt] [b, c] = false := by with_unfolding_all rfl) : TX X E W (.Compare a [.LtE, .Lt] [b, c] pos) Γ Kb Z := tx_chain op_le op_lt h hm
theorem ex_lelt (h : EX X E W a Γ (fun x => EX X E W b Γ (fun y => RO X W rLe x y (fun u => ∃ t, u = .bl t ∧ (t = true → EX X E W c Γ (fun z => RO X W rLt y z K) Z) ∧ (t = false → K (.bl false)))) Z) Z) (hm : lastMarks [.LtE, .Lt] [b, c] = false := by with_unfolding_all rfl) : EX X E W (.Compare a [.LtE, .Lt] [b, c] pos) Γ K Z := ex_chain op_le op_lt h hm
theorem tx_lele (h : EX X E W a Γ (fun x => EX X E W b Γ (fun y => RO X W rLe x y (fun u => ∃ t, u = .bl t ∧ (t = true → EX X E W c Γ (fun z => RO X W rLe y z (fun d => ∃ b, d = .bl b ∧ Kb b)) Z) ∧ (t = false → Kb false))) Z) Z) (hm : lastMarks [.LtE, .LtE] [b, c] = false := by with_unfolding_all rfl) : TX X E W (.Compare a [.LtE, .LtE] [b, c] pos) Γ Kb Z := tx_chain op_le op_le h hm
theorem ex_lele (h : EX X E W a Γ (fun x => EX X E W b Γ (fun y => RO X W rLe x y (fun u => ∃ t, u = .bl t ∧ (t = true → EX X E W c Γ (fun z => RO X W rLe y z K) Z) ∧ (t = false → K (.bl false)))) Z) Z) (hm : lastMarks [.LtE, .LtE] [b, c] = false := by with_unfolding_all rfl) : EX X E W (.Compare a [.LtE, .LtE] [b, c] pos) Γ K Z := ex_chain op_le op_le h hm
end
structure Bq where
  cells : List Int
  i : Int
  g : Int
  s : Int
  m : Int
structure Bq.Ok (q : Bq) : Prop where
  l : q.cells.length ≤ 63
  i : 0 ≤ q.i
  g : 0 ≤ q.g
  s : 0 ≤ q.s
  s2 : q.s < 2147483249
  m : 0 ≤ q.m
def Bq.v (c : Addr) (q : Bq) : List V := [.ref c, .int q.i, .int q.g, .int q.s, .int q.m]
def Bq.d (q : Bq) : D := .lst [.lst (q.cells.map .int), .int q.i, .int q.g, .int q.s, .int q.m]
section
variable (W : Wd) (c : Addr) (H0 : Hp)
structure BI (q : Bq) (H : Hp) : Prop where
  i : W.I H
  b : H W.b = some (.lst (q.v c))
  cells : H c = some (.lst (q.cells.map .int))
  ex : Ex W H0 H
  ns : ¬ W.S c
  nb : c ≠ W.b
def Wz (q : Bq) : Wd where
  S := fun a => W.S a ∧ a ≠ W.b
  b := W.b
  T := W.T
  I := BI W c H0 q
  dom := fun H i a s => W.dom H i.i a s.1
  st := fun H H' i hs hx => by
    have eb : H' W.b = H W.b := by rw [hx.1 W.b _ (fun z => z.2 rfl) i.b (fun _ z => by cases z), i.b]
    have ex : Ex W H H' := ⟨fun a o n e t => hx.1 a o (fun z => n z.1) e t, hx.2⟩
    exact ⟨W.st H H' i.i (fun a s => by
      by_cases h : a = W.b
      · rw [h, eb]
      · exact hs a ⟨s, h⟩) ex, eb.trans i.b, hx.1 c _ (fun z => i.ns z.1) i.cells (fun _ z => by cases z), i.ex.trans ex, i.ns, i.nb⟩
end
section
variable {G : Gb} {X : Cx} {E : XK} {n : Nat} {N : List Str} {sc : Scope} {W : Wd} {Γ : List (Option D)} {pos p p2 : Pos} {c : Addr} {H0 H : Hp} {q : Bq}
theorem bag_rp {Kf : PySem.W.Frag} (b : BI W c H0 q H) : Rp Kf (Wz W c H0 q) H q.d (.ref W.b) :=
  ⟨W.b, q.v c, rfl, fun z => z.2 rfl, b.b, .ref c, _, rfl, ⟨c, _, rfl, fun z => b.ns z.1, b.cells, RpL.ints⟩, .int q.i, _, rfl, rfl, .int q.g, _, rfl, rfl, .int q.s, _, rfl, rfl, .int q.m, _, rfl, rfl, rfl⟩
structure NB where
  n : List (Option D) → Bq → Prop
  r : Int → Prop
/-- slot 0: the bag; else: ints -/
structure GI (Γ : List (Option D)) (q : Bq) : Prop where
  z : Γ[0]? = some (some q.d)
  r : ∀ j d, Γ[j + 1]? = some (some d) → ∃ i, d = .int i
structure RB (X : Cx) (W : Wd) (c : Addr) (H0 : Hp) (N : NB) (T : Ends) : Prop where
  n : ∀ Γ q σ H, N.n Γ q → q.Ok → GI Γ q → BI W c H0 q H → Env X.K (Wz W c H0 q) H Γ σ → σ[0]? = some (some (.ref W.b)) → T.nx σ H
  r : ∀ i H, N.r i → W.I H → Ex W H0 H → T.rt (.int i) H
/-- a statement over the bag (E, Z: nothing is let out) -/
def B1 (X : Cx) (E : XK) (W : Wd) (c : Addr) (H0 : Hp) (st : Stmt) (Γ : List (Option D)) (q : Bq) (N : NB) : Prop := ∀ (σ : St) (H : Hp) (T : Ends), q.Ok → GI Γ q → BI W c H0 q H → Env X.K (Wz W c H0 q) H Γ σ → σ[0]? = some (some (.ref W.b)) → RB X W c H0 N T → tU1 X st T σ H
def BS (X : Cx) (E : XK) (W : Wd) (c : Addr) (H0 : Hp) (ss : List Stmt) (Γ : List (Option D)) (q : Bq) (N : NB) : Prop := ∀ (σ : St) (H : Hp) (T : Ends), q.Ok → GI Γ q → BI W c H0 q H → Env X.K (Wz W c H0 q) H Γ σ → σ[0]? = some (some (.ref W.b)) → RB X W c H0 N T → tUS X ss T σ H
theorem bs_nil {N' : NB} (k : N'.n Γ q) : BS X E W c H0 [] Γ q N' := fun σ H T ok gi b en z0 r => ⟨_, pss_nil, r.n Γ q σ H k ok gi b en z0⟩
theorem bs_cons {st : Stmt} {rest : List Stmt} {N' : NB} (h : B1 X E W c H0 st Γ q { n := fun Γ' q' => BS X E W c H0 rest Γ' q' N', r := N'.r }) : BS X E W c H0 (st :: rest) Γ q N' := fun σ H T ok gi b en z0 r => by
  refine ⟨_, pss_cons ps_U pss_U, ?_⟩
  show tU1 X st { T with nx := tUS X rest T } σ H
  exact h σ H _ ok gi b en z0 ⟨fun Γ' q' σ' H' k ok' gi' b' en' z' => k σ' H' T ok' gi' b' en' z' r, r.r⟩
theorem b_if {t : Expr} {a b : List Stmt} {N' : NB} (h : TX X E (Wz W c H0 q) t Γ (fun y => (y = true → BS X E W c H0 a Γ q N') ∧ (y = false → BS X E W c H0 b Γ q N')) Z0) : B1 X E W c H0 (.If t a b pos) Γ q N' := fun σ H T ok gi bi en z0 r => by
  refine ⟨_, ps_if pt_U pss_U pss_U, ?_⟩
  refine h σ H _ en bi (fun t H1 k g1 => ?_) zok0
  have en1 := en.go bi g1
  cases t with
  | true => rw [if_pos rfl]; exact k.1 rfl σ H1 T ok gi g1.i en1 z0 r
  | false => rw [if_neg (by decide)]; exact k.2 rfl σ H1 T ok gi g1.i en1 z0 r
theorem gi_set {i : Nat} {v : Int} (gi : GI Γ q) : GI (Γ.set (i + 1) (some (.int v))) q := ⟨by rw [List.getElem?_set_ne (by omega)]; exact gi.z, fun j d e => by
  by_cases h : j = i
  · subst h
    by_cases hl : j + 1 < Γ.length
    · rw [List.getElem?_set_self hl] at e; cases e; exact ⟨v, rfl⟩
    · rw [List.getElem?_eq_none (by simpa using hl)] at e; cases e
  · rw [List.getElem?_set_ne (by omega)] at e; exact gi.r j d e⟩
theorem b_set {x : Str} {i : Nat} {e : Expr} {N' : NB} (cn : Cn G X E n N sc) (ix : N[i + 1]? = some x) (hl : locB sc x = true) (h : EX X E (Wz W c H0 q) e Γ (fun d => ∃ v, d = .int v ∧ N'.n (Γ.set (i + 1) (some (.int v))) q) Z0) (hs : swapsWith e (some (.Name x p)) pos.line X.env = pure false := by rfl) : B1 X E W c H0 (.Assign [.Name x p] e pos) Γ q N' := fun σ H T ok gi bi en z0 r => by
  have hx' : X.env.scope.names.lookup x = some .local := by rw [cn.scp]; exact locB_ok hl
  refine ⟨_, ps_set (i := i + 1) (by rw [cn.nN]; exact cn.nd) (by rw [cn.nN]; exact ix) (.inl hx') pe_U hs (.inr hx'), ?_⟩
  refine h σ H _ en bi (fun d v H1 kx g1 rx => ?_) zok0
  obtain ⟨w, rfl, k⟩ := kx
  exact r.n _ q _ _ k ok (gi_set gi) g1.i ((en.go bi g1).set (i + 1) rx) (by rw [List.getElem?_set_ne (by omega)]; exact z0)
theorem b_ret {e : Expr} {N' : NB} (h : EX X E (Wz W c H0 q) e Γ (fun d => ∃ v, d = .int v ∧ N'.r v) Z0) : B1 X E W c H0 (.Return (some e) pos) Γ q N' := fun σ H T ok gi bi en z0 r => ⟨_, ps_ret pe_U, h σ H _ en bi (fun d v H1 kx g1 rx => by
  obtain ⟨w, rfl, k⟩ := kx
  have g1i : BI W c H0 q H1 := g1.i
  rw [show v = V.int w from rx]
  exact r.r w H1 k g1i.i g1i.ex) zok0⟩
/-- the k-th place takes v -/
def Bq.put (q : Bq) : Nat → Int → Bq
  | 1, v => { q with i := v }
  | 2, v => { q with g := v }
  | 3, v => { q with s := v }
  | 4, v => { q with m := v }
  | _, _ => q
theorem put_v {k : Nat} {v : Int} (h1 : 1 ≤ k) (h4 : k ≤ 4) : (q.v c).set k (.int v) = (q.put k v).v c := by
  match k, h1, h4 with
  | 1, _, _ => rfl
  | 2, _, _ => rfl
  | 3, _, _ => rfl
  | 4, _, _ => rfl
theorem put_cells {k : Nat} {v : Int} : (q.put k v).cells = q.cells := by
  unfold Bq.put
  split <;> rfl
theorem b_put {x : Str} {k : Nat} {e : Expr} {N' : NB} {j : Nat} {pk ps : Pos} (bg : Bagged W) (cn : Cn G X E n N sc) (ix : N[0]? = some x) (hv : visB sc x = true) (h1 : 1 ≤ k) (h4 : k ≤ 4)
    (h : EX X E (Wz W c H0 q) e Γ (fun d => ∃ v, d = .int v ∧ (q.put k v).Ok ∧ N'.n (Γ.set 0 (some (q.put k v).d)) (q.put k v)) Z0)
    (hs : swapsWithSole [.Subscript (.Name x p) (.Constant (.int (k : Int)) j pk) ps] e pos.line X.env = pure false := by rfl) (hw : swappedStores [.Subscript (.Name x p) (.Constant (.int (k : Int)) j pk) ps] e X.env = pure none := by rfl)
    (ha : (assignEach [.Subscript (.Name x p) (.Constant (.int (k : Int)) j pk) ps] X.env).map (·.2) = [assign (.Subscript (.Name x p) (.Constant (.int (k : Int)) j pk) ps) X.env] := by rfl) :
    B1 X E W c H0 (.Assign [.Subscript (.Name x p) (.Constant (.int (k : Int)) j pk) ps] e pos) Γ q N' := fun σ H T ok gi bi en z0 r => by
  obtain ⟨v1, v2, v3⟩ := visB_ok hv
  refine ⟨_, ps_asg pe_U (pg_sub (pe_var (i := 0) (by rw [cn.nN]; exact ix) (by rw [cn.scp]; exact v1) v2 v3) pe_int set_list) hs hw ha, ?_⟩
  refine h σ H _ en bi (fun d v H1 kx g1 rx => ?_) zok0
  obtain ⟨w, rfl, ok', hn⟩ := kx
  have b1 : BI W c H0 q H1 := g1.i
  have en1 := en.go bi g1
  have hk : ixN (q.v c).length (k : Int) = some k := by
    match k, h1, h4 with
    | 1, _, _ => rfl
    | 2, _, _ => rfl
    | 3, _, _ => rfl
    | 4, _, _ => rfl
  refine ⟨.ref W.b, z0, W.b, _, (k : Int), k, rfl, rfl, b1.b, hk, ?_⟩
  rw [show v = V.int w from rx, put_v h1 h4]
  have bc : BagC H1 c (q.v c) := ⟨q.cells, q.i, q.g, q.s, q.m, rfl, b1.cells, ok.l, ok.i, ok.g, ok.s, ok.s2, ok.m⟩
  have bc' : BagC H1 c ((q.put k w).v c) := ⟨q.cells, _, _, _, _, rfl, b1.cells, ok.l, ok'.i, ok'.g, ok'.s, ok'.s2, ok'.m⟩
  have i2 : W.I (upd H1 W.b (.lst ((q.put k w).v c))) := bg.put H1 c _ _ b1.i b1.b bc bc'
  have ex2 : Ex W H1 (upd H1 W.b (.lst ((q.put k w).v c))) := Ex.of b1.i fun a o na ea => by rw [upd_ne (fun z => na (by rw [z]; exact bg.s))]; exact ea
  have b2 : BI W c H0 (q.put k w) (upd H1 W.b (.lst ((q.put k w).v c))) := ⟨i2, upd_same, by rw [upd_ne b1.nb, put_cells]; exact b1.cells, b1.ex.trans ex2, b1.ns, b1.nb⟩
  refine r.n _ _ σ _ hn ok' ⟨?_, fun j d e => ?_⟩ b2 ⟨by rw [List.length_set]; exact en.1, fun j d e => ?_⟩ z0
  · rw [List.getElem?_set_self]
    have := gi.z
    exact (List.getElem?_eq_some_iff.mp this).1
  · rw [List.getElem?_set_ne (by omega)] at e
    exact gi.r j d e
  · cases j with
    | zero =>
      rw [List.getElem?_set_self (List.getElem?_eq_some_iff.mp gi.z).1] at e
      cases e
      exact ⟨_, z0, bag_rp b2⟩
    | succ j =>
      rw [List.getElem?_set_ne (by omega)] at e
      obtain ⟨i, rfl⟩ := gi.r j d e
      obtain ⟨y, e3, r3⟩ := en1.2 (j + 1) _ e
      exact ⟨y, e3, r3⟩
end
end DX

set_option Elab.async false
set_option linter.all false
set_option maxRecDepth 100000
set_option maxHeartbeats 2000000
/-! a def that takes the bag and a number -/
namespace DX
open PySem PySem.Spec PyProof.Rows L2
theorem sx_bag {G : Gb} {X : Cx} {E : XK} {n : Nat} {N : List Str} {sc : Scope} {W : Wd} {ss : List Stmt} {s : Int} {N' : Nd} {Z : ZK} (bg : Bagged W)
    (h : ∀ (c : Addr) (H0 : Hp) (q : Bq), q.Ok → BS X E W c H0 ss (startG N [q.d, .int s]) q { n := fun _ _ => False, r := fun i => N'.r (.int i) }) : SX X E W ss (startG N [.bag, .int s]) N' Z := fun σ H T en hi r z => by
  obtain ⟨c, xs, e, nb, ns, cells, i, g, sd, m, rfl, ec, hl, h1, h2, h3, h4, h5⟩ := bg.at_ H hi
  let q : Bq := ⟨cells, i, g, sd, m⟩
  have bi : BI W c H q H := ⟨hi, e, ec, Ex.refl, ns, nb⟩
  obtain ⟨v0, e0, r0⟩ := en.2 0 .bag (by rfl)
  have r0 : v0 = V.ref W.b := r0
  subst r0
  have hlen := en.1
  refine h c H q ⟨hl, h1, h2, h3, h4, h5⟩ σ H T ⟨hl, h1, h2, h3, h4, h5⟩ ⟨by rfl, fun j d hd => ?_⟩ bi ⟨by rw [← hlen]; simp [startG], fun j d hd => ?_⟩ e0 ⟨fun _ _ _ _ k => k.elim, fun i H' k i' ex => r.r _ _ H' k ⟨ex, i'⟩ rfl⟩
  · cases j with
    | zero => cases hd; exact ⟨s, rfl⟩
    | succ j =>
      unfold startG at hd
      rw [List.map_cons, List.map_cons, List.map_nil] at hd
      rw [show ([some q.d, some (D.int s)] ++ List.replicate (N.length - [q.d, D.int s].length) none)[j + 1 + 1]? = (List.replicate (N.length - [q.d, D.int s].length) (none : Option D))[j]? from rfl, List.getElem?_replicate] at hd
      split at hd <;> cases hd
  · cases j with
    | zero => cases hd; exact ⟨_, e0, bag_rp bi⟩
    | succ j =>
      cases j with
      | zero =>
        cases hd
        obtain ⟨v1, e1, r1⟩ := en.2 1 (.int s) (by rfl)
        exact ⟨v1, e1, r1⟩
      | succ j =>
        unfold startG at hd
        rw [List.map_cons, List.map_cons, List.map_nil] at hd
        rw [show ([some q.d, some (D.int s)] ++ List.replicate (N.length - [q.d, D.int s].length) none)[j + 1 + 1]? = (List.replicate (N.length - [q.d, D.int s].length) (none : Option D))[j]? from rfl, List.getElem?_replicate] at hd
        split at hd <;> cases hd
end DX

set_option Elab.async false
set_option linter.all false
set_option maxRecDepth 100000
set_option maxHeartbeats 2000000
/-! isinstance, answered for plain data -/
namespace DX
open PySem PySem.Spec PyProof.Rows L2
def plainD (x : D) : Bool := (tyD x).isSome
def isInt : D → Bool | .int _ => true | .bl _ => true | _ => false
def isBl : D → Bool | .bl _ => true | _ => false
def isStr : D → Bool | .str _ => true | _ => false
def isTup : D → Bool | .tup _ => true | _ => false
def isLst : D → Bool | .lst _ => true | _ => false
def isDic : D → Bool | .dic _ _ => true | _ => false
theorem isD_int {x : D} (h : plainD x = true) : isD x "int" (isInt x) := by
  cases x <;> first | exact ⟨_, rfl, (show kitB _ _ = some true by decide +kernel)⟩ | exact ⟨_, rfl, (show kitB _ _ = some false by decide +kernel)⟩ | exact nomatch h
theorem isD_bl {x : D} (h : plainD x = true) : isD x "bool" (isBl x) := by
  cases x <;> first | exact ⟨_, rfl, (show kitB _ _ = some true by decide +kernel)⟩ | exact ⟨_, rfl, (show kitB _ _ = some false by decide +kernel)⟩ | exact nomatch h
theorem isD_str {x : D} (h : plainD x = true) : isD x "str" (isStr x) := by
  cases x <;> first | exact ⟨_, rfl, (show kitB _ _ = some true by decide +kernel)⟩ | exact ⟨_, rfl, (show kitB _ _ = some false by decide +kernel)⟩ | exact nomatch h
theorem isD_tup {x : D} (h : plainD x = true) : isD x "tuple" (isTup x) := by
  cases x <;> first | exact ⟨_, rfl, (show kitB _ _ = some true by decide +kernel)⟩ | exact ⟨_, rfl, (show kitB _ _ = some false by decide +kernel)⟩ | exact nomatch h
theorem isD_lst {x : D} (h : plainD x = true) : isD x "list" (isLst x) := by
  cases x <;> first | exact ⟨_, rfl, (show kitB _ _ = some true by decide +kernel)⟩ | exact ⟨_, rfl, (show kitB _ _ = some false by decide +kernel)⟩ | exact nomatch h
theorem isD_dic {x : D} (h : plainD x = true) : isD x "dict" (isDic x) := by
  cases x <;> first | exact ⟨_, rfl, (show kitB _ _ = some true by decide +kernel)⟩ | exact ⟨_, rfl, (show kitB _ _ = some false by decide +kernel)⟩ | exact nomatch h
/-! ### x, y = (a, b) -/
abbrev env0 (sc : Scope) : PySem.Env := envOfC "" sc 0 0 .none
theorem swp_env {env : PySem.Env} {sc : Scope} {ts : List Expr} {v : Expr} (h : env.scope = sc) : swappedStores ts v env = swappedStores ts v (env0 sc) := by
  cases env
  cases h
  rfl
section
variable {G : Gb} {X : Cx} {E : XK} {n : Nat} {N : List Str} {sc : Scope} {W : Wd} {Γ : List (Option D)} {Z : ZK} {K : D → Prop} {pos p p2 : Pos}
theorem s_par2 {x y : Str} {i j : Nat} {a b : Expr} {px py pt pt2 : Pos} {kt k2 : Nat} {N' : Nd} (cn : Cn G X E n N sc) (ix : N[i]? = some x) (iy : N[j]? = some y) (hij : i ≠ j) (hx : locB sc x = true) (hy : locB sc y = true)
    (hw : swappedStores [.Tuple [.Name x px, .Name y py] kt pt] (.Tuple [a, b] k2 pt2) (env0 sc) = pure (some [x, y]))
    (h : AX X E W [a, b] Γ (fun ds => ∃ d e, ds = [d, e] ∧ N'.n ((Γ.set i (some d)).set j (some e))) Z)
    (hs : swapsWithSole [.Tuple [.Name x px, .Name y py] kt pt] (.Tuple [a, b] k2 pt2) pos.line X.env = pure false := by rfl) (hn0 : n ≠ 0 := by decide) : S1 X E W (.Assign [.Tuple [.Name x px, .Name y py] kt pt] (.Tuple [a, b] k2 pt2) pos) Γ N' Z := fun σ H T en hi r z => by
  refine ⟨_, ps_par (i := i) (j := j) (cn.calm hn0) (by rw [cn.nN]; exact cn.nd) (by rw [cn.nN]; exact ix) (by rw [cn.nN]; exact iy) hij (by rw [cn.scp]; exact locB_ok hx) (by rw [cn.scp]; exact locB_ok hy) pa_U (by rw [swp_env cn.scp]; exact hw) hs, ?_⟩
  refine h σ H _ en hi (fun ds vs H1 kd g rp => ?_) z
  obtain ⟨d, e, rfl, k⟩ := kd
  obtain ⟨v, r1, rfl, a1, w, r2, rfl, a2, a3⟩ := rp
  cases (show r2 = [] from a3)
  exact ⟨v, w, rfl, r.n _ _ _ k g (((en.go hi g).set i a1).set j a2)⟩
end
end DX

set_option Elab.async false
set_option linter.all false
set_option maxRecDepth 100000
set_option maxHeartbeats 2000000
/-! zip of two tuples; trees compared with themselves -/
namespace DX
open PySem PySem.Spec PyProof.Rows L2 RZ
section
variable {G : Gb} {X : Cx} {E : XK} {n : Nat} {N : List Str} {sc : Scope} {W : Wd} {Γ : List (Option D)} {Z : ZK} {K : List D → Prop} {pos p p2 : Pos} {tg : Expr}
theorem it_zipT {K : PySem.W.Frag} {a b : Addr} {xs ys : List D} : ItOf K (ItzT K a b) [.tup xs, .tup ys] [.ref a, .ref b] (zipD xs ys) := fun W i H hi r => by
  obtain ⟨v, r', e, ⟨a', us, e1, e2, e3⟩, w, r'', e', ⟨b', ws, e4, e5, e6⟩, _⟩ := r
  cases e; cases e1; cases e'; cases e4
  have hlen : (zipD xs ys).length = min xs.length ys.length := by simp [zipD]
  refine ⟨fun h => ⟨us, ws, e2, e5, by rw [hlen] at h; rw [e3.len, e6.len]; omega⟩, fun d hd => ?_⟩
  unfold zipD at hd
  rw [List.getElem?_map] at hd
  cases hz : (xs.zip ys)[i]? with
  | none => rw [hz] at hd; cases hd
  | some p =>
    rw [hz] at hd
    cases hd
    rw [List.getElem?_zip_eq_some] at hz
    obtain ⟨u, eu, ru⟩ := e3.get hz.1
    obtain ⟨w, ew, rw'⟩ := e6.get hz.2
    refine ⟨⟨us, ws, u, w, e2, e5, eu, ew⟩, fun x H' y => ?_⟩
    obtain ⟨T, x1, y1, rfl, hT, rfl, f1, f2⟩ := y
    have q1 := f1 us (e2)
    have q2 := f2 ws (e5)
    rw [eu] at q1
    rw [ew] at q2
    cases q1; cases q2
    have g : Go W H (upd H T (.tup [u, w])) := Go.new hi hT
    exact ⟨g, T, _, rfl, SqT.of upd_same, u, _, rfl, ru.go hi g, w, _, rfl, rw'.go hi g, rfl⟩
theorem ix_zipT {e e2 : Expr} {tpos : Pos} {elts : List Expr} {kk : Nat} (cn : Cn G X E n N sc) (hg : gloB sc "zip" = true) (hm : G.mg "zip" = none) (h : EX X E W e Γ (fun x => EX X E W e2 Γ (fun y => ∃ xs ys, x = .tup xs ∧ y = .tup ys ∧ K (zipD xs ys)) Z) Z)
    (hs : starEach [e, e2] X.env = (false, eval e X.env) :: starEach [e2] X.env := by rfl) (hs2 : starEach [e2] X.env = (false, eval e2 X.env) :: starEach [] X.env := by rfl) (hpl : (backTo pos (starEach [e2] X.env)).any (·.1) = false := by rfl) :
    IX X E W (.Tuple elts kk tpos) (.Call (.Name "zip" p) [e, e2] [] pos) Γ K Z := fun σ H R en hi q z => by
  obtain ⟨h1, h2, _⟩ := gloB_ok cn.scp hg
  refine ⟨_, pi_zipA h1 (by rw [cn.e4]; exact hm) pa_U hs hpl, ?_⟩
  refine (ax_cons (K := fun ds => ∃ xs ys, ds = [.tup xs, .tup ys] ∧ K (zipD xs ys)) (h.imp fun x hx => ax_cons (hx.imp fun y ⟨xs, ys, e1, e2, k⟩ => ax_nil ⟨xs, ys, by rw [e1, e2], k⟩) hs2) hs) σ H _ en hi (fun ds vs H1 kx g1 rx => ?_) z
  obtain ⟨xs, ys, rfl, k⟩ := kx
  have rx2 := rx
  obtain ⟨v, r, rfl, ⟨a, us, rfl, e1, r1⟩, w, r', rfl, ⟨b, ws, rfl, e2, r2⟩, r3⟩ := rx
  cases (show r' = [] from r3)
  exact ⟨a, b, us, ws, rfl, .inr ⟨e1, e2, q _ _ _ _ H1 k g1 rx2 it_zipT⟩⟩

end
/-- plain trees without dicts, at most m deep -/
def Smp : Nat → D → Prop
  | _, .non => True
  | _, .bl _ => True
  | _, .int _ => True
  | _, .str _ => True
  | m + 1, .tup ds => ds.length ≤ 100000 ∧ ∀ d ∈ ds, Smp m d
  | m + 1, .lst ds => ds.length ≤ 100000 ∧ ∀ d ∈ ds, Smp m d
  | _, _ => False
theorem smp_plain {m : Nat} {d : D} (h : Smp m d) : plainD d = true := by
  cases m <;> cases d <;> first | rfl | (unfold Smp at h; exact h.elim)
section
variable {G : Gb} {X : Cx} {E : XK} {n : Nat} {N : List Str} {sc : Scope} {W : Wd} {Γ : List (Option D)} {Z : ZK} {K : D → Prop} {pos p p2 : Pos}
theorem tx_in {a b : Expr} {Kb : Bool → Prop} (hm : behindInMarks .In b = false) (h : EX X E W a Γ (fun x => EX X E W b Γ (fun y => ∃ ds, itemsD y = some ds ∧ flatD x = true ∧ ds.all flatD = true ∧ Kb (inD x ds)) Z) Z) : TX X E W (.Compare a [.In] [b] pos) Γ Kb Z :=
  tx_cmp op_in_seq hm (h.imp fun x hx => hx.imp fun y ⟨ds, e, f1, f2, k⟩ v w H Q rx ry hi q => by
    have rx' := fl_rp f1 rx
    subst rx'
    cases y with
    | tup ys =>
      cases e
      obtain ⟨b, ws, rfl, e2, r2⟩ := ry
      have e3 := fl_rpL f2 r2
      subst e3
      exact ⟨b, _, rfl, .inr e2, fl_flat f1, fl_all f2, q (.bl (inD x _)) _ H ⟨_, rfl, k⟩ (Go.refl hi) rfl⟩
    | lst ys =>
      cases e
      obtain ⟨b, ws, rfl, _, e2, r2⟩ := ry
      have e3 := fl_rpL f2 r2
      subst e3
      exact ⟨b, _, rfl, .inl (SqL.of e2), fl_flat f1, fl_all f2, q (.bl (inD x _)) _ H ⟨_, rfl, k⟩ (Go.refl hi) rfl⟩
    | _ => cases e)

end
end DX

set_option Elab.async false
set_option linter.all false
set_option maxRecDepth 100000
set_option maxHeartbeats 2000000
/-! a def called with fewer values than parameters -/
namespace DX
open PySem PySem.Spec PyProof.Rows L2
/-- as Fn, the last parameters bound to defaults -/
structure FnB (G : Gb) (x : Str) (ps : List Str) (k : Nat) (F : FSpec) (dD : List D) : Prop where
  ex : ∃ f fd ds dvs, G.mg x = some (.ref f) ∧ PySem.W.keepIn G.K (.ref f) = true ∧ Binds G.K fd ps ds ∧ Vals dvs ds ∧ (∀ W H, W.I H → RpL G.K W H dD dvs) ∧ FnOk G.prog G.w G.K G.mg G.base (L2N.CX G.prog G.w) k f fd ps (SpD G.K F)
section
variable {G : Gb} {X : Cx} {E : XK} {n : Nat} {N : List Str} {sc : Scope} {W : Wd} {Γ : List (Option D)} {Z : ZK} {K : D → Prop} {pos p p2 : Pos}
theorem ex_callD {x : Str} {e : Expr} {es : List Expr} {ps : List Str} {k : Nat} {F : FSpec} {dD : List D} (cn : Cn G X E n N sc) (hg : gloB sc x = true) (f : FnB G x ps k F dD) (hk : k ≤ n ∧ n ≠ 0) (h : AX X E W (e :: es) Γ (fun ds => F W (ds ++ dD) K Z) Z)
    (he : starEach (e :: es) X.env = (false, eval e X.env) :: starEach es X.env := by rfl) (hpl : (backTo pos (starEach es X.env)).any (·.1) = false := by rfl) : EX X E W (.Call (.Name x p) (e :: es) [] pos) Γ K Z := fun σ H Q en hi q z => by
  obtain ⟨a, fd, ds, dvs, m1, m2, m3, m5, m6, m4⟩ := f.ex
  obtain ⟨h1, h2, _⟩ := gloB_ok cn.scp hg
  rw [← cn.e1, ← cn.e2, ← cn.e3, ← cn.e4, ← cn.e5] at m4
  rw [← cn.e4] at m1
  rw [← cn.e3] at m2 m3 m6
  refine ⟨_, pe_call m4 ((cn.room hk.2).mono hk.1) h1 m1 m2 m3 m5 cn.px pa_U h2 he hpl, ?_⟩
  refine h σ H _ en hi (fun ds vs H1 kx g1 rx => ?_) z
  exact ⟨W, _, K, Z, g1.i, rx.app (m6 W H1 g1.i), kx, fun d v H' kd g r => q d v H' kd (g1.trans g) r, z.go g1⟩
/-- x(k = v, ..), nothing by place -/
theorem pe_callK0 {CX : CXT} {k : Nat} {f : Addr} {fd : FuncData} {ps ks : List Str} {sp : Sp} {g : List Value → List Value → List Value} {gV : List V → List V → List V} {x : Str} {kws : List Keyword} {tk : TA}
    (F : FnOk X.prog X.w X.K X.mg X.base CX k f fd ps sp) (hr : Room k X.A) (hg : Gl X x) (hm : X.mg x = some (.ref f)) (hk : PySem.W.keepIn X.K (.ref f) = true) (hb : KBinds X.K fd ps ks g gV) (hx : Passes CX X E) (hkw : PK X kws tk) (hdb : (x == ("__debug__" : Str)) = false)
    (hall : (backToKw pos (keywordEach kws X.env)).all (·.1.isSome) = true := by rfl) (hks : (backToKw pos (keywordEach kws X.env)).filterMap (·.1) = ks := by rfl)
    (hpl : ((backTo pos (starEach [] X.env)).any (·.1) || (backToKw pos (keywordEach kws X.env)).any (·.1.isNone)) = false := by rfl) :
    PE X (.Call (.Name x p) [] kws pos) (fun σ H Q => tk σ H fun zs H2 => sp (gV [] zs) H2 Q E) := ⟨fun pins s σ H Q I h => by
  refine wpAny_Call_Name_kw (ld_glob I hg hm (PySem.W.callWith_KW0 (h₀ := X.base) I.ok.mod.kin hk hall (thn (hkw.run pos pins s σ H _ I h) fun ws s2 hh => ?_) hpl) hdb)
  obtain ⟨zs, H2, I2, rz, q2⟩ := hh
  rw [hks]
  exact ⟨I2.kIn, run_fnk (us := []) F hr hb hx I2 .nil rz q2⟩⟩
/-- as Fn, called by the names ks; gD: their values in the parameters' order, defaults among them -/
structure FnK (G : Gb) (x : Str) (ps : List Str) (k : Nat) (F : FSpec) (ks : List Str) (gD : List D → List D) : Prop where
  ex : ∃ f fd g gV, G.mg x = some (.ref f) ∧ PySem.W.keepIn G.K (.ref f) = true ∧ KBinds G.K fd ps ks g gV ∧ (∀ W H ds zs, W.I H → ds.length = ks.length → RpL G.K W H ds zs → RpL G.K W H (gD ds) (gV [] zs)) ∧ FnOk G.prog G.w G.K G.mg G.base (L2N.CX G.prog G.w) k f fd ps (SpD G.K F)
theorem ex_kw1 {x y : Str} {e : Expr} {ps : List Str} {k : Nat} {F : FSpec} {gD : List D → List D} {q1 : Pos} (cn : Cn G X E n N sc) (hg : gloB sc x = true) (f : FnK G x ps k F [y] gD) (hk : k ≤ n ∧ n ≠ 0) (h : EX X E W e Γ (fun d => F W (gD [d]) K Z) Z)
    (hall : (backToKw pos (keywordEach [⟨some y, e, q1⟩] X.env)).all (·.1.isSome) = true := by rfl) (hks : (backToKw pos (keywordEach [⟨some y, e, q1⟩] X.env)).filterMap (·.1) = [y] := by rfl)
    (hpl : ((backTo pos (starEach [] X.env)).any (·.1) || (backToKw pos (keywordEach [⟨some y, e, q1⟩] X.env)).any (·.1.isNone)) = false := by rfl) : EX X E W (.Call (.Name x p) [] [⟨some y, e, q1⟩] pos) Γ K Z := fun σ H Q en hi q z => by
  obtain ⟨a, fd, g, gV, m1, m2, m3, m6, m4⟩ := f.ex
  obtain ⟨h1, h2, _⟩ := gloB_ok cn.scp hg
  rw [← cn.e1, ← cn.e2, ← cn.e3, ← cn.e4, ← cn.e5] at m4
  rw [← cn.e4] at m1
  rw [← cn.e3] at m2 m3 m6
  refine ⟨_, pe_callK0 m4 ((cn.room hk.2).mono hk.1) h1 m1 m2 m3 cn.px (pk_cons pe_U pk_nil) h2 hall hks hpl, ?_⟩
  refine h σ H _ en hi (fun d v H1 kx g1 rx => ?_) z
  exact ⟨W, _, K, Z, g1.i, m6 W H1 [d] [v] g1.i rfl ⟨v, [], rfl, rx, rfl⟩, kx, fun d v H' kd g r => q d v H' kd (g1.trans g) r, z.go g1⟩
theorem ex_kw2 {x y1 y2 : Str} {e1 e2 : Expr} {ps : List Str} {k : Nat} {F : FSpec} {gD : List D → List D} {q1 q2 : Pos} (cn : Cn G X E n N sc) (hg : gloB sc x = true) (f : FnK G x ps k F [y1, y2] gD) (hk : k ≤ n ∧ n ≠ 0) (h : EX X E W e1 Γ (fun d1 => EX X E W e2 Γ (fun d2 => F W (gD [d1, d2]) K Z) Z) Z)
    (hall : (backToKw pos (keywordEach [⟨some y1, e1, q1⟩, ⟨some y2, e2, q2⟩] X.env)).all (·.1.isSome) = true := by rfl) (hks : (backToKw pos (keywordEach [⟨some y1, e1, q1⟩, ⟨some y2, e2, q2⟩] X.env)).filterMap (·.1) = [y1, y2] := by rfl)
    (hpl : ((backTo pos (starEach [] X.env)).any (·.1) || (backToKw pos (keywordEach [⟨some y1, e1, q1⟩, ⟨some y2, e2, q2⟩] X.env)).any (·.1.isNone)) = false := by rfl) : EX X E W (.Call (.Name x p) [] [⟨some y1, e1, q1⟩, ⟨some y2, e2, q2⟩] pos) Γ K Z := fun σ H Q en hi q z => by
  obtain ⟨a, fd, g, gV, m1, m2, m3, m6, m4⟩ := f.ex
  obtain ⟨h1, h2, _⟩ := gloB_ok cn.scp hg
  rw [← cn.e1, ← cn.e2, ← cn.e3, ← cn.e4, ← cn.e5] at m4
  rw [← cn.e4] at m1
  rw [← cn.e3] at m2 m3 m6
  refine ⟨_, pe_callK0 m4 ((cn.room hk.2).mono hk.1) h1 m1 m2 m3 cn.px (pk_cons pe_U (pk_cons pe_U pk_nil)) h2 hall hks hpl, ?_⟩
  refine h σ H _ en hi (fun d1 v1 H1 k1 g1 r1 => ?_) z
  refine k1 σ H1 _ (en.go hi g1) g1.i (fun d2 v2 H2 k2 g2 r2 => ?_) (z.go g1)
  exact ⟨W, _, K, Z, g2.i, m6 W H2 [d1, d2] [v1, v2] g2.i rfl ⟨v1, [v2], rfl, r1.go g1.i g2, v2, [], rfl, r2, rfl⟩, k2, fun d v H' kd g r => q d v H' kd ((g1.trans g2).trans g) r, (z.go g1).go g2⟩
end
end DX

set_option Elab.async false
set_option linter.all false
set_option maxRecDepth 100000
set_option maxHeartbeats 2000000
/-! a def with a star parameter alone -/
namespace DX
open PySem PySem.Spec PyProof.Rows L2 StX
theorem cxUpN {P : Program} {w : World} : CXUp (L2N.CX P w) := fun outer s H s2 H2 E e s' un kp ho c => by
  obtain ⟨a, B, H', cls, d, e1, fl, hok, u2, na, os, ag, hE⟩ := c
  have fr : ∀ b o, s.heap.get? b = some o → H b = none → H2 b = none := fun b o q n => un.free b o q n (fun z => nomatch z)
  refine ⟨a, B, H', cls, d, e1, fl, hok, ?_, na, os.trans ho, ag, hE⟩
  have tb : ∀ b ps, H b = some (.tbl ps) → ∃ more, H' b = some (.tbl (ps ++ more)) := fun b ps q => by
    obtain ⟨m1, q1⟩ := un.tbls b ps q
    obtain ⟨m2, q2⟩ := u2.tbls b _ q1
    exact ⟨m1 ++ m2, q2.trans (by rw [Array.append_assoc])⟩
  exact { keep := fun b o q n h => u2.keep b o (kp b o q) (fr b o q n) h, slot := fun b o q h => u2.slot b o (kp b o q) h, free := fun b o q n => u2.free b o (kp b o q) (fr b o q n), there := fun b o q h => u2.there b o (kp b o q) h, tups := fun b xs q => u2.tups b xs (un.tups b xs q), frzs := fun b o xs q => u2.frzs b o xs (un.frzs b o xs q), tbls := tb }
structure FnS (G : Gb) (x : Str) (k : Nat) (F : FSpec) : Prop where
  ex : ∃ f, G.mg x = some (.ref f) ∧ PySem.W.keepIn G.K (.ref f) = true ∧ FnR G.prog G.w G.K G.mg G.base (L2N.CX G.prog G.w) k f (fun vs H Q E => vs.length ≤ sizeLine ∧ ∀ p, H p = none → SpD G.K F [V.ref p] (upd H p (.tup vs)) Q E)
theorem fns_intro {G : Gb} {N : List Str} {pv : Str} {m : Nat} {F : FSpec} {f : Addr} {fd : FuncData} {x qual : Str} {params : Arguments} {body : List Stmt} {scope : Scope} {kws : List (Str × V)}
    (FD : FunD G.K x qual params body scope [] kws f fd) (S : FnScope N [pv] scope) (hm : G.mg x = some (.ref f))
    (hb : ∀ (kV doc pm : Value) (an : Option Addr) (cdv ct : Value) (rest : List Value), bindArgs (PySem.W.fnOf x qual params body scope .none kV doc pm an cdv ct) ⟨rest, []⟩ = (newTuple rest >>= fun t => pure [(pv, t)]))
    (h : ∀ (X : Cx) (E : XK), Cn G X E m N scope → Df X E → PassesOwn (model X.prog X.w) X.A X.env X.xe → ∀ (W : Wd) (ds : List D) (Kc : D → Prop) (Z : ZK), F W ds Kc Z → SX X E W body (startG N ds) { n := fun _ => Kc .non, r := Kc } Z) : FnS G x (m + 1) F := by
  obtain ⟨oc, od, dV, kV, doc, pm, an, cdv, ct, osl, rfl, lk, hcd, hD, _⟩ := FD.ex
  obtain rfl : dV = .none := hD.elim (fun z => z.2) fun z => absurd rfl z.1
  refine ⟨f, hm, FD.kp, ?_⟩
  have R := fn_star (CX := L2N.CX G.prog G.w) (P := G.prog) (w := G.w) (mg := G.mg) (base := G.base) (k := m) (N := N) (ps := []) (pv := pv) (sp := SpD G.K F) lk hcd S cxUpN (fun us rest hl => by
    cases us with
    | nil => exact hb kV doc pm an cdv ct rest
    | cons a r => cases hl) fun A outer s H vs Q E hr hsp => by
    obtain ⟨W, ds, Kc, Z, hi, rp, hF, hq, hz⟩ := hsp
    have tk : L2N.Takes (cxOf (L2N.CX G.prog G.w) G.prog G.w G.K G.mg G.base N qual scope f cdv A outer s H E) (fun cls d _ H' => E cls d H') := L2N.takes_of rfl rfl rfl rfl
    exact ⟨_, pss_U, h _ E ⟨rfl, rfl, rfl, rfl, rfl, fun _ => rfl, fun _ => hr, un_room hr, rfl, S.nd, rfl, L2N.passes_call tk fun _ _ _ _ z => z⟩ ⟨fun _ => rfl, rfl, rfl, rfl, tk⟩ (passes_of rfl) W ds Kc Z hF (L2.start N vs) H _ (env_start rp) hi ⟨fun Γ σ H' k g e => hq _ _ H' k g rfl, fun d v H' k g r => hq d v H' k g r, fun _ _ _ z => z.elim, fun _ _ _ z => z.elim⟩ hz⟩
  intro A outer s H us vs Q E hr e0 r hsp
  exact R A outer s H us vs Q E hr e0 r ⟨[], vs, rfl, rfl, hsp.1, fun p hp => hsp.2 p hp⟩
section
variable {G : Gb} {X : Cx} {E : XK} {n : Nat} {N : List Str} {sc : Scope} {W : Wd} {Γ : List (Option D)} {Z : ZK} {K : D → Prop} {pos p p2 : Pos}
theorem star_sp {F : FSpec} {ds : List D} {vs : List V} {H : Hp} {Q : VK} (hi : W.I H) (rp : RpL X.K W H ds vs) (hl : ds.length ≤ 100000) (hF : F W [.tup ds] K Z) (hq : ∀ d v H', K d → Go W H H' → Rp X.K W H' d v → Q v H') (z : ZOk X.K W H E Z) :
    vs.length ≤ sizeLine ∧ ∀ p, H p = none → SpD X.K F [V.ref p] (upd H p (.tup vs)) Q E := by
  refine ⟨by rw [rp.len]; exact Nat.le_trans hl (by decide), fun q hn => ?_⟩
  have g : Go W H (upd H q (.tup vs)) := Go.new hi hn
  exact ⟨W, [.tup ds], K, Z, g.i, ⟨.ref q, [], rfl, ⟨q, vs, rfl, SqT.of upd_same, rp.go hi g⟩, rfl⟩, hF, fun d v H' k g2 r => hq d v H' k (g.trans g2) r, z.go g⟩
theorem ex_callS {x : Str} {e : Expr} {es : List Expr} {k : Nat} {F : FSpec} (cn : Cn G X E n N sc) (hg : gloB sc x = true) (f : FnS G x k F) (hk : k ≤ n ∧ n ≠ 0) (h : AX X E W (e :: es) Γ (fun ds => ds.length ≤ 100000 ∧ F W [.tup ds] K Z) Z)
    (he : starEach (e :: es) X.env = (false, eval e X.env) :: starEach es X.env := by rfl) (hpl : (backTo pos (starEach es X.env)).any (·.1) = false := by rfl) : EX X E W (.Call (.Name x p) (e :: es) [] pos) Γ K Z := fun σ H Q en hi q z => by
  obtain ⟨a, m1, m2, m4⟩ := f.ex
  obtain ⟨h1, h2, _⟩ := gloB_ok cn.scp hg
  rw [← cn.e1, ← cn.e2, ← cn.e3, ← cn.e4, ← cn.e5] at m4
  rw [← cn.e4] at m1
  rw [← cn.e3] at m2
  refine ⟨fun σ H Q => tUA X (e :: es) σ H fun vs H1 => vs.length ≤ sizeLine ∧ ∀ p, H1 p = none → SpD X.K F [V.ref p] (upd H1 p (.tup vs)) Q E, ⟨fun pins s σ H Q I ht => ?_⟩, h σ H _ en hi (fun ds vs H1 kx g r => star_sp g.i r kx.1 kx.2 (fun d v H' k g2 r2 => q d v H' k (g.trans g2) r2) (z.go g)) z⟩
  refine wpAny_Call_Name_kw (ld_glob I h1 m1 (PySem.W.callWith_K (h₀ := X.base) I.ok.mod.kin m2 (thn (pa_U.run pos pins s σ H _ I ht) fun us s1 hh => ?_) he hpl) h2)
  obtain ⟨vs, H1, I1, r, hq⟩ := hh
  exact ⟨I1.kIn, wpAny_call (run_fnR m4 ((cn.room hk.2).mono hk.1) cn.px I1 r hq)⟩
theorem ex_callS0 {x : Str} {k : Nat} {F : FSpec} (cn : Cn G X E n N sc) (hg : gloB sc x = true) (f : FnS G x k F) (hk : k ≤ n ∧ n ≠ 0) (h : F W [.tup []] K Z) : EX X E W (.Call (.Name x p) [] [] pos) Γ K Z := fun σ H Q en hi q z => by
  obtain ⟨a, m1, m2, m4⟩ := f.ex
  obtain ⟨h1, h2, _⟩ := gloB_ok cn.scp hg
  rw [← cn.e1, ← cn.e2, ← cn.e3, ← cn.e4, ← cn.e5] at m4
  rw [← cn.e4] at m1
  rw [← cn.e3] at m2
  refine ⟨fun σ H Q => ([] : List V).length ≤ sizeLine ∧ ∀ p, H p = none → SpD X.K F [V.ref p] (upd H p (.tup [])) Q E, ⟨fun pins s σ H Q I ht => ?_⟩, star_sp (ds := []) hi rfl (by decide) h q z⟩
  exact wpAny_Call_Name_kw (ld_glob I h1 m1 (PySem.W.callWith_K0 I.kIn m2 (wpAny_call (run_fnR (us := []) m4 ((cn.room hk.2).mono hk.1) cn.px I .nil ht))) h2)
end
end DX

set_option Elab.async false
set_option linter.all false
set_option maxRecDepth 100000
set_option maxHeartbeats 2000000
/-! what the head tells of own errors, as Bools -/
namespace DX
open PySem PySem.Spec PyProof.Rows L2
def clsB (C : Addr) (cd : ClassData) (sl : List (Option Value)) : Bool := match cd.mro, sl with
  | .ref C' :: bm, [_, _, _, _, some (.builtin n), _] => decide (C' = C) && (decide (n = "ValueError.__new__") && (!cd.hasDel && (cd.hasDict && PySem.HandSPX.refsVE bm)))
  | _, _ => false
def oexB (K : PySem.W.Frag) (C : Addr) : Bool := (match K.lookup C with
  | some ⟨.type t, _, .cls cd, sl⟩ => decide (t = "type") && clsB C cd sl.toList
  | _ => false) && (decide (PySem.W.findIn K (.ref C) "__setattr__" = some (some (.builtin "object.__setattr__"))) && (decide (PySem.W.subIn K (.ref C) (.type "BaseException") = some true) && (decide (PySem.W.typeIn K (.ref C) = some (.type "type")) && PySem.W.keepIn K (.ref C))))
theorem clsB_ok {C : Addr} {t : String} {dd : Option Addr} {cd : ClassData} {sl : Array (Option Value)} (ht : t = "type") (h : clsB C cd sl.toList = true) :
    ∃ nm q N bs bm sn sub ab col d k0 k1 k2 k3 k5, (⟨.type t, dd, .cls cd, sl⟩ : Obj) = excClassObj nm q C N bs bm true sn sub ab col d k0 k1 k2 k3 k5 "ValueError.__new__" ∧ PySem.HandSPX.refsVE bm = true := by
  subst ht
  obtain ⟨nm, bs, mro, ns, qn, hd, sn, sub, ab, col, del⟩ := cd
  unfold clsB at h
  dsimp only at h
  split at h
  · rename_i C' bm x1 x2 x3 x4 n x5 e1
    simp only [Bool.and_eq_true, decide_eq_true_eq, Bool.not_eq_true'] at h
    obtain ⟨rfl, rfl, rfl, rfl, hr⟩ := h
    refine ⟨nm, qn, ns, bs, bm, sn, sub, ab, col, dd, x1, x2, x3, x4, x5, ?_, hr⟩
    have e2 : sl = #[x1, x2, x3, x4, some (.builtin "ValueError.__new__"), x5] := Array.toList_inj.mp e1
    rw [e2]
  · cases h
theorem oexB_ok {K : PySem.W.Frag} {C : Addr} (h : oexB K C = true) : OexC K C := by
  obtain ⟨h1, h⟩ := Bool.and_eq_true_iff.mp h
  obtain ⟨h2, h⟩ := Bool.and_eq_true_iff.mp h
  obtain ⟨h3, h⟩ := Bool.and_eq_true_iff.mp h
  obtain ⟨h4, h5⟩ := Bool.and_eq_true_iff.mp h
  refine ⟨?_, of_decide_eq_true h2, of_decide_eq_true h3, of_decide_eq_true h4, h5⟩
  split at h1
  · rename_i t dd cd sl e
    obtain ⟨t1, t2⟩ := Bool.and_eq_true_iff.mp h1
    obtain ⟨nm, q, N, bs, bm, sn, sub, ab, col, d, k0, k1, k2, k3, k5, eo, hr⟩ := clsB_ok (dd := dd) (of_decide_eq_true t1) t2
    exact ⟨nm, q, N, bs, bm, sn, sub, ab, col, d, k0, k1, k2, k3, k5, by rw [← eo]; exact e, hr⟩
  · cases h1
def binB (K : PySem.W.Frag) (B : Addr) : Bool := PySem.W.readsIn K B (.type "type") && (decide (PySem.W.specialIn K (.ref B) "__getattribute__" = some (some (.builtin "type.__getattribute__"))) && (match PySem.W.findCls K (.ref B) (.type "type") "__init__" with
  | some (.val (.builtin n)) => decide (n = "ValueError.__init__")
  | _ => false))
theorem binB_ok {K : PySem.W.Frag} {B : Addr} (h : binB K B = true) : BInit K B := by
  obtain ⟨h1, h⟩ := Bool.and_eq_true_iff.mp h
  obtain ⟨h2, h3⟩ := Bool.and_eq_true_iff.mp h
  refine ⟨h1, of_decide_eq_true h2, ?_⟩
  split at h3
  · rename_i n e
    rw [e, of_decide_eq_true h3]
  · cases h3
end DX

set_option Elab.async false
set_option linter.all false
set_option maxRecDepth 100000
set_option maxHeartbeats 2000000
/-! a head's facts, told of what the module's names and the statics reach -/
namespace DX
open PySem PySem.Spec PyProof.Rows L2
def asS (g : Addr → Option Obj) : Nat → List Addr
  | 0 => [mainGlobals, cStatics]
  | n + 1 => He.growD g (asS g n)
abbrev kS (n : Nat) (g : Addr → Option Obj) : PySem.W.Frag := He.frT g (asS g n)
def obsS (n : Nat) (fa : List He.Fa) (fn : List He.DefD) (tf : List He.Defn) (ex : PySem.W.Frag → Bool) (g : Addr → Option Obj) : He.AlX := (He.obsT fa fn [] (kS n g), ex (kS n g) && He.tabsB g tf (kS n g))
theorem saysS {n : Nat} {fa : List He.Fa} {fn : List He.DefD} {tf : List He.Defn} {ex : PySem.W.Frag → Bool} {w : World} {h : Heap} (e : obsS n fa fn tf ex h.get? = He.valX fn [] w) : He.SaysX fa fn [] tf ex w h (kS n h.get?) := by
  have e1 : He.obsT fa fn [] (kS n h.get?) = He.valT fn [] w := congrArg Prod.fst e
  have e2 : (ex (kS n h.get?) && He.tabsB h.get? tf (kS n h.get?)) = true := congrArg Prod.snd e
  obtain ⟨x1, x2⟩ := Bool.and_eq_true_iff.mp e2
  have one : ∀ p ∈ tf, PySem.W.codeHdIn (kS n h.get?) (He.cT (kS n h.get?) p).1 (He.cT (kS n h.get?) p).2 = true ∧ ∃ o, h.get? (He.cT (kS n h.get?) p).2 = some o ∧ He.emptyTab o = true := fun p hp => by
    obtain ⟨y1, y2⟩ := Bool.and_eq_true_iff.mp (List.all_eq_true.mp x2 p hp)
    refine ⟨y1, ?_⟩
    generalize h.get? (He.cT (kS n h.get?) p).2 = r at y2
    cases r with
    | none => cases y2
    | some o => exact ⟨o, rfl, y2⟩
  refine ⟨e1, x1, fun p hp => (one p hp).1, fun p hp => ?_, fun p hp => ?_⟩
  · obtain ⟨_, o, q, z⟩ := one p hp
    exact He.frT_none q z
  · obtain ⟨_, o, q, z⟩ := one p hp
    rw [q, He.emptyTab_eq z]
def hookS (n : Nat) (fa : List He.Fa) (fn : List He.DefD) (tf : List He.Defn) (ex : PySem.W.Frag → Bool) : PySem.W.Hook where
  α := He.AlX
  obs := fun s => obsS n fa fn tf ex s.heap.get?
  val := fun w => He.valX fn [] w
  says := fun w h => ∃ K : PySem.W.Frag, K.In h ∧ He.SaysX fa fn [] tf ex w h K
  of := fun _ _ e => ⟨_, He.frT_in, saysS e⟩
  keeps := fun _ _ _ z k => z.elim fun K z => ⟨K, z.1.keeps k, ⟨z.2.t, z.2.more, z.2.hd, z.2.out, fun p hp => k _ _ (z.2.empty p hp)⟩⟩
theorem obsS_eq {n : Nat} {fa : List He.Fa} {fn : List He.DefD} {tf : List He.Defn} {ex : PySem.W.Frag → Bool} {g : Addr → Option Obj} {s : Shared} (h : ∀ a, g a = s.heap.get? a) : obsS n fa fn tf ex g = (hookS n fa fn tf ex).obs s := by
  obtain rfl : g = s.heap.get? := funext h
  rfl
end DX

set_option Elab.async false
set_option linter.all false
set_option maxRecDepth 100000
set_option maxHeartbeats 2000000
/-! a def's promise, its binding told elsewhere; dict displays; names bound at once that lambdas read, too -/
namespace DX
open PySem PySem.Spec PyProof.Rows L2
theorem ok_intro {G : Gb} {N ps : List Str} {m : Nat} {F : FSpec} {f : Addr} {fd : FuncData} {x qual : Str} {params : Arguments} {body : List Stmt} {scope : Scope} {dvs : List V} {kws : List (Str × V)}
    (FD : FunD G.K x qual params body scope dvs kws f fd) (S : FnScope N ps scope) (hlen : ∀ W ds Kc Z, F W ds Kc Z → ds.length = ps.length)
    (h : ∀ (X : Cx) (E : XK), Cn G X E m N scope → Df X E → PassesOwn (model X.prog X.w) X.A X.env X.xe → ∀ (W : Wd) (ds : List D) (Kc : D → Prop) (Z : ZK), F W ds Kc Z → SX X E W body (startG N ds) { n := fun _ => Kc .non, r := Kc } Z) : FnOk G.prog G.w G.K G.mg G.base (L2N.CX G.prog G.w) (m + 1) f fd ps (SpD G.K F) := by
  refine FD.ok S (fun vs H Q E hsp => ?_) (fun cdv A outer s H vs Q E hr hsp => ?_)
  · obtain ⟨W, ds, Kc, Z, hi, rp, hF, _⟩ := hsp
    rw [rp.len]; exact hlen W ds Kc Z hF
  · obtain ⟨W, ds, Kc, Z, hi, rp, hF, hq, hz⟩ := hsp
    have tk : L2N.Takes (cxOf (L2N.CX G.prog G.w) G.prog G.w G.K G.mg G.base N qual scope f cdv A outer s H E) (fun cls d _ H' => E cls d H') := L2N.takes_of rfl rfl rfl rfl
    refine ⟨_, pss_U, h _ E ⟨rfl, rfl, rfl, rfl, rfl, fun _ => rfl, fun _ => hr, un_room hr, rfl, S.nd, rfl, L2N.passes_call tk fun _ _ _ _ z => z⟩ ⟨fun _ => rfl, rfl, rfl, rfl, tk⟩ (passes_of rfl) W ds Kc Z hF (L2.start N vs) H _ (env_start rp) hi ⟨fun Γ σ H' k g e => hq _ _ H' k g rfl, fun d v H' k g r => hq d v H' k g r, fun _ _ _ z => z.elim, fun _ _ _ z => z.elim⟩ hz⟩
/-- its default values as trees -/
theorem FnB.of {G : Gb} {x : Str} {ps : List Str} {k : Nat} {F : FSpec} {dD : List D} {f : Addr} {fd : FuncData} {ds : List Value} {dvs : List V} (hm : G.mg x = some (.ref f)) (kp : PySem.W.keepIn G.K (.ref f) = true) (hb : Binds G.K fd ps ds) (hv : Vals dvs ds) (hr : ∀ W H, W.I H → RpL G.K W H dD dvs)
    (ok : FnOk G.prog G.w G.K G.mg G.base (L2N.CX G.prog G.w) k f fd ps (SpD G.K F)) : FnB G x ps k F dD := ⟨f, fd, ds, dvs, hm, kp, hb, hv, hr, ok⟩
/-! ### dict displays -/
section
variable {G : Gb} {X : Cx} {E : XK} {n : Nat} {N : List Str} {sc : Scope} {W : Wd} {Γ : List (Option D)} {Z : ZK} {K : D → Prop} {pos p p2 : Pos}
theorem ex_dic0 (k : K (.dic [] [])) : EX X E W (.Dict [] [] pos) Γ K Z := fun σ H Q en hi q z => by
  refine ⟨_, pe_dnewK, fun a ha => ?_⟩
  have g : Go W H (upd H a (.dK [])) := Go.new hi ha
  exact q _ _ _ k g ⟨a, [], rfl, W.out hi ha, upd_same, rfl, rfl⟩
/-- {'a': [1, (True, None)]} -/
theorem ex_dicO {x : Str} {i : Int} {b : Bool} {j0 j1 j2 j3 : Nat} {kk : Nat} {p0 p1 p2 p3 p4 p5 : Pos} (k : K (.dic [.inr x] [.lst [.int i, .tup [.bl b, .non]]])) :
    EX X E W (.Dict [some (.Constant (.str x) j0 p0)] [.List [.Constant (.int i) j1 p1, .Tuple [.Constant (.bool b) j2 p2, .Constant .none j3 p3] kk p4] p5] pos) Γ K Z := fun σ H Q en hi q z => by
  refine ⟨_, pe_disp (pps_cons pe_str (pe_lst (pa_cons pe_int (pa_cons (pe_tup (pa_cons pe_bl (pa_cons pe_non pa_nil))) pa_nil))) pps_nil) rfl rfl (by simp) (by show 1 ≤ 15; decide), fun a ha => ?_⟩
  refine ⟨(show 2 ≤ sizeLine by decide), fun t ht => ⟨(show 2 ≤ sizeLine by decide), fun l hl => ?_⟩⟩
  have nt : t ≠ a := fun e => by rw [e, upd_same] at ht; cases ht
  rw [upd_ne nt] at ht
  have nl : l ≠ t := fun e => by rw [e, upd_same] at hl; cases hl
  rw [upd_ne nl] at hl
  have na : l ≠ a := fun e => by rw [e, upd_same] at hl; cases hl
  rw [upd_ne na] at hl
  refine ⟨by rw [upd_ne (Ne.symm na), upd_ne (Ne.symm nt), upd_same], [(.inr x, .ref l)], rfl, by show 1 ≤ 15; decide, ?_⟩
  have e : upd (upd (upd (upd H a (.dK [])) t (.tup [.bl b, .non])) l (.lst [.int i, .ref t])) a (.dK [(.inr x, .ref l)]) = upd (upd (upd H a (.dK [(.inr x, .ref l)])) t (.tup [.bl b, .non])) l (.lst [.int i, .ref t]) := by
    funext c
    by_cases c1 : c = a
    · subst c1
      rw [upd_same, upd_ne (Ne.symm na), upd_ne (Ne.symm nt), upd_same]
    · rw [upd_ne c1]
      by_cases c2 : c = l
      · subst c2; rw [upd_same, upd_same]
      · rw [upd_ne c2, upd_ne c2]
        by_cases c3 : c = t
        · subst c3; rw [upd_same, upd_same]
        · rw [upd_ne c3, upd_ne c3, upd_ne c1, upd_ne c1]
  show Q (.ref a) (upd (upd (upd (upd H a (.dK [])) t (.tup [.bl b, .non])) l (.lst [.int i, .ref t])) a (.dK [(.inr x, .ref l)]))
  rw [e]
  have g1 : Go W H (upd H a (.dK [(.inr x, .ref l)])) := Go.new hi ha
  have ht' : upd H a (.dK [(.inr x, .ref l)]) t = none := by rw [upd_ne nt]; exact ht
  have g2 : Go W _ (upd (upd H a (.dK [(.inr x, .ref l)])) t (.tup [.bl b, .non])) := Go.new g1.i ht'
  have hl' : upd (upd H a (.dK [(.inr x, .ref l)])) t (.tup [.bl b, .non]) l = none := by rw [upd_ne nl, upd_ne na]; exact hl
  have g3 : Go W _ (upd (upd (upd H a (.dK [(.inr x, .ref l)])) t (.tup [.bl b, .non])) l (.lst [.int i, .ref t])) := Go.new g2.i hl'
  refine q _ _ _ k ((g1.trans g2).trans g3) ⟨a, [.ref l], rfl, W.out hi ha, by rw [upd_ne (Ne.symm na), upd_ne (Ne.symm nt), upd_same]; rfl, rfl, .ref l, [], rfl, ?_, rfl⟩
  refine ⟨l, [.int i, .ref t], rfl, W.out g2.i hl', upd_same, .int i, [.ref t], rfl, rfl, .ref t, [], rfl, ?_, rfl⟩
  exact ⟨t, [.bl b, .non], rfl, SqT.of (by rw [upd_ne (Ne.symm nl), upd_same]), .bl b, [.non], rfl, rfl, .non, [], rfl, rfl, rfl⟩
/-- str of a number from 0 on -/
theorem ex_strc {e : Expr} (cn : Cn G X E n N sc) (hg : gloB sc "str" = true) (hm : G.mg "str" = none) (h : EX X E W e Γ (fun x => ∃ i : Nat, x = .int i ∧ i < 2 ^ 1900 ∧ ∀ z : Str, z.length ≤ 2000 → z = Str.ofString (toString (i : Int)) → K (.str z)) Z) (he : starEach [e] X.env = (false, eval e X.env) :: starEach [] X.env := by rfl) : EX X E W (.Call (.Name "str" p) [e] [] pos) Γ K Z :=
  ex_callTy cn call_str_int hg hm (by decide +kernel) (ax_cons (h.imp fun x ⟨i, e, hl, k⟩ => ax_nil (rc1 (d := .str (Str.ofString (toString (i : Int)))) (fun v H Q rx hi q => by
    subst e
    rw [show v = _ from rx]
    refine ⟨_, rfl, ?_, q _ rfl⟩
    have l2 := PySem.Flt.log2_lt_of (n := i) (k := 1900) (by decide) hl
    show i.log2 < 1920
    omega) (k _ (by
      show (Str.ofString (toString ((i : Nat) : Int))).length ≤ 2000
      have hn := TL.numL_len (n := i) (k := 1900) (by decide) (Nat.lt_trans hl (by decide +kernel))
      rw [TL.len_tl, TL.tl_num]
      omega) rfl))) he) he (by rfl)
end
end DX

set_option Elab.async false
set_option linter.all false
set_option maxRecDepth 100000
set_option maxHeartbeats 2000000
/-! the law's own def: its bag made, the world with it -/
namespace DX
open PySem PySem.Spec PyProof.Rows L2
theorem code_of {K : PySem.W.Frag} {x qual : Str} {params : Arguments} {body : List Stmt} {scope : Scope} {dvs : List V} {kws : List (Str × V)} {p : Str × Option Str} {fd : FuncData} (FD : FunD K x qual params body scope dvs kws (He.fAd K p) fd) : fd.code = .ref (He.codeOf K p) := by
  obtain ⟨oc, od, dV, kV, doc, pm, an, cdv, ct, osl, rfl, lk, hcd, _, _⟩ := FD.ex
  obtain ⟨c, hc⟩ := He.codeIn_ref hcd
  show cdv = _
  rw [He.codeOf_eq lk hc]
  exact hc
theorem sqL_go {K : PySem.W.Frag} {W : Wd} {H H' : Hp} {a : Addr} {xs : List V} (n : ¬ W.S a) (e : Ex W H H') (h : SqL K H a xs) : SqL K H' a xs := by
  rcases h with (h | ⟨o, h⟩) | h
  · exact .inl (.inl (e.1 a _ n h fun _ z => by cases z))
  · exact .inl (.inr ⟨o, e.1 a _ n h fun _ z => by cases z⟩)
  · exact .inr h
theorem cutL_map {α β : Type} (f : α → β) (xs : List α) (lo hi : Option Int) : cutL (xs.map f) lo hi = (cutL xs lo hi).map f := by
  unfold cutL
  rw [List.length_map, ← List.map_drop, ← List.map_take]
theorem cutL_len63 {α : Type} (xs : List α) : (cutL xs none (some 63)).length ≤ 63 := by
  unfold cutL
  have e : HT.sIx xs.length xs.length (some 63) = min 63 xs.length := HT.sIx_nat _ _ 63
  rw [List.length_take, List.length_drop, e, HT.sIx_none]
  omega
/-- the script, a list from outside, known by its address -/
def Scr (Kf : PySem.W.Frag) (W : Wd) (A : Addr) (ns : List Int) : Prop := ∀ H, W.I H → SqL Kf H A (ns.map V.int)
section
variable {G : Gb} {X : Cx} {E : XK} {n : Nat} {N : List Str} {sc : Scope} {W : Wd} {Γ : List (Option D)} {Z : ZK} {K : D → Prop} {pos p p2 : Pos}
theorem ex_sliceA {a : Expr} {lo hi : Option Expr} (cn : Cn G X E n N sc) (h : EX X E W a Γ (fun x => ∃ A ns, x = .adr A ∧ Scr G.K W A ns ∧ PX X E W lo Γ (fun l => PX X E W hi Γ (fun u => K (.lst ((cutL ns l u).map .int))) Z) Z) Z) : EX X E W (.Subscript a (.Slice lo hi none p2) pos) Γ K Z := fun σ H Q en hi' q z => by
  refine ⟨_, pe_slice (sl_list.or (sl_tup.or sl_str)) pe_U po_U po_U, ?_⟩
  refine h σ H _ en hi' (fun x v H1 kx g1 rx => ?_) z
  obtain ⟨A, ns, rfl, hs, kx⟩ := kx
  obtain rfl : v = V.ref A := rx
  refine kx σ H1 _ (en.go hi' g1) g1.i (fun l H2 kl g2 => ?_) (z.go g1)
  refine kl σ H2 _ ((en.go hi' g1).go g1.i g2) g2.i (fun u H3 ku g3 => ?_) ((z.go g1).go g2)
  have g := (g1.trans g2).trans g3
  refine .inl ⟨A, ns.map V.int, rfl, by rw [← cn.e3] at hs; exact hs H3 g3.i, fun b hb => ?_⟩
  have g4 : Go W H3 (upd H3 b (.lst (cutV (ns.map V.int) l u))) := Go.new g3.i hb
  refine q _ _ _ ku (g.trans g4) ⟨b, _, rfl, W.out g3.i hb, upd_same, ?_⟩
  have e : cutV (ns.map V.int) l u = (cutL ns l u).map V.int := cutL_map V.int ns l u
  rw [e]
  exact RpL.ints
end
/-- a bag, new -/
def bag0 (cells : List Int) : D := .lst [.lst (cells.map .int), .int 0, .int 0, .int (12035 + 37 * cells.length), .int 0]
def F_bag (Kf : PySem.W.Frag) : FSpec := fun W ds K Z => ∃ A ns, ds = [.adr A] ∧ Scr Kf W A ns ∧ ∀ cells : List Int, cells.length ≤ 63 → K (bag0 cells)
/-- the world of a law: its bag at b, cells at c -/
def Wd.law (b c : Addr) (T : List (Addr × Str)) : Wd where
  S := fun a => a = b
  b := b
  T := T
  I := fun H => (∃ xs, H b = some (.lst xs) ∧ BagC H c xs) ∧ c ≠ b ∧ LamX.Tabs T H
  dom := fun H i a s => by
    obtain ⟨⟨xs, e, _⟩, _⟩ := i
    rw [show a = b from s]
    exact ⟨xs, e⟩
  st := fun H H' i k ex => by
    obtain ⟨⟨xs, e, cells, j, g, s, m, e1, e2, r⟩, n, t⟩ := i
    exact ⟨⟨xs, by rw [k b rfl]; exact e, cells, j, g, s, m, e1, ex.1 c _ (fun z => n z) e2 (fun _ z => by cases z), r⟩, n, ex.2 t⟩
theorem bagged_law {b c : Addr} {T : List (Addr × Str)} : Bagged (Wd.law b c T) where
  s := rfl
  at_ := fun H i => by
    obtain ⟨⟨xs, e, hb⟩, n, t⟩ := i
    exact ⟨c, xs, e, n, fun z => n z, hb⟩
  put := fun H c' xs ys i e b1 b2 => by
    obtain ⟨⟨xs', e', hb'⟩, n, t⟩ := i
    have exs : xs' = xs := by
      have := e'.symm.trans e
      simpa using this
    subst exs
    have ec : c' = c := by
      obtain ⟨cells, j, g, s, m, e1, _⟩ := b1
      obtain ⟨cells', j', g', s', m', e1', _⟩ := hb'
      have := e1.symm.trans e1'
      simp at this
      exact this.1
    subst ec
    refine ⟨⟨ys, upd_same, ?_⟩, n, ?_⟩
    · obtain ⟨cells, j, g, s, m, e1, e2, r⟩ := b2
      exact ⟨cells, j, g, s, m, e1, (upd_ne (H := H) (o := .lst ys) n).trans e2, r⟩
    · exact tabs_of (fun a o ea no => by
        have na : a ≠ b := fun z => by subst z; rw [e'] at ea; cases ea; exact no _ rfl
        exact (upd_ne na).trans ea) t
theorem tabW_law {b c : Addr} {T : List (Addr × Str)} : TabW (Wd.law b c T) T := ⟨rfl, fun H i => i.2.2⟩
/-- the world ahead of the bag -/
def Wd.pre (Kf : PySem.W.Frag) (A : Addr) (ns : List Int) (T : List (Addr × Str)) : Wd where
  S := fun _ => False
  b := 0
  T := T
  I := fun H => SqL Kf H A (ns.map V.int) ∧ LamX.Tabs T H
  dom := fun H i a s => s.elim
  st := fun H H' i k ex => ⟨by
    rcases i.1 with (h | ⟨o, h⟩) | h
    · exact .inl (.inl (ex.1 A _ (fun z => z) h fun _ z => by cases z))
    · exact .inl (.inr ⟨o, ex.1 A _ (fun z => z) h fun _ z => by cases z⟩)
    · exact .inr h, ex.2 i.2⟩
theorem scr_pre {Kf : PySem.W.Frag} {A : Addr} {ns : List Int} {T : List (Addr × Str)} : Scr Kf (Wd.pre Kf A ns T) A ns := fun H i => i.1
def spLaw (Kf : PySem.W.Frag) (T : List (Addr × Str)) : Sp := fun vs H Q E => ∃ (A : Addr) (ns : List Int), vs = [.ref A] ∧ SqL Kf H A (ns.map V.int) ∧ LamX.Tabs T H ∧ ∀ H', Q (.bl true) H'
/-- the law's def: its bag made by the first statement -/
theorem law_ok {G : Gb} {N : List Str} {m : Nat} {T : List (Addr × Str)} {f : Addr} {fd : FuncData} {x y qual : Str} {params : Arguments} {body rest : List Stmt} {st0 : Stmt} {scope : Scope} {dvs : List V} {kws : List (Str × V)}
    (FD : FunD G.K x qual params body scope dvs kws f fd) (hbody : body = st0 :: rest) (S : FnScope N [y] scope) (hN : 2 ≤ N.length)
    (h0 : ∀ (X : Cx) (E : XK), Cn G X E m N scope → Df X E → ∀ (W : Wd) (A : Addr) (ns : List Int), Scr G.K W A ns → S1 X E W st0 (startG N [.adr A]) { n := fun Γ' => ∃ cells : List Int, cells.length ≤ 63 ∧ Γ' = (startG N [.adr A]).set 1 (some (bag0 cells)), r := fun _ => False } Z0)
    (h : ∀ (X : Cx) (E : XK), Cn G X E m N scope → Df X E → PassesOwn (model X.prog X.w) X.A X.env X.xe → ∀ (W : Wd) (A : Addr), Bagged W → TabW W T → SX X E W rest ((startG N [.adr A]).set 1 (some .bag)) { n := fun _ => False, r := fun d => d = .bl true } Z0) :
    FnOk G.prog G.w G.K G.mg G.base (L2N.CX G.prog G.w) (m + 1) f fd [y] (spLaw G.K T) := by
  subst hbody
  refine FD.ok S (fun vs H Q E hsp => ?_) (fun cdv A outer s H vs Q E hr hsp => ?_)
  · obtain ⟨_, _, rfl, _⟩ := hsp
    rfl
  · obtain ⟨A0, ns, rfl, hs, ht, hq⟩ := hsp
    have tk : L2N.Takes (cxOf (L2N.CX G.prog G.w) G.prog G.w G.K G.mg G.base N qual scope f cdv A outer s H E) (fun cls d _ H' => E cls d H') := L2N.takes_of rfl rfl rfl rfl
    have cn : Cn G (cxOf (L2N.CX G.prog G.w) G.prog G.w G.K G.mg G.base N qual scope f cdv A outer s H E) E m N scope := ⟨rfl, rfl, rfl, rfl, rfl, fun _ => rfl, fun _ => hr, un_room hr, rfl, S.nd, rfl, L2N.passes_call tk fun _ _ _ _ z => z⟩
    have df : Df (cxOf (L2N.CX G.prog G.w) G.prog G.w G.K G.mg G.base N qual scope f cdv A outer s H E) E := ⟨fun _ => rfl, rfl, rfl, rfl, tk⟩
    refine ⟨_, pss_cons ps_U pss_U, ?_⟩
    have i0 : (Wd.pre G.K A0 ns T).I H := ⟨hs, ht⟩
    have r0 : RpL G.K (Wd.pre G.K A0 ns T) H [.adr A0] [V.ref A0] := ⟨_, [], rfl, rfl, rfl⟩
    refine h0 _ E cn df (Wd.pre G.K A0 ns T) A0 ns scr_pre (L2.start N [.ref A0]) H _ (env_start r0) i0 ⟨fun Γ' σ' H' hn g en => ?_, fun _ _ _ z => z.elim, fun _ _ _ z => z.elim, fun _ _ _ z => z.elim⟩ zok0
    obtain ⟨cells, hl, rfl⟩ := hn
    have hlen : 1 < (startG N [.adr A0]).length := by
      unfold startG
      simp
      omega
    obtain ⟨v, e1, rv⟩ := en.2 1 (bag0 cells) (List.getElem?_set_self hlen)
    obtain ⟨b, xs, rfl, _, eb, rl⟩ := rv
    obtain ⟨v1, r1, rfl, q1, v2, r2, rfl, q2, v3, r3, rfl, q3, v4, r4, rfl, q4, v5, r5, rfl, q5, q6⟩ := rl
    obtain ⟨c, cs, rfl, _, ec, rc⟩ := q1
    cases (show v2 = _ from q2)
    cases (show v3 = _ from q3)
    cases (show v4 = _ from q4)
    cases (show v5 = _ from q5)
    cases (show r5 = [] from q6)
    have hcs := RpL.toInts rc
    subst hcs
    have nbc : c ≠ b := fun z => by
      subst z
      have e := eb.symm.trans ec
      cases cells with
      | nil => simp at e
      | cons a l => simp at e
    have i1 : (Wd.law b c T).I H' := ⟨⟨_, eb, cells, 0, 0, 12035 + 37 * cells.length, 0, rfl, ec, hl, by decide, by decide, by omega, by omega, by decide⟩, nbc, g.i.2⟩
    refine h _ E cn df (passes_of rfl) (Wd.law b c T) A0 bagged_law tabW_law σ' H' _ ?_ i1 ⟨fun _ _ _ z => z.elim, fun d v H2 kd _ r => ?_, fun _ _ _ z => z.elim, fun _ _ _ z => z.elim⟩ zok0
    · refine ⟨by rw [List.length_set]; have := en.1; rw [List.length_set] at this; exact this, fun i d hd => ?_⟩
      by_cases hi : i = 1
      · subst hi
        rw [List.getElem?_set_self hlen] at hd
        cases hd
        exact ⟨_, e1, rfl⟩
      · rw [List.getElem?_set_ne (Ne.symm hi)] at hd
        cases i with
        | zero =>
          have : d = .adr A0 := by
            unfold startG at hd
            simpa using hd.symm
          subst this
          obtain ⟨w, a1, a2⟩ := en.2 0 (.adr A0) (by rw [List.getElem?_set_ne (by decide)]; exact hd)
          exact ⟨w, a1, a2⟩
        | succ j =>
          exfalso
          unfold startG at hd
          simp at hd
          rw [List.getElem?_replicate] at hd
          split at hd <;> cases hd
    · subst kd
      cases (show v = _ from r)
      exact hq H2
end DX

set_option Elab.async false
set_option linter.all false
set_option maxRecDepth 100000
set_option maxHeartbeats 2000000
/-! defs that make lambdas; an own error's fields -/
namespace DX
open PySem PySem.Spec PyProof.Rows L2
theorem look_c {nm : Str} {a b : D} : look "code" ["code", nm] [a, b] = some a := by
  simp [look, List.lookup]
theorem look_n {nm : Str} {a b : D} (h : (nm == "code") = false) : look nm ["code", nm] [a, b] = some b := by
  simp [look, List.lookup, h]
/-- what is known of an own error's class, beside its making -/
structure ErrF (G : Gb) (C : Addr) (nm : Str) (cN cM : Value) : Prop where
  any : PySem.W.exmAny G.K (.ref C) [cN, cM] = some true
  fc : FldC G C "code"
  fv : FldC G C nm
def qLoc (d : He.DefD) : Str := d.qual ++ ".<locals>."
/-- a def that makes a lambda: its code object, its table -/
structure PkC (G : Gb) (T : List (Addr × Str)) (x : Str) (d : He.DefD) : Prop where
  ex : ∃ f fd c P, FunD G.K x d.qual d.params d.body d.scope (d.dvs G.K) (d.kws G.K) f fd ∧ G.mg x = some (.ref f) ∧ fd.code = .ref c ∧ Mk G T c P (qLoc d ++ "<lambda>")
end DX

set_option Elab.async false
set_option linter.all false
set_option maxRecDepth 100000
set_option maxHeartbeats 2000000
/-! own errors as values: made, asked for their class -/
namespace DX
open PySem PySem.Spec PyProof.Rows L2
/-- what isinstance asks of an own error's class -/
structure XKit (K : PySem.W.Frag) (C : Addr) : Prop where
  cl : (PySem.W.clsIn K C).isSome = true
  ga : PySem.W.findIn K (.ref C) "__getattribute__" = some (some (.builtin "BaseException.__getattribute__"))
  gt : PySem.W.findIn K (.ref C) "__getattr__" = some none
  sub : PySem.W.subIn K (.ref C) (.type "BaseException") = some true
  ca : PySem.W.findIn K (.ref C) "__class__" = some (some (.builtin "object.__class__"))
  sp : PySem.W.specialIn K (.builtin "object.__class__") "__get__" = some (some (.builtin "getset_descriptor.__get__"))
  tk : PySem.W.takesIn K (.builtin "object.__class__") = some true
  mr : PySem.W.mroIn K C (.type "object") = some true
def xkitB (K : PySem.W.Frag) (C : Addr) : Bool := (PySem.W.clsIn K C).isSome && (decide (PySem.W.findIn K (.ref C) "__getattribute__" = some (some (.builtin "BaseException.__getattribute__"))) && (decide (PySem.W.findIn K (.ref C) "__getattr__" = some none) && (decide (PySem.W.subIn K (.ref C) (.type "BaseException") = some true) &&
  (decide (PySem.W.findIn K (.ref C) "__class__" = some (some (.builtin "object.__class__"))) && (decide (PySem.W.specialIn K (.builtin "object.__class__") "__get__" = some (some (.builtin "getset_descriptor.__get__"))) && (decide (PySem.W.takesIn K (.builtin "object.__class__") = some true) && decide (PySem.W.mroIn K C (.type "object") = some true)))))))
theorem xkitB_ok {K : PySem.W.Frag} {C : Addr} (h : xkitB K C = true) : XKit K C := by
  unfold xkitB at h
  simp only [Bool.and_eq_true, decide_eq_true_eq] at h
  obtain ⟨h1, h2, h3, h4, h5, h6, h7, h8⟩ := h
  exact ⟨h1, h2, h3, h4, h5, h6, h7, h8⟩
/-- isinstance of an own error -/
def rIsiE (K : PySem.W.Frag) : List V → Hp → VK → Prop := fun xs H Q => ∃ (a C dx : Addr) (fs : List (Str × V)) (c : V) (u : Value) (b : Bool), xs = [.ref a, c] ∧ ClsV c u ∧ H a = some (exo a C (some dx)) ∧ H dx = some (exd dx fs) ∧ XKit K C ∧ PySem.W.kitOne K (.ref C) u = some b ∧ Q (.bl b) H
section
variable {X : Cx}
theorem call_isiE : CallR X (.builtin "isinstance") (rIsiE X.K) := by
  intro pins s σ H xs us Q I r h
  obtain ⟨a, C, dx, fs, c, u, b, rfl, k, ea, ed, xk, e, q⟩ := h
  obtain ⟨u1, u2, rfl, r1, r2⟩ := vals2 r
  have e2 := k.eq r2
  subst e2
  cases (show u1 = Value.ref a from r1)
  obtain ⟨t1, ho⟩ := exo_at I.hok ea
  obtain ⟨mA, hns, _⟩ := exd_at I.hok ed
  obtain ⟨od, es, ep, e1, _⟩ := hns
  exact PySem.W.kia_one (PySem.W.kitx_exc (ox := _) (od := some od) xk.cl xk.ga xk.gt xk.sub xk.ca xk.sp xk.tk xk.mr) I.kIn ⟨ho, rfl, rfl, e1⟩ e (fun z => nomatch z) fun tk => ⟨.bl b, H, I.tok tk, rfl, q⟩
end
/-- x is one of the class T: answered, also for own errors -/
def isDX (K : PySem.W.Frag) (x : D) (T : String) (b : Bool) : Prop := isD x T b ∨ ∃ C ns ds, x = .exc C ns ds ∧ XKit K C ∧ PySem.W.kitOne K (.ref C) (.type T) = some b
section
variable {G : Gb} {X : Cx} {E : XK} {n : Nat} {N : List Str} {sc : Scope} {W : Wd} {Γ : List (Option D)} {Z : ZK} {K : D → Prop} {pos p p2 : Pos}
theorem ex_isiX {e : Expr} {y : Str} {T : String} (cn : Cn G X E n N sc) (hg : gloB sc "isinstance" = true) (hm : G.mg "isinstance" = none) (hg2 : gloB sc y = true) (hm2 : G.mg y = none) (hv2 : bootBuiltins y = some (.type T))
    (h : EX X E W e Γ (fun x => ∃ b, isDX G.K x T b ∧ K (.bl b)) Z) (he : starEach [e, .Name y p2] X.env = (false, eval e X.env) :: starEach [.Name y p2] X.env := by rfl) (hs : starEach [.Name y p2] X.env = (false, eval (.Name y p2) X.env) :: starEach [] X.env := by rfl)
    (hpl : (backTo pos (starEach [.Name y p2] X.env)).any (·.1) = false := by rfl) : EX X E W (.Call (.Name "isinstance" p) [e, .Name y p2] [] pos) Γ K Z :=
  ex_callB cn (call_isi.or call_isiE) hg hm (by decide +kernel) (ax_cons (h.imp fun x ⟨b, hx, k⟩ => ax_cons (ex_bltn cn hg2 hm2 hv2 (ax_nil (fun vs H Q rx hi q => by
    obtain ⟨v, r, rfl, h1, w, r', rfl, h2, h3⟩ := rx
    cases (show r' = [] from h3)
    cases (show w = V.ty T from h2)
    rcases hx with ⟨t, e1, e2⟩ | ⟨C, ns, ds, rfl, xk, ek⟩
    · exact .inl ⟨v, .ty T, .type t, .type T, b, rfl, .ty T, tyD_ok e1 h1, kit_ty e2, q (.bl b) _ H k (Go.refl hi) rfl⟩
    · obtain ⟨a, dx, xs, rfl, _, _, ea, ed, _, _⟩ := h1
      rw [← cn.e3] at xk ek
      exact .inr ⟨a, C, dx, _, .ty T, .type T, b, rfl, .ty T, ea, ed, xk, ek, q (.bl b) _ H k (Go.refl hi) rfl⟩))) hs) he) he hpl
end
section
variable {X : Cx}
/-- C(e, ..), an own error as a value -/
theorem pe_mkx {CX : CXT} {x : Str} {C fI : Addr} {k : Nat} {fd : FuncData} {ps : List Str} {sp : Sp} {e : Expr} {es : List Expr} {ta : TA} {p pos : Pos} (T : OexC X.K C) (iC : PySem.W.findIn X.K (.ref C) "__init__" = some (some (.ref fI))) (tI : PySem.W.typeIn X.K (.ref fI) = some (.type "function"))
    (F1 : FnOk X.prog X.w X.K X.mg X.base CX k fI fd ps sp) (hr : Room (k + 1) X.A) (hb : Binds X.K fd ps []) (hx : Passes CX X (fun _ _ _ => False)) (hg : Gl X x) (hm : X.mg x = some (.ref C)) (ha : PA X (e :: es) ta)
    (hdb : (x == ("__debug__" : Str)) = false := by decide) (h1 : starEach (e :: es) X.env = (false, eval e X.env) :: starEach es X.env := by rfl) (h2 : (backTo pos (starEach es X.env)).any (·.1) = false := by rfl) :
    PE X (.Call (.Name x p) (e :: es) [] pos) (fun σ H Q => ta σ H fun vs H1 => vs.length ≤ 1000 ∧ ∀ a, H1 a = none → sp (.ref a :: (vs ++ [])) (upd H1 a (exo a C none)) (fun v H2 => v = .non ∧ Q (.ref a) H2) fun _ _ _ => False) := ⟨fun pins s σ H Q I h => by
  obtain ⟨nm, q, N, bs, bm, sn, sub, ab, col, dd, k0, k1, k2, k3, k5, lC, hbm⟩ := T.cls
  refine wpAny_Call_Name_kw (ld_glob I hg hm ?_ hdb)
  refine PySem.W.callWith_K (h₀ := X.base) I.ok.mod.kin T.kC (thn (ha.run pos pins s σ H _ I h) fun us s1 hh => ?_) h1 h2
  obtain ⟨vs, H1, I1, r1, hz, q1⟩ := hh
  refine ⟨I1.kIn, ?_⟩
  obtain ⟨hp, g, dr, tk, os⟩ := s1
  have at_ : hp.objs.size ≤ hp.objs.size + 1 := Nat.le_succ _
  have q2 := q1 (hp.objs.size + 1) (I1.hok.fresh at_)
  have hk : ∀ b o, hp.get? b = some o → ((hp.push (PySem.W.kdv_tup us)).push (PySem.HandSPX.excO C hp.objs.size)).get? b = some o := fun b o z => Heap.get?_push_of_some _ (Heap.get?_push_of_some _ z)
  have hn : ((hp.push (PySem.W.kdv_tup us)).push (PySem.HandSPX.excO C hp.objs.size)).get? (hp.objs.size + 1) = some (PySem.HandSPX.excO C hp.objs.size) := by heap_get
  have I2 := I1.laid (t' := tk) (o := exo (hp.objs.size + 1) C none) hk at_ (exo_ok hn)
  have r2 : Vals (V.ref (hp.objs.size + 1) :: (vs ++ [])) (Value.ref (hp.objs.size + 1) :: (us ++ [])) := .cons rfl (r1.append .nil)
  have hl : (Value.ref (hp.objs.size + 1) :: us ++ []).length = ps.length := by
    have z := F1.len _ _ _ _ q2
    rw [← z]
    exact r2.length.symm
  have hus : us.length ≤ sizeLine := Nat.le_trans (by rw [← Paired.length r1]; exact hz) (by decide)
  refine wpAny_call (PySem.HandSPX.call_own F.excBase_ValueError (fun Y => PySem.HandSPX.refsVE_contains Y bm hbm) (I1.kIn _ _ lC) (PySem.W.looks_findIn I1.kIn iC) (fun self => PySem.W.bind_fn I1.kIn self tI) hus
    (codeAny_mono (F1.run _ X.stack _ _ ⟨Value.ref (hp.objs.size + 1) :: us, []⟩ _ _ _ (fun _ _ _ => False) (hr.make C us []) (I2.env0.make C us []) (hb _ (Value.ref (hp.objs.size + 1) :: us) I2.kIn hl) r2 q2) fun r s' z => ?_))
  cases r with
  | error er => exact hx pins σ _ _ er s' I2 z
  | ok fl =>
    cases fl with
    | ret u =>
      obtain ⟨v, H2, I3, rv, hv, q3⟩ := I2.after z
      cases hv
      exact ⟨rv, .ref (hp.objs.size + 1), H2, I3, rfl, q3⟩
    | next => exact z.elim
    | brk => exact z.elim
    | cont => exact z.elim⟩
end
section
variable {G : Gb} {X : Cx} {E : XK} {n : Nat} {N : List Str} {sc : Scope} {W : Wd} {Γ : List (Option D)} {Z : ZK} {K : D → Prop} {pos p p2 : Pos}
theorem ex_mkx {x c : Str} {ps : List Str} {k : Nat} {C : Addr} {e : Expr} {es : List Expr} (cn : Cn G X E n N sc) (hg : gloB sc x = true) (er : Err G x ps c k C) (hk : k + 1 ≤ n)
    (h : AX X E W (e :: es) Γ (fun ds => ds.length = ps.length ∧ ds.length ≤ 1000 ∧ K (.exc C ("code" :: ps.reverse) (.str c :: ds.reverse))) Z)
    (h1 : starEach (e :: es) X.env = (false, eval e X.env) :: starEach es X.env := by rfl) (h2 : (backTo pos (starEach es X.env)).any (·.1) = false := by rfl) :
    EX X E W (.Call (.Name x p) (e :: es) [] pos) Γ K Z := fun σ H Q en hi q z => by
  obtain ⟨g1, g2, _⟩ := gloB_ok cn.scp hg
  obtain ⟨f, fd, fi, ti, hb, F⟩ := er.init.ex
  have hm := er.mg
  have hT := er.T
  rw [← cn.e1, ← cn.e2, ← cn.e3, ← cn.e4, ← cn.e5] at F
  rw [← cn.e4] at hm
  rw [← cn.e3] at fi ti hb hT
  refine ⟨_, pe_mkx (CX := L2N.CX X.prog X.w) hT fi ti F ((cn.room (by omega)).mono hk) hb (fun _ _ _ _ _ _ _ c => ?_) g1 hm pa_U g2 h1 h2, ?_⟩
  · obtain ⟨_, _, _, _, _, _, _, _, _, _, _, _, z⟩ := c
    exact z.elim
  refine h σ H _ en hi (fun ds vs H1 kd g rp => ?_) z
  obtain ⟨hl, hl2, hz⟩ := kd
  have lv := rp.len
  refine ⟨by rw [lv]; exact hl2, fun a na => ⟨a, vs, by rw [List.append_nil], by rw [lv, hl], upd_same, fun dx H' hd ne ea ed keep => ?_⟩⟩
  have hd1 : H1 dx = none := by rwa [upd_ne ne] at hd
  have at_ : ∀ b o, H1 b = some o → H' b = some o := fun b o e => by
    have b1 := ne_of_none e na
    have b2 := ne_of_none e hd1
    rw [keep b b1 b2, upd_ne b1]; exact e
  have go : Go W H1 H' := by
    have ex : Ex W H1 H' := Ex.of g.i fun b o _ e => at_ b o e
    exact ⟨ex, W.st _ _ g.i (fun b sb => by
      obtain ⟨xs, e⟩ := W.dom _ g.i b sb
      rw [at_ b _ e, e]) ex⟩
  refine ⟨rfl, q _ _ H' hz (g.trans go) ⟨a, dx, .str c :: vs.reverse, rfl, W.out g.i na, W.out g.i hd1, ea, ?_, by simp [hl], .str c, vs.reverse, rfl, rfl, (rp.go g.i go).rev⟩⟩
  rw [ed, zip_rev (by rw [lv, hl])]
  rfl
end
end DX

set_option Elab.async false
set_option linter.all false
set_option maxRecDepth 100000
set_option maxHeartbeats 2000000
/-! a head's facts of own errors, of constants; a law's end -/
namespace DX
open PySem PySem.Spec PyProof.Rows L2
def errB (K : PySem.W.Frag) (x nm : Str) : Bool := oexB K (He.ga K x) && (L2.xfB K (He.ga K x) && (He.eqO (PySem.W.findIn K (.ref (He.ga K x)) "__init__") (some (some (.ref (He.ma K (He.ga K x) "__init__")))) && (decide (PySem.W.typeIn K (.ref (He.ma K (He.ga K x) "__init__")) = some (.type "function")) &&
  (He.eqO (PySem.W.findIn K (.ref (He.ga K x)) nm) (some none) && (He.eqO (PySem.W.findIn K (.ref (He.ga K x)) "code") (some none) && decide (PySem.W.exmAny K (.ref (He.ga K x)) [.ref (He.ga K "NetError"), .ref (He.ga K "Missing")] = some true))))))
structure ErrK (G : Gb) (C fI : Addr) (nm : Str) (cN cM : Value) : Prop where
  T : OexC G.K C
  fi : PySem.W.findIn G.K (.ref C) "__init__" = some (some (.ref fI))
  ti : PySem.W.typeIn G.K (.ref fI) = some (.type "function")
  n1 : PySem.W.findIn G.K (.ref C) nm = some none
  n2 : PySem.W.findIn G.K (.ref C) "code" = some none
  f : ErrF G C nm cN cM
theorem errB_ok {G : Gb} {x nm : Str} (h : errB G.K x nm = true) : ErrK G (He.ga G.K x) (He.ma G.K (He.ga G.K x) "__init__") nm (.ref (He.ga G.K "NetError")) (.ref (He.ga G.K "Missing")) := by
  unfold errB at h
  simp only [Bool.and_eq_true, decide_eq_true_eq] at h
  obtain ⟨e1, e2, e3, e4, e5, e6, e7⟩ := h
  have y := xfB_ok e2
  exact ⟨oexB_ok e1, He.eqO_ok e3, e4, He.eqO_ok e5, He.eqO_ok e6, ⟨e7, ⟨y, He.eqO_ok e6⟩, ⟨y, He.eqO_ok e5⟩⟩⟩
theorem glv_str {G : Gb} {x z : Str} (h : ∃ t, G.mg x = some (.str z t)) : GlV G x (.str z) := by
  obtain ⟨t, e⟩ := h
  exact ⟨_, .str z, e, ⟨t, rfl⟩, fun _ _ _ => rfl⟩
theorem glv_int {G : Gb} {x : Str} {i : Int} (h : ∃ t, G.mg x = some (.int i t)) : GlV G x (.int i) := by
  obtain ⟨t, e⟩ := h
  exact ⟨_, .int i, e, ⟨t, rfl⟩, fun _ _ _ => rfl⟩
theorem pkc {G : Gb} {T : List (Addr × Str)} {x : Str} {d : He.DefD} (F : ∃ fd, FunD G.K d.name d.qual d.params d.body d.scope (d.dvs G.K) (d.kws G.K) (He.fAd G.K d.at_) fd) (hx : d.name = x) (hm : G.mg x = some (.ref (He.fAd G.K d.at_))) (tb : LamX.TabB G.base G.mg (He.cT G.K d.at_).1 (He.cT G.K d.at_).2) (mem : ((He.cT G.K d.at_).2, qLoc d ++ "<lambda>") ∈ T)
    (one : ∀ p ∈ T, p.1 = (He.cT G.K d.at_).2 → p.2 = qLoc d ++ "<lambda>") : PkC G T x d := by
  obtain ⟨fd, F⟩ := F
  subst hx
  exact ⟨_, fd, _, _, F, hm, code_of F, tb, mem, one⟩
/-- the tables of the defs that make lambdas -/
def TtOf (K : PySem.W.Frag) (ds : List He.DefD) : List (Addr × Str) := ds.map fun d => ((He.cT K d.at_).2, qLoc d ++ "<lambda>")
theorem tt_nil {K : PySem.W.Frag} {H : Hp} {ds : List He.DefD} (hT : ∀ p ∈ (ds.map fun d => d.at_).map (He.cT K), H p.2 = some (.tbl #[])) : LamX.Tabs (TtOf K ds) H := fun p hp => by
  obtain ⟨d, hd, rfl⟩ := List.mem_map.mp hp
  exact LamX.TabS.nil (hT _ (List.mem_map_of_mem (List.mem_map_of_mem hd)))
theorem tt_one {K : PySem.W.Frag} : ∀ {ds : List He.DefD}, ((ds.map fun d => d.at_).map fun p => (He.cT K p).2).Nodup → ∀ d ∈ ds, ∀ p ∈ TtOf K ds, p.1 = (He.cT K d.at_).2 → p.2 = qLoc d ++ "<lambda>"
  | [], _, d, hd, _, _, _ => by cases hd
  | e :: es, nd, d, hd, p, hp, h => by
    obtain ⟨n1, n2⟩ := List.nodup_cons.mp nd
    rcases List.mem_cons.mp hp with rfl | hp2
    · rcases List.mem_cons.mp hd with rfl | hd
      · rfl
      · exfalso
        refine n1 ?_
        have h : (He.cT K e.at_).2 = (He.cT K d.at_).2 := h
        show (He.cT K e.at_).2 ∈ _
        rw [h]
        exact List.mem_map_of_mem (List.mem_map_of_mem hd)
    · rcases List.mem_cons.mp hd with rfl | hd
      · exfalso
        refine n1 ?_
        show (He.cT K d.at_).2 ∈ _
        rw [← h]
        obtain ⟨d', hd', rfl⟩ := List.mem_map.mp hp2
        exact List.mem_map_of_mem (List.mem_map_of_mem hd')
      · exact tt_one n2 d hd p hp2 h
end DX

set_option Elab.async false
set_option linter.all false
set_option maxRecDepth 100000
set_option maxHeartbeats 0
namespace K02
open PySem PySem.Spec PyProof.Rows L2
abbrev PW : Program := PySem.Challenge.pw_endlessnets_k02_fractions_reckoned
def top (i : Nat) : Stmt := PW.main.body.getD i (.Pass ⟨0, 0, 0, 0⟩)
def sub (i j : Nat) : Stmt := match top i with
  | .ClassDef _ _ _ b _ _ _ _ _ _ _ => b.getD j (.Pass ⟨0, 0, 0, 0⟩)
  | s => s
abbrev s_InvalidNumber_init : Stmt := sub 3 0
def d_InvalidNumber_init : He.DefD := ⟨("InvalidNumber", some "__init__"), "__init__", "InvalidNumber.__init__", L2.defArgs s_InvalidNumber_init, L2.defBody s_InvalidNumber_init, L2.defScope s_InvalidNumber_init, [], []⟩
abbrev s_InvalidFraction_init : Stmt := sub 4 0
def d_InvalidFraction_init : He.DefD := ⟨("InvalidFraction", some "__init__"), "__init__", "InvalidFraction.__init__", L2.defArgs s_InvalidFraction_init, L2.defBody s_InvalidFraction_init, L2.defScope s_InvalidFraction_init, [], []⟩
abbrev s_is_integer_value : Stmt := top 7
def d_is_integer_value : He.DefD := ⟨("is_integer_value", none), "is_integer_value", "is_integer_value", L2.defArgs s_is_integer_value, L2.defBody s_is_integer_value, L2.defScope s_is_integer_value, [], []⟩
abbrev s_is_fraction : Stmt := top 10
def d_is_fraction : He.DefD := ⟨("is_fraction", none), "is_fraction", "is_fraction", L2.defArgs s_is_fraction, L2.defBody s_is_fraction, L2.defScope s_is_fraction, [], []⟩
abbrev s_ratio : Stmt := top 11
def d_ratio : He.DefD := ⟨("ratio", none), "ratio", "ratio", L2.defArgs s_ratio, L2.defBody s_ratio, L2.defScope s_ratio, [.int 1], []⟩
abbrev s_plus : Stmt := top 12
def d_plus : He.DefD := ⟨("plus", none), "plus", "plus", L2.defArgs s_plus, L2.defBody s_plus, L2.defScope s_plus, [], []⟩
abbrev s_minus : Stmt := top 13
def d_minus : He.DefD := ⟨("minus", none), "minus", "minus", L2.defArgs s_minus, L2.defBody s_minus, L2.defScope s_minus, [], []⟩
abbrev s_times : Stmt := top 14
def d_times : He.DefD := ⟨("times", none), "times", "times", L2.defArgs s_times, L2.defBody s_times, L2.defScope s_times, [], []⟩
abbrev s_divided : Stmt := top 15
def d_divided : He.DefD := ⟨("divided", none), "divided", "divided", L2.defArgs s_divided, L2.defBody s_divided, L2.defScope s_divided, [], []⟩
abbrev s_sign : Stmt := top 16
def d_sign : He.DefD := ⟨("sign", none), "sign", "sign", L2.defArgs s_sign, L2.defBody s_sign, L2.defScope s_sign, [], []⟩
abbrev s_is_less : Stmt := top 17
def d_is_less : He.DefD := ⟨("is_less", none), "is_less", "is_less", L2.defArgs s_is_less, L2.defBody s_is_less, L2.defScope s_is_less, [], []⟩
abbrev s_floor_of : Stmt := top 18
def d_floor_of : He.DefD := ⟨("floor_of", none), "floor_of", "floor_of", L2.defArgs s_floor_of, L2.defBody s_floor_of, L2.defScope s_floor_of, [], []⟩
abbrev s_total : Stmt := top 19
def d_total : He.DefD := ⟨("total", none), "total", "total", L2.defArgs s_total, L2.defBody s_total, L2.defScope s_total, [], []⟩
abbrev s_L_bag : Stmt := top 21
def d_L_bag : He.DefD := ⟨("_law_bag", none), "_law_bag", "_law_bag", L2.defArgs s_L_bag, L2.defBody s_L_bag, L2.defScope s_L_bag, [], []⟩
abbrev s_L_draw : Stmt := top 22
def d_L_draw : He.DefD := ⟨("_law_draw", none), "_law_draw", "_law_draw", L2.defArgs s_L_draw, L2.defBody s_L_draw, L2.defScope s_L_draw, [], []⟩
abbrev s_L_pick : Stmt := top 23
def d_L_pick : He.DefD := ⟨("_law_pick", none), "_law_pick", "_law_pick", L2.defArgs s_L_pick, L2.defBody s_L_pick, L2.defScope s_L_pick, [], []⟩
abbrev s_L_huge : Stmt := top 24
def d_L_huge : He.DefD := ⟨("_law_huge", none), "_law_huge", "_law_huge", L2.defArgs s_L_huge, L2.defBody s_L_huge, L2.defScope s_L_huge, [], []⟩
abbrev s_L_number : Stmt := top 25
def d_L_number : He.DefD := ⟨("_law_number", none), "_law_number", "_law_number", L2.defArgs s_L_number, L2.defBody s_L_number, L2.defScope s_L_number, [], []⟩
abbrev s_L_int : Stmt := top 26
def d_L_int : He.DefD := ⟨("_law_int", none), "_law_int", "_law_int", L2.defArgs s_L_int, L2.defBody s_L_int, L2.defScope s_L_int, [], []⟩
abbrev s_L_same : Stmt := top 27
def d_L_same : He.DefD := ⟨("_law_same", none), "_law_same", "_law_same", L2.defArgs s_L_same, L2.defBody s_L_same, L2.defScope s_L_same, [], []⟩
abbrev s_L_fields : Stmt := top 28
def d_L_fields : He.DefD := ⟨("_law_fields", none), "_law_fields", "_law_fields", L2.defArgs s_L_fields, L2.defBody s_L_fields, L2.defScope s_L_fields, [], []⟩
abbrev s_L_got : Stmt := top 29
def d_L_got : He.DefD := ⟨("_law_got", none), "_law_got", "_law_got", L2.defArgs s_L_got, L2.defBody s_L_got, L2.defScope s_L_got, [], []⟩
abbrev s_L_is : Stmt := top 30
def d_L_is : He.DefD := ⟨("_law_is", none), "_law_is", "_law_is", L2.defArgs s_L_is, L2.defBody s_L_is, L2.defScope s_L_is, [], []⟩
abbrev s_L_odd : Stmt := top 31
def d_L_odd : He.DefD := ⟨("_law_odd", none), "_law_odd", "_law_odd", L2.defArgs s_L_odd, L2.defBody s_L_odd, L2.defScope s_L_odd, [], []⟩
abbrev s_L_gcd : Stmt := top 32
def d_L_gcd : He.DefD := ⟨("_law_gcd", none), "_law_gcd", "_law_gcd", L2.defArgs s_L_gcd, L2.defBody s_L_gcd, L2.defScope s_L_gcd, [], []⟩
abbrev s_L_low : Stmt := top 33
def d_L_low : He.DefD := ⟨("_law_low", none), "_law_low", "_law_low", L2.defArgs s_L_low, L2.defBody s_L_low, L2.defScope s_L_low, [], []⟩
abbrev s_L_fraction : Stmt := top 34
def d_L_fraction : He.DefD := ⟨("_law_fraction", none), "_law_fraction", "_law_fraction", L2.defArgs s_L_fraction, L2.defBody s_L_fraction, L2.defScope s_L_fraction, [], []⟩
abbrev s_L_is_fraction : Stmt := top 35
def d_L_is_fraction : He.DefD := ⟨("_law_is_fraction", none), "_law_is_fraction", "_law_is_fraction", L2.defArgs s_L_is_fraction, L2.defBody s_L_is_fraction, L2.defScope s_L_is_fraction, [], []⟩
abbrev s_L_worth : Stmt := top 36
def d_L_worth : He.DefD := ⟨("_law_worth", none), "_law_worth", "_law_worth", L2.defArgs s_L_worth, L2.defBody s_L_worth, L2.defScope s_L_worth, [], []⟩
abbrev s_L_near : Stmt := top 37
def d_L_near : He.DefD := ⟨("_law_near", none), "_law_near", "_law_near", L2.defArgs s_L_near, L2.defBody s_L_near, L2.defScope s_L_near, [], []⟩
abbrev s_L_ratio_so : Stmt := top 38
def d_L_ratio_so : He.DefD := ⟨("_law_ratio_so", none), "_law_ratio_so", "_law_ratio_so", L2.defArgs s_L_ratio_so, L2.defBody s_L_ratio_so, L2.defScope s_L_ratio_so, [], []⟩
abbrev s_L_two_so : Stmt := top 39
def d_L_two_so : He.DefD := ⟨("_law_two_so", none), "_law_two_so", "_law_two_so", L2.defArgs s_L_two_so, L2.defBody s_L_two_so, L2.defScope s_L_two_so, [], []⟩
abbrev s_law : Stmt := top 40
def d_law : He.DefD := ⟨("law", none), "law", "law", L2.defArgs s_law, L2.defBody s_law, L2.defScope s_law, [], []⟩
def fn : List He.DefD := ([d_InvalidNumber_init, d_InvalidFraction_init, d_is_integer_value, d_is_fraction, d_ratio, d_plus, d_minus, d_times, d_divided, d_sign, d_is_less, d_floor_of, d_total, d_L_bag, d_L_draw, d_L_pick, d_L_huge, d_L_number, d_L_int, d_L_same] : List He.DefD) ++ ([d_L_fields, d_L_got, d_L_is, d_L_odd, d_L_gcd, d_L_low, d_L_fraction, d_L_is_fraction, d_L_worth, d_L_near, d_L_ratio_so, d_L_two_so, d_law] : List He.DefD)
def fa : List He.Fa := ([.glo "NetError", .glo "InvalidNumber", .glo "InvalidFraction", .glo "Missing", .glo "is_integer_value", .glo "is_fraction", .glo "ratio", .glo "plus", .glo "minus", .glo "times", .glo "divided", .glo "sign", .glo "is_less", .glo "floor_of", .glo "total", .glo "_law_bag", .glo "_law_draw", .glo "_law_pick", .glo "_law_huge", .glo "_law_number"] : List He.Fa) ++ ([.glo "_law_int", .glo "_law_same", .glo "_law_fields", .glo "_law_got", .glo "_law_is", .glo "_law_odd", .glo "_law_gcd", .glo "_law_low", .glo "_law_fraction", .glo "_law_is_fraction", .glo "_law_worth", .glo "_law_near", .glo "_law_ratio_so", .glo "_law_two_so", .glo "law", .free "LookupError", .free "ValueError", .free "abs", .free "all", .free "bool"] : List He.Fa) ++ ([.free "dict", .free "int", .free "isinstance", .free "len", .free "list", .free "min", .free "range", .free "str", .free "tuple", .free "zip"] : List He.Fa)
def loose : List PySem.Str := (["NetError", "InvalidNumber", "InvalidFraction", "Missing", "is_integer_value", "is_fraction", "ratio", "plus", "minus", "times", "divided", "sign", "is_less", "floor_of", "total", "_law_bag", "_law_draw", "_law_pick", "_law_huge", "_law_number", "_law_int", "_law_same", "_law_fields", "_law_got", "_law_is", "_law_odd", "_law_gcd", "_law_low", "_law_fraction", "_law_is_fraction"] : List PySem.Str) ++ (["_law_worth", "_law_near", "_law_ratio_so", "_law_two_so", "gcd", "NOTHING"] : List PySem.Str)
-- law at 40; classes ['NetError', 'InvalidNumber', 'InvalidFraction', 'Missing']; consts ['gcd', 'NOTHING']; free ['LookupError', 'ValueError', 'abs', 'all', 'bool', 'dict', 'int', 'isinstance', 'len', 'list', 'min', 'range', 'str', 'tuple', 'zip']
abbrev lawAt : Nat := 40
abbrev N_InvalidNumber_init : List PySem.Str := ["self", "value"]
abbrev P_InvalidNumber_init : List PySem.Str := ["self", "value"]
theorem sc_InvalidNumber_init : FnScope N_InvalidNumber_init P_InvalidNumber_init (defScope s_InvalidNumber_init) := ⟨rfl, rfl, rfl, by decide +kernel, rfl, by decide +kernel, by decide +kernel⟩
abbrev N_InvalidFraction_init : List PySem.Str := ["self", "value"]
abbrev P_InvalidFraction_init : List PySem.Str := ["self", "value"]
theorem sc_InvalidFraction_init : FnScope N_InvalidFraction_init P_InvalidFraction_init (defScope s_InvalidFraction_init) := ⟨rfl, rfl, rfl, by decide +kernel, rfl, by decide +kernel, by decide +kernel⟩
abbrev N_is_integer_value : List PySem.Str := ["value"]
abbrev P_is_integer_value : List PySem.Str := ["value"]
theorem sc_is_integer_value : FnScope N_is_integer_value P_is_integer_value (defScope s_is_integer_value) := ⟨rfl, rfl, rfl, by decide +kernel, rfl, by decide +kernel, by decide +kernel⟩
abbrev N_is_fraction : List PySem.Str := ["value", "over", "under"]
abbrev P_is_fraction : List PySem.Str := ["value"]
theorem sc_is_fraction : FnScope N_is_fraction P_is_fraction (defScope s_is_fraction) := ⟨rfl, rfl, rfl, by decide +kernel, rfl, by decide +kernel, by decide +kernel⟩
abbrev N_ratio : List PySem.Str := ["over", "under", "shared"]
abbrev P_ratio : List PySem.Str := ["over", "under"]
theorem sc_ratio : FnScope N_ratio P_ratio (defScope s_ratio) := ⟨rfl, rfl, rfl, by decide +kernel, rfl, by decide +kernel, by decide +kernel⟩
abbrev N_plus : List PySem.Str := ["one", "other"]
abbrev P_plus : List PySem.Str := ["one", "other"]
theorem sc_plus : FnScope N_plus P_plus (defScope s_plus) := ⟨rfl, rfl, rfl, by decide +kernel, rfl, by decide +kernel, by decide +kernel⟩
abbrev N_minus : List PySem.Str := ["one", "other"]
abbrev P_minus : List PySem.Str := ["one", "other"]
theorem sc_minus : FnScope N_minus P_minus (defScope s_minus) := ⟨rfl, rfl, rfl, by decide +kernel, rfl, by decide +kernel, by decide +kernel⟩
abbrev N_times : List PySem.Str := ["one", "other"]
abbrev P_times : List PySem.Str := ["one", "other"]
theorem sc_times : FnScope N_times P_times (defScope s_times) := ⟨rfl, rfl, rfl, by decide +kernel, rfl, by decide +kernel, by decide +kernel⟩
abbrev N_divided : List PySem.Str := ["one", "other"]
abbrev P_divided : List PySem.Str := ["one", "other"]
theorem sc_divided : FnScope N_divided P_divided (defScope s_divided) := ⟨rfl, rfl, rfl, by decide +kernel, rfl, by decide +kernel, by decide +kernel⟩
abbrev N_sign : List PySem.Str := ["one"]
abbrev P_sign : List PySem.Str := ["one"]
theorem sc_sign : FnScope N_sign P_sign (defScope s_sign) := ⟨rfl, rfl, rfl, by decide +kernel, rfl, by decide +kernel, by decide +kernel⟩
abbrev N_is_less : List PySem.Str := ["one", "other"]
abbrev P_is_less : List PySem.Str := ["one", "other"]
theorem sc_is_less : FnScope N_is_less P_is_less (defScope s_is_less) := ⟨rfl, rfl, rfl, by decide +kernel, rfl, by decide +kernel, by decide +kernel⟩
abbrev N_floor_of : List PySem.Str := ["one"]
abbrev P_floor_of : List PySem.Str := ["one"]
theorem sc_floor_of : FnScope N_floor_of P_floor_of (defScope s_floor_of) := ⟨rfl, rfl, rfl, by decide +kernel, rfl, by decide +kernel, by decide +kernel⟩
abbrev N_total : List PySem.Str := ["fractions", "result", "fraction"]
abbrev P_total : List PySem.Str := ["fractions"]
theorem sc_total : FnScope N_total P_total (defScope s_total) := ⟨rfl, rfl, rfl, by decide +kernel, rfl, by decide +kernel, by decide +kernel⟩
abbrev N_L_bag : List PySem.Str := ["_law_script", "_law_cells"]
abbrev P_L_bag : List PySem.Str := ["_law_script"]
theorem sc_L_bag : FnScope N_L_bag P_L_bag (defScope s_L_bag) := ⟨rfl, rfl, rfl, by decide +kernel, rfl, by decide +kernel, by decide +kernel⟩
abbrev N_L_draw : List PySem.Str := ["_law_bag_here", "_law_size", "_law_seed", "_law_cell", "_law_digit"]
abbrev P_L_draw : List PySem.Str := ["_law_bag_here", "_law_size"]
theorem sc_L_draw : FnScope N_L_draw P_L_draw (defScope s_L_draw) := ⟨rfl, rfl, rfl, by decide +kernel, rfl, by decide +kernel, by decide +kernel⟩
abbrev N_L_pick : List PySem.Str := ["_law_bag_here", "_law_some"]
abbrev P_L_pick : List PySem.Str := ["_law_bag_here", "_law_some"]
theorem sc_L_pick : FnScope N_L_pick P_L_pick (defScope s_L_pick) := ⟨rfl, rfl, rfl, by decide +kernel, rfl, by decide +kernel, by decide +kernel⟩
abbrev N_L_huge : List PySem.Str := ["_law_bag_here", "_law_found"]
abbrev P_L_huge : List PySem.Str := ["_law_bag_here"]
theorem sc_L_huge : FnScope N_L_huge P_L_huge (defScope s_L_huge) := ⟨rfl, rfl, rfl, by decide +kernel, rfl, by decide +kernel, by decide +kernel⟩
abbrev N_L_number : List PySem.Str := ["_law_bag_here", "_law_near_here"]
abbrev P_L_number : List PySem.Str := ["_law_bag_here", "_law_near_here"]
theorem sc_L_number : FnScope N_L_number P_L_number (defScope s_L_number) := ⟨rfl, rfl, rfl, by decide +kernel, rfl, by decide +kernel, by decide +kernel⟩
abbrev N_L_int : List PySem.Str := ["_law_x"]
abbrev P_L_int : List PySem.Str := ["_law_x"]
theorem sc_L_int : FnScope N_L_int P_L_int (defScope s_L_int) := ⟨rfl, rfl, rfl, by decide +kernel, rfl, by decide +kernel, by decide +kernel⟩
abbrev N_L_same : List PySem.Str := ["_law_found", "_law_due", "_law_x", "_law_y"]
abbrev P_L_same : List PySem.Str := ["_law_found", "_law_due"]
theorem sc_L_same : FnScope N_L_same P_L_same (defScope s_L_same) := ⟨rfl, rfl, rfl, by decide +kernel, rfl, by decide +kernel, by decide +kernel⟩
abbrev N_L_fields : List PySem.Str := ["_law_e"]
abbrev P_L_fields : List PySem.Str := ["_law_e"]
theorem sc_L_fields : FnScope N_L_fields P_L_fields (defScope s_L_fields) := ⟨rfl, rfl, rfl, by decide +kernel, rfl, by decide +kernel, by decide +kernel⟩
abbrev N_L_got : List PySem.Str := ["_law_ask", "_law_e"]
abbrev P_L_got : List PySem.Str := ["_law_ask"]
theorem sc_L_got : FnScope N_L_got P_L_got (defScope s_L_got) := ⟨rfl, rfl, rfl, by decide +kernel, rfl, by decide +kernel, by decide +kernel⟩
abbrev N_L_is : List PySem.Str := ["_law_ask", "_law_due"]
abbrev P_L_is : List PySem.Str := ["_law_ask", "_law_due"]
theorem sc_L_is : FnScope N_L_is P_L_is (defScope s_L_is) := ⟨rfl, rfl, rfl, by decide +kernel, rfl, by decide +kernel, by decide +kernel⟩
abbrev N_L_odd : List PySem.Str := ["_law_bag_here", "_law_near_here", "_law_menu"]
abbrev P_L_odd : List PySem.Str := ["_law_bag_here"]
theorem sc_L_odd : FnScope N_L_odd P_L_odd (defScope s_L_odd) := ⟨rfl, rfl, rfl, by decide +kernel, rfl, by decide +kernel, by decide +kernel⟩
abbrev N_L_gcd : List PySem.Str := ["_law_x", "_law_y"]
abbrev P_L_gcd : List PySem.Str := ["_law_x", "_law_y"]
theorem sc_L_gcd : FnScope N_L_gcd P_L_gcd (defScope s_L_gcd) := ⟨rfl, rfl, rfl, by decide +kernel, rfl, by decide +kernel, by decide +kernel⟩
abbrev N_L_low : List PySem.Str := ["_law_n", "_law_m", "_law_div"]
abbrev P_L_low : List PySem.Str := ["_law_n", "_law_m"]
theorem sc_L_low : FnScope N_L_low P_L_low (defScope s_L_low) := ⟨rfl, rfl, rfl, by decide +kernel, rfl, by decide +kernel, by decide +kernel⟩
abbrev N_L_fraction : List PySem.Str := ["_law_bag_here", "_law_near_here"]
abbrev P_L_fraction : List PySem.Str := ["_law_bag_here", "_law_near_here"]
theorem sc_L_fraction : FnScope N_L_fraction P_L_fraction (defScope s_L_fraction) := ⟨rfl, rfl, rfl, by decide +kernel, rfl, by decide +kernel, by decide +kernel⟩
abbrev N_L_is_fraction : List PySem.Str := ["_law_x", "_law_n"]
abbrev P_L_is_fraction : List PySem.Str := ["_law_x"]
theorem sc_L_is_fraction : FnScope N_L_is_fraction P_L_is_fraction (defScope s_L_is_fraction) := ⟨rfl, rfl, rfl, by decide +kernel, rfl, by decide +kernel, by decide +kernel⟩
abbrev N_L_worth : List PySem.Str := ["_law_found", "_law_n", "_law_m"]
abbrev P_L_worth : List PySem.Str := ["_law_found", "_law_n", "_law_m"]
theorem sc_L_worth : FnScope N_L_worth P_L_worth (defScope s_L_worth) := ⟨rfl, rfl, rfl, by decide +kernel, rfl, by decide +kernel, by decide +kernel⟩
abbrev N_L_near : List PySem.Str := ["_law_bag_here", "_law_a", "_law_b", "_law_menu"]
abbrev P_L_near : List PySem.Str := ["_law_bag_here", "_law_a", "_law_b"]
theorem sc_L_near : FnScope N_L_near P_L_near (defScope s_L_near) := ⟨rfl, rfl, rfl, by decide +kernel, rfl, by decide +kernel, by decide +kernel⟩
abbrev N_L_ratio_so : List PySem.Str := ["_law_bag_here", "_law_n", "_law_m"]
abbrev P_L_ratio_so : List PySem.Str := ["_law_bag_here"]
theorem sc_L_ratio_so : FnScope N_L_ratio_so P_L_ratio_so (defScope s_L_ratio_so) := ⟨rfl, rfl, rfl, by decide +kernel, rfl, by decide +kernel, by decide +kernel⟩
abbrev N_L_two_so : List PySem.Str := ["_law_x", "_law_y", "_law_a", "_law_b", "_law_c", "_law_d"]
abbrev P_L_two_so : List PySem.Str := ["_law_x", "_law_y"]
theorem sc_L_two_so : FnScope N_L_two_so P_L_two_so (defScope s_L_two_so) := ⟨rfl, rfl, rfl, by decide +kernel, rfl, by decide +kernel, by decide +kernel⟩
abbrev N_law : List PySem.Str := ["_law_script", "_law_bag_here", "_law_turn", "_law_y", "_law_k", "_law_x", "_law_z", "_law_a", "_law_b", "_law_c", "_law_d", "_law_thing"]
abbrev P_law : List PySem.Str := ["_law_script"]
theorem sc_law : FnScope N_law P_law (defScope s_law) := ⟨rfl, rfl, rfl, by decide +kernel, rfl, by decide +kernel, by decide +kernel⟩
structure Pk (G : DX.Gb) (x : Str) (d : He.DefD) : Prop where
  ex : ∃ f fd, FunD G.K x d.qual d.params d.body d.scope (d.dvs G.K) (d.kws G.K) f fd ∧ G.mg x = some (.ref f)
theorem bd_InvalidNumber_init {K : PySem.W.Frag} {f : Addr} {fd : FuncData} (FD : FunD K "__init__" d_InvalidNumber_init.qual d_InvalidNumber_init.params d_InvalidNumber_init.body d_InvalidNumber_init.scope (d_InvalidNumber_init.dvs K) (d_InvalidNumber_init.kws K) f fd) : L2.Binds K fd P_InvalidNumber_init [] := FD.bindsN fun _ _ _ _ _ _ us hl => match us, hl with | [_, _], _ => rfl
theorem vs_InvalidNumber_init : DX.visL (defScope s_InvalidNumber_init) (["self", "value"] : List PySem.Str) = true := by decide +kernel
theorem ls_InvalidNumber_init : DX.locL (defScope s_InvalidNumber_init) (["self", "value"] : List PySem.Str) = true := by decide +kernel
theorem gs_InvalidNumber_init : DX.gloL (defScope s_InvalidNumber_init) (["NetError"] : List PySem.Str) = true := by decide +kernel
theorem bd_InvalidFraction_init {K : PySem.W.Frag} {f : Addr} {fd : FuncData} (FD : FunD K "__init__" d_InvalidFraction_init.qual d_InvalidFraction_init.params d_InvalidFraction_init.body d_InvalidFraction_init.scope (d_InvalidFraction_init.dvs K) (d_InvalidFraction_init.kws K) f fd) : L2.Binds K fd P_InvalidFraction_init [] := FD.bindsN fun _ _ _ _ _ _ us hl => match us, hl with | [_, _], _ => rfl
theorem vs_InvalidFraction_init : DX.visL (defScope s_InvalidFraction_init) (["self", "value"] : List PySem.Str) = true := by decide +kernel
theorem ls_InvalidFraction_init : DX.locL (defScope s_InvalidFraction_init) (["self", "value"] : List PySem.Str) = true := by decide +kernel
theorem gs_InvalidFraction_init : DX.gloL (defScope s_InvalidFraction_init) (["NetError"] : List PySem.Str) = true := by decide +kernel
theorem bd_is_integer_value {K : PySem.W.Frag} {f : Addr} {fd : FuncData} (FD : FunD K "is_integer_value" d_is_integer_value.qual d_is_integer_value.params d_is_integer_value.body d_is_integer_value.scope (d_is_integer_value.dvs K) (d_is_integer_value.kws K) f fd) : L2.Binds K fd P_is_integer_value [] := FD.bindsN fun _ _ _ _ _ _ us hl => match us, hl with | [_], _ => rfl
theorem vs_is_integer_value : DX.visL (defScope s_is_integer_value) (["value"] : List PySem.Str) = true := by decide +kernel
theorem ls_is_integer_value : DX.locL (defScope s_is_integer_value) (["value"] : List PySem.Str) = true := by decide +kernel
theorem gs_is_integer_value : DX.gloL (defScope s_is_integer_value) (["bool", "int", "isinstance"] : List PySem.Str) = true := by decide +kernel
theorem bd_is_fraction {K : PySem.W.Frag} {f : Addr} {fd : FuncData} (FD : FunD K "is_fraction" d_is_fraction.qual d_is_fraction.params d_is_fraction.body d_is_fraction.scope (d_is_fraction.dvs K) (d_is_fraction.kws K) f fd) : L2.Binds K fd P_is_fraction [] := FD.bindsN fun _ _ _ _ _ _ us hl => match us, hl with | [_], _ => rfl
theorem vs_is_fraction : DX.visL (defScope s_is_fraction) (["value", "over", "under"] : List PySem.Str) = true := by decide +kernel
theorem ls_is_fraction : DX.locL (defScope s_is_fraction) (["value", "over", "under"] : List PySem.Str) = true := by decide +kernel
theorem gs_is_fraction : DX.gloL (defScope s_is_fraction) (["gcd", "is_integer_value", "isinstance", "len", "tuple"] : List PySem.Str) = true := by decide +kernel
theorem bd_plus {K : PySem.W.Frag} {f : Addr} {fd : FuncData} (FD : FunD K "plus" d_plus.qual d_plus.params d_plus.body d_plus.scope (d_plus.dvs K) (d_plus.kws K) f fd) : L2.Binds K fd P_plus [] := FD.bindsN fun _ _ _ _ _ _ us hl => match us, hl with | [_, _], _ => rfl
theorem vs_plus : DX.visL (defScope s_plus) (["one", "other"] : List PySem.Str) = true := by decide +kernel
theorem ls_plus : DX.locL (defScope s_plus) (["one", "other"] : List PySem.Str) = true := by decide +kernel
theorem gs_plus : DX.gloL (defScope s_plus) (["ratio"] : List PySem.Str) = true := by decide +kernel
theorem bd_minus {K : PySem.W.Frag} {f : Addr} {fd : FuncData} (FD : FunD K "minus" d_minus.qual d_minus.params d_minus.body d_minus.scope (d_minus.dvs K) (d_minus.kws K) f fd) : L2.Binds K fd P_minus [] := FD.bindsN fun _ _ _ _ _ _ us hl => match us, hl with | [_, _], _ => rfl
theorem vs_minus : DX.visL (defScope s_minus) (["one", "other"] : List PySem.Str) = true := by decide +kernel
theorem ls_minus : DX.locL (defScope s_minus) (["one", "other"] : List PySem.Str) = true := by decide +kernel
theorem gs_minus : DX.gloL (defScope s_minus) (["ratio"] : List PySem.Str) = true := by decide +kernel
theorem bd_times {K : PySem.W.Frag} {f : Addr} {fd : FuncData} (FD : FunD K "times" d_times.qual d_times.params d_times.body d_times.scope (d_times.dvs K) (d_times.kws K) f fd) : L2.Binds K fd P_times [] := FD.bindsN fun _ _ _ _ _ _ us hl => match us, hl with | [_, _], _ => rfl
theorem vs_times : DX.visL (defScope s_times) (["one", "other"] : List PySem.Str) = true := by decide +kernel
theorem ls_times : DX.locL (defScope s_times) (["one", "other"] : List PySem.Str) = true := by decide +kernel
theorem gs_times : DX.gloL (defScope s_times) (["ratio"] : List PySem.Str) = true := by decide +kernel
theorem bd_divided {K : PySem.W.Frag} {f : Addr} {fd : FuncData} (FD : FunD K "divided" d_divided.qual d_divided.params d_divided.body d_divided.scope (d_divided.dvs K) (d_divided.kws K) f fd) : L2.Binds K fd P_divided [] := FD.bindsN fun _ _ _ _ _ _ us hl => match us, hl with | [_, _], _ => rfl
theorem vs_divided : DX.visL (defScope s_divided) (["one", "other"] : List PySem.Str) = true := by decide +kernel
theorem ls_divided : DX.locL (defScope s_divided) (["one", "other"] : List PySem.Str) = true := by decide +kernel
theorem gs_divided : DX.gloL (defScope s_divided) (["InvalidFraction", "NOTHING", "ratio"] : List PySem.Str) = true := by decide +kernel
theorem bd_sign {K : PySem.W.Frag} {f : Addr} {fd : FuncData} (FD : FunD K "sign" d_sign.qual d_sign.params d_sign.body d_sign.scope (d_sign.dvs K) (d_sign.kws K) f fd) : L2.Binds K fd P_sign [] := FD.bindsN fun _ _ _ _ _ _ us hl => match us, hl with | [_], _ => rfl
theorem vs_sign : DX.visL (defScope s_sign) (["one"] : List PySem.Str) = true := by decide +kernel
theorem ls_sign : DX.locL (defScope s_sign) (["one"] : List PySem.Str) = true := by decide +kernel
theorem gs_sign : DX.gloL (defScope s_sign) (["min"] : List PySem.Str) = true := by decide +kernel
theorem bd_is_less {K : PySem.W.Frag} {f : Addr} {fd : FuncData} (FD : FunD K "is_less" d_is_less.qual d_is_less.params d_is_less.body d_is_less.scope (d_is_less.dvs K) (d_is_less.kws K) f fd) : L2.Binds K fd P_is_less [] := FD.bindsN fun _ _ _ _ _ _ us hl => match us, hl with | [_, _], _ => rfl
theorem vs_is_less : DX.visL (defScope s_is_less) (["one", "other"] : List PySem.Str) = true := by decide +kernel
theorem ls_is_less : DX.locL (defScope s_is_less) (["one", "other"] : List PySem.Str) = true := by decide +kernel
theorem gs_is_less : DX.gloL (defScope s_is_less) ([] : List PySem.Str) = true := by decide +kernel
theorem bd_floor_of {K : PySem.W.Frag} {f : Addr} {fd : FuncData} (FD : FunD K "floor_of" d_floor_of.qual d_floor_of.params d_floor_of.body d_floor_of.scope (d_floor_of.dvs K) (d_floor_of.kws K) f fd) : L2.Binds K fd P_floor_of [] := FD.bindsN fun _ _ _ _ _ _ us hl => match us, hl with | [_], _ => rfl
theorem vs_floor_of : DX.visL (defScope s_floor_of) (["one"] : List PySem.Str) = true := by decide +kernel
theorem ls_floor_of : DX.locL (defScope s_floor_of) (["one"] : List PySem.Str) = true := by decide +kernel
theorem gs_floor_of : DX.gloL (defScope s_floor_of) ([] : List PySem.Str) = true := by decide +kernel
theorem bd_L_bag {K : PySem.W.Frag} {f : Addr} {fd : FuncData} (FD : FunD K "_law_bag" d_L_bag.qual d_L_bag.params d_L_bag.body d_L_bag.scope (d_L_bag.dvs K) (d_L_bag.kws K) f fd) : L2.Binds K fd P_L_bag [] := FD.bindsN fun _ _ _ _ _ _ us hl => match us, hl with | [_], _ => rfl
theorem vs_L_bag : DX.visL (defScope s_L_bag) (["_law_script", "_law_cells"] : List PySem.Str) = true := by decide +kernel
theorem ls_L_bag : DX.locL (defScope s_L_bag) (["_law_script", "_law_cells"] : List PySem.Str) = true := by decide +kernel
theorem gs_L_bag : DX.gloL (defScope s_L_bag) (["len", "list"] : List PySem.Str) = true := by decide +kernel
theorem bd_L_draw {K : PySem.W.Frag} {f : Addr} {fd : FuncData} (FD : FunD K "_law_draw" d_L_draw.qual d_L_draw.params d_L_draw.body d_L_draw.scope (d_L_draw.dvs K) (d_L_draw.kws K) f fd) : L2.Binds K fd P_L_draw [] := FD.bindsN fun _ _ _ _ _ _ us hl => match us, hl with | [_, _], _ => rfl
theorem vs_L_draw : DX.visL (defScope s_L_draw) (["_law_bag_here", "_law_size", "_law_seed", "_law_cell", "_law_digit"] : List PySem.Str) = true := by decide +kernel
theorem ls_L_draw : DX.locL (defScope s_L_draw) (["_law_bag_here", "_law_size", "_law_seed", "_law_cell", "_law_digit"] : List PySem.Str) = true := by decide +kernel
theorem gs_L_draw : DX.gloL (defScope s_L_draw) (["abs", "int", "len"] : List PySem.Str) = true := by decide +kernel
theorem bd_L_pick {K : PySem.W.Frag} {f : Addr} {fd : FuncData} (FD : FunD K "_law_pick" d_L_pick.qual d_L_pick.params d_L_pick.body d_L_pick.scope (d_L_pick.dvs K) (d_L_pick.kws K) f fd) : L2.Binds K fd P_L_pick [] := FD.bindsN fun _ _ _ _ _ _ us hl => match us, hl with | [_, _], _ => rfl
theorem vs_L_pick : DX.visL (defScope s_L_pick) (["_law_bag_here", "_law_some"] : List PySem.Str) = true := by decide +kernel
theorem ls_L_pick : DX.locL (defScope s_L_pick) (["_law_bag_here", "_law_some"] : List PySem.Str) = true := by decide +kernel
theorem gs_L_pick : DX.gloL (defScope s_L_pick) (["_law_draw", "len"] : List PySem.Str) = true := by decide +kernel
theorem bd_L_huge {K : PySem.W.Frag} {f : Addr} {fd : FuncData} (FD : FunD K "_law_huge" d_L_huge.qual d_L_huge.params d_L_huge.body d_L_huge.scope (d_L_huge.dvs K) (d_L_huge.kws K) f fd) : L2.Binds K fd P_L_huge [] := FD.bindsN fun _ _ _ _ _ _ us hl => match us, hl with | [_], _ => rfl
theorem vs_L_huge : DX.visL (defScope s_L_huge) (["_law_bag_here", "_law_found"] : List PySem.Str) = true := by decide +kernel
theorem ls_L_huge : DX.locL (defScope s_L_huge) (["_law_bag_here", "_law_found"] : List PySem.Str) = true := by decide +kernel
theorem gs_L_huge : DX.gloL (defScope s_L_huge) (["_law_draw", "_law_pick"] : List PySem.Str) = true := by decide +kernel
theorem bd_L_number {K : PySem.W.Frag} {f : Addr} {fd : FuncData} (FD : FunD K "_law_number" d_L_number.qual d_L_number.params d_L_number.body d_L_number.scope (d_L_number.dvs K) (d_L_number.kws K) f fd) : L2.Binds K fd P_L_number [] := FD.bindsN fun _ _ _ _ _ _ us hl => match us, hl with | [_, _], _ => rfl
theorem vs_L_number : DX.visL (defScope s_L_number) (["_law_bag_here", "_law_near_here"] : List PySem.Str) = true := by decide +kernel
theorem ls_L_number : DX.locL (defScope s_L_number) (["_law_bag_here", "_law_near_here"] : List PySem.Str) = true := by decide +kernel
theorem gs_L_number : DX.gloL (defScope s_L_number) (["_law_draw", "_law_huge", "_law_pick"] : List PySem.Str) = true := by decide +kernel
theorem bd_L_int {K : PySem.W.Frag} {f : Addr} {fd : FuncData} (FD : FunD K "_law_int" d_L_int.qual d_L_int.params d_L_int.body d_L_int.scope (d_L_int.dvs K) (d_L_int.kws K) f fd) : L2.Binds K fd P_L_int [] := FD.bindsN fun _ _ _ _ _ _ us hl => match us, hl with | [_], _ => rfl
theorem vs_L_int : DX.visL (defScope s_L_int) (["_law_x"] : List PySem.Str) = true := by decide +kernel
theorem ls_L_int : DX.locL (defScope s_L_int) (["_law_x"] : List PySem.Str) = true := by decide +kernel
theorem gs_L_int : DX.gloL (defScope s_L_int) (["bool", "int", "isinstance"] : List PySem.Str) = true := by decide +kernel
theorem bd_L_same {K : PySem.W.Frag} {f : Addr} {fd : FuncData} (FD : FunD K "_law_same" d_L_same.qual d_L_same.params d_L_same.body d_L_same.scope (d_L_same.dvs K) (d_L_same.kws K) f fd) : L2.Binds K fd P_L_same [] := FD.bindsN fun _ _ _ _ _ _ us hl => match us, hl with | [_, _], _ => rfl
theorem vs_L_same : DX.visL (defScope s_L_same) (["_law_found", "_law_due"] : List PySem.Str) = true := by decide +kernel
theorem ls_L_same : DX.locL (defScope s_L_same) ([] : List PySem.Str) = true := by decide +kernel
theorem gs_L_same : DX.gloL (defScope s_L_same) (["_law_same", "all", "bool", "dict", "int", "isinstance", "len", "list", "str", "tuple", "zip"] : List PySem.Str) = true := by decide +kernel
theorem bd_L_fields {K : PySem.W.Frag} {f : Addr} {fd : FuncData} (FD : FunD K "_law_fields" d_L_fields.qual d_L_fields.params d_L_fields.body d_L_fields.scope (d_L_fields.dvs K) (d_L_fields.kws K) f fd) : L2.Binds K fd P_L_fields [] := FD.bindsN fun _ _ _ _ _ _ us hl => match us, hl with | [_], _ => rfl
theorem vs_L_fields : DX.visL (defScope s_L_fields) (["_law_e"] : List PySem.Str) = true := by decide +kernel
theorem ls_L_fields : DX.locL (defScope s_L_fields) (["_law_e"] : List PySem.Str) = true := by decide +kernel
theorem gs_L_fields : DX.gloL (defScope s_L_fields) ([] : List PySem.Str) = true := by decide +kernel
theorem bd_L_got {K : PySem.W.Frag} {f : Addr} {fd : FuncData} (FD : FunD K "_law_got" d_L_got.qual d_L_got.params d_L_got.body d_L_got.scope (d_L_got.dvs K) (d_L_got.kws K) f fd) : L2.Binds K fd P_L_got [] := FD.bindsN fun _ _ _ _ _ _ us hl => match us, hl with | [_], _ => rfl
theorem vs_L_got : DX.visL (defScope s_L_got) (["_law_ask", "_law_e"] : List PySem.Str) = true := by decide +kernel
theorem ls_L_got : DX.locL (defScope s_L_got) (["_law_ask", "_law_e"] : List PySem.Str) = true := by decide +kernel
theorem gs_L_got : DX.gloL (defScope s_L_got) (["Missing", "NetError", "_law_fields"] : List PySem.Str) = true := by decide +kernel
theorem bd_L_is {K : PySem.W.Frag} {f : Addr} {fd : FuncData} (FD : FunD K "_law_is" d_L_is.qual d_L_is.params d_L_is.body d_L_is.scope (d_L_is.dvs K) (d_L_is.kws K) f fd) : L2.Binds K fd P_L_is [] := FD.bindsN fun _ _ _ _ _ _ us hl => match us, hl with | [_, _], _ => rfl
theorem vs_L_is : DX.visL (defScope s_L_is) (["_law_ask", "_law_due"] : List PySem.Str) = true := by decide +kernel
theorem ls_L_is : DX.locL (defScope s_L_is) (["_law_ask", "_law_due"] : List PySem.Str) = true := by decide +kernel
theorem gs_L_is : DX.gloL (defScope s_L_is) (["_law_got", "_law_same"] : List PySem.Str) = true := by decide +kernel
theorem bd_L_odd {K : PySem.W.Frag} {f : Addr} {fd : FuncData} (FD : FunD K "_law_odd" d_L_odd.qual d_L_odd.params d_L_odd.body d_L_odd.scope (d_L_odd.dvs K) (d_L_odd.kws K) f fd) : L2.Binds K fd P_L_odd [] := FD.bindsN fun _ _ _ _ _ _ us hl => match us, hl with | [_], _ => rfl
theorem vs_L_odd : DX.visL (defScope s_L_odd) (["_law_bag_here", "_law_near_here", "_law_menu"] : List PySem.Str) = true := by decide +kernel
theorem ls_L_odd : DX.locL (defScope s_L_odd) (["_law_bag_here", "_law_near_here", "_law_menu"] : List PySem.Str) = true := by decide +kernel
theorem gs_L_odd : DX.gloL (defScope s_L_odd) (["_law_draw", "_law_pick"] : List PySem.Str) = true := by decide +kernel
theorem bd_L_gcd {K : PySem.W.Frag} {f : Addr} {fd : FuncData} (FD : FunD K "_law_gcd" d_L_gcd.qual d_L_gcd.params d_L_gcd.body d_L_gcd.scope (d_L_gcd.dvs K) (d_L_gcd.kws K) f fd) : L2.Binds K fd P_L_gcd [] := FD.bindsN fun _ _ _ _ _ _ us hl => match us, hl with | [_, _], _ => rfl
theorem vs_L_gcd : DX.visL (defScope s_L_gcd) (["_law_x", "_law_y"] : List PySem.Str) = true := by decide +kernel
theorem ls_L_gcd : DX.locL (defScope s_L_gcd) (["_law_x", "_law_y"] : List PySem.Str) = true := by decide +kernel
theorem gs_L_gcd : DX.gloL (defScope s_L_gcd) (["abs", "int"] : List PySem.Str) = true := by decide +kernel
theorem bd_L_low {K : PySem.W.Frag} {f : Addr} {fd : FuncData} (FD : FunD K "_law_low" d_L_low.qual d_L_low.params d_L_low.body d_L_low.scope (d_L_low.dvs K) (d_L_low.kws K) f fd) : L2.Binds K fd P_L_low [] := FD.bindsN fun _ _ _ _ _ _ us hl => match us, hl with | [_, _], _ => rfl
theorem vs_L_low : DX.visL (defScope s_L_low) (["_law_n", "_law_m", "_law_div"] : List PySem.Str) = true := by decide +kernel
theorem ls_L_low : DX.locL (defScope s_L_low) (["_law_n", "_law_m", "_law_div"] : List PySem.Str) = true := by decide +kernel
theorem gs_L_low : DX.gloL (defScope s_L_low) (["_law_gcd"] : List PySem.Str) = true := by decide +kernel
theorem bd_L_fraction {K : PySem.W.Frag} {f : Addr} {fd : FuncData} (FD : FunD K "_law_fraction" d_L_fraction.qual d_L_fraction.params d_L_fraction.body d_L_fraction.scope (d_L_fraction.dvs K) (d_L_fraction.kws K) f fd) : L2.Binds K fd P_L_fraction [] := FD.bindsN fun _ _ _ _ _ _ us hl => match us, hl with | [_, _], _ => rfl
theorem vs_L_fraction : DX.visL (defScope s_L_fraction) (["_law_bag_here", "_law_near_here"] : List PySem.Str) = true := by decide +kernel
theorem ls_L_fraction : DX.locL (defScope s_L_fraction) (["_law_bag_here", "_law_near_here"] : List PySem.Str) = true := by decide +kernel
theorem gs_L_fraction : DX.gloL (defScope s_L_fraction) (["_law_low", "_law_number", "_law_pick", "abs"] : List PySem.Str) = true := by decide +kernel
theorem bd_L_is_fraction {K : PySem.W.Frag} {f : Addr} {fd : FuncData} (FD : FunD K "_law_is_fraction" d_L_is_fraction.qual d_L_is_fraction.params d_L_is_fraction.body d_L_is_fraction.scope (d_L_is_fraction.dvs K) (d_L_is_fraction.kws K) f fd) : L2.Binds K fd P_L_is_fraction [] := FD.bindsN fun _ _ _ _ _ _ us hl => match us, hl with | [_], _ => rfl
theorem vs_L_is_fraction : DX.visL (defScope s_L_is_fraction) (["_law_x"] : List PySem.Str) = true := by decide +kernel
theorem ls_L_is_fraction : DX.locL (defScope s_L_is_fraction) (["_law_x"] : List PySem.Str) = true := by decide +kernel
theorem gs_L_is_fraction : DX.gloL (defScope s_L_is_fraction) (["_law_gcd", "all", "isinstance", "len", "tuple"] : List PySem.Str) = true := by decide +kernel
theorem bd_L_worth {K : PySem.W.Frag} {f : Addr} {fd : FuncData} (FD : FunD K "_law_worth" d_L_worth.qual d_L_worth.params d_L_worth.body d_L_worth.scope (d_L_worth.dvs K) (d_L_worth.kws K) f fd) : L2.Binds K fd P_L_worth [] := FD.bindsN fun _ _ _ _ _ _ us hl => match us, hl with | [_, _, _], _ => rfl
theorem vs_L_worth : DX.visL (defScope s_L_worth) (["_law_found", "_law_n", "_law_m"] : List PySem.Str) = true := by decide +kernel
theorem ls_L_worth : DX.locL (defScope s_L_worth) (["_law_found", "_law_n", "_law_m"] : List PySem.Str) = true := by decide +kernel
theorem gs_L_worth : DX.gloL (defScope s_L_worth) (["_law_is_fraction"] : List PySem.Str) = true := by decide +kernel
theorem bd_L_near {K : PySem.W.Frag} {f : Addr} {fd : FuncData} (FD : FunD K "_law_near" d_L_near.qual d_L_near.params d_L_near.body d_L_near.scope (d_L_near.dvs K) (d_L_near.kws K) f fd) : L2.Binds K fd P_L_near [] := FD.bindsN fun _ _ _ _ _ _ us hl => match us, hl with | [_, _, _], _ => rfl
theorem vs_L_near : DX.visL (defScope s_L_near) (["_law_bag_here", "_law_a", "_law_b", "_law_menu"] : List PySem.Str) = true := by decide +kernel
theorem ls_L_near : DX.locL (defScope s_L_near) (["_law_bag_here", "_law_a", "_law_b", "_law_menu"] : List PySem.Str) = true := by decide +kernel
theorem gs_L_near : DX.gloL (defScope s_L_near) (["_law_odd", "_law_pick", "str"] : List PySem.Str) = true := by decide +kernel
theorem bd_L_ratio_so {K : PySem.W.Frag} {f : Addr} {fd : FuncData} (FD : FunD K "_law_ratio_so" d_L_ratio_so.qual d_L_ratio_so.params d_L_ratio_so.body d_L_ratio_so.scope (d_L_ratio_so.dvs K) (d_L_ratio_so.kws K) f fd) : L2.Binds K fd P_L_ratio_so [] := FD.bindsN fun _ _ _ _ _ _ us hl => match us, hl with | [_], _ => rfl
theorem vs_L_ratio_so : DX.visL (defScope s_L_ratio_so) (["_law_bag_here", "_law_n", "_law_m"] : List PySem.Str) = true := by decide +kernel
theorem ls_L_ratio_so : DX.locL (defScope s_L_ratio_so) (["_law_bag_here"] : List PySem.Str) = true := by decide +kernel
theorem gs_L_ratio_so : DX.gloL (defScope s_L_ratio_so) (["_law_is", "_law_number", "_law_worth", "ratio"] : List PySem.Str) = true := by decide +kernel
theorem bd_L_two_so {K : PySem.W.Frag} {f : Addr} {fd : FuncData} (FD : FunD K "_law_two_so" d_L_two_so.qual d_L_two_so.params d_L_two_so.body d_L_two_so.scope (d_L_two_so.dvs K) (d_L_two_so.kws K) f fd) : L2.Binds K fd P_L_two_so [] := FD.bindsN fun _ _ _ _ _ _ us hl => match us, hl with | [_, _], _ => rfl
theorem vs_L_two_so : DX.visL (defScope s_L_two_so) (["_law_x", "_law_y", "_law_a", "_law_b", "_law_c", "_law_d"] : List PySem.Str) = true := by decide +kernel
theorem ls_L_two_so : DX.locL (defScope s_L_two_so) (["_law_a", "_law_b", "_law_c", "_law_d"] : List PySem.Str) = true := by decide +kernel
theorem gs_L_two_so : DX.gloL (defScope s_L_two_so) (["_law_is", "_law_same", "_law_worth", "divided", "is_less", "minus", "plus", "times"] : List PySem.Str) = true := by decide +kernel
theorem bd_law {K : PySem.W.Frag} {f : Addr} {fd : FuncData} (FD : FunD K "law" d_law.qual d_law.params d_law.body d_law.scope (d_law.dvs K) (d_law.kws K) f fd) : L2.Binds K fd P_law [] := FD.bindsN fun _ _ _ _ _ _ us hl => match us, hl with | [_], _ => rfl
theorem vs_law : DX.visL (defScope s_law) (["_law_script", "_law_bag_here", "_law_turn", "_law_y", "_law_k", "_law_x", "_law_z", "_law_a", "_law_b", "_law_c", "_law_d", "_law_thing"] : List PySem.Str) = true := by decide +kernel
theorem ls_law : DX.locL (defScope s_law) (["_law_script", "_law_bag_here", "_law_turn", "_law_y", "_law_k", "_law_x", "_law_z", "_law_a", "_law_b", "_law_c", "_law_d", "_law_thing"] : List PySem.Str) = true := by decide +kernel
theorem gs_law : DX.gloL (defScope s_law) (["_law_bag", "_law_fraction", "_law_is_fraction", "_law_low", "_law_near", "_law_pick", "_law_ratio_so", "_law_same", "_law_two_so", "_law_worth", "floor_of", "int", "is_fraction", "range", "sign", "total"] : List PySem.Str) = true := by decide +kernel
abbrev R : PySem.W.OpenRow := PySem.W.OpenLaw.row PySem.Challenge.rw_endlessnets_k02_fractions_reckoned
def tf : List He.Defn := [("_law_ratio_so", none), ("_law_two_so", none)]
def errF (K : PySem.W.Frag) (x : PySem.Str) : Bool := DX.oexB K (He.ga K x) && (L2.xfB K (He.ga K x) && (He.eqO (PySem.W.findIn K (.ref (He.ga K x)) "__init__") (some (some (.ref (He.ma K (He.ga K x) "__init__")))) && (decide (PySem.W.typeIn K (.ref (He.ma K (He.ga K x) "__init__")) = some (.type "function")) &&
  (He.eqO (PySem.W.findIn K (.ref (He.ga K x)) "value") (some none) && (He.eqO (PySem.W.findIn K (.ref (He.ga K x)) "code") (some none) && decide (PySem.W.exmAny K (.ref (He.ga K x)) [.ref (He.ga K "NetError"), .ref (He.ga K "Missing")] = some true))))))
def exB : PySem.W.Frag → Bool := fun K => decide ((tf.map fun p => (He.cT K p).2).Nodup) && (errF K "InvalidNumber" && (errF K "InvalidFraction" && (DX.binB K (He.ga K "NetError") && (He.tupB K "NOTHING" [.int 0, .int 1] && (He.eqO (PySem.W.nsIn K mainGlobals "NOTHING") (some (some (.ref (He.ga K "NOTHING")))) && He.eqO (PySem.W.nsIn K mainGlobals "gcd") (some (some (.builtin "math.gcd"))))))))
abbrev hk : PySem.W.Hook := DX.hookS 6 fa fn tf exB
def ob (s : PySem.W.SharedT) : He.AlX := DX.obsS 6 fa fn tf exB (HandSHeadRun.getT s)
theorem ob_eq (s : PySem.W.SharedT) : ob s = hk.obs s.abs := DX.obsS_eq (HandSHeadRun.getT_eq s)
theorem run (w : World) : HandSHeadRun.RunEqI R (PySem.W.view R.prog [0, lawAt]) hk ob 4000 loose w := by
  unfold HandSHeadRun.RunEqI
  kernel_rfl
end K02

set_option Elab.async false
set_option linter.all false
set_option maxRecDepth 100000
set_option maxHeartbeats 4000000
namespace K02
open PySem PySem.Spec PyProof.Rows L2 DX
theorem bd2_ratio {K : PySem.W.Frag} {f : Addr} {fd : FuncData} (FD : FunD K "ratio" d_ratio.qual d_ratio.params d_ratio.body d_ratio.scope (d_ratio.dvs K) (d_ratio.kws K) f fd) : L2.Binds K fd P_ratio [] := by
  obtain ⟨ds, r, b⟩ := FunD.binds1 (ps := P_ratio) FD 2 1 (fun z => by cases z) (by rfl) fun T kV doc pm an cdv ct us its h1 h2 => by
    match us, h1, its, h2 with
    | [u, w], _, [t], _ => exact ⟨_, rfl, rfl⟩
  cases ds with
  | nil => exact b
  | cons a l => cases r
theorem bd1_ratio {K : PySem.W.Frag} {f : Addr} {fd : FuncData} (FD : FunD K "ratio" d_ratio.qual d_ratio.params d_ratio.body d_ratio.scope (d_ratio.dvs K) (d_ratio.kws K) f fd) : ∃ ds, Vals [V.int 1] ds ∧ L2.Binds K fd P_ratio ds :=
  FunD.binds1 (ps := P_ratio) FD 1 0 (fun z => by cases z) (by rfl) fun T kV doc pm an cdv ct us its h1 h2 => by
    match us, h1, its, h2 with
    | [u], _, [t], _ => exact ⟨_, rfl, rfl⟩
theorem star_total (kV doc pm : Value) (an : Option Addr) (cdv ct : Value) (rest : List Value) : bindArgs (PySem.W.fnOf "total" d_total.qual d_total.params d_total.body d_total.scope .none kV doc pm an cdv ct) ⟨rest, []⟩ = (newTuple rest >>= fun t => pure [(("fractions" : PySem.Str), t)]) := by
  cases rest with
  | nil => rfl
  | cons a l => rfl
theorem vals_rev : ∀ {vs : List V} {us : List Value}, Vals vs us → Vals vs.reverse us.reverse
  | _, _, .nil => .nil
  | _, _, .cons a t => by
    rw [List.reverse_cons, List.reverse_cons]
    exact (vals_rev t).append (.cons a .nil)
theorem bk2_ratio {K : PySem.W.Frag} {f : Addr} {fd : FuncData} (FD : FunD K "ratio" d_ratio.qual d_ratio.params d_ratio.body d_ratio.scope (d_ratio.dvs K) (d_ratio.kws K) f fd) : L2.KBinds K fd P_ratio ["under", "over"] (fun us ws => us ++ ws.reverse) (fun vs zs => vs ++ zs.reverse) := by
  obtain ⟨oc, od, dV, kV, doc, pm, an, cdv, ct, osl, rfl, lk, hcd, hD, hK⟩ := FD.ex
  rcases hD with ⟨e, _⟩ | ⟨_, T, o, its, m, rfl, lT, oT, rT⟩
  · cases e
  · refine ⟨fun s us ws X hl => ?_, fun r1 r2 => r1.append (vals_rev r2)⟩
    have hi : its.length = 1 := rT.length.symm
    have key : ∃ k, bindArgs (PySem.W.fnOf "ratio" d_ratio.qual d_ratio.params d_ratio.body d_ratio.scope (.ref T) kV doc pm an cdv ct) ⟨us, (["under", "over"] : List Str).zip ws⟩ = seqItems? (.ref T) >>= k ∧ k (some its.toArray) = pure (P_ratio.zip (us ++ ws.reverse)) := by
      have hl2 : us.length + ws.length = 2 := by simpa using hl
      obtain ⟨t, rfl⟩ : ∃ t, its = [t] := by
        match its, hi with
        | [t], _ => exact ⟨t, rfl⟩
      rcases us with _ | ⟨a, _ | ⟨b, _ | ⟨b', us⟩⟩⟩
      · rcases ws with _ | ⟨c, _ | ⟨d, _ | ⟨e, ws⟩⟩⟩
        · cases hl2
        · cases hl2
        · exact ⟨_, rfl, rfl⟩
        · simp only [List.length_cons, List.length_nil] at hl2; omega
      · rcases ws with _ | ⟨c, _ | ⟨d, ws⟩⟩
        · cases hl2
        · exact ⟨_, rfl, rfl⟩
        · simp only [List.length_cons, List.length_nil] at hl2; omega
      · rcases ws with _ | ⟨c, ws⟩
        · exact ⟨_, rfl, rfl⟩
        · simp only [List.length_cons, List.length_nil] at hl2; omega
      · simp only [List.length_cons] at hl2; omega
    obtain ⟨k, e1, e2⟩ := key
    refine BindsTo.of_looks fun M => ?_
    rw [e1]
    exact looks_items X lT oT (.of_pure e2)
theorem bk1_ratio {K : PySem.W.Frag} {f : Addr} {fd : FuncData} (FD : FunD K "ratio" d_ratio.qual d_ratio.params d_ratio.body d_ratio.scope (d_ratio.dvs K) (d_ratio.kws K) f fd) : ∃ its : List Value, L2.KBinds K fd P_ratio ["over"] (fun us ws => (us ++ ws) ++ its) (fun vs zs => (vs ++ zs) ++ [V.int 1]) := by
  obtain ⟨oc, od, dV, kV, doc, pm, an, cdv, ct, osl, rfl, lk, hcd, hD, hK⟩ := FD.ex
  rcases hD with ⟨e, _⟩ | ⟨_, T, o, its, m, rfl, lT, oT, rT⟩
  · cases e
  · refine ⟨its, fun s us ws X hl => ?_, fun r1 r2 => (r1.append r2).append rT⟩
    have hi : its.length = 1 := rT.length.symm
    have key : ∃ k, bindArgs (PySem.W.fnOf "ratio" d_ratio.qual d_ratio.params d_ratio.body d_ratio.scope (.ref T) kV doc pm an cdv ct) ⟨us, (["over"] : List Str).zip ws⟩ = seqItems? (.ref T) >>= k ∧ k (some its.toArray) = pure (P_ratio.zip ((us ++ ws) ++ its)) := by
      have hl2 : us.length + (ws.length + its.length) = 2 := by simpa using hl
      obtain ⟨t, rfl⟩ : ∃ t, its = [t] := by
        match its, hi with
        | [t], _ => exact ⟨t, rfl⟩
      rcases us with _ | ⟨a, _ | ⟨b, us⟩⟩
      · rcases ws with _ | ⟨c, _ | ⟨d, ws⟩⟩
        · cases hl2
        · exact ⟨_, rfl, rfl⟩
        · simp only [List.length_cons, List.length_nil] at hl2; omega
      · rcases ws with _ | ⟨c, ws⟩
        · exact ⟨_, rfl, rfl⟩
        · simp only [List.length_cons, List.length_nil] at hl2; omega
      · simp only [List.length_cons, List.length_nil] at hl2; omega
    obtain ⟨k, e1, e2⟩ := key
    refine BindsTo.of_looks fun M => ?_
    rw [e1]
    exact looks_items X lT oT (.of_pure e2)
end K02

set_option Elab.async false
set_option linter.all false
set_option maxRecDepth 100000
set_option maxHeartbeats 4000000
namespace K02
open PySem PySem.Spec PyProof.Rows L2
section
variable {G : DX.Gb} {h : Heap} (X : G.K.In h) (Gm : h.Ns mainGlobals G.mg) (c : He.SaysD fa fn G.K)
include X Gm c
theorem pk_is_integer_value : Pk G "is_integer_value" d_is_integer_value := by
  obtain ⟨fd, F⟩ := c.def_ 2 (d := d_is_integer_value) rfl
  exact ⟨_, fd, F, He.glo_ok X Gm (c.fact 4 (f := .glo "is_integer_value") rfl)⟩
theorem pk_is_fraction : Pk G "is_fraction" d_is_fraction := by
  obtain ⟨fd, F⟩ := c.def_ 3 (d := d_is_fraction) rfl
  exact ⟨_, fd, F, He.glo_ok X Gm (c.fact 5 (f := .glo "is_fraction") rfl)⟩
theorem pk_ratio : Pk G "ratio" d_ratio := by
  obtain ⟨fd, F⟩ := c.def_ 4 (d := d_ratio) rfl
  exact ⟨_, fd, F, He.glo_ok X Gm (c.fact 6 (f := .glo "ratio") rfl)⟩
theorem pk_plus : Pk G "plus" d_plus := by
  obtain ⟨fd, F⟩ := c.def_ 5 (d := d_plus) rfl
  exact ⟨_, fd, F, He.glo_ok X Gm (c.fact 7 (f := .glo "plus") rfl)⟩
theorem pk_minus : Pk G "minus" d_minus := by
  obtain ⟨fd, F⟩ := c.def_ 6 (d := d_minus) rfl
  exact ⟨_, fd, F, He.glo_ok X Gm (c.fact 8 (f := .glo "minus") rfl)⟩
theorem pk_times : Pk G "times" d_times := by
  obtain ⟨fd, F⟩ := c.def_ 7 (d := d_times) rfl
  exact ⟨_, fd, F, He.glo_ok X Gm (c.fact 9 (f := .glo "times") rfl)⟩
theorem pk_divided : Pk G "divided" d_divided := by
  obtain ⟨fd, F⟩ := c.def_ 8 (d := d_divided) rfl
  exact ⟨_, fd, F, He.glo_ok X Gm (c.fact 10 (f := .glo "divided") rfl)⟩
theorem pk_sign : Pk G "sign" d_sign := by
  obtain ⟨fd, F⟩ := c.def_ 9 (d := d_sign) rfl
  exact ⟨_, fd, F, He.glo_ok X Gm (c.fact 11 (f := .glo "sign") rfl)⟩
theorem pk_is_less : Pk G "is_less" d_is_less := by
  obtain ⟨fd, F⟩ := c.def_ 10 (d := d_is_less) rfl
  exact ⟨_, fd, F, He.glo_ok X Gm (c.fact 12 (f := .glo "is_less") rfl)⟩
theorem pk_floor_of : Pk G "floor_of" d_floor_of := by
  obtain ⟨fd, F⟩ := c.def_ 11 (d := d_floor_of) rfl
  exact ⟨_, fd, F, He.glo_ok X Gm (c.fact 13 (f := .glo "floor_of") rfl)⟩
theorem pk_total : Pk G "total" d_total := by
  obtain ⟨fd, F⟩ := c.def_ 12 (d := d_total) rfl
  exact ⟨_, fd, F, He.glo_ok X Gm (c.fact 14 (f := .glo "total") rfl)⟩
theorem pk_L_bag : Pk G "_law_bag" d_L_bag := by
  obtain ⟨fd, F⟩ := c.def_ 13 (d := d_L_bag) rfl
  exact ⟨_, fd, F, He.glo_ok X Gm (c.fact 15 (f := .glo "_law_bag") rfl)⟩
theorem pk_L_draw : Pk G "_law_draw" d_L_draw := by
  obtain ⟨fd, F⟩ := c.def_ 14 (d := d_L_draw) rfl
  exact ⟨_, fd, F, He.glo_ok X Gm (c.fact 16 (f := .glo "_law_draw") rfl)⟩
theorem pk_L_pick : Pk G "_law_pick" d_L_pick := by
  obtain ⟨fd, F⟩ := c.def_ 15 (d := d_L_pick) rfl
  exact ⟨_, fd, F, He.glo_ok X Gm (c.fact 17 (f := .glo "_law_pick") rfl)⟩
theorem pk_L_huge : Pk G "_law_huge" d_L_huge := by
  obtain ⟨fd, F⟩ := c.def_ 16 (d := d_L_huge) rfl
  exact ⟨_, fd, F, He.glo_ok X Gm (c.fact 18 (f := .glo "_law_huge") rfl)⟩
theorem pk_L_number : Pk G "_law_number" d_L_number := by
  obtain ⟨fd, F⟩ := c.def_ 17 (d := d_L_number) rfl
  exact ⟨_, fd, F, He.glo_ok X Gm (c.fact 19 (f := .glo "_law_number") rfl)⟩
theorem pk_L_int : Pk G "_law_int" d_L_int := by
  obtain ⟨fd, F⟩ := c.def_ 18 (d := d_L_int) rfl
  exact ⟨_, fd, F, He.glo_ok X Gm (c.fact 20 (f := .glo "_law_int") rfl)⟩
theorem pk_L_same : Pk G "_law_same" d_L_same := by
  obtain ⟨fd, F⟩ := c.def_ 19 (d := d_L_same) rfl
  exact ⟨_, fd, F, He.glo_ok X Gm (c.fact 21 (f := .glo "_law_same") rfl)⟩
theorem pk_L_fields : Pk G "_law_fields" d_L_fields := by
  obtain ⟨fd, F⟩ := c.def_ 20 (d := d_L_fields) rfl
  exact ⟨_, fd, F, He.glo_ok X Gm (c.fact 22 (f := .glo "_law_fields") rfl)⟩
theorem pk_L_got : Pk G "_law_got" d_L_got := by
  obtain ⟨fd, F⟩ := c.def_ 21 (d := d_L_got) rfl
  exact ⟨_, fd, F, He.glo_ok X Gm (c.fact 23 (f := .glo "_law_got") rfl)⟩
theorem pk_L_is : Pk G "_law_is" d_L_is := by
  obtain ⟨fd, F⟩ := c.def_ 22 (d := d_L_is) rfl
  exact ⟨_, fd, F, He.glo_ok X Gm (c.fact 24 (f := .glo "_law_is") rfl)⟩
theorem pk_L_odd : Pk G "_law_odd" d_L_odd := by
  obtain ⟨fd, F⟩ := c.def_ 23 (d := d_L_odd) rfl
  exact ⟨_, fd, F, He.glo_ok X Gm (c.fact 25 (f := .glo "_law_odd") rfl)⟩
theorem pk_L_gcd : Pk G "_law_gcd" d_L_gcd := by
  obtain ⟨fd, F⟩ := c.def_ 24 (d := d_L_gcd) rfl
  exact ⟨_, fd, F, He.glo_ok X Gm (c.fact 26 (f := .glo "_law_gcd") rfl)⟩
theorem pk_L_low : Pk G "_law_low" d_L_low := by
  obtain ⟨fd, F⟩ := c.def_ 25 (d := d_L_low) rfl
  exact ⟨_, fd, F, He.glo_ok X Gm (c.fact 27 (f := .glo "_law_low") rfl)⟩
theorem pk_L_fraction : Pk G "_law_fraction" d_L_fraction := by
  obtain ⟨fd, F⟩ := c.def_ 26 (d := d_L_fraction) rfl
  exact ⟨_, fd, F, He.glo_ok X Gm (c.fact 28 (f := .glo "_law_fraction") rfl)⟩
theorem pk_L_is_fraction : Pk G "_law_is_fraction" d_L_is_fraction := by
  obtain ⟨fd, F⟩ := c.def_ 27 (d := d_L_is_fraction) rfl
  exact ⟨_, fd, F, He.glo_ok X Gm (c.fact 29 (f := .glo "_law_is_fraction") rfl)⟩
theorem pk_L_worth : Pk G "_law_worth" d_L_worth := by
  obtain ⟨fd, F⟩ := c.def_ 28 (d := d_L_worth) rfl
  exact ⟨_, fd, F, He.glo_ok X Gm (c.fact 30 (f := .glo "_law_worth") rfl)⟩
theorem pk_L_near : Pk G "_law_near" d_L_near := by
  obtain ⟨fd, F⟩ := c.def_ 29 (d := d_L_near) rfl
  exact ⟨_, fd, F, He.glo_ok X Gm (c.fact 31 (f := .glo "_law_near") rfl)⟩
theorem pk_L_ratio_so : Pk G "_law_ratio_so" d_L_ratio_so := by
  obtain ⟨fd, F⟩ := c.def_ 30 (d := d_L_ratio_so) rfl
  exact ⟨_, fd, F, He.glo_ok X Gm (c.fact 32 (f := .glo "_law_ratio_so") rfl)⟩
theorem pk_L_two_so : Pk G "_law_two_so" d_L_two_so := by
  obtain ⟨fd, F⟩ := c.def_ 31 (d := d_L_two_so) rfl
  exact ⟨_, fd, F, He.glo_ok X Gm (c.fact 33 (f := .glo "_law_two_so") rfl)⟩
theorem pk_law : Pk G "law" d_law := by
  obtain ⟨fd, F⟩ := c.def_ 32 (d := d_law) rfl
  exact ⟨_, fd, F, He.glo_ok X Gm (c.fact 34 (f := .glo "law") rfl)⟩
theorem gl_NetError : G.mg "NetError" = some (.ref (He.ga G.K "NetError")) := He.glo_ok X Gm (c.fact 0 (f := .glo "NetError") rfl)
theorem gl_InvalidNumber : G.mg "InvalidNumber" = some (.ref (He.ga G.K "InvalidNumber")) := He.glo_ok X Gm (c.fact 1 (f := .glo "InvalidNumber") rfl)
theorem gl_InvalidFraction : G.mg "InvalidFraction" = some (.ref (He.ga G.K "InvalidFraction")) := He.glo_ok X Gm (c.fact 2 (f := .glo "InvalidFraction") rfl)
theorem gl_Missing : G.mg "Missing" = some (.ref (He.ga G.K "Missing")) := He.glo_ok X Gm (c.fact 3 (f := .glo "Missing") rfl)
theorem gl_is_integer_value : G.mg "is_integer_value" = some (.ref (He.ga G.K "is_integer_value")) := He.glo_ok X Gm (c.fact 4 (f := .glo "is_integer_value") rfl)
theorem gl_is_fraction : G.mg "is_fraction" = some (.ref (He.ga G.K "is_fraction")) := He.glo_ok X Gm (c.fact 5 (f := .glo "is_fraction") rfl)
theorem gl_ratio : G.mg "ratio" = some (.ref (He.ga G.K "ratio")) := He.glo_ok X Gm (c.fact 6 (f := .glo "ratio") rfl)
theorem gl_plus : G.mg "plus" = some (.ref (He.ga G.K "plus")) := He.glo_ok X Gm (c.fact 7 (f := .glo "plus") rfl)
theorem gl_minus : G.mg "minus" = some (.ref (He.ga G.K "minus")) := He.glo_ok X Gm (c.fact 8 (f := .glo "minus") rfl)
theorem gl_times : G.mg "times" = some (.ref (He.ga G.K "times")) := He.glo_ok X Gm (c.fact 9 (f := .glo "times") rfl)
theorem gl_divided : G.mg "divided" = some (.ref (He.ga G.K "divided")) := He.glo_ok X Gm (c.fact 10 (f := .glo "divided") rfl)
theorem gl_sign : G.mg "sign" = some (.ref (He.ga G.K "sign")) := He.glo_ok X Gm (c.fact 11 (f := .glo "sign") rfl)
theorem gl_is_less : G.mg "is_less" = some (.ref (He.ga G.K "is_less")) := He.glo_ok X Gm (c.fact 12 (f := .glo "is_less") rfl)
theorem gl_floor_of : G.mg "floor_of" = some (.ref (He.ga G.K "floor_of")) := He.glo_ok X Gm (c.fact 13 (f := .glo "floor_of") rfl)
theorem gl_total : G.mg "total" = some (.ref (He.ga G.K "total")) := He.glo_ok X Gm (c.fact 14 (f := .glo "total") rfl)
theorem gl_L_bag : G.mg "_law_bag" = some (.ref (He.ga G.K "_law_bag")) := He.glo_ok X Gm (c.fact 15 (f := .glo "_law_bag") rfl)
theorem gl_L_draw : G.mg "_law_draw" = some (.ref (He.ga G.K "_law_draw")) := He.glo_ok X Gm (c.fact 16 (f := .glo "_law_draw") rfl)
theorem gl_L_pick : G.mg "_law_pick" = some (.ref (He.ga G.K "_law_pick")) := He.glo_ok X Gm (c.fact 17 (f := .glo "_law_pick") rfl)
theorem gl_L_huge : G.mg "_law_huge" = some (.ref (He.ga G.K "_law_huge")) := He.glo_ok X Gm (c.fact 18 (f := .glo "_law_huge") rfl)
theorem gl_L_number : G.mg "_law_number" = some (.ref (He.ga G.K "_law_number")) := He.glo_ok X Gm (c.fact 19 (f := .glo "_law_number") rfl)
theorem gl_L_int : G.mg "_law_int" = some (.ref (He.ga G.K "_law_int")) := He.glo_ok X Gm (c.fact 20 (f := .glo "_law_int") rfl)
theorem gl_L_same : G.mg "_law_same" = some (.ref (He.ga G.K "_law_same")) := He.glo_ok X Gm (c.fact 21 (f := .glo "_law_same") rfl)
theorem gl_L_fields : G.mg "_law_fields" = some (.ref (He.ga G.K "_law_fields")) := He.glo_ok X Gm (c.fact 22 (f := .glo "_law_fields") rfl)
theorem gl_L_got : G.mg "_law_got" = some (.ref (He.ga G.K "_law_got")) := He.glo_ok X Gm (c.fact 23 (f := .glo "_law_got") rfl)
theorem gl_L_is : G.mg "_law_is" = some (.ref (He.ga G.K "_law_is")) := He.glo_ok X Gm (c.fact 24 (f := .glo "_law_is") rfl)
theorem gl_L_odd : G.mg "_law_odd" = some (.ref (He.ga G.K "_law_odd")) := He.glo_ok X Gm (c.fact 25 (f := .glo "_law_odd") rfl)
theorem gl_L_gcd : G.mg "_law_gcd" = some (.ref (He.ga G.K "_law_gcd")) := He.glo_ok X Gm (c.fact 26 (f := .glo "_law_gcd") rfl)
theorem gl_L_low : G.mg "_law_low" = some (.ref (He.ga G.K "_law_low")) := He.glo_ok X Gm (c.fact 27 (f := .glo "_law_low") rfl)
theorem gl_L_fraction : G.mg "_law_fraction" = some (.ref (He.ga G.K "_law_fraction")) := He.glo_ok X Gm (c.fact 28 (f := .glo "_law_fraction") rfl)
theorem gl_L_is_fraction : G.mg "_law_is_fraction" = some (.ref (He.ga G.K "_law_is_fraction")) := He.glo_ok X Gm (c.fact 29 (f := .glo "_law_is_fraction") rfl)
theorem gl_L_worth : G.mg "_law_worth" = some (.ref (He.ga G.K "_law_worth")) := He.glo_ok X Gm (c.fact 30 (f := .glo "_law_worth") rfl)
theorem gl_L_near : G.mg "_law_near" = some (.ref (He.ga G.K "_law_near")) := He.glo_ok X Gm (c.fact 31 (f := .glo "_law_near") rfl)
theorem gl_L_ratio_so : G.mg "_law_ratio_so" = some (.ref (He.ga G.K "_law_ratio_so")) := He.glo_ok X Gm (c.fact 32 (f := .glo "_law_ratio_so") rfl)
theorem gl_L_two_so : G.mg "_law_two_so" = some (.ref (He.ga G.K "_law_two_so")) := He.glo_ok X Gm (c.fact 33 (f := .glo "_law_two_so") rfl)
theorem gl_law : G.mg "law" = some (.ref (He.ga G.K "law")) := He.glo_ok X Gm (c.fact 34 (f := .glo "law") rfl)
theorem fr_LookupError : G.mg "LookupError" = none := He.free_ok X Gm (c.fact 35 (f := .free "LookupError") rfl)
theorem fr_ValueError : G.mg "ValueError" = none := He.free_ok X Gm (c.fact 36 (f := .free "ValueError") rfl)
theorem fr_abs : G.mg "abs" = none := He.free_ok X Gm (c.fact 37 (f := .free "abs") rfl)
theorem fr_all : G.mg "all" = none := He.free_ok X Gm (c.fact 38 (f := .free "all") rfl)
theorem fr_bool : G.mg "bool" = none := He.free_ok X Gm (c.fact 39 (f := .free "bool") rfl)
theorem fr_dict : G.mg "dict" = none := He.free_ok X Gm (c.fact 40 (f := .free "dict") rfl)
theorem fr_int : G.mg "int" = none := He.free_ok X Gm (c.fact 41 (f := .free "int") rfl)
theorem fr_isinstance : G.mg "isinstance" = none := He.free_ok X Gm (c.fact 42 (f := .free "isinstance") rfl)
theorem fr_len : G.mg "len" = none := He.free_ok X Gm (c.fact 43 (f := .free "len") rfl)
theorem fr_list : G.mg "list" = none := He.free_ok X Gm (c.fact 44 (f := .free "list") rfl)
theorem fr_min : G.mg "min" = none := He.free_ok X Gm (c.fact 45 (f := .free "min") rfl)
theorem fr_range : G.mg "range" = none := He.free_ok X Gm (c.fact 46 (f := .free "range") rfl)
theorem fr_str : G.mg "str" = none := He.free_ok X Gm (c.fact 47 (f := .free "str") rfl)
theorem fr_tuple : G.mg "tuple" = none := He.free_ok X Gm (c.fact 48 (f := .free "tuple") rfl)
theorem fr_zip : G.mg "zip" = none := He.free_ok X Gm (c.fact 49 (f := .free "zip") rfl)
end

end K02

set_option Elab.async false
set_option linter.all false
set_option maxRecDepth 100000
set_option maxHeartbeats 4000000
namespace K02
open PySem PySem.Spec PyProof.Rows L2 DX
set_option hygiene false
local macro_rules
  | `(tactic| walk_at "name") => `(tactic| first | refine ex_name (i := 0) cn (by rfl) (visC_ok vs (by decide +kernel)) (by rfl) ?_ | refine ex_name (i := 1) cn (by rfl) (visC_ok vs (by decide +kernel)) (by rfl) ?_ | refine ex_name (i := 2) cn (by rfl) (visC_ok vs (by decide +kernel)) (by rfl) ?_ | refine ex_name (i := 3) cn (by rfl) (visC_ok vs (by decide +kernel)) (by rfl) ?_ | refine ex_name (i := 4) cn (by rfl) (visC_ok vs (by decide +kernel)) (by rfl) ?_ | refine ex_name (i := 5) cn (by rfl) (visC_ok vs (by decide +kernel)) (by rfl) ?_ | refine ex_name (i := 6) cn (by rfl) (visC_ok vs (by decide +kernel)) (by rfl) ?_ | refine ex_name (i := 7) cn (by rfl) (visC_ok vs (by decide +kernel)) (by rfl) ?_)
local macro_rules
  | `(tactic| walk_at "call") => `(tactic| first
    | (show EX _ _ _ (.Call (.Name "_law_draw" _) _ _ _) _ _ _; refine ex_call cn (gloL_ok gs (by decide +kernel)) fdraw (by decide) ?_)
    | (show EX _ _ _ (.Call (.Name "_law_pick" _) _ _ _) _ _ _; refine ex_call cn (gloL_ok gs (by decide +kernel)) fpick (by decide) ?_)
    | (show EX _ _ _ (.Call (.Name "_law_huge" _) _ _ _) _ _ _; refine ex_call cn (gloL_ok gs (by decide +kernel)) fhuge (by decide) ?_)
    | (show EX _ _ _ (.Call (.Name "_law_number" _) _ _ _) _ _ _; refine ex_call cn (gloL_ok gs (by decide +kernel)) fnumber (by decide) ?_)
    | (show EX _ _ _ (.Call (.Name "isinstance" _) [_, .Name "int" _] _ _) _ _ _; refine ex_isi (T := "int") cn (gloL_ok gs (by decide +kernel)) fx.isi (gloL_ok gs (by decide +kernel)) fx.int (by decide +kernel) ?_)
    | (show EX _ _ _ (.Call (.Name "isinstance" _) [_, .Name "bool" _] _ _) _ _ _; refine ex_isi (T := "bool") cn (gloL_ok gs (by decide +kernel)) fx.isi (gloL_ok gs (by decide +kernel)) fx.bool (by decide +kernel) ?_)
    | (show EX _ _ _ (.Call (.Name "isinstance" _) [_, .Name "str" _] _ _) _ _ _; refine ex_isi (T := "str") cn (gloL_ok gs (by decide +kernel)) fx.isi (gloL_ok gs (by decide +kernel)) fx.str (by decide +kernel) ?_)
    | (show EX _ _ _ (.Call (.Name "isinstance" _) [_, .Name "tuple" _] _ _) _ _ _; refine ex_isi (T := "tuple") cn (gloL_ok gs (by decide +kernel)) fx.isi (gloL_ok gs (by decide +kernel)) fx.tuple (by decide +kernel) ?_)
    | (show EX _ _ _ (.Call (.Name "isinstance" _) [_, .Name "list" _] _ _) _ _ _; refine ex_isi (T := "list") cn (gloL_ok gs (by decide +kernel)) fx.isi (gloL_ok gs (by decide +kernel)) fx.list (by decide +kernel) ?_)
    | (show EX _ _ _ (.Call (.Name "isinstance" _) [_, .Name "dict" _] _ _) _ _ _; refine ex_isi (T := "dict") cn (gloL_ok gs (by decide +kernel)) fx.isi (gloL_ok gs (by decide +kernel)) fx.dict (by decide +kernel) ?_)
    | refine ex_len cn (gloL_ok gs (by decide +kernel)) fx.len ?_ | refine ex_abs cn (gloL_ok gs (by decide +kernel)) fx.abs ?_ | refine ex_intc cn (gloL_ok gs (by decide +kernel)) fx.int ?_)
local macro_rules
  | `(tactic| walk_at "e") => `(tactic| first
    | (show EX _ _ _ (.Name _ _) _ _ _; walk_at "name")
    | (show EX _ _ _ (.Constant _ _ _) _ _ _; first | refine ex_int ?_ | refine ex_str ?_ | refine ex_bl ?_ | refine ex_non ?_)
    | (show EX _ _ _ (.BinOp _ _ _ _) _ _ _; first | refine ex_add ?_ | refine ex_sub ?_ | refine ex_mul ?_ | refine ex_mod ?_ | refine ex_div ?_ | refine ex_pow ?_)
    | (show EX _ _ _ (.Subscript _ _ _) _ _ _; refine ex_ix (fun _ _ => rfl) ?_)
    | (show EX _ _ _ (.Call _ _ _ _) _ _ _; walk_at "call")
    | (show EX _ _ _ (.Compare _ [_] _ _) _ _ _; first | refine ex_lt ?_ | refine ex_le ?_ | refine ex_gt ?_ | refine ex_ge ?_ | refine ex_eq cn ?_ | refine ex_ne cn ?_)
    | (show TX _ _ _ (.Compare _ [_] _ _) _ _ _; first | refine tx_lt ?_ | refine tx_le ?_ | refine tx_gt ?_ | refine tx_ge ?_ | refine tx_eq cn ?_ | refine tx_ne cn ?_)
    | (show TX _ _ _ (.Call _ _ _ _) _ _ _; refine tx_val ?_)
    | (show TX _ _ _ (.Name _ _) _ _ _; refine tx_val ?_)
    | (show TX _ _ _ (.UnaryOp _ _ _) _ _ _; refine tx_not ?_)
    | (show TX _ _ _ (.BoolOp _ _ _) _ _ _; refine tx_bool ?_)
    | (show TW _ _ _ (.BoolOp _ [_] _) _ _ _; first | refine tw_and1 ?_ | refine tw_or1 ?_)
    | (show TW _ _ _ (.BoolOp _ _ _) _ _ _; first | refine tw_and ?_ | refine tw_or ?_)
    | (show AX _ _ _ [] _ _ _; refine ax_nil ?_)
    | (show AX _ _ _ (_ :: _) _ _ _; refine ax_cons ?_)
    | (show EX _ _ _ (.Tuple _ _ _) _ _ _; refine ex_tup ?_)
    | (show EX _ _ _ (.List _ _) _ _ _; refine ex_lst ?_)
    | (show EX _ _ _ (.IfExp _ _ _ _) _ _ _; refine ex_if ?_)
    | (show EX _ _ _ (.UnaryOp _ _ _) _ _ _; first | refine ex_neg ?_ | refine ex_not ?_)
    | (show EX _ _ _ (.BoolOp _ [_] _) _ _ _; refine ex_one ?_)
    | (show EX _ _ _ (.BoolOp _ _ _) _ _ _; first | refine ex_and ?_ | refine ex_or ?_)
    | (show SX _ _ _ [] _ _ _; refine sx_nil ?_)
    | (show SX _ _ _ [_] _ _ _; refine sx_one ?_)
    | (show SX _ _ _ (_ :: _) _ _ _; refine sx_cons ?_)
    | (show S1 _ _ _ (.Return (some _) _) _ _ _; refine s_ret ?_)
    | (show S1 _ _ _ (.If _ _ _ _) _ _ _; refine s_if ?_)
    | (show S1 _ _ _ (.Assign [.Name _ _] _ _) _ _ _; walk_at "sset")
    | (show SX _ _ _ (defBody _) _ _ _; first | refine sx_cons ?_ | refine sx_one ?_))
local macro_rules
  | `(tactic| walk_at "sset") => `(tactic| first
    | refine s_set (i := 0) cn (by rfl) (locL_ok ls (by decide +kernel)) ?_ | refine s_set (i := 1) cn (by rfl) (locL_ok ls (by decide +kernel)) ?_ | refine s_set (i := 2) cn (by rfl) (locL_ok ls (by decide +kernel)) ?_ | refine s_set (i := 3) cn (by rfl) (locL_ok ls (by decide +kernel)) ?_ | refine s_set (i := 4) cn (by rfl) (locL_ok ls (by decide +kernel)) ?_ | refine s_set (i := 5) cn (by rfl) (locL_ok ls (by decide +kernel)) ?_ | refine s_set (i := 6) cn (by rfl) (locL_ok ls (by decide +kernel)) ?_ | refine s_set (i := 7) cn (by rfl) (locL_ok ls (by decide +kernel)) ?_ | refine s_set (i := 8) cn (by rfl) (locL_ok ls (by decide +kernel)) ?_ | refine s_set (i := 9) cn (by rfl) (locL_ok ls (by decide +kernel)) ?_)
local macro_rules
  | `(tactic| walk_at "l") => `(tactic| first
    | (show RO _ _ _ _ _ _; first | refine add_int ?_ | refine lt_int ?_ | refine le_int ?_ | refine gt_int ?_ | refine ge_int ?_ | refine eq_int ?_ | refine ne_int ?_)
    | (show ixD _ _ _; refine ix_lstA (by rfl) ?_)
    | refine ⟨_, _, rfl, rfl, Or.inl (Or.inr (by decide)), ?_⟩
    | refine ⟨_, _, rfl, rfl, Or.inl (Or.inl ⟨by omega, by omega⟩), ?_⟩
    | refine ⟨_, _, rfl, rfl, Or.inl ⟨by decide, by decide⟩, ?_⟩
    | refine ⟨_, _, rfl, rfl, ⟨by decide, by decide, by first | omega | decide⟩, ?_⟩
    | refine ⟨_, _, rfl, rfl, (show _ ≠ _ by first | decide | omega), ?_⟩
    | refine ⟨_, _, rfl, rfl, ?_⟩
    | refine ⟨_, rfl, ?_⟩
    | refine Or.inl ⟨_, rfl, ?_⟩
    | refine ⟨(show _ ≤ 100000 from Nat.le_of_ble_eq_true (by rfl)), ?_⟩)
local macro_rules
  | `(tactic| walk_at "go") => `(tactic| repeat (first | walk_at "e" | walk_at "l"))
local macro_rules
  | `(tactic| walk_at "bset") => `(tactic| (refine bs_cons (E := E) ?_; first
    | refine b_set (E := E) (i := 1) cn (by rfl) (locL_ok ls (by decide +kernel)) ?_ | refine b_set (E := E) (i := 2) cn (by rfl) (locL_ok ls (by decide +kernel)) ?_ | refine b_set (E := E) (i := 3) cn (by rfl) (locL_ok ls (by decide +kernel)) ?_ | refine b_set (E := E) (i := 4) cn (by rfl) (locL_ok ls (by decide +kernel)) ?_))
local macro_rules
  | `(tactic| walk_at "bput") => `(tactic| (refine bs_cons (E := E) ?_; first
    | refine b_put (E := E) (k := 1) bg cn (by rfl) (visC_ok vs (by decide +kernel)) (by decide) (by decide) ?_ | refine b_put (E := E) (k := 2) bg cn (by rfl) (visC_ok vs (by decide +kernel)) (by decide) (by decide) ?_
    | refine b_put (E := E) (k := 3) bg cn (by rfl) (visC_ok vs (by decide +kernel)) (by decide) (by decide) ?_ | refine b_put (E := E) (k := 4) bg cn (by rfl) (visC_ok vs (by decide +kernel)) (by decide) (by decide) ?_))
structure Fx (G : Gb) : Prop where
  isi : G.mg "isinstance" = none
  bool : G.mg "bool" = none
  str : G.mg "str" = none
  tuple : G.mg "tuple" = none
  dict : G.mg "dict" = none
  all : G.mg "all" = none
  range : G.mg "range" = none
  zip : G.mg "zip" = none
  min : G.mg "min" = none
  gcd : G.mg "gcd" = some (.builtin "math.gcd")
  abs : G.mg "abs" = none
  int : G.mg "int" = none
  len : G.mg "len" = none
  list : G.mg "list" = none
def F_draw : FSpec := fun W ds K Z => Bagged W ∧ ∃ s : Int, ds = [.bag, .int s] ∧ 1 ≤ s ∧ s < 1073741824 ∧ ∀ r : Int, 0 ≤ r → r < s → K (.int r)
theorem atI_ints {ns : List Int} {i : Int} (h0 : 0 ≤ i) (h1 : i < ns.length) : ∃ n, atI (ns.map D.int) i = some (.int n) := by
  have hl : i.toNat < ns.length := by omega
  refine ⟨ns[i.toNat], ?_⟩
  unfold atI ixN
  rw [if_pos h0, if_pos (by rw [List.length_map]; exact h1)]
  show (ns.map D.int)[i.toNat]? = _
  rw [List.getElem?_map, List.getElem?_eq_getElem hl]
  rfl
theorem ok1 {q : Bq} (ok : q.Ok) {v : Int} (h : 0 ≤ v) : (q.put 1 v).Ok := ⟨ok.l, h, ok.g, ok.s, ok.s2, ok.m⟩
theorem ok2 {q : Bq} (ok : q.Ok) {v : Int} (h : 0 ≤ v) : (q.put 2 v).Ok := ⟨ok.l, ok.i, h, ok.s, ok.s2, ok.m⟩
theorem ok3 {q : Bq} (ok : q.Ok) {v : Int} (h : 0 ≤ v) (h2 : v < 2147483249) : (q.put 3 v).Ok := ⟨ok.l, ok.i, ok.g, h, h2, ok.m⟩
theorem ok4 {q : Bq} (ok : q.Ok) {v : Int} (h : 0 ≤ v) : (q.put 4 v).Ok := ⟨ok.l, ok.i, ok.g, ok.s, ok.s2, h⟩
theorem fm0 (a : Int) {b : Int} (h : 0 < b) : 0 ≤ a.fmod b := Int.fmod_nonneg_of_pos a h
theorem fm1 (a : Int) {b : Int} (h : 0 < b) : a.fmod b < b := Int.fmod_lt_of_pos a h
theorem draw_rest {G : Gb} {X : Cx} {E : XK} {W : Wd} {c : Addr} {H0 : Hp} {q : Bq} {s : Int} {K : Int → Prop} {x : Option D} (fx : Fx G) (cn : Cn G X E 3 N_L_draw (defScope s_L_draw)) (bg : Bagged W) (hs1 : 1 ≤ s) (hs2 : s < 1073741824) (hK : ∀ r : Int, 0 ≤ r → r < s → K r) (ok : q.Ok) :
    BS X E W c H0 ((defBody s_L_draw).drop 2) [some q.d, some (.int s), none, x, none] q { n := fun _ _ => False, r := K } := by
  have vs := vs_L_draw
  have ls := ls_L_draw
  have gs := gs_L_draw
  refine bs_cons (E := E) ?_
  refine b_if (E := E) ?_
  have := ok.s
  have := ok.s2
  walk_at "go"
  refine ⟨fun h => ?_, fun h => ?_⟩
  · walk_at "bset"
    walk_at "go"
    walk_at "bput"
    walk_at "go"
    refine ⟨.inl ⟨by omega, by omega⟩, _, rfl, ok2 ok (Int.fdiv_nonneg ok.g (by omega)), ?_⟩
    refine bs_cons (E := E) ?_
    refine b_ret (E := E) ?_
    walk_at "go"
    exact hK _ (fm0 _ (by omega)) (fm1 _ (by omega))
  · refine bs_nil (E := E) ?_
    walk_at "bset"
    walk_at "go"
    walk_at "bput"
    walk_at "go"
    refine ⟨ok3 ok (fm0 _ (by decide)) (fm1 _ (by decide)), ?_⟩
    refine bs_cons (E := E) ?_
    refine b_ret (E := E) ?_
    walk_at "go"
    exact hK _ (fm0 _ (by omega)) (fm1 _ (by omega))
theorem draw_all {G : Gb} {X : Cx} {E : XK} {W : Wd} {c : Addr} {H0 : Hp} {q : Bq} {s : Int} {K : Int → Prop} (fx : Fx G) (cn : Cn G X E 3 N_L_draw (defScope s_L_draw)) (bg : Bagged W) (hs1 : 1 ≤ s) (hs2 : s < 1073741824) (hK : ∀ r : Int, 0 ≤ r → r < s → K r) (ok : q.Ok) :
    BS X E W c H0 (defBody s_L_draw) [some q.d, some (.int s), none, none, none] q { n := fun _ _ => False, r := K } := by
  have vs := vs_L_draw
  have ls := ls_L_draw
  have gs := gs_L_draw
  walk_at "bput"
  walk_at "go"
  refine ⟨ok4 ok (Int.add_nonneg ok.m (by decide)), ?_⟩
  have ok := ok4 ok (Int.add_nonneg ok.m (by decide) : 0 ≤ q.m + 1)
  generalize q.put 4 (q.m + 1) = q at ok ⊢
  have rest : ∀ x q, q.Ok → BS X E W c H0 ((defBody s_L_draw).drop 2) [some q.d, some (.int s), none, x, none] q { n := fun _ _ => False, r := K } := fun x q ok => draw_rest fx cn bg hs1 hs2 hK ok
  have := ok.s
  have := ok.s2
  have := ok.l
  refine bs_cons (E := E) ?_
  refine b_if (E := E) ?_
  walk_at "go"
  refine ⟨fun h0 => ?_, fun h0 => ?_⟩
  · walk_at "go"
    refine ⟨by simp only [List.length_map]; omega, ?_⟩
    refine lt_int ?_
    refine ⟨_, rfl, fun h1 => ?_, fun h1 => ?_⟩
    · walk_at "bset"
      walk_at "go"
      obtain ⟨cell, hcell⟩ := atI_ints (ns := q.cells) ok.i (by have := of_decide_eq_true h1; rwa [List.length_map] at this)
      refine ix_lstA hcell ?_
      walk_at "go"
      have hc0 : 0 ≤ (if cell < 0 then -cell else cell) := by split <;> omega
      generalize (if cell < 0 then -cell else cell) = cell' at hc0
      walk_at "bput"
      walk_at "go"
      refine ⟨ok1 ok (by have := ok.i; omega), ?_⟩
      have ok := ok1 ok (by have := ok.i; omega : 0 ≤ q.i + 1)
      generalize q.put 1 (q.i + 1) = q at ok
      refine bs_cons (E := E) ?_
      refine b_if (E := E) ?_
      walk_at "go"
      refine ⟨fun h2 => ?_, fun h2 => ?_⟩
      · walk_at "bput"
        walk_at "go"
        refine ⟨ok2 ok hc0, ?_⟩
        refine bs_nil (E := E) ?_
        refine bs_nil (E := E) ?_
        exact rest _ _ (ok2 ok hc0)
      · walk_at "bput"
        walk_at "go"
        refine ⟨ok3 ok (fm0 _ (by decide)) (fm1 _ (by decide)), ?_⟩
        refine bs_nil (E := E) ?_
        refine bs_nil (E := E) ?_
        exact rest _ _ (ok3 ok (fm0 _ (by decide)) (fm1 _ (by decide)))
    · refine bs_nil (E := E) ?_
      exact rest none q ok
  · refine ⟨fun z => (nomatch z), fun _ => ?_⟩
    refine bs_nil (E := E) ?_
    exact rest none q ok
theorem fn_draw {G : Gb} (fx : Fx G) (pk : Pk G "_law_draw" d_L_draw) : Fn G "_law_draw" P_L_draw 4 F_draw := by
  obtain ⟨f, fd, FD, hm⟩ := pk.ex
  refine fn_intro (N := N_L_draw) FD sc_L_draw hm (bd_L_draw FD) (fun W ds Kc Z h => ?_) fun X E cn df po W ds Kc Z h => ?_
  · obtain ⟨_, s, rfl, _⟩ := h
    rfl
  · obtain ⟨bg, s, rfl, h1, h2, hK⟩ := h
    refine sx_bag (G := G) (n := 3) (sc := defScope s_L_draw) bg fun c H0 q ok => ?_
    exact draw_all fx cn bg h1 h2 hK ok
/-- one of some: drawn -/
def F_pick : FSpec := fun W ds K Z => Bagged W ∧ ∃ x m, ds = [.bag, x] ∧ lenD x = some m ∧ 1 ≤ m ∧ m ≤ 16777216 ∧ ∀ r : Int, 0 ≤ r → r < m → ixD x (.int r) K
theorem fn_pick {G : Gb} (fx : Fx G) (fdraw : Fn G "_law_draw" P_L_draw 4 F_draw) (pk : Pk G "_law_pick" d_L_pick) : Fn G "_law_pick" P_L_pick 5 F_pick := by
  obtain ⟨f, fd0, FD, hm⟩ := pk.ex
  refine fn_intro (N := N_L_pick) FD sc_L_pick hm (bd_L_pick FD) (fun W ds Kc Z h => ?_) fun X E cn df po W ds Kc Z h => ?_
  · obtain ⟨_, x, m, rfl, _⟩ := h
    rfl
  · obtain ⟨bg, x, m, rfl, hl, h1, h2, hK⟩ := h
    have gs := gs_L_pick
    have vs := vs_L_pick
    walk_at "go"
    refine ⟨m, hl, h2, ?_⟩
    walk_at "go"
    exact ⟨bg, (m : Int), rfl, by omega, by omega, fun r r0 r1 => hK r r0 r1⟩
theorem ix_all {ds : List D} {K : D → Prop} (h : ∀ d ∈ ds, K d) {r : Int} (r0 : 0 ≤ r) (r1 : r < ds.length) : ixD (.lst ds) (.int r) K := by
  have hl : r.toNat < ds.length := by omega
  refine ⟨ds[r.toNat], ?_, h _ (List.getElem_mem hl)⟩
  unfold atI ixN
  rw [if_pos r0, if_pos r1]
  exact List.getElem?_eq_getElem hl
theorem pick_lst {W : Wd} {ds : List D} {K : D → Prop} {Z : ZK} (bg : Bagged W) (h1 : (1 ≤ ds.length ∧ ds.length ≤ 16777216)) (h : ∀ d ∈ ds, K d) : F_pick W [.bag, .lst ds] K Z :=
  ⟨bg, _, ds.length, rfl, rfl, h1.1, h1.2, fun r r0 r1 => ix_all h r0 r1⟩
theorem p7 : (10 : Int) ^ (Int.toNat 7) = 10000000 := rfl
theorem p13 : (10 : Int) ^ (Int.toNat 13) = 10000000000000 := rfl
theorem p27 : (10 : Int) ^ (Int.toNat 27) = 1000000000000000000000000000 := rfl
theorem p10 : (10 : Int) ^ (Int.toNat 10) = 10000000000 := rfl
theorem p20 : (10 : Int) ^ (Int.toNat 20) = 100000000000000000000 := rfl
theorem p39 : (10 : Int) ^ (Int.toNat 39) = 1000000000000000000000000000000000000000 := rfl
def F_huge : FSpec := fun W ds K Z => Bagged W ∧ ds = [.bag] ∧ ∀ n : Int, 0 ≤ n → n < 100000000000000000000000000000000000 → K (.int n)
theorem fn_huge {G : Gb} (fx : Fx G) (fdraw : Fn G "_law_draw" P_L_draw 4 F_draw) (fpick : Fn G "_law_pick" P_L_pick 5 F_pick) (pk : Pk G "_law_huge" d_L_huge) : Fn G "_law_huge" P_L_huge 6 F_huge := by
  obtain ⟨f, fd0, FD, hm⟩ := pk.ex
  refine fn_intro (N := N_L_huge) FD sc_L_huge hm (bd_L_huge FD) (fun W ds Kc Z h => ?_) fun X E cn df po W ds Kc Z h => ?_
  · obtain ⟨_, rfl, _⟩ := h
    rfl
  · obtain ⟨bg, rfl, hK⟩ := h
    have gs := gs_L_huge
    have vs := vs_L_huge
    have ls := ls_L_huge
    walk_at "go"
    refine ⟨bg, _, rfl, by decide, by decide, fun a a0 a1 => ?_⟩
    rw [p7] at a1
    walk_at "go"
    refine ⟨bg, _, rfl, by decide, by decide, fun b b0 b1 => ?_⟩
    rw [p7] at b1
    walk_at "go"
    refine ⟨bg, _, rfl, by decide, by decide, fun c c0 c1 => ?_⟩
    rw [p7] at c1
    walk_at "go"
    rw [p27, p13]
    have n0 : 0 ≤ a * 1000000000000000000000000000 + b * 10000000000000 + c := by omega
    have n1 : a * 1000000000000000000000000000 + b * 10000000000000 + c < 100000000000000000000000000000000000 := by omega
    generalize a * 1000000000000000000000000000 + b * 10000000000000 + c = n at n0 n1
    walk_at "go"
    refine pick_lst bg (by decide) ?_
    rw [p10, p20]
    have key : ∀ j : Int, 0 < j → j ≤ 100000000000000000000 → (fun y => ∃ i j, D.int n = D.int i ∧ y = D.int j ∧ (j ≠ 0 ∧ j.natAbs < 1073741824 ∨ j ≠ 0 ∧ j.natAbs < 2 ^ 9000) ∧ Kc (D.int (i.fdiv j))) (.int j) := fun j j0 j1 => by
      refine ⟨_, _, rfl, rfl, .inr ⟨by omega, Nat.lt_of_lt_of_le (m := 2 ^ 67) (by omega) (Nat.pow_le_pow_right (by decide) (by decide))⟩, hK _ (Int.fdiv_nonneg n0 (by omega)) ?_⟩
      have : n.fdiv j ≤ n := by
        rw [Int.fdiv_eq_ediv_of_nonneg _ (by omega)]
        exact Int.ediv_le_self _ n0
      omega
    refine List.forall_mem_cons.mpr ⟨key _ (by decide) (by decide), List.forall_mem_cons.mpr ⟨key _ (by decide) (by decide), List.forall_mem_cons.mpr ⟨key _ (by decide) (by decide), fun _ h => nomatch h⟩⟩⟩
/-- |n| < 10^35 -/
def F_number : FSpec := fun W ds K Z => Bagged W ∧ ∃ m : Int, ds = [.bag, .int m] ∧ 0 ≤ m ∧ m ≤ 1000000 ∧ ∀ n : Int, -100000000000000000000000000000000000 < n → n < 100000000000000000000000000000000000 → K (.int n)
theorem fn_number {G : Gb} (fx : Fx G) (fdraw : Fn G "_law_draw" P_L_draw 4 F_draw) (fpick : Fn G "_law_pick" P_L_pick 5 F_pick) (fhuge : Fn G "_law_huge" P_L_huge 6 F_huge) (pk : Pk G "_law_number" d_L_number) : Fn G "_law_number" P_L_number 7 F_number := by
  obtain ⟨f, fd0, FD, hm⟩ := pk.ex
  refine fn_intro (N := N_L_number) FD sc_L_number hm (bd_L_number FD) (fun W ds Kc Z h => ?_) fun X E cn df po W ds Kc Z h => ?_
  · obtain ⟨_, _, rfl, _⟩ := h
    rfl
  · obtain ⟨bg, m, rfl, m0, m1, hK⟩ := h
    have gs := gs_L_number
    have vs := vs_L_number
    have ls := ls_L_number
    walk_at "go"
    refine ⟨bg, _, rfl, by decide, by decide, fun a a0 a1 => ?_⟩
    walk_at "go"
    refine ⟨fun h => ?_, fun h => ?_⟩
    · walk_at "go"
      refine ⟨bg, rfl, fun n n0 n1 => ?_⟩
      walk_at "go"
      refine pick_lst bg (by decide) ?_
      have key : ∀ j : Int, (j = 1 ∨ j = -1) → (fun y => ∃ i j, D.int n = D.int i ∧ y = D.int j ∧ DX.MulOk i j ∧ Kc (D.int (i * j))) (.int j) := fun j hj => by
        refine ⟨_, _, rfl, rfl, .inl (.inr (by omega)), hK _ ?_ ?_⟩ <;> rcases hj with rfl | rfl <;> omega
      exact List.forall_mem_cons.mpr ⟨key _ (.inl rfl), List.forall_mem_cons.mpr ⟨key _ (.inr rfl), fun _ h => nomatch h⟩⟩
    · walk_at "go"
      refine ⟨bg, _, rfl, by omega, by omega, fun b b0 b1 => ?_⟩
      walk_at "go"
      exact hK _ (by omega) (by omega)
def F_int : FSpec := fun W ds K Z => ∃ x, ds = [x] ∧ plainD x = true ∧ K (.bl (isInt x && !isBl x))
theorem fn_int {G : Gb} (fx : Fx G) (pk : Pk G "_law_int" d_L_int) : Fn G "_law_int" P_L_int 2 F_int := by
  obtain ⟨f, fd0, FD, hm⟩ := pk.ex
  refine fn_intro (N := N_L_int) FD sc_L_int hm (bd_L_int FD) (fun W ds Kc Z h => ?_) fun X E cn df po W ds Kc Z h => ?_
  · obtain ⟨_, rfl, _⟩ := h
    rfl
  · obtain ⟨x, rfl, hp, hK⟩ := h
    have gs := gs_L_int
    have vs := vs_L_int
    have ls := ls_L_int
    walk_at "go"
    refine ⟨_, isD_int hp, ?_⟩
    walk_at "go"
    refine ⟨fun h => ?_, fun h => ?_⟩
    · walk_at "go"
      refine ⟨_, isD_bl hp, ?_⟩
      walk_at "go"
      rw [h] at hK
      exact hK
    · rw [h] at hK
      exact hK
theorem fn_iiv {G : Gb} (fx : Fx G) (pk : Pk G "is_integer_value" d_is_integer_value) : Fn G "is_integer_value" P_is_integer_value 2 F_int := by
  obtain ⟨f, fd0, FD, hm⟩ := pk.ex
  refine fn_intro (N := N_is_integer_value) FD sc_is_integer_value hm (bd_is_integer_value FD) (fun W ds Kc Z h => ?_) fun X E cn df po W ds Kc Z h => ?_
  · obtain ⟨_, rfl, _⟩ := h
    rfl
  · obtain ⟨x, rfl, hp, hK⟩ := h
    have gs := gs_is_integer_value
    have vs := vs_is_integer_value
    have ls := ls_is_integer_value
    walk_at "go"
    refine ⟨_, isD_int hp, ?_⟩
    walk_at "go"
    refine ⟨fun h => ?_, fun h => ?_⟩
    · walk_at "go"
      refine ⟨_, isD_bl hp, ?_⟩
      walk_at "go"
      rw [h] at hK
      exact hK
    · rw [h] at hK
      exact hK
def F_gcd : FSpec := fun W ds K Z => ∃ a b : Int, ds = [.int a, .int b] ∧ K (.int (Nat.gcd a.natAbs b.natAbs : Nat))
theorem fn_gcd {G : Gb} (fx : Fx G) (pk : Pk G "_law_gcd" d_L_gcd) : Fn G "_law_gcd" P_L_gcd 2 F_gcd := by
  obtain ⟨f, fd0, FD, hm⟩ := pk.ex
  refine fn_intro (N := N_L_gcd) FD sc_L_gcd hm (bd_L_gcd FD) (fun W ds Kc Z h => ?_) fun X E cn df po W ds Kc Z h => ?_
  · obtain ⟨_, _, rfl, _⟩ := h
    rfl
  · obtain ⟨a, b, rfl, hK⟩ := h
    have gs := gs_L_gcd
    have vs := vs_L_gcd
    have ls := ls_L_gcd
    refine sx_cons ?_
    refine s_par2 (i := 0) (j := 1) cn (by rfl) (by rfl) (by decide) (locL_ok ls (by decide +kernel)) (locL_ok ls (by decide +kernel)) (by kernel_rfl) ?_
    walk_at "go"
    refine ⟨_, _, rfl, ?_⟩
    refine sx_cons ?_
    refine s_while po (fun m Γ => ∃ x y : Int, 0 ≤ x ∧ 0 ≤ y ∧ m = y.toNat ∧ Γ = [some (.int x), some (.int y)] ∧ Nat.gcd x.toNat y.toNat = Nat.gcd a.natAbs b.natAbs) (b.natAbs) ?_ ?_
    · have ha : ∀ i : Int, (if i < 0 then -i else i) = (i.natAbs : Int) := fun i => by split <;> omega
      refine ⟨_, _, ?_, ?_, ?_, rfl, ?_⟩ <;> rw [ha] <;> first | omega | rw [ha] <;> simp
    · rintro m Γ' ⟨x, y, x0, y0, rfl, rfl, hg⟩
      walk_at "go"
      refine ⟨fun h => ?_, fun h => ?_⟩
      · have hy : y ≠ 0 := by simpa using h
        refine sx_one ?_
        refine s_par2 (i := 0) (j := 1) cn (by rfl) (by rfl) (by decide) (locL_ok ls (by decide +kernel)) (locL_ok ls (by decide +kernel)) (by kernel_rfl) ?_
        walk_at "go"
        have e : x.fmod y = ((x.toNat % y.toNat : Nat) : Int) := by
          rw [Int.fmod_eq_emod_of_nonneg _ y0, Int.natCast_emod, Int.toNat_of_nonneg x0, Int.toNat_of_nonneg y0]
        refine ⟨_, _, rfl, (x.fmod y).toNat, ?_, y, x.fmod y, y0, ?_, rfl, rfl, ?_⟩
        · rw [e]
          have := Nat.mod_lt x.toNat (show y.toNat > 0 by omega)
          omega
        · rw [e]; omega
        · rw [e, Int.toNat_natCast, ← hg, Nat.gcd_comm x.toNat, Nat.gcd_rec y.toNat x.toNat, Nat.gcd_comm]
      · have hy : y = 0 := by simpa using h
        subst hy
        refine sx_one ?_
        walk_at "go"
        have e : x = ((Nat.gcd a.natAbs b.natAbs : Nat) : Int) := by
          rw [← hg]
          show x = ((Nat.gcd x.toNat 0 : Nat) : Int)
          rw [Nat.gcd_zero_right]; omega
        show Kc (.int x)
        rw [e]
        exact hK
end K02

set_option Elab.async false
set_option linter.all false
set_option maxRecDepth 100000
set_option maxHeartbeats 4000000
namespace K02
open PySem PySem.Spec PyProof.Rows L2 DX
set_option hygiene false
local macro_rules
  | `(tactic| walk_at "name") => `(tactic| first | refine ex_name (i := 0) cn (by rfl) (visC_ok vs (by decide +kernel)) (by rfl) ?_ | refine ex_name (i := 1) cn (by rfl) (visC_ok vs (by decide +kernel)) (by rfl) ?_ | refine ex_name (i := 2) cn (by rfl) (visC_ok vs (by decide +kernel)) (by rfl) ?_ | refine ex_name (i := 3) cn (by rfl) (visC_ok vs (by decide +kernel)) (by rfl) ?_ | refine ex_name (i := 4) cn (by rfl) (visC_ok vs (by decide +kernel)) (by rfl) ?_ | refine ex_name (i := 5) cn (by rfl) (visC_ok vs (by decide +kernel)) (by rfl) ?_ | refine ex_name (i := 6) cn (by rfl) (visC_ok vs (by decide +kernel)) (by rfl) ?_ | refine ex_name (i := 7) cn (by rfl) (visC_ok vs (by decide +kernel)) (by rfl) ?_)
local macro_rules
  | `(tactic| walk_at "call") => `(tactic| first
    | (show EX _ _ _ (.Call (.Name "_law_draw" _) _ _ _) _ _ _; refine ex_call cn (gloL_ok gs (by decide +kernel)) fdraw (by decide) ?_)
    | (show EX _ _ _ (.Call (.Name "_law_gcd" _) _ _ _) _ _ _; refine ex_call cn (gloL_ok gs (by decide +kernel)) flgcd (by decide) ?_)
    | (show EX _ _ _ (.Call (.Name "_law_low" _) _ _ _) _ _ _; refine ex_call cn (gloL_ok gs (by decide +kernel)) flow (by decide) ?_)
    | (show EX _ _ _ (.Call (.Name "ratio" _) _ _ _) _ _ _; refine ex_call cn (gloL_ok gs (by decide +kernel)) fratio (by decide) ?_)
    | (show EX _ _ _ (.Call (.Name "gcd" _) _ _ _) _ _ _; refine ex_gcd cn (gloL_ok gs (by decide +kernel)) fx.gcd ?_)
    | (show EX _ _ _ (.Call (.Name "min" _) _ _ _) _ _ _; refine ex_min2 cn (gloL_ok gs (by decide +kernel)) fx.min ?_)
    | (show EX _ _ _ (.Call (.Name "_law_pick" _) _ _ _) _ _ _; refine ex_call cn (gloL_ok gs (by decide +kernel)) fpick (by decide) ?_)
    | (show EX _ _ _ (.Call (.Name "_law_huge" _) _ _ _) _ _ _; refine ex_call cn (gloL_ok gs (by decide +kernel)) fhuge (by decide) ?_)
    | (show EX _ _ _ (.Call (.Name "_law_number" _) _ _ _) _ _ _; refine ex_call cn (gloL_ok gs (by decide +kernel)) fnumber (by decide) ?_)
    | (show EX _ _ _ (.Call (.Name "isinstance" _) [_, .Name "int" _] _ _) _ _ _; refine ex_isi (T := "int") cn (gloL_ok gs (by decide +kernel)) fx.isi (gloL_ok gs (by decide +kernel)) fx.int (by decide +kernel) ?_)
    | (show EX _ _ _ (.Call (.Name "isinstance" _) [_, .Name "bool" _] _ _) _ _ _; refine ex_isi (T := "bool") cn (gloL_ok gs (by decide +kernel)) fx.isi (gloL_ok gs (by decide +kernel)) fx.bool (by decide +kernel) ?_)
    | (show EX _ _ _ (.Call (.Name "isinstance" _) [_, .Name "str" _] _ _) _ _ _; refine ex_isi (T := "str") cn (gloL_ok gs (by decide +kernel)) fx.isi (gloL_ok gs (by decide +kernel)) fx.str (by decide +kernel) ?_)
    | (show EX _ _ _ (.Call (.Name "isinstance" _) [_, .Name "tuple" _] _ _) _ _ _; refine ex_isi (T := "tuple") cn (gloL_ok gs (by decide +kernel)) fx.isi (gloL_ok gs (by decide +kernel)) fx.tuple (by decide +kernel) ?_)
    | (show EX _ _ _ (.Call (.Name "isinstance" _) [_, .Name "list" _] _ _) _ _ _; refine ex_isi (T := "list") cn (gloL_ok gs (by decide +kernel)) fx.isi (gloL_ok gs (by decide +kernel)) fx.list (by decide +kernel) ?_)
    | (show EX _ _ _ (.Call (.Name "isinstance" _) [_, .Name "dict" _] _ _) _ _ _; refine ex_isi (T := "dict") cn (gloL_ok gs (by decide +kernel)) fx.isi (gloL_ok gs (by decide +kernel)) fx.dict (by decide +kernel) ?_)
    | refine ex_len cn (gloL_ok gs (by decide +kernel)) fx.len ?_ | refine ex_abs cn (gloL_ok gs (by decide +kernel)) fx.abs ?_ | refine ex_intc cn (gloL_ok gs (by decide +kernel)) fx.int ?_)
local macro_rules
  | `(tactic| walk_at "e") => `(tactic| first
    | (show EX _ _ _ (.Name _ _) _ _ _; walk_at "name")
    | (show EX _ _ _ (.Constant _ _ _) _ _ _; first | refine ex_int ?_ | refine ex_str ?_ | refine ex_bl ?_ | refine ex_non ?_)
    | (show EX _ _ _ (.BinOp _ _ _ _) _ _ _; first | refine ex_add ?_ | refine ex_sub ?_ | refine ex_mul ?_ | refine ex_mod ?_ | refine ex_div ?_ | refine ex_pow ?_)
    | (show EX _ _ _ (.Subscript _ _ _) _ _ _; refine ex_ix (fun _ _ => rfl) ?_)
    | (show EX _ _ _ (.Call _ _ _ _) _ _ _; walk_at "call")
    | (show EX _ _ _ (.Compare _ [_] _ _) _ _ _; first | refine ex_lt ?_ | refine ex_le ?_ | refine ex_gt ?_ | refine ex_ge ?_ | refine ex_eq cn ?_ | refine ex_ne cn ?_)
    | (show TX _ _ _ (.Compare _ [_] _ _) _ _ _; first | refine tx_lt ?_ | refine tx_le ?_ | refine tx_gt ?_ | refine tx_ge ?_ | refine tx_eq cn ?_ | refine tx_ne cn ?_)
    | (show TX _ _ _ (.Call _ _ _ _) _ _ _; refine tx_val ?_)
    | (show TX _ _ _ (.Name _ _) _ _ _; refine tx_val ?_)
    | (show TX _ _ _ (.UnaryOp _ _ _) _ _ _; refine tx_not ?_)
    | (show TX _ _ _ (.BoolOp _ _ _) _ _ _; refine tx_bool ?_)
    | (show TW _ _ _ (.BoolOp _ [_] _) _ _ _; first | refine tw_and1 ?_ | refine tw_or1 ?_)
    | (show TW _ _ _ (.BoolOp _ _ _) _ _ _; first | refine tw_and ?_ | refine tw_or ?_)
    | (show AX _ _ _ [] _ _ _; refine ax_nil ?_)
    | (show AX _ _ _ (_ :: _) _ _ _; refine ax_cons ?_)
    | (show EX _ _ _ (.Tuple _ _ _) _ _ _; refine ex_tup ?_)
    | (show EX _ _ _ (.List _ _) _ _ _; refine ex_lst ?_)
    | (show EX _ _ _ (.IfExp _ _ _ _) _ _ _; refine ex_if ?_)
    | (show EX _ _ _ (.UnaryOp _ _ _) _ _ _; first | refine ex_neg ?_ | refine ex_not ?_)
    | (show EX _ _ _ (.BoolOp _ [_] _) _ _ _; refine ex_one ?_)
    | (show EX _ _ _ (.BoolOp _ _ _) _ _ _; first | refine ex_and ?_ | refine ex_or ?_)
    | (show SX _ _ _ [] _ _ _; refine sx_nil ?_)
    | (show SX _ _ _ [_] _ _ _; refine sx_one ?_)
    | (show SX _ _ _ (_ :: _) _ _ _; refine sx_cons ?_)
    | (show S1 _ _ _ (.Return (some _) _) _ _ _; refine s_ret ?_)
    | (show S1 _ _ _ (.If _ _ _ _) _ _ _; refine s_if ?_)
    | (show S1 _ _ _ (.Assign [.Name _ _] _ _) _ _ _; walk_at "sset")
    | (show SX _ _ _ (defBody _) _ _ _; first | refine sx_cons ?_ | refine sx_one ?_))
local macro_rules
  | `(tactic| walk_at "sset") => `(tactic| first
    | refine s_set (i := 0) cn (by rfl) (locL_ok ls (by decide +kernel)) ?_ | refine s_set (i := 1) cn (by rfl) (locL_ok ls (by decide +kernel)) ?_ | refine s_set (i := 2) cn (by rfl) (locL_ok ls (by decide +kernel)) ?_ | refine s_set (i := 3) cn (by rfl) (locL_ok ls (by decide +kernel)) ?_ | refine s_set (i := 4) cn (by rfl) (locL_ok ls (by decide +kernel)) ?_ | refine s_set (i := 5) cn (by rfl) (locL_ok ls (by decide +kernel)) ?_ | refine s_set (i := 6) cn (by rfl) (locL_ok ls (by decide +kernel)) ?_ | refine s_set (i := 7) cn (by rfl) (locL_ok ls (by decide +kernel)) ?_ | refine s_set (i := 8) cn (by rfl) (locL_ok ls (by decide +kernel)) ?_ | refine s_set (i := 9) cn (by rfl) (locL_ok ls (by decide +kernel)) ?_)
local macro_rules
  | `(tactic| walk_at "l") => `(tactic| first
    | (show RO _ _ _ _ _ _; first | refine add_int ?_ | refine lt_int ?_ | refine le_int ?_ | refine gt_int ?_ | refine ge_int ?_ | refine eq_int ?_ | refine ne_int ?_)
    | (show ixD _ _ _; first | refine ix_lstA (by rfl) ?_ | refine ix_tupA (by rfl) ?_)
    | refine ⟨_, _, rfl, rfl, Or.inl (Or.inr (by decide)), ?_⟩
    | refine ⟨_, _, rfl, rfl, Or.inl (Or.inl ⟨by omega, by omega⟩), ?_⟩
    | refine ⟨_, _, rfl, rfl, Or.inl ⟨by decide, by decide⟩, ?_⟩
    | refine ⟨_, _, rfl, rfl, ⟨by decide, by decide, by first | omega | decide⟩, ?_⟩
    | refine ⟨_, _, rfl, rfl, (show _ ≠ _ by first | decide | omega), ?_⟩
    | refine ⟨_, _, rfl, rfl, ?_⟩
    | refine ⟨_, rfl, ?_⟩
    | refine Or.inl ⟨_, rfl, ?_⟩
    | refine ⟨(show _ ≤ 100000 from Nat.le_of_ble_eq_true (by rfl)), ?_⟩)
local macro_rules
  | `(tactic| walk_at "go") => `(tactic| repeat (first | walk_at "e" | walk_at "l"))
local macro_rules
  | `(tactic| walk_at "bset") => `(tactic| (refine bs_cons (E := E) ?_; first
    | refine b_set (E := E) (i := 1) cn (by rfl) (locL_ok ls (by decide +kernel)) ?_ | refine b_set (E := E) (i := 2) cn (by rfl) (locL_ok ls (by decide +kernel)) ?_ | refine b_set (E := E) (i := 3) cn (by rfl) (locL_ok ls (by decide +kernel)) ?_ | refine b_set (E := E) (i := 4) cn (by rfl) (locL_ok ls (by decide +kernel)) ?_))
local macro_rules
  | `(tactic| walk_at "bput") => `(tactic| (refine bs_cons (E := E) ?_; first
    | refine b_put (E := E) (k := 1) bg cn (by rfl) (visC_ok vs (by decide +kernel)) (by decide) (by decide) ?_ | refine b_put (E := E) (k := 2) bg cn (by rfl) (visC_ok vs (by decide +kernel)) (by decide) (by decide) ?_
    | refine b_put (E := E) (k := 3) bg cn (by rfl) (visC_ok vs (by decide +kernel)) (by decide) (by decide) ?_ | refine b_put (E := E) (k := 4) bg cn (by rfl) (visC_ok vs (by decide +kernel)) (by decide) (by decide) ?_))

def F_low : FSpec := fun W ds K Z => ∃ n m : Int, ds = [.int n, .int m] ∧ 0 < m ∧ m.natAbs < 2 ^ 8000 ∧ K (.tup [.int (n.fdiv (Nat.gcd n.natAbs m.natAbs : Nat)), .int (m.fdiv (Nat.gcd n.natAbs m.natAbs : Nat))])
theorem gcd_lt {n m : Int} {k : Nat} (hm : m ≠ 0) (h : m.natAbs < k) : Nat.gcd n.natAbs m.natAbs < k := Nat.lt_of_le_of_lt (Nat.le_of_dvd (by omega) (Nat.gcd_dvd_right ..)) h
theorem gcd_ne {n m : Int} (hm : m ≠ 0) : Nat.gcd n.natAbs m.natAbs ≠ 0 := fun z => by
  have := (Nat.gcd_eq_zero_iff.mp z).2
  omega
theorem p90 {k : Nat} (h : k < 2 ^ 8000) : k < 2 ^ 9000 := Nat.lt_of_lt_of_le h (Nat.pow_le_pow_right (by decide) (by decide))
theorem fn_low {G : Gb} (fx : Fx G) (flgcd : Fn G "_law_gcd" P_L_gcd 2 F_gcd) (pk : Pk G "_law_low" d_L_low) : Fn G "_law_low" P_L_low 3 F_low := by
  obtain ⟨f, fd0, FD, hm⟩ := pk.ex
  refine fn_intro (N := N_L_low) FD sc_L_low hm (bd_L_low FD) (fun W ds Kc Z h => ?_) fun X E cn df po W ds Kc Z h => ?_
  · obtain ⟨_, _, rfl, _⟩ := h
    rfl
  · obtain ⟨n, m, rfl, m0, mb, hK⟩ := h
    have gs := gs_L_low
    have vs := vs_L_low
    have ls := ls_L_low
    have g0 := gcd_ne (n := n) (m := m) (by omega)
    have g1 := p90 (gcd_lt (n := n) (m := m) (by omega) mb)
    walk_at "go"
    refine ⟨_, _, rfl, ?_⟩
    generalize Nat.gcd n.natAbs m.natAbs = g at hK g0 g1 ⊢
    walk_at "go"
    refine ⟨fun h => ?_, fun h => ?_⟩
    · walk_at "go"
      rw [Int.mul_one]
      refine ⟨.inr ⟨by omega, by rw [Int.natAbs_natCast]; exact g1⟩, ?_⟩
      walk_at "go"
      refine ⟨.inr ⟨by omega, by rw [Int.natAbs_natCast]; exact g1⟩, ?_⟩
      walk_at "go"
      exact hK
    · simp at h
      omega
theorem gen {α : Prop} : α → α := id
/-- a fraction in lowest terms -/
def LowT (a b : Int) : Prop := 0 < b ∧ Nat.gcd a.natAbs b.natAbs = 1
theorem low_T {n m : Int} (m0 : m ≠ 0) : ∃ k l : Int, n = (Nat.gcd n.natAbs m.natAbs : Nat) * k ∧ m = (Nat.gcd n.natAbs m.natAbs : Nat) * l ∧ n.fdiv (Nat.gcd n.natAbs m.natAbs : Nat) = k ∧ m.fdiv (Nat.gcd n.natAbs m.natAbs : Nat) = l ∧ Nat.gcd k.natAbs l.natAbs = 1 := by
  have g0 := gcd_ne (n := n) (m := m) m0
  have d1 : ((Nat.gcd n.natAbs m.natAbs : Nat) : Int) ∣ n := Int.ofNat_dvd_left.mpr (Nat.gcd_dvd_left ..)
  have d2 : ((Nat.gcd n.natAbs m.natAbs : Nat) : Int) ∣ m := Int.ofNat_dvd_left.mpr (Nat.gcd_dvd_right ..)
  generalize hg : Nat.gcd n.natAbs m.natAbs = g at g0 d1 d2 ⊢
  obtain ⟨k, hk⟩ := d1
  obtain ⟨l, hl⟩ := d2
  have gz : (g : Int) ≠ 0 := by omega
  refine ⟨k, l, hk, hl, ?_, ?_, ?_⟩
  · rw [hk, Int.fdiv_eq_ediv_of_nonneg _ (by omega), Int.mul_ediv_cancel_left _ gz]
  · rw [hl, Int.fdiv_eq_ediv_of_nonneg _ (by omega), Int.mul_ediv_cancel_left _ gz]
  · have e : Nat.gcd (g * k.natAbs) (g * l.natAbs) = g := by
      have a1 : n.natAbs = g * k.natAbs := by rw [hk, Int.natAbs_mul, Int.natAbs_natCast]
      have a2 : m.natAbs = g * l.natAbs := by rw [hl, Int.natAbs_mul, Int.natAbs_natCast]
      rw [← a1, ← a2, hg]
    rw [Nat.gcd_mul_left] at e
    exact Nat.eq_of_mul_eq_mul_left (Nat.pos_of_ne_zero (by omega : g ≠ 0)) (by rw [e, Nat.mul_one])
def F_fraction : FSpec := fun W ds K Z => Bagged W ∧ ∃ m : Int, ds = [.bag, .int m] ∧ 0 ≤ m ∧ m ≤ 1000000 ∧ ∀ a b : Int, LowT a b → a.natAbs < 2 ^ 120 → b.natAbs < 2 ^ 120 → K (.tup [.int a, .int b])
theorem fn_fraction {G : Gb} (fx : Fx G) (fpick : Fn G "_law_pick" P_L_pick 5 F_pick) (fnumber : Fn G "_law_number" P_L_number 7 F_number) (flow : Fn G "_law_low" P_L_low 3 F_low) (pk : Pk G "_law_fraction" d_L_fraction) : Fn G "_law_fraction" P_L_fraction 8 F_fraction := by
  obtain ⟨f, fd0, FD, hm⟩ := pk.ex
  refine fn_intro (N := N_L_fraction) FD sc_L_fraction hm (bd_L_fraction FD) (fun W ds Kc Z h => ?_) fun X E cn df po W ds Kc Z h => ?_
  · obtain ⟨_, _, rfl, _⟩ := h
    rfl
  · obtain ⟨bg, m, rfl, m0, m1, hK⟩ := h
    have gs := gs_L_fraction
    have vs := vs_L_fraction
    have ls := ls_L_fraction
    walk_at "go"
    refine ⟨bg, m, rfl, m0, m1, fun n n0 n1 => ?_⟩
    walk_at "go"
    refine ⟨bg, m, rfl, m0, m1, fun l l0 l1 => ?_⟩
    walk_at "go"
    refine pick_lst bg ⟨Nat.le_of_ble_eq_true (by rfl), Nat.le_of_ble_eq_true (by rfl)⟩ ?_
    have key : ∀ j : Int, 0 < j → j ≤ 100000000000000000000000000000000000 → (fun x => AX X E W [] (startG N_L_fraction [D.bag, D.int m]) (fun xs => F_low W (D.int n :: x :: xs) Kc Z) Z) (.int j) := fun j j0 j1 => by
      refine ax_nil ?_
      have jb : j.natAbs < 2 ^ 120 := by omega
      have nb : n.natAbs < 2 ^ 120 := by omega
      refine ⟨n, j, rfl, j0, Nat.lt_of_lt_of_le jb (Nat.pow_le_pow_right (by decide) (by decide)), ?_⟩
      obtain ⟨k, l, e1, e2, e3, e4, e5⟩ := low_T (n := n) (m := j) (by omega)
      have g0 := gcd_ne (n := n) (m := j) (by omega)
      rw [e3, e4]
      generalize Nat.gcd n.natAbs j.natAbs = g at *
      have hl0 : 0 < l := by
        rcases Int.lt_trichotomy l 0 with h | h | h
        · have := Int.mul_neg_of_pos_of_neg (show (0 : Int) < g by omega) h
          omega
        · subst h; simp at e2; omega
        · exact h
      have a1 : n.natAbs = g * k.natAbs := by rw [e1, Int.natAbs_mul, Int.natAbs_natCast]
      have a2 : j.natAbs = g * l.natAbs := by rw [e2, Int.natAbs_mul, Int.natAbs_natCast]
      have b1 : k.natAbs ≤ n.natAbs := by rw [a1]; exact Nat.le_mul_of_pos_left _ (by omega)
      have b2 : l.natAbs ≤ j.natAbs := by rw [a2]; exact Nat.le_mul_of_pos_left _ (by omega)
      exact hK k l ⟨hl0, e5⟩ (by omega) (by omega)
    refine List.forall_mem_cons.mpr ⟨key _ (by decide) (by decide), List.forall_mem_cons.mpr ⟨key _ (by decide) (by decide), List.forall_mem_cons.mpr ⟨key _ (by decide) (by decide), List.forall_mem_cons.mpr ⟨key _ (by decide) (by decide), List.forall_mem_cons.mpr ⟨key _ (by decide) (by decide), List.forall_mem_cons.mpr ⟨key _ (by decide) (by decide), List.forall_mem_cons.mpr ⟨key _ ?_ ?_, fun _ h => nomatch h⟩⟩⟩⟩⟩⟩⟩
    · split <;> omega
    · split <;> omega
/-- what ratio divides by -/
def sg (o u : Int) : Int := if u < 0 then -((Nat.gcd o.natAbs u.natAbs : Nat) : Int) else (Nat.gcd o.natAbs u.natAbs : Nat)
def rat (o u : Int) : D := .tup [.int (o.fdiv (sg o u)), .int (u.fdiv (sg o u))]
theorem sg_ne {o u : Int} (h : u ≠ 0) : sg o u ≠ 0 := by
  have := gcd_ne (n := o) h
  unfold sg
  split <;> omega
theorem sg_lt {o u : Int} (h : u ≠ 0) (hb : u.natAbs < 2 ^ 8000) : (sg o u).natAbs < 2 ^ 9000 := by
  have := p90 (gcd_lt (n := o) h hb)
  unfold sg
  split
  · rw [Int.natAbs_neg, Int.natAbs_natCast]; exact this
  · rw [Int.natAbs_natCast]; exact this
/-- over / under; under 0: an error of the class C -/
def F_ratio (C : Addr) : FSpec := fun W ds K Z => ∃ o u : Int, ds = [.int o, .int u] ∧ u.natAbs < 2 ^ 8000 ∧ (u ≠ 0 → K (rat o u)) ∧ (u = 0 → Z C ["code", "value"] [.str "InvalidNumber", .int u])
theorem ok_ratio {G : Gb} {C f : Addr} {fd0 : FuncData} (fx : Fx G) (er : Err G "InvalidNumber" ["value"] "InvalidNumber" 1 C) (FD : FunD G.K "ratio" d_ratio.qual d_ratio.params d_ratio.body d_ratio.scope (d_ratio.dvs G.K) (d_ratio.kws G.K) f fd0) : FnOk G.prog G.w G.K G.mg G.base (L2N.CX G.prog G.w) 3 f fd0 P_ratio (SpD G.K (F_ratio C)) := by
  have gs : gloL (defScope s_ratio) ["InvalidNumber", "gcd"] = true := by decide +kernel
  have vs : visL (defScope s_ratio) ["over", "under", "shared"] = true := by decide +kernel
  have ls : locL (defScope s_ratio) ["over", "under", "shared"] = true := by decide +kernel
  refine ok_intro (N := N_ratio) FD sc_ratio (fun W ds Kc Z h => ?_) fun X E cn df po W ds Kc Z h => ?_
  · obtain ⟨_, _, rfl, _⟩ := h
    rfl
  · obtain ⟨o, u, rfl, ub, hK, hZ⟩ := h
    walk_at "go"
    refine ⟨fun h => ?_, fun h => ?_⟩
    · refine sx_one ?_
      refine s_raise cn df (gloL_ok gs (by decide +kernel)) er (by decide) ?_
      walk_at "go"
      exact ⟨rfl, by show 1 ≤ 1000; decide, hZ (of_decide_eq_true h)⟩
    · have u0 : u ≠ 0 := of_decide_eq_false h
      walk_at "go"
      have s0 := sg_ne (o := o) u0
      have s1 := sg_lt (o := o) u0 ub
      have fin : ∀ Γ, Γ = [some (D.int o), some (D.int u), some (D.int (sg o u))] → SX X E W ((defBody s_ratio).drop 3) Γ { n := fun _ => Kc .non, r := Kc } Z := fun Γ e => by
        subst e
        have hK := hK u0
        unfold rat at hK
        generalize sg o u = s at s0 s1 hK ⊢
        walk_at "go"
        refine ⟨.inr ⟨s0, s1⟩, ?_⟩
        walk_at "go"
        refine ⟨.inr ⟨s0, s1⟩, ?_⟩
        walk_at "go"
        exact hK
      refine ⟨fun h2 => ?_, fun h2 => ?_⟩
      · refine sx_one ?_
        walk_at "e"
        walk_at "e"
        walk_at "e"
        refine ⟨_, rfl, ?_⟩
        refine fin _ ?_
        have h2 : u < 0 := of_decide_eq_true h2
        unfold sg
        rw [if_pos h2]
        rfl
      · refine sx_nil ?_
        refine fin _ ?_
        have h2 : ¬ u < 0 := of_decide_eq_false h2
        unfold sg
        rw [if_neg h2]
        rfl
theorem fn_ratio {G : Gb} {C : Addr} (fx : Fx G) (er : Err G "InvalidNumber" ["value"] "InvalidNumber" 1 C) (pk : Pk G "ratio" d_ratio) (hb : ∀ f fd, FunD G.K "ratio" d_ratio.qual d_ratio.params d_ratio.body d_ratio.scope (d_ratio.dvs G.K) (d_ratio.kws G.K) f fd → L2.Binds G.K fd P_ratio []) : Fn G "ratio" P_ratio 3 (F_ratio C) := by
  obtain ⟨f, fd0, FD, hm⟩ := pk.ex
  exact ⟨f, fd0, hm, FD.kp, hb f fd0 FD, ok_ratio fx er FD⟩
/-- two fractions -/
def F_two (C : Addr) (g : Int → Int → Int → Int → Int × Int) : FSpec := fun W ds K Z => ∃ a b c d : Int, ds = [.tup [.int a, .int b], .tup [.int c, .int d]] ∧ b.natAbs < 2 ^ 3000 ∧ d.natAbs < 2 ^ 3000 ∧ a.natAbs < 2 ^ 3000 ∧ c.natAbs < 2 ^ 3000 ∧ (g a b c d).2 ≠ 0 ∧ K (rat (g a b c d).1 (g a b c d).2)
theorem mok {i j : Int} (hi : i.natAbs < 2 ^ 3000) (hj : j.natAbs < 2 ^ 3000) : DX.MulOk i j := .inr (wide_mul hi hj (by decide) (by decide) (by decide))
theorem mlt {i j : Int} (hi : i.natAbs < 2 ^ 3000) (hj : j.natAbs < 2 ^ 3000) : (i * j).natAbs < 2 ^ 8000 := Nat.lt_of_lt_of_le (wide_lt hi hj) (Nat.pow_le_pow_right (by decide) (by decide))
theorem fn_plus {G : Gb} (fx : Fx G) {C : Addr} (fratio : Fn G "ratio" P_ratio 3 (F_ratio C)) (pk : Pk G "plus" d_plus) : Fn G "plus" P_plus 4 (F_two C fun a b c d => (a * d + c * b, b * d)) := by
  obtain ⟨f, fd0, FD, hm⟩ := pk.ex
  refine fn_intro (N := N_plus) FD sc_plus hm (bd_plus FD) (fun W ds Kc Z h => ?_) fun X E cn df po W ds Kc Z h => ?_
  · obtain ⟨_, _, _, _, rfl, _⟩ := h
    rfl
  · obtain ⟨a, b, c, d, rfl, hb, hd, ha, hc, h0, hK⟩ := h
    have gs := gs_plus
    have vs := vs_plus
    have ls := ls_plus
    walk_at "go"
    refine ⟨mok ha hd, ?_⟩
    walk_at "go"
    refine ⟨mok hc hb, ?_⟩
    walk_at "go"
    refine ⟨mok hb hd, ?_⟩
    walk_at "go"
    exact ⟨_, _, rfl, mlt hb hd, fun _ => hK, fun z => absurd z h0⟩
theorem fn_minus {G : Gb} (fx : Fx G) {C : Addr} (fratio : Fn G "ratio" P_ratio 3 (F_ratio C)) (pk : Pk G "minus" d_minus) : Fn G "minus" P_minus 4 (F_two C fun a b c d => (a * d - c * b, b * d)) := by
  obtain ⟨f, fd0, FD, hm⟩ := pk.ex
  refine fn_intro (N := N_minus) FD sc_minus hm (bd_minus FD) (fun W ds Kc Z h => ?_) fun X E cn df po W ds Kc Z h => ?_
  · obtain ⟨_, _, _, _, rfl, _⟩ := h
    rfl
  · obtain ⟨a, b, c, d, rfl, hb, hd, ha, hc, h0, hK⟩ := h
    have gs := gs_minus
    have vs := vs_minus
    have ls := ls_minus
    walk_at "go"
    refine ⟨mok ha hd, ?_⟩
    walk_at "go"
    refine ⟨mok hc hb, ?_⟩
    walk_at "go"
    refine ⟨mok hb hd, ?_⟩
    walk_at "go"
    exact ⟨_, _, rfl, mlt hb hd, fun _ => hK, fun z => absurd z h0⟩
theorem fn_times {G : Gb} (fx : Fx G) {C : Addr} (fratio : Fn G "ratio" P_ratio 3 (F_ratio C)) (pk : Pk G "times" d_times) : Fn G "times" P_times 4 (F_two C fun a b c d => (a * c, b * d)) := by
  obtain ⟨f, fd0, FD, hm⟩ := pk.ex
  refine fn_intro (N := N_times) FD sc_times hm (bd_times FD) (fun W ds Kc Z h => ?_) fun X E cn df po W ds Kc Z h => ?_
  · obtain ⟨_, _, _, _, rfl, _⟩ := h
    rfl
  · obtain ⟨a, b, c, d, rfl, hb, hd, ha, hc, h0, hK⟩ := h
    have gs := gs_times
    have vs := vs_times
    have ls := ls_times
    walk_at "go"
    refine ⟨mok ha hc, ?_⟩
    walk_at "go"
    refine ⟨mok hb hd, ?_⟩
    walk_at "go"
    exact ⟨_, _, rfl, mlt hb hd, fun _ => hK, fun z => absurd z h0⟩
end K02

set_option Elab.async false
set_option linter.all false
set_option maxRecDepth 100000
set_option maxHeartbeats 4000000
namespace K02
open PySem PySem.Spec PyProof.Rows L2 DX
set_option hygiene false
local macro_rules
  | `(tactic| walk_at "name") => `(tactic| first | refine ex_name (i := 0) cn (by rfl) (visC_ok vs (by decide +kernel)) (by rfl) ?_ | refine ex_name (i := 1) cn (by rfl) (visC_ok vs (by decide +kernel)) (by rfl) ?_ | refine ex_name (i := 2) cn (by rfl) (visC_ok vs (by decide +kernel)) (by rfl) ?_ | refine ex_name (i := 3) cn (by rfl) (visC_ok vs (by decide +kernel)) (by rfl) ?_ | refine ex_name (i := 4) cn (by rfl) (visC_ok vs (by decide +kernel)) (by rfl) ?_ | refine ex_name (i := 5) cn (by rfl) (visC_ok vs (by decide +kernel)) (by rfl) ?_ | refine ex_name (i := 6) cn (by rfl) (visC_ok vs (by decide +kernel)) (by rfl) ?_ | refine ex_name (i := 7) cn (by rfl) (visC_ok vs (by decide +kernel)) (by rfl) ?_)
local macro_rules
  | `(tactic| walk_at "call") => `(tactic| first
    | (show EX _ _ _ (.Call (.Name "_law_draw" _) _ _ _) _ _ _; refine ex_call cn (gloL_ok gs (by decide +kernel)) fdraw (by decide) ?_)
    | (show EX _ _ _ (.Call (.Name "_law_gcd" _) _ _ _) _ _ _; refine ex_call cn (gloL_ok gs (by decide +kernel)) flgcd (by decide) ?_)
    | (show EX _ _ _ (.Call (.Name "_law_low" _) _ _ _) _ _ _; refine ex_call cn (gloL_ok gs (by decide +kernel)) flow (by decide) ?_)
    | (show EX _ _ _ (.Call (.Name "is_integer_value" _) _ _ _) _ _ _; refine ex_call cn (gloL_ok gs (by decide +kernel)) fiiv (by decide) ?_)
    | (show EX _ _ _ (.Call (.Name "_law_int" _) _ _ _) _ _ _; refine ex_call cn (gloL_ok gs (by decide +kernel)) fint (by decide) ?_)
    | (show EX _ _ _ (.Call (.Name "ratio" _) _ _ _) _ _ _; refine ex_call cn (gloL_ok gs (by decide +kernel)) fratio (by decide) ?_)
    | (show EX _ _ _ (.Call (.Name "gcd" _) _ _ _) _ _ _; refine ex_gcd cn (gloL_ok gs (by decide +kernel)) fx.gcd ?_)
    | (show EX _ _ _ (.Call (.Name "min" _) _ _ _) _ _ _; refine ex_min2 cn (gloL_ok gs (by decide +kernel)) fx.min ?_)
    | (show EX _ _ _ (.Call (.Name "_law_pick" _) _ _ _) _ _ _; refine ex_call cn (gloL_ok gs (by decide +kernel)) fpick (by decide) ?_)
    | (show EX _ _ _ (.Call (.Name "_law_huge" _) _ _ _) _ _ _; refine ex_call cn (gloL_ok gs (by decide +kernel)) fhuge (by decide) ?_)
    | (show EX _ _ _ (.Call (.Name "_law_number" _) _ _ _) _ _ _; refine ex_call cn (gloL_ok gs (by decide +kernel)) fnumber (by decide) ?_)
    | (show EX _ _ _ (.Call (.Name "isinstance" _) [_, .Name "int" _] _ _) _ _ _; refine ex_isi (T := "int") cn (gloL_ok gs (by decide +kernel)) fx.isi (gloL_ok gs (by decide +kernel)) fx.int (by decide +kernel) ?_)
    | (show EX _ _ _ (.Call (.Name "isinstance" _) [_, .Name "bool" _] _ _) _ _ _; refine ex_isi (T := "bool") cn (gloL_ok gs (by decide +kernel)) fx.isi (gloL_ok gs (by decide +kernel)) fx.bool (by decide +kernel) ?_)
    | (show EX _ _ _ (.Call (.Name "isinstance" _) [_, .Name "str" _] _ _) _ _ _; refine ex_isi (T := "str") cn (gloL_ok gs (by decide +kernel)) fx.isi (gloL_ok gs (by decide +kernel)) fx.str (by decide +kernel) ?_)
    | (show EX _ _ _ (.Call (.Name "isinstance" _) [_, .Name "tuple" _] _ _) _ _ _; refine ex_isi (T := "tuple") cn (gloL_ok gs (by decide +kernel)) fx.isi (gloL_ok gs (by decide +kernel)) fx.tuple (by decide +kernel) ?_)
    | (show EX _ _ _ (.Call (.Name "isinstance" _) [_, .Name "list" _] _ _) _ _ _; refine ex_isi (T := "list") cn (gloL_ok gs (by decide +kernel)) fx.isi (gloL_ok gs (by decide +kernel)) fx.list (by decide +kernel) ?_)
    | (show EX _ _ _ (.Call (.Name "isinstance" _) [_, .Name "dict" _] _ _) _ _ _; refine ex_isi (T := "dict") cn (gloL_ok gs (by decide +kernel)) fx.isi (gloL_ok gs (by decide +kernel)) fx.dict (by decide +kernel) ?_)
    | refine ex_len cn (gloL_ok gs (by decide +kernel)) fx.len ?_ | refine ex_abs cn (gloL_ok gs (by decide +kernel)) fx.abs ?_ | refine ex_intc cn (gloL_ok gs (by decide +kernel)) fx.int ?_)
local macro_rules
  | `(tactic| walk_at "e") => `(tactic| first
    | (show EX _ _ _ (.Name _ _) _ _ _; walk_at "name")
    | (show EX _ _ _ (.Constant _ _ _) _ _ _; first | refine ex_int ?_ | refine ex_str ?_ | refine ex_bl ?_ | refine ex_non ?_)
    | (show EX _ _ _ (.BinOp _ _ _ _) _ _ _; first | refine ex_add ?_ | refine ex_sub ?_ | refine ex_mul ?_ | refine ex_mod ?_ | refine ex_div ?_ | refine ex_pow ?_)
    | (show EX _ _ _ (.Subscript _ _ _) _ _ _; refine ex_ix (fun _ _ => rfl) ?_)
    | (show EX _ _ _ (.Call _ _ _ _) _ _ _; walk_at "call")
    | (show EX _ _ _ (.Compare _ [_] _ _) _ _ _; first | refine ex_lt ?_ | refine ex_le ?_ | refine ex_gt ?_ | refine ex_ge ?_ | refine ex_eq cn ?_ | refine ex_ne cn ?_)
    | (show TX _ _ _ (.Compare _ [_] _ _) _ _ _; first | refine tx_lt ?_ | refine tx_le ?_ | refine tx_gt ?_ | refine tx_ge ?_ | refine tx_eq cn ?_ | refine tx_ne cn ?_)
    | (show TX _ _ _ (.Call _ _ _ _) _ _ _; refine tx_val ?_)
    | (show TX _ _ _ (.Name _ _) _ _ _; refine tx_val ?_)
    | (show TX _ _ _ (.UnaryOp _ _ _) _ _ _; refine tx_not ?_)
    | (show TX _ _ _ (.BoolOp _ _ _) _ _ _; refine tx_bool ?_)
    | (show TW _ _ _ (.BoolOp _ [_] _) _ _ _; first | refine tw_and1 ?_ | refine tw_or1 ?_)
    | (show TW _ _ _ (.BoolOp _ _ _) _ _ _; first | refine tw_and ?_ | refine tw_or ?_)
    | (show AX _ _ _ [] _ _ _; refine ax_nil ?_)
    | (show AX _ _ _ (_ :: _) _ _ _; refine ax_cons ?_)
    | (show EX _ _ _ (.Tuple _ _ _) _ _ _; refine ex_tup ?_)
    | (show EX _ _ _ (.List _ _) _ _ _; refine ex_lst ?_)
    | (show EX _ _ _ (.IfExp _ _ _ _) _ _ _; refine ex_if ?_)
    | (show EX _ _ _ (.UnaryOp _ _ _) _ _ _; first | refine ex_neg ?_ | refine ex_not ?_)
    | (show EX _ _ _ (.BoolOp _ [_] _) _ _ _; refine ex_one ?_)
    | (show EX _ _ _ (.BoolOp _ _ _) _ _ _; first | refine ex_and ?_ | refine ex_or ?_)
    | (show SX _ _ _ [] _ _ _; refine sx_nil ?_)
    | (show SX _ _ _ [_] _ _ _; refine sx_one ?_)
    | (show SX _ _ _ (_ :: _) _ _ _; refine sx_cons ?_)
    | (show S1 _ _ _ (.Return (some _) _) _ _ _; refine s_ret ?_)
    | (show S1 _ _ _ (.If _ _ _ _) _ _ _; refine s_if ?_)
    | (show S1 _ _ _ (.Assign [.Name _ _] _ _) _ _ _; walk_at "sset")
    | (show SX _ _ _ (defBody _) _ _ _; first | refine sx_cons ?_ | refine sx_one ?_))
local macro_rules
  | `(tactic| walk_at "sset") => `(tactic| first
    | refine s_set (i := 0) cn (by rfl) (locL_ok ls (by decide +kernel)) ?_ | refine s_set (i := 1) cn (by rfl) (locL_ok ls (by decide +kernel)) ?_ | refine s_set (i := 2) cn (by rfl) (locL_ok ls (by decide +kernel)) ?_ | refine s_set (i := 3) cn (by rfl) (locL_ok ls (by decide +kernel)) ?_ | refine s_set (i := 4) cn (by rfl) (locL_ok ls (by decide +kernel)) ?_ | refine s_set (i := 5) cn (by rfl) (locL_ok ls (by decide +kernel)) ?_ | refine s_set (i := 6) cn (by rfl) (locL_ok ls (by decide +kernel)) ?_ | refine s_set (i := 7) cn (by rfl) (locL_ok ls (by decide +kernel)) ?_ | refine s_set (i := 8) cn (by rfl) (locL_ok ls (by decide +kernel)) ?_ | refine s_set (i := 9) cn (by rfl) (locL_ok ls (by decide +kernel)) ?_)
local macro_rules
  | `(tactic| walk_at "l") => `(tactic| first
    | (show RO _ _ _ _ _ _; first | refine add_int ?_ | refine lt_int ?_ | refine le_int ?_ | refine gt_int ?_ | refine ge_int ?_ | refine eq_int ?_ | refine ne_int ?_)
    | (show ixD _ _ _; first | refine ix_lstA (by rfl) ?_ | refine ix_tupA (by rfl) ?_)
    | refine ⟨_, _, rfl, rfl, Or.inl (Or.inr (by decide)), ?_⟩
    | refine ⟨_, _, rfl, rfl, Or.inl (Or.inl ⟨by omega, by omega⟩), ?_⟩
    | refine ⟨_, _, rfl, rfl, Or.inl ⟨by decide, by decide⟩, ?_⟩
    | refine ⟨_, _, rfl, rfl, ⟨by decide, by decide, by first | omega | decide⟩, ?_⟩
    | refine ⟨_, _, rfl, rfl, (show _ ≠ _ by first | decide | omega), ?_⟩
    | refine ⟨_, _, rfl, rfl, ?_⟩
    | refine ⟨_, rfl, ?_⟩
    | refine Or.inl ⟨_, rfl, ?_⟩
    | refine ⟨(show _ ≤ 100000 from Nat.le_of_ble_eq_true (by rfl)), ?_⟩)
local macro_rules
  | `(tactic| walk_at "go") => `(tactic| repeat (first | walk_at "e" | walk_at "l"))
local macro_rules
  | `(tactic| walk_at "bset") => `(tactic| (refine bs_cons (E := E) ?_; first
    | refine b_set (E := E) (i := 1) cn (by rfl) (locL_ok ls (by decide +kernel)) ?_ | refine b_set (E := E) (i := 2) cn (by rfl) (locL_ok ls (by decide +kernel)) ?_ | refine b_set (E := E) (i := 3) cn (by rfl) (locL_ok ls (by decide +kernel)) ?_ | refine b_set (E := E) (i := 4) cn (by rfl) (locL_ok ls (by decide +kernel)) ?_))
local macro_rules
  | `(tactic| walk_at "bput") => `(tactic| (refine bs_cons (E := E) ?_; first
    | refine b_put (E := E) (k := 1) bg cn (by rfl) (visC_ok vs (by decide +kernel)) (by decide) (by decide) ?_ | refine b_put (E := E) (k := 2) bg cn (by rfl) (visC_ok vs (by decide +kernel)) (by decide) (by decide) ?_
    | refine b_put (E := E) (k := 3) bg cn (by rfl) (visC_ok vs (by decide +kernel)) (by decide) (by decide) ?_ | refine b_put (E := E) (k := 4) bg cn (by rfl) (visC_ok vs (by decide +kernel)) (by decide) (by decide) ?_))
local macro_rules
  | `(tactic| walk_at "gname") => `(tactic| first | refine gx_name (i := 0) cn (by rfl) (locL_ok ls (by decide +kernel)) ?_ | refine gx_name (i := 1) cn (by rfl) (locL_ok ls (by decide +kernel)) ?_ | refine gx_name (i := 2) cn (by rfl) (locL_ok ls (by decide +kernel)) ?_ | refine gx_name (i := 3) cn (by rfl) (locL_ok ls (by decide +kernel)) ?_ | refine gx_name (i := 4) cn (by rfl) (locL_ok ls (by decide +kernel)) ?_ | refine gx_name (i := 5) cn (by rfl) (locL_ok ls (by decide +kernel)) ?_ | refine gx_name (i := 6) cn (by rfl) (locL_ok ls (by decide +kernel)) ?_ | refine gx_name (i := 7) cn (by rfl) (locL_ok ls (by decide +kernel)) ?_ | refine gx_name (i := 8) cn (by rfl) (locL_ok ls (by decide +kernel)) ?_ | refine gx_name (i := 9) cn (by rfl) (locL_ok ls (by decide +kernel)) ?_)

def signI (a : Int) : Int := if a < 0 then -1 else if 0 < a then 1 else 0
def F_sign : FSpec := fun W ds K Z => ∃ a b : Int, ds = [.tup [.int a, .int b]] ∧ K (.int (signI a))
def F_less : FSpec := fun W ds K Z => ∃ a b c d : Int, ds = [.tup [.int a, .int b], .tup [.int c, .int d]] ∧ b.natAbs < 2 ^ 3000 ∧ d.natAbs < 2 ^ 3000 ∧ a.natAbs < 2 ^ 3000 ∧ c.natAbs < 2 ^ 3000 ∧ K (.bl (decide (a * d < c * b)))
def F_floor : FSpec := fun W ds K Z => ∃ a b : Int, ds = [.tup [.int a, .int b]] ∧ b ≠ 0 ∧ b.natAbs < 2 ^ 9000 ∧ K (.int (a.fdiv b))
theorem fn_sign {G : Gb} (fx : Fx G)  (pk : Pk G "sign" d_sign) : Fn G "sign" P_sign 2 F_sign := by
  obtain ⟨f, fd0, FD, hm⟩ := pk.ex
  refine fn_intro (N := N_sign) FD sc_sign hm (bd_sign FD) (fun W ds Kc Z h => ?_) fun X E cn df po W ds Kc Z h => ?_
  · obtain ⟨_, _, rfl, _⟩ := h
    rfl
  · obtain ⟨a, b, rfl, hK⟩ := h
    have gs := gs_sign
    have vs := vs_sign
    have ls := ls_sign
    walk_at "go"
    refine ⟨fun h => ?_, fun h => ?_⟩
    · have h : a < 0 := of_decide_eq_true h
      walk_at "go"
      unfold signI at hK
      rw [if_pos h] at hK
      exact hK
    · have h : ¬ a < 0 := of_decide_eq_false h
      walk_at "go"
      unfold signI at hK
      rw [if_neg h] at hK
      have e : (if (1 : Int) < a then 1 else a) = if 0 < a then 1 else 0 := by split <;> split <;> omega
      show Kc (.int (if (1 : Int) < a then 1 else a))
      rw [e]
      exact hK
theorem fn_is_less {G : Gb} (fx : Fx G)  (pk : Pk G "is_less" d_is_less) : Fn G "is_less" P_is_less 2 F_less := by
  obtain ⟨f, fd0, FD, hm⟩ := pk.ex
  refine fn_intro (N := N_is_less) FD sc_is_less hm (bd_is_less FD) (fun W ds Kc Z h => ?_) fun X E cn df po W ds Kc Z h => ?_
  · obtain ⟨_, _, _, _, rfl, _⟩ := h
    rfl
  · obtain ⟨a, b, c, d, rfl, hb, hd, ha, hc, hK⟩ := h
    have gs := gs_is_less
    have vs := vs_is_less
    have ls := ls_is_less
    walk_at "go"
    refine ⟨mok ha hd, ?_⟩
    walk_at "go"
    refine ⟨mok hc hb, ?_⟩
    walk_at "go"
    exact hK
theorem fn_floor_of {G : Gb} (fx : Fx G)  (pk : Pk G "floor_of" d_floor_of) : Fn G "floor_of" P_floor_of 2 F_floor := by
  obtain ⟨f, fd0, FD, hm⟩ := pk.ex
  refine fn_intro (N := N_floor_of) FD sc_floor_of hm (bd_floor_of FD) (fun W ds Kc Z h => ?_) fun X E cn df po W ds Kc Z h => ?_
  · obtain ⟨_, _, rfl, _⟩ := h
    rfl
  · obtain ⟨a, b, rfl, b0, hb, hK⟩ := h
    have gs := gs_floor_of
    have vs := vs_floor_of
    have ls := ls_floor_of
    walk_at "go"
    refine ⟨.inr ⟨b0, hb⟩, ?_⟩
    exact hK
def fracB : D → Bool
  | .tup [.int a, .int b] => decide (1 ≤ b) && decide (Nat.gcd a.natAbs b.natAbs = 1)
  | _ => false
/-- a value that may be asked whether it is a fraction -/
def Ask (x : D) : Prop := plainD x = true ∧ ∀ ds, x = .tup ds → ds.length ≤ 100000 ∧ ∀ d ∈ ds, plainD d = true
def F_isf : FSpec := fun W ds K Z => ∃ x, ds = [x] ∧ Ask x ∧ K (.bl (fracB x))
theorem frac_not {x : D} (h : isTup x = false) : fracB x = false := by cases x <;> first | rfl | cases h
theorem int_of {x : D} (h : (isInt x && !isBl x) = true) : ∃ i, x = .int i := by
  cases x <;> first | exact ⟨_, rfl⟩ | (simp [DX.isInt, DX.isBl] at h)
theorem frac_a {a b : D} (h : (isInt a && !isBl a) = false) : fracB (.tup [a, b]) = false := by
  cases a <;> first | rfl | (simp [DX.isInt, DX.isBl] at h)
theorem frac_b {a b : D} (h : (isInt b && !isBl b) = false) : fracB (.tup [a, b]) = false := by
  cases a <;> first | rfl | (cases b <;> first | rfl | (simp [DX.isInt, DX.isBl] at h))
theorem frac_len {ds : List D} (h : ds.length ≠ 2) : fracB (.tup ds) = false := by
  match ds, h with
  | [], _ => rfl
  | [a], _ => cases a <;> rfl
  | [_, _], h => exact absurd rfl h
  | a :: b :: c :: r, _ => cases a <;> first | rfl | (cases b <;> rfl)
theorem fn_is_fraction {G : Gb} (fx : Fx G) (fiiv : Fn G "is_integer_value" P_is_integer_value 2 F_int) (pk : Pk G "is_fraction" d_is_fraction) : Fn G "is_fraction" P_is_fraction 3 F_isf := by
  obtain ⟨f, fd0, FD, hm⟩ := pk.ex
  refine fn_intro (N := N_is_fraction) FD sc_is_fraction hm (bd_is_fraction FD) (fun W ds Kc Z h => ?_) fun X E cn df po W ds Kc Z h => ?_
  · obtain ⟨_, rfl, _⟩ := h
    rfl
  · obtain ⟨x, rfl, ⟨hp, hd⟩, hK⟩ := h
    have gs := gs_is_fraction
    have vs := vs_is_fraction
    have ls := ls_is_fraction
    walk_at "go"
    refine ⟨_, isD_tup hp, ?_⟩
    cases ht : isTup x with
    | false =>
      rw [frac_not ht] at hK
      walk_at "go"
      refine ⟨fun h => (nomatch h), fun _ => ?_⟩
      refine ⟨fun _ => ?_, fun h => (nomatch h)⟩
      walk_at "go"
      exact hK
    | true =>
      obtain ⟨ds, rfl⟩ : ∃ ds, x = .tup ds := by
        cases x <;> first | exact ⟨_, rfl⟩ | cases ht
      obtain ⟨hl, hd⟩ := hd ds rfl
      walk_at "go"
      refine ⟨fun _ => ?_, fun h => (nomatch h)⟩
      walk_at "go"
      refine ⟨by omega, ?_⟩
      walk_at "go"
      refine ⟨fun h => ?_, fun h => ?_⟩
      · have h : ds.length ≠ 2 := by
          intro z; rw [z] at h; exact absurd h (by decide)
        rw [frac_len h] at hK
        walk_at "go"
        exact hK
      · have h : ds.length = 2 := by
          have h2 : decide ((ds.length : Int) = 2) = true := by simpa using h
          have := of_decide_eq_true h2
          omega
        obtain ⟨a, b, rfl⟩ : ∃ a b, ds = [a, b] := by
          match ds, h with
          | [a, b], _ => exact ⟨a, b, rfl⟩
        have pa := hd a (by simp)
        have pb := hd b (by simp)
        refine sx_nil ?_
        refine sx_cons ?_
        refine s_asg ?_
        walk_at "name"
        refine gx_tup cn ?_
        refine gxs_cons ?_
        walk_at "gname"
        refine gxs_cons ?_
        walk_at "gname"
        refine gxs_nil ?_
        walk_at "go"
        refine ⟨pa, ?_⟩
        walk_at "go"
        cases ha : (DX.isInt a && !DX.isBl a) with
        | false =>
          rw [frac_a ha] at hK
          refine ⟨fun h => by simp at h, fun _ => ?_⟩
          refine ⟨fun _ => ?_, fun h => by simp at h⟩
          walk_at "go"
          exact hK
        | true =>
          refine ⟨fun _ => ?_, fun h => by simp at h⟩
          walk_at "go"
          refine ⟨pb, ?_⟩
          walk_at "go"
          cases hb : (DX.isInt b && !DX.isBl b) with
          | false =>
            rw [frac_b hb] at hK
            refine ⟨fun _ => ?_, fun h => by simp at h⟩
            walk_at "go"
            exact hK
          | true =>
            obtain ⟨i, rfl⟩ := int_of ha
            obtain ⟨j, rfl⟩ := int_of hb
            refine ⟨fun h => by simp at h, fun _ => ?_⟩
            refine sx_nil ?_
            walk_at "go"
            have hK : Kc (.bl (decide (1 ≤ j) && decide (Nat.gcd i.natAbs j.natAbs = 1))) := hK
            refine ⟨fun h => ?_, fun h => ?_⟩
            · rw [h, Bool.true_and] at hK
              walk_at "go"
              have e : decide (((Nat.gcd i.natAbs j.natAbs : Nat) : Int) = 1) = decide (Nat.gcd i.natAbs j.natAbs = 1) := by
                apply decide_eq_decide.mpr; omega
              show Kc (.bl (decide (((Nat.gcd i.natAbs j.natAbs : Nat) : Int) = 1)))
              rw [e]; exact hK
            · rw [h, Bool.false_and] at hK
              exact hK
end K02

set_option Elab.async false
set_option linter.all false
set_option maxRecDepth 100000
set_option maxHeartbeats 4000000
namespace K02
open PySem PySem.Spec PyProof.Rows L2 DX
set_option hygiene false
local macro_rules
  | `(tactic| walk_at "name") => `(tactic| first | refine ex_name (i := 0) cn (by rfl) (visC_ok vs (by decide +kernel)) (by rfl) ?_ | refine ex_name (i := 1) cn (by rfl) (visC_ok vs (by decide +kernel)) (by rfl) ?_ | refine ex_name (i := 2) cn (by rfl) (visC_ok vs (by decide +kernel)) (by rfl) ?_ | refine ex_name (i := 3) cn (by rfl) (visC_ok vs (by decide +kernel)) (by rfl) ?_ | refine ex_name (i := 4) cn (by rfl) (visC_ok vs (by decide +kernel)) (by rfl) ?_ | refine ex_name (i := 5) cn (by rfl) (visC_ok vs (by decide +kernel)) (by rfl) ?_ | refine ex_name (i := 6) cn (by rfl) (visC_ok vs (by decide +kernel)) (by rfl) ?_ | refine ex_name (i := 7) cn (by rfl) (visC_ok vs (by decide +kernel)) (by rfl) ?_)
local macro_rules
  | `(tactic| walk_at "call") => `(tactic| first
    | (show EX _ _ _ (.Call (.Name "_law_draw" _) _ _ _) _ _ _; refine ex_call cn (gloL_ok gs (by decide +kernel)) fdraw (by decide) ?_)
    | (show EX _ _ _ (.Call (.Name "_law_gcd" _) _ _ _) _ _ _; refine ex_call cn (gloL_ok gs (by decide +kernel)) flgcd (by decide) ?_)
    | (show EX _ _ _ (.Call (.Name "_law_low" _) _ _ _) _ _ _; refine ex_call cn (gloL_ok gs (by decide +kernel)) flow (by decide) ?_)
    | (show EX _ _ _ (.Call (.Name "is_integer_value" _) _ _ _) _ _ _; refine ex_call cn (gloL_ok gs (by decide +kernel)) fiiv (by decide) ?_)
    | (show EX _ _ _ (.Call (.Name "_law_int" _) _ _ _) _ _ _; refine ex_call cn (gloL_ok gs (by decide +kernel)) fint (by decide) ?_)
    | (show EX _ _ _ (.Call (.Name "all" _) _ _ _) _ _ _; refine ex_allc cn (gloL_ok gs (by decide +kernel)) fx.all ?_)
    | (show EX _ _ _ (.Call (.Name "_law_is_fraction" _) _ _ _) _ _ _; refine ex_call cn (gloL_ok gs (by decide +kernel)) flisf (by decide) ?_)
    | (show EX _ _ _ (.Call (.Name "_law_worth" _) _ _ _) _ _ _; refine ex_call cn (gloL_ok gs (by decide +kernel)) fworth (by decide) ?_)
    | (show EX _ _ _ (.Call (.Name "ratio" _) _ _ _) _ _ _; refine ex_call cn (gloL_ok gs (by decide +kernel)) fratio (by decide) ?_)
    | (show EX _ _ _ (.Call (.Name "gcd" _) _ _ _) _ _ _; refine ex_gcd cn (gloL_ok gs (by decide +kernel)) fx.gcd ?_)
    | (show EX _ _ _ (.Call (.Name "min" _) _ _ _) _ _ _; refine ex_min2 cn (gloL_ok gs (by decide +kernel)) fx.min ?_)
    | (show EX _ _ _ (.Call (.Name "_law_pick" _) _ _ _) _ _ _; refine ex_call cn (gloL_ok gs (by decide +kernel)) fpick (by decide) ?_)
    | (show EX _ _ _ (.Call (.Name "_law_huge" _) _ _ _) _ _ _; refine ex_call cn (gloL_ok gs (by decide +kernel)) fhuge (by decide) ?_)
    | (show EX _ _ _ (.Call (.Name "_law_number" _) _ _ _) _ _ _; refine ex_call cn (gloL_ok gs (by decide +kernel)) fnumber (by decide) ?_)
    | (show EX _ _ _ (.Call (.Name "isinstance" _) [_, .Name "int" _] _ _) _ _ _; refine ex_isi (T := "int") cn (gloL_ok gs (by decide +kernel)) fx.isi (gloL_ok gs (by decide +kernel)) fx.int (by decide +kernel) ?_)
    | (show EX _ _ _ (.Call (.Name "isinstance" _) [_, .Name "bool" _] _ _) _ _ _; refine ex_isi (T := "bool") cn (gloL_ok gs (by decide +kernel)) fx.isi (gloL_ok gs (by decide +kernel)) fx.bool (by decide +kernel) ?_)
    | (show EX _ _ _ (.Call (.Name "isinstance" _) [_, .Name "str" _] _ _) _ _ _; refine ex_isi (T := "str") cn (gloL_ok gs (by decide +kernel)) fx.isi (gloL_ok gs (by decide +kernel)) fx.str (by decide +kernel) ?_)
    | (show EX _ _ _ (.Call (.Name "isinstance" _) [_, .Name "tuple" _] _ _) _ _ _; refine ex_isi (T := "tuple") cn (gloL_ok gs (by decide +kernel)) fx.isi (gloL_ok gs (by decide +kernel)) fx.tuple (by decide +kernel) ?_)
    | (show EX _ _ _ (.Call (.Name "isinstance" _) [_, .Name "list" _] _ _) _ _ _; refine ex_isi (T := "list") cn (gloL_ok gs (by decide +kernel)) fx.isi (gloL_ok gs (by decide +kernel)) fx.list (by decide +kernel) ?_)
    | (show EX _ _ _ (.Call (.Name "isinstance" _) [_, .Name "dict" _] _ _) _ _ _; refine ex_isi (T := "dict") cn (gloL_ok gs (by decide +kernel)) fx.isi (gloL_ok gs (by decide +kernel)) fx.dict (by decide +kernel) ?_)
    | refine ex_len cn (gloL_ok gs (by decide +kernel)) fx.len ?_ | refine ex_abs cn (gloL_ok gs (by decide +kernel)) fx.abs ?_ | refine ex_intc cn (gloL_ok gs (by decide +kernel)) fx.int ?_)
local macro_rules
  | `(tactic| walk_at "e") => `(tactic| first
    | (show EX _ _ _ (.Name _ _) _ _ _; walk_at "name")
    | (show EX _ _ _ (.Constant _ _ _) _ _ _; first | refine ex_int ?_ | refine ex_str ?_ | refine ex_bl ?_ | refine ex_non ?_)
    | (show EX _ _ _ (.BinOp _ _ _ _) _ _ _; first | refine ex_add ?_ | refine ex_sub ?_ | refine ex_mul ?_ | refine ex_mod ?_ | refine ex_div ?_ | refine ex_pow ?_)
    | (show EX _ _ _ (.Subscript _ _ _) _ _ _; refine ex_ix (fun _ _ => rfl) ?_)
    | (show EX _ _ _ (.Call _ _ _ _) _ _ _; walk_at "call")
    | (show EX _ _ _ (.Compare _ [_] _ _) _ _ _; first | refine ex_lt ?_ | refine ex_le ?_ | refine ex_gt ?_ | refine ex_ge ?_ | refine ex_eq cn ?_ | refine ex_ne cn ?_)
    | (show TX _ _ _ (.Compare _ [_] _ _) _ _ _; first | refine tx_lt ?_ | refine tx_le ?_ | refine tx_gt ?_ | refine tx_ge ?_ | refine tx_eq cn ?_ | refine tx_ne cn ?_)
    | (show TX _ _ _ (.Call _ _ _ _) _ _ _; refine tx_val ?_)
    | (show TX _ _ _ (.Name _ _) _ _ _; refine tx_val ?_)
    | (show TX _ _ _ (.UnaryOp _ _ _) _ _ _; refine tx_not ?_)
    | (show TX _ _ _ (.BoolOp _ _ _) _ _ _; refine tx_bool ?_)
    | (show TW _ _ _ (.BoolOp _ [_] _) _ _ _; first | refine tw_and1 ?_ | refine tw_or1 ?_)
    | (show TW _ _ _ (.BoolOp _ _ _) _ _ _; first | refine tw_and ?_ | refine tw_or ?_)
    | (show AX _ _ _ [] _ _ _; refine ax_nil ?_)
    | (show AX _ _ _ (_ :: _) _ _ _; refine ax_cons ?_)
    | (show EX _ _ _ (.Tuple _ _ _) _ _ _; refine ex_tup ?_)
    | (show EX _ _ _ (.List _ _) _ _ _; refine ex_lst ?_)
    | (show EX _ _ _ (.IfExp _ _ _ _) _ _ _; refine ex_if ?_)
    | (show EX _ _ _ (.UnaryOp _ _ _) _ _ _; first | refine ex_neg ?_ | refine ex_not ?_)
    | (show EX _ _ _ (.BoolOp _ [_] _) _ _ _; refine ex_one ?_)
    | (show EX _ _ _ (.BoolOp _ _ _) _ _ _; first | refine ex_and ?_ | refine ex_or ?_)
    | (show SX _ _ _ [] _ _ _; refine sx_nil ?_)
    | (show SX _ _ _ [_] _ _ _; refine sx_one ?_)
    | (show SX _ _ _ (_ :: _) _ _ _; refine sx_cons ?_)
    | (show S1 _ _ _ (.Return (some _) _) _ _ _; refine s_ret ?_)
    | (show S1 _ _ _ (.If _ _ _ _) _ _ _; refine s_if ?_)
    | (show S1 _ _ _ (.Assign [.Name _ _] _ _) _ _ _; walk_at "sset")
    | (show SX _ _ _ (defBody _) _ _ _; first | refine sx_cons ?_ | refine sx_one ?_))
local macro_rules
  | `(tactic| walk_at "sset") => `(tactic| first
    | refine s_set (i := 0) cn (by rfl) (locL_ok ls (by decide +kernel)) ?_ | refine s_set (i := 1) cn (by rfl) (locL_ok ls (by decide +kernel)) ?_ | refine s_set (i := 2) cn (by rfl) (locL_ok ls (by decide +kernel)) ?_ | refine s_set (i := 3) cn (by rfl) (locL_ok ls (by decide +kernel)) ?_ | refine s_set (i := 4) cn (by rfl) (locL_ok ls (by decide +kernel)) ?_ | refine s_set (i := 5) cn (by rfl) (locL_ok ls (by decide +kernel)) ?_ | refine s_set (i := 6) cn (by rfl) (locL_ok ls (by decide +kernel)) ?_ | refine s_set (i := 7) cn (by rfl) (locL_ok ls (by decide +kernel)) ?_ | refine s_set (i := 8) cn (by rfl) (locL_ok ls (by decide +kernel)) ?_ | refine s_set (i := 9) cn (by rfl) (locL_ok ls (by decide +kernel)) ?_)
local macro_rules
  | `(tactic| walk_at "l") => `(tactic| first
    | (show RO _ _ _ _ _ _; first | refine add_int ?_ | refine lt_int ?_ | refine le_int ?_ | refine gt_int ?_ | refine ge_int ?_ | refine eq_int ?_ | refine ne_int ?_)
    | (show ixD _ _ _; first | refine ix_lstA (by rfl) ?_ | refine ix_tupA (by rfl) ?_)
    | refine ⟨_, _, rfl, rfl, Or.inl (Or.inr (by decide)), ?_⟩
    | refine ⟨_, _, rfl, rfl, Or.inl (Or.inl ⟨by omega, by omega⟩), ?_⟩
    | refine ⟨_, _, rfl, rfl, Or.inl ⟨by decide, by decide⟩, ?_⟩
    | refine ⟨_, _, rfl, rfl, ⟨by decide, by decide, by first | omega | decide⟩, ?_⟩
    | refine ⟨_, _, rfl, rfl, (show _ ≠ _ by first | decide | omega), ?_⟩
    | refine ⟨_, _, rfl, rfl, ?_⟩
    | refine ⟨_, rfl, ?_⟩
    | refine Or.inl ⟨_, rfl, ?_⟩
    | refine ⟨(show _ ≤ 100000 from Nat.le_of_ble_eq_true (by rfl)), ?_⟩)
local macro_rules
  | `(tactic| walk_at "go") => `(tactic| repeat (first | walk_at "e" | walk_at "l"))
local macro_rules
  | `(tactic| walk_at "bset") => `(tactic| (refine bs_cons (E := E) ?_; first
    | refine b_set (E := E) (i := 1) cn (by rfl) (locL_ok ls (by decide +kernel)) ?_ | refine b_set (E := E) (i := 2) cn (by rfl) (locL_ok ls (by decide +kernel)) ?_ | refine b_set (E := E) (i := 3) cn (by rfl) (locL_ok ls (by decide +kernel)) ?_ | refine b_set (E := E) (i := 4) cn (by rfl) (locL_ok ls (by decide +kernel)) ?_))
local macro_rules
  | `(tactic| walk_at "bput") => `(tactic| (refine bs_cons (E := E) ?_; first
    | refine b_put (E := E) (k := 1) bg cn (by rfl) (visC_ok vs (by decide +kernel)) (by decide) (by decide) ?_ | refine b_put (E := E) (k := 2) bg cn (by rfl) (visC_ok vs (by decide +kernel)) (by decide) (by decide) ?_
    | refine b_put (E := E) (k := 3) bg cn (by rfl) (visC_ok vs (by decide +kernel)) (by decide) (by decide) ?_ | refine b_put (E := E) (k := 4) bg cn (by rfl) (visC_ok vs (by decide +kernel)) (by decide) (by decide) ?_))
local macro_rules
  | `(tactic| walk_at "gname") => `(tactic| first | refine gx_name (i := 0) cn (by rfl) (locL_ok ls (by decide +kernel)) ?_ | refine gx_name (i := 1) cn (by rfl) (locL_ok ls (by decide +kernel)) ?_ | refine gx_name (i := 2) cn (by rfl) (locL_ok ls (by decide +kernel)) ?_ | refine gx_name (i := 3) cn (by rfl) (locL_ok ls (by decide +kernel)) ?_ | refine gx_name (i := 4) cn (by rfl) (locL_ok ls (by decide +kernel)) ?_ | refine gx_name (i := 5) cn (by rfl) (locL_ok ls (by decide +kernel)) ?_ | refine gx_name (i := 6) cn (by rfl) (locL_ok ls (by decide +kernel)) ?_ | refine gx_name (i := 7) cn (by rfl) (locL_ok ls (by decide +kernel)) ?_ | refine gx_name (i := 8) cn (by rfl) (locL_ok ls (by decide +kernel)) ?_ | refine gx_name (i := 9) cn (by rfl) (locL_ok ls (by decide +kernel)) ?_)

theorem all_int {a b : D} : [DX.isInt a && !DX.isBl a, DX.isInt b && !DX.isBl b].all id = true → (∃ i, a = .int i) ∧ ∃ j, b = .int j := fun h => by
  simp only [List.all_cons, List.all_nil, id, Bool.and_true] at h
  obtain ⟨h1, h2⟩ := Bool.and_eq_true_iff.mp h
  exact ⟨int_of h1, int_of h2⟩
theorem fn_L_is_fraction {G : Gb} (fx : Fx G) (flgcd : Fn G "_law_gcd" P_L_gcd 2 F_gcd) (fint : Fn G "_law_int" P_L_int 2 F_int) (pk : Pk G "_law_is_fraction" d_L_is_fraction) : Fn G "_law_is_fraction" P_L_is_fraction 3 F_isf := by
  obtain ⟨f, fd0, FD, hm⟩ := pk.ex
  refine fn_intro (N := N_L_is_fraction) FD sc_L_is_fraction hm (bd_L_is_fraction FD) (fun W ds Kc Z h => ?_) fun X E cn df po W ds Kc Z h => ?_
  · obtain ⟨_, rfl, _⟩ := h
    rfl
  · obtain ⟨x, rfl, ⟨hp, hd⟩, hK⟩ := h
    have gs := gs_L_is_fraction
    have vs := vs_L_is_fraction
    have ls := ls_L_is_fraction
    walk_at "go"
    refine ⟨_, isD_tup hp, ?_⟩
    walk_at "go"
    cases ht : isTup x with
    | false =>
      rw [frac_not ht] at hK
      exact ⟨fun h => by simp at h, fun _ => hK⟩
    | true =>
      obtain ⟨ds, rfl⟩ : ∃ ds, x = .tup ds := by
        cases x <;> first | exact ⟨_, rfl⟩ | cases ht
      obtain ⟨hl, hd⟩ := hd ds rfl
      refine ⟨fun _ => ?_, fun h => by simp at h⟩
      walk_at "go"
      refine ⟨by omega, ?_⟩
      walk_at "go"
      refine ⟨fun h => ?_, fun h => ?_⟩
      · have h : ds.length = 2 := by
          have := of_decide_eq_true h
          omega
        obtain ⟨a, b, rfl⟩ : ∃ a b, ds = [a, b] := by
          match ds, h with
          | [a, b], _ => exact ⟨a, b, rfl⟩
        have pa := hd a (by simp)
        have pb := hd b (by simp)
        walk_at "go"
        refine ex_lc (i := 1) cn (by decide +kernel) (by decide +kernel) (ix_tup ?_)
        refine ex_name (i := 0) cn (by rfl) (visC_ok vs (by decide +kernel)) (by rfl) ?_
        refine ⟨_, rfl, show 2 ≤ 100000 by decide, fun d y => y = .bl (DX.isInt d && !DX.isBl d), fun d hdm X' W' cn' we => ?_, fun ys pr => ?_⟩
        · refine ex_call cn' (by decide +kernel) fint (by decide) (ax_cons (ex_name (i := 1) cn' (by rfl) (by decide +kernel) (by rfl) (ax_nil ⟨d, rfl, hd d hdm, rfl⟩)))
        · cases pr with
          | cons y1 pr =>
            cases pr with
            | cons y2 pr =>
              cases pr
              subst y1 y2
              refine ⟨[DX.isInt a && !DX.isBl a, DX.isInt b && !DX.isBl b], rfl, ?_⟩
              refine ⟨_, rfl, fun h2 => ?_, fun h2 => ?_⟩
              · obtain ⟨⟨i, rfl⟩, ⟨j, rfl⟩⟩ := all_int h2
                have hK : Kc (.bl (decide (1 ≤ j) && decide (Nat.gcd i.natAbs j.natAbs = 1))) := hK
                walk_at "go"
                refine ⟨fun h => ?_, fun h => ?_⟩
                · rw [h, Bool.true_and] at hK
                  walk_at "go"
                  refine ⟨i, j, rfl, ?_⟩
                  walk_at "go"
                  have e : decide (((Nat.gcd i.natAbs j.natAbs : Nat) : Int) = 1) = decide (Nat.gcd i.natAbs j.natAbs = 1) := by
                    apply decide_eq_decide.mpr; omega
                  show Kc (.bl (decide (((Nat.gcd i.natAbs j.natAbs : Nat) : Int) = 1)))
                  rw [e]; exact hK
                · rw [h, Bool.false_and] at hK
                  exact hK
              · have e : fracB (.tup [a, b]) = false := by
                  simp only [List.all_cons, List.all_nil, id, Bool.and_true] at h2
                  cases ha : (DX.isInt a && !DX.isBl a) with
                  | false => exact frac_a ha
                  | true =>
                    rw [ha, Bool.true_and] at h2
                    exact frac_b h2
                rw [e] at hK
                exact hK
      · have h : ds.length ≠ 2 := by
          intro z; rw [z] at h; exact absurd h (by decide)
        rw [frac_len h] at hK
        exact hK
/-- found is the fraction n / m -/
def F_worth : FSpec := fun W ds K Z => ∃ a b n m : Int, ds = [.tup [.int a, .int b], .int n, .int m] ∧ LowT a b ∧ a.natAbs < 2 ^ 6000 ∧ b.natAbs < 2 ^ 6000 ∧ n.natAbs < 2 ^ 6000 ∧ m.natAbs < 2 ^ 6000 ∧ a * m = n * b ∧ K (.bl true)
theorem mok6 {i j : Int} (hi : i.natAbs < 2 ^ 6000) (hj : j.natAbs < 2 ^ 6000) : DX.MulOk i j := .inr (wide_mul hi hj (by decide) (by decide) (by decide))
theorem fn_worth {G : Gb} (fx : Fx G) (flisf : Fn G "_law_is_fraction" P_L_is_fraction 3 F_isf) (pk : Pk G "_law_worth" d_L_worth) : Fn G "_law_worth" P_L_worth 4 F_worth := by
  obtain ⟨f, fd0, FD, hm⟩ := pk.ex
  refine fn_intro (N := N_L_worth) FD sc_L_worth hm (bd_L_worth FD) (fun W ds Kc Z h => ?_) fun X E cn df po W ds Kc Z h => ?_
  · obtain ⟨_, _, _, _, rfl, _⟩ := h
    rfl
  · obtain ⟨a, b, n, m, rfl, hT, ha, hb, hn, hm2, he, hK⟩ := h
    have gs := gs_L_worth
    have vs := vs_L_worth
    have ls := ls_L_worth
    walk_at "go"
    refine ⟨⟨rfl, fun ds e => ?_⟩, ?_⟩
    · cases e
      exact ⟨by show 2 ≤ 100000; decide, fun d hd => by
        rcases List.mem_cons.mp hd with rfl | hd
        · rfl
        · rcases List.mem_cons.mp hd with rfl | hd
          · rfl
          · cases hd⟩
    · have e : fracB (.tup [.int a, .int b]) = true := by
        show (decide (1 ≤ b) && decide (Nat.gcd a.natAbs b.natAbs = 1)) = true
        rw [decide_eq_true (by have := hT.1; omega : 1 ≤ b), decide_eq_true hT.2]
        rfl
      rw [e]
      refine ⟨_, rfl, fun _ => ?_, fun h => by cases h⟩
      walk_at "go"
      refine ⟨mok6 ha hm2, ?_⟩
      walk_at "go"
      refine ⟨mok6 hn hb, ?_⟩
      walk_at "go"
      show Kc (.bl (decide (a * m = n * b)))
      rw [he, decide_eq_true rfl]
      exact hK
end K02

set_option Elab.async false
set_option linter.all false
set_option maxRecDepth 100000
set_option maxHeartbeats 4000000
namespace K02
open PySem PySem.Spec PyProof.Rows L2 DX
set_option hygiene false
local macro_rules
  | `(tactic| walk_at "name") => `(tactic| first | refine ex_name (i := 0) cn (by rfl) (visC_ok vs (by decide +kernel)) (by rfl) ?_ | refine ex_name (i := 1) cn (by rfl) (visC_ok vs (by decide +kernel)) (by rfl) ?_ | refine ex_name (i := 2) cn (by rfl) (visC_ok vs (by decide +kernel)) (by rfl) ?_ | refine ex_name (i := 3) cn (by rfl) (visC_ok vs (by decide +kernel)) (by rfl) ?_ | refine ex_name (i := 4) cn (by rfl) (visC_ok vs (by decide +kernel)) (by rfl) ?_ | refine ex_name (i := 5) cn (by rfl) (visC_ok vs (by decide +kernel)) (by rfl) ?_ | refine ex_name (i := 6) cn (by rfl) (visC_ok vs (by decide +kernel)) (by rfl) ?_ | refine ex_name (i := 7) cn (by rfl) (visC_ok vs (by decide +kernel)) (by rfl) ?_)
local macro_rules
  | `(tactic| walk_at "call") => `(tactic| first
    | (show EX _ _ _ (.Call (.Name "_law_draw" _) _ _ _) _ _ _; refine ex_call cn (gloL_ok gs (by decide +kernel)) fdraw (by decide) ?_)
    | (show EX _ _ _ (.Call (.Name "_law_gcd" _) _ _ _) _ _ _; refine ex_call cn (gloL_ok gs (by decide +kernel)) flgcd (by decide) ?_)
    | (show EX _ _ _ (.Call (.Name "_law_low" _) _ _ _) _ _ _; refine ex_call cn (gloL_ok gs (by decide +kernel)) flow (by decide) ?_)
    | (show EX _ _ _ (.Call (.Name "is_integer_value" _) _ _ _) _ _ _; refine ex_call cn (gloL_ok gs (by decide +kernel)) fiiv (by decide) ?_)
    | (show EX _ _ _ (.Call (.Name "_law_int" _) _ _ _) _ _ _; refine ex_call cn (gloL_ok gs (by decide +kernel)) fint (by decide) ?_)
    | (show EX _ _ _ (.Call (.Name "all" _) _ _ _) _ _ _; refine ex_allc cn (gloL_ok gs (by decide +kernel)) fx.all ?_)
    | (show EX _ _ _ (.Call (.Name "_law_is_fraction" _) _ _ _) _ _ _; refine ex_call cn (gloL_ok gs (by decide +kernel)) flisf (by decide) ?_)
    | (show EX _ _ _ (.Call (.Name "_law_worth" _) _ _ _) _ _ _; refine ex_call cn (gloL_ok gs (by decide +kernel)) fworth (by decide) ?_)
    | (show EX _ _ _ (.Call (.Name "ratio" _) _ _ _) _ _ _; refine ex_call cn (gloL_ok gs (by decide +kernel)) fratio (by decide) ?_)
    | (show EX _ _ _ (.Call (.Name "gcd" _) _ _ _) _ _ _; refine ex_gcd cn (gloL_ok gs (by decide +kernel)) fx.gcd ?_)
    | (show EX _ _ _ (.Call (.Name "min" _) _ _ _) _ _ _; refine ex_min2 cn (gloL_ok gs (by decide +kernel)) fx.min ?_)
    | (show EX _ _ _ (.Call (.Name "_law_pick" _) _ _ _) _ _ _; refine ex_call cn (gloL_ok gs (by decide +kernel)) fpick (by decide) ?_)
    | (show EX _ _ _ (.Call (.Name "_law_huge" _) _ _ _) _ _ _; refine ex_call cn (gloL_ok gs (by decide +kernel)) fhuge (by decide) ?_)
    | (show EX _ _ _ (.Call (.Name "_law_number" _) _ _ _) _ _ _; refine ex_call cn (gloL_ok gs (by decide +kernel)) fnumber (by decide) ?_)
    | (show EX _ _ _ (.Call (.Name "isinstance" _) [_, .Tuple [.Name "list" _, .Name "tuple" _] _ _] _ _) _ _ _; refine ex_isi2 (T := "list") (U := "tuple") cn (gloL_ok gs (by decide +kernel)) fx.isi (gloL_ok gs (by decide +kernel)) fx.list (by decide +kernel) (gloL_ok gs (by decide +kernel)) fx.tuple (by decide +kernel) ?_)
    | (show EX _ _ _ (.Call (.Name "isinstance" _) [_, .Name "int" _] _ _) _ _ _; refine ex_isi (T := "int") cn (gloL_ok gs (by decide +kernel)) fx.isi (gloL_ok gs (by decide +kernel)) fx.int (by decide +kernel) ?_)
    | (show EX _ _ _ (.Call (.Name "isinstance" _) [_, .Name "bool" _] _ _) _ _ _; refine ex_isi (T := "bool") cn (gloL_ok gs (by decide +kernel)) fx.isi (gloL_ok gs (by decide +kernel)) fx.bool (by decide +kernel) ?_)
    | (show EX _ _ _ (.Call (.Name "isinstance" _) [_, .Name "str" _] _ _) _ _ _; refine ex_isi (T := "str") cn (gloL_ok gs (by decide +kernel)) fx.isi (gloL_ok gs (by decide +kernel)) fx.str (by decide +kernel) ?_)
    | (show EX _ _ _ (.Call (.Name "isinstance" _) [_, .Name "tuple" _] _ _) _ _ _; refine ex_isi (T := "tuple") cn (gloL_ok gs (by decide +kernel)) fx.isi (gloL_ok gs (by decide +kernel)) fx.tuple (by decide +kernel) ?_)
    | (show EX _ _ _ (.Call (.Name "isinstance" _) [_, .Name "list" _] _ _) _ _ _; refine ex_isi (T := "list") cn (gloL_ok gs (by decide +kernel)) fx.isi (gloL_ok gs (by decide +kernel)) fx.list (by decide +kernel) ?_)
    | (show EX _ _ _ (.Call (.Name "isinstance" _) [_, .Name "dict" _] _ _) _ _ _; refine ex_isi (T := "dict") cn (gloL_ok gs (by decide +kernel)) fx.isi (gloL_ok gs (by decide +kernel)) fx.dict (by decide +kernel) ?_)
    | refine ex_len cn (gloL_ok gs (by decide +kernel)) fx.len ?_ | refine ex_abs cn (gloL_ok gs (by decide +kernel)) fx.abs ?_ | refine ex_intc cn (gloL_ok gs (by decide +kernel)) fx.int ?_)
local macro_rules
  | `(tactic| walk_at "e") => `(tactic| first
    | (show EX _ _ _ (.Name _ _) _ _ _; walk_at "name")
    | (show EX _ _ _ (.Constant _ _ _) _ _ _; first | refine ex_int ?_ | refine ex_str ?_ | refine ex_bl ?_ | refine ex_non ?_)
    | (show EX _ _ _ (.BinOp _ _ _ _) _ _ _; first | refine ex_add ?_ | refine ex_sub ?_ | refine ex_mul ?_ | refine ex_mod ?_ | refine ex_div ?_ | refine ex_pow ?_)
    | (show EX _ _ _ (.Subscript _ _ _) _ _ _; refine ex_ix (fun _ _ => rfl) ?_)
    | (show EX _ _ _ (.Call _ _ _ _) _ _ _; walk_at "call")
    | (show EX _ _ _ (.Compare _ [.Is] _ _) _ _ _; refine ex_isN ?_)
    | (show EX _ _ _ (.Compare _ [_] _ _) _ _ _; first | refine ex_lt ?_ | refine ex_le ?_ | refine ex_gt ?_ | refine ex_ge ?_ | refine ex_eq cn ?_ | refine ex_ne cn ?_)
    | (show EX _ _ _ (.Compare _ [.Is] _ _) _ _ _; refine ex_isN ?_)
    | (show TX _ _ _ (.Compare _ [.Is] _ _) _ _ _; refine tx_isN ?_)
    | (show TX _ _ _ (.Compare _ [_] _ _) _ _ _; first | refine tx_lt ?_ | refine tx_le ?_ | refine tx_gt ?_ | refine tx_ge ?_ | refine tx_eq cn ?_ | refine tx_ne cn ?_)
    | (show TX _ _ _ (.Call _ _ _ _) _ _ _; refine tx_val ?_)
    | (show TX _ _ _ (.Name _ _) _ _ _; refine tx_val ?_)
    | (show TX _ _ _ (.UnaryOp _ _ _) _ _ _; refine tx_not ?_)
    | (show TX _ _ _ (.BoolOp _ _ _) _ _ _; refine tx_bool ?_)
    | (show TW _ _ _ (.BoolOp _ [_] _) _ _ _; first | refine tw_and1 ?_ | refine tw_or1 ?_)
    | (show TW _ _ _ (.BoolOp _ _ _) _ _ _; first | refine tw_and ?_ | refine tw_or ?_)
    | (show AX _ _ _ [] _ _ _; refine ax_nil ?_)
    | (show AX _ _ _ (_ :: _) _ _ _; refine ax_cons ?_)
    | (show EX _ _ _ (.Tuple _ _ _) _ _ _; refine ex_tup ?_)
    | (show EX _ _ _ (.List _ _) _ _ _; refine ex_lst ?_)
    | (show EX _ _ _ (.IfExp _ _ _ _) _ _ _; refine ex_if ?_)
    | (show EX _ _ _ (.UnaryOp _ _ _) _ _ _; first | refine ex_neg ?_ | refine ex_not ?_)
    | (show EX _ _ _ (.BoolOp _ [_] _) _ _ _; refine ex_one ?_)
    | (show EX _ _ _ (.BoolOp _ _ _) _ _ _; first | refine ex_and ?_ | refine ex_or ?_)
    | (show SX _ _ _ [] _ _ _; refine sx_nil ?_)
    | (show SX _ _ _ [_] _ _ _; refine sx_one ?_)
    | (show SX _ _ _ (_ :: _) _ _ _; refine sx_cons ?_)
    | (show S1 _ _ _ (.Return (some _) _) _ _ _; refine s_ret ?_)
    | (show S1 _ _ _ (.If _ _ _ _) _ _ _; refine s_if ?_)
    | (show S1 _ _ _ (.Assign [.Name _ _] _ _) _ _ _; walk_at "sset")
    | (show SX _ _ _ (defBody _) _ _ _; first | refine sx_cons ?_ | refine sx_one ?_))
local macro_rules
  | `(tactic| walk_at "sset") => `(tactic| first
    | refine s_set (i := 0) cn (by rfl) (locL_ok ls (by decide +kernel)) ?_ | refine s_set (i := 1) cn (by rfl) (locL_ok ls (by decide +kernel)) ?_ | refine s_set (i := 2) cn (by rfl) (locL_ok ls (by decide +kernel)) ?_ | refine s_set (i := 3) cn (by rfl) (locL_ok ls (by decide +kernel)) ?_ | refine s_set (i := 4) cn (by rfl) (locL_ok ls (by decide +kernel)) ?_ | refine s_set (i := 5) cn (by rfl) (locL_ok ls (by decide +kernel)) ?_ | refine s_set (i := 6) cn (by rfl) (locL_ok ls (by decide +kernel)) ?_ | refine s_set (i := 7) cn (by rfl) (locL_ok ls (by decide +kernel)) ?_ | refine s_set (i := 8) cn (by rfl) (locL_ok ls (by decide +kernel)) ?_ | refine s_set (i := 9) cn (by rfl) (locL_ok ls (by decide +kernel)) ?_)
local macro_rules
  | `(tactic| walk_at "l") => `(tactic| first
    | (show RO _ _ _ _ _ _; first | refine add_int ?_ | refine lt_int ?_ | refine le_int ?_ | refine gt_int ?_ | refine ge_int ?_ | refine eq_int ?_ | refine ne_int ?_ | refine eq_bl ?_ | refine ne_bl ?_ | refine eq_str ?_ | refine ne_str ?_)
    | refine ⟨_, _, isD_lst rfl, isD_tup rfl, ?_⟩
    | refine ⟨_, isD_lst rfl, ?_⟩ | refine ⟨_, isD_tup rfl, ?_⟩ | refine ⟨_, isD_dic rfl, ?_⟩ | refine ⟨_, isD_bl rfl, ?_⟩ | refine ⟨_, isD_int rfl, ?_⟩ | refine ⟨_, isD_str rfl, ?_⟩
    | refine ⟨fun _ => ?_, fun h => Bool.noConfusion (show true = false from h)⟩
    | refine ⟨fun h => Bool.noConfusion (show false = true from h), fun _ => ?_⟩
    | refine ⟨fun _ => ?_, fun h => Bool.noConfusion (show false = true from h)⟩
    | refine ⟨fun h => Bool.noConfusion (show true = false from h), fun _ => ?_⟩
    | (show ixD _ _ _; first | refine ix_lstA (by rfl) ?_ | refine ix_tupA (by rfl) ?_)
    | refine ⟨_, _, rfl, rfl, Or.inl (Or.inr (by decide)), ?_⟩
    | refine ⟨_, _, rfl, rfl, Or.inl (Or.inl ⟨by omega, by omega⟩), ?_⟩
    | refine ⟨_, _, rfl, rfl, Or.inl ⟨by decide, by decide⟩, ?_⟩
    | refine ⟨_, _, rfl, rfl, ⟨by decide, by decide, by first | omega | decide⟩, ?_⟩
    | refine ⟨_, _, rfl, rfl, (show _ ≠ _ by first | decide | omega), ?_⟩
    | refine ⟨_, _, rfl, rfl, ?_⟩
    | refine ⟨_, rfl, ?_⟩
    | refine Or.inl ⟨_, rfl, ?_⟩
    | refine ⟨(show _ ≤ 100000 from Nat.le_of_ble_eq_true (by rfl)), ?_⟩)
local macro_rules
  | `(tactic| walk_at "go") => `(tactic| repeat (first | walk_at "e" | walk_at "l"))
local macro_rules
  | `(tactic| walk_at "bset") => `(tactic| (refine bs_cons (E := E) ?_; first
    | refine b_set (E := E) (i := 1) cn (by rfl) (locL_ok ls (by decide +kernel)) ?_ | refine b_set (E := E) (i := 2) cn (by rfl) (locL_ok ls (by decide +kernel)) ?_ | refine b_set (E := E) (i := 3) cn (by rfl) (locL_ok ls (by decide +kernel)) ?_ | refine b_set (E := E) (i := 4) cn (by rfl) (locL_ok ls (by decide +kernel)) ?_))
local macro_rules
  | `(tactic| walk_at "bput") => `(tactic| (refine bs_cons (E := E) ?_; first
    | refine b_put (E := E) (k := 1) bg cn (by rfl) (visC_ok vs (by decide +kernel)) (by decide) (by decide) ?_ | refine b_put (E := E) (k := 2) bg cn (by rfl) (visC_ok vs (by decide +kernel)) (by decide) (by decide) ?_
    | refine b_put (E := E) (k := 3) bg cn (by rfl) (visC_ok vs (by decide +kernel)) (by decide) (by decide) ?_ | refine b_put (E := E) (k := 4) bg cn (by rfl) (visC_ok vs (by decide +kernel)) (by decide) (by decide) ?_))
local macro_rules
  | `(tactic| walk_at "gname") => `(tactic| first | refine gx_name (i := 0) cn (by rfl) (locL_ok ls (by decide +kernel)) ?_ | refine gx_name (i := 1) cn (by rfl) (locL_ok ls (by decide +kernel)) ?_ | refine gx_name (i := 2) cn (by rfl) (locL_ok ls (by decide +kernel)) ?_ | refine gx_name (i := 3) cn (by rfl) (locL_ok ls (by decide +kernel)) ?_ | refine gx_name (i := 4) cn (by rfl) (locL_ok ls (by decide +kernel)) ?_ | refine gx_name (i := 5) cn (by rfl) (locL_ok ls (by decide +kernel)) ?_ | refine gx_name (i := 6) cn (by rfl) (locL_ok ls (by decide +kernel)) ?_ | refine gx_name (i := 7) cn (by rfl) (locL_ok ls (by decide +kernel)) ?_ | refine gx_name (i := 8) cn (by rfl) (locL_ok ls (by decide +kernel)) ?_ | refine gx_name (i := 9) cn (by rfl) (locL_ok ls (by decide +kernel)) ?_)

def F_same (m : Nat) : FSpec := fun W ds K Z => ∃ x, ds = [x, x] ∧ Smp m x ∧ K (.bl true)
theorem zip_self {α : Type} : ∀ {xs : List α} {a b : α}, (a, b) ∈ xs.zip xs → a = b ∧ a ∈ xs
  | [], _, _, h => by cases h
  | x :: xs, a, b, h => by
    rw [List.zip_cons_cons] at h
    rcases List.mem_cons.mp h with h | h
    · cases h; exact ⟨rfl, List.mem_cons_self ..⟩
    · obtain ⟨h1, h2⟩ := zip_self h
      exact ⟨h1, List.mem_cons_of_mem _ h2⟩
theorem all_true {us ys : List D} (h : Paired (fun _ y => y = D.bl true) us ys) : D.lst ys = .lst ((ys.map fun _ => true).map .bl) := by
  congr 1
  induction h with
  | nil => rfl
  | cons a _ ih => rw [List.map_cons, List.map_cons, ← ih, a]
theorem all_t {ys : List D} : ((ys.map fun _ => true).all id) = true := List.all_eq_true.mpr fun x hx => by
  obtain ⟨_, _, rfl⟩ := List.mem_map.mp hx
  rfl
theorem same_step {G : Gb} (fx : Fx G) (pk : Pk G "_law_same" d_L_same) (m : Nat) (rec : ∀ j, m = j + 1 → Fn G "_law_same" P_L_same (j + 3) (F_same j)) : Fn G "_law_same" P_L_same (m + 3) (F_same m) := by
  obtain ⟨f, fd0, FD, hm⟩ := pk.ex
  refine fn_intro (N := N_L_same) FD sc_L_same hm (bd_L_same FD) (fun W ds Kc Z h => ?_) fun X E cn df po W ds Kc Z h => ?_
  · obtain ⟨_, rfl, _⟩ := h
    rfl
  · obtain ⟨x, rfl, hs, hK⟩ := h
    have gs := gs_L_same
    have vs := vs_L_same
    have ls := ls_L_same
    have hp := smp_plain hs
    cases x with
    | non =>
      walk_at "go"
      exact hK
    | bl b =>
      walk_at "go"
      show Kc (.bl (decide (b = b)))
      rw [decide_eq_true rfl]; exact hK
    | int i =>
      walk_at "go"
      show Kc (.bl (decide (i = i)))
      rw [decide_eq_true rfl]; exact hK
    | str z =>
      walk_at "go"
      show Kc (.bl (decide (z = z)))
      rw [decide_eq_true rfl]; exact hK
    | tup ds =>
      cases m with
      | zero => exact hs.elim
      | succ j =>
        obtain ⟨hl, hd⟩ : ds.length ≤ 100000 ∧ ∀ d ∈ ds, Smp j d := hs
        have frec := rec j rfl
        walk_at "go"
        refine ⟨by omega, ?_⟩
        walk_at "go"
        refine ⟨by omega, ?_⟩
        walk_at "go"
        refine ⟨fun _ => ?_, fun h => absurd rfl (of_decide_eq_false h)⟩
        refine ex_one ?_
        refine ex_allc (hn0 := by omega) cn (gloL_ok gs (by decide +kernel)) fx.all ?_
        refine ex_lct (i := 2) (j := 3) (hn0 := by omega) cn (by decide +kernel) (by decide +kernel) (by decide +kernel) (ix_zipT cn (gloL_ok gs (by decide +kernel)) fx.zip ?_)
        walk_at "name"
        walk_at "name"
        refine ⟨ds, ds, rfl, rfl, ?_, fun d y => y = .bl true, fun d hdm => ?_, fun ys pr => ?_⟩
        · simp only [zipD, List.length_map, List.length_zip]; omega
        · obtain ⟨⟨a, b⟩, hab, rfl⟩ := List.mem_map.mp hdm
          obtain ⟨e, hm⟩ := zip_self hab
          subst e
          refine ⟨a, a, rfl, fun X' W' cn' we => ?_⟩
          refine ex_call cn' (by decide +kernel) frec ⟨by omega, by omega⟩ (ax_cons (ex_name (i := 2) cn' (by rfl) (by decide +kernel) (by rfl) (ax_cons (ex_name (i := 3) cn' (by rfl) (by decide +kernel) (by rfl) (ax_nil ⟨a, rfl, hd a hm, rfl⟩)))))
        · refine ⟨ys.map fun _ => true, all_true pr, ?_⟩
          show Kc (.bl ((ys.map fun _ => true).all id))
          rw [all_t]
          exact hK
    | lst ds =>
      cases m with
      | zero => exact hs.elim
      | succ j =>
        obtain ⟨hl, hd⟩ : ds.length ≤ 100000 ∧ ∀ d ∈ ds, Smp j d := hs
        have frec := rec j rfl
        walk_at "go"
        refine ⟨by omega, ?_⟩
        walk_at "go"
        refine ⟨by omega, ?_⟩
        walk_at "go"
        refine ⟨fun _ => ?_, fun h => absurd rfl (of_decide_eq_false h)⟩
        refine ex_one ?_
        refine ex_allc (hn0 := by omega) cn (gloL_ok gs (by decide +kernel)) fx.all ?_
        refine ex_lct (i := 2) (j := 3) (hn0 := by omega) cn (by decide +kernel) (by decide +kernel) (by decide +kernel) (ix_zip cn (gloL_ok gs (by decide +kernel)) fx.zip ?_)
        walk_at "name"
        walk_at "name"
        refine ⟨ds, ds, rfl, rfl, ?_, fun d y => y = .bl true, fun d hdm => ?_, fun ys pr => ?_⟩
        · simp only [zipD, List.length_map, List.length_zip]; omega
        · obtain ⟨⟨a, b⟩, hab, rfl⟩ := List.mem_map.mp hdm
          obtain ⟨e, hm⟩ := zip_self hab
          subst e
          refine ⟨a, a, rfl, fun X' W' cn' we => ?_⟩
          refine ex_call cn' (by decide +kernel) frec ⟨by omega, by omega⟩ (ax_cons (ex_name (i := 2) cn' (by rfl) (by decide +kernel) (by rfl) (ax_cons (ex_name (i := 3) cn' (by rfl) (by decide +kernel) (by rfl) (ax_nil ⟨a, rfl, hd a hm, rfl⟩)))))
        · refine ⟨ys.map fun _ => true, all_true pr, ?_⟩
          show Kc (.bl ((ys.map fun _ => true).all id))
          rw [all_t]
          exact hK
    | ty _ => cases hp
    | adr _ => cases hp
    | bag => cases hp
    | dic _ _ => unfold Smp at hs; cases m <;> exact hs.elim
    | obj _ _ _ => cases hp
    | exc _ _ _ => cases hp
    | cau _ _ _ _ => cases hp
    | lam _ _ _ => cases hp
theorem fn_same {G : Gb} (fx : Fx G) (pk : Pk G "_law_same" d_L_same) : ∀ m, Fn G "_law_same" P_L_same (m + 3) (F_same m)
  | 0 => same_step fx pk 0 fun j e => by cases e
  | m + 1 => same_step fx pk (m + 1) fun j e => by
    cases e
    exact fn_same fx pk m
end K02

set_option Elab.async false
set_option linter.all false
set_option maxRecDepth 100000
set_option maxHeartbeats 4000000
namespace K02
open PySem PySem.Spec PyProof.Rows L2 DX
set_option hygiene false
local macro_rules
  | `(tactic| walk_at "name") => `(tactic| first | refine ex_name (i := 0) cn (by rfl) (visC_ok vs (by decide +kernel)) (by rfl) ?_ | refine ex_name (i := 1) cn (by rfl) (visC_ok vs (by decide +kernel)) (by rfl) ?_ | refine ex_name (i := 2) cn (by rfl) (visC_ok vs (by decide +kernel)) (by rfl) ?_ | refine ex_name (i := 3) cn (by rfl) (visC_ok vs (by decide +kernel)) (by rfl) ?_ | refine ex_name (i := 4) cn (by rfl) (visC_ok vs (by decide +kernel)) (by rfl) ?_ | refine ex_name (i := 5) cn (by rfl) (visC_ok vs (by decide +kernel)) (by rfl) ?_ | refine ex_name (i := 6) cn (by rfl) (visC_ok vs (by decide +kernel)) (by rfl) ?_ | refine ex_name (i := 7) cn (by rfl) (visC_ok vs (by decide +kernel)) (by rfl) ?_)
local macro_rules
  | `(tactic| walk_at "call") => `(tactic| first
    | (show EX _ _ _ (.Call (.Name "_law_draw" _) _ _ _) _ _ _; refine ex_call cn (gloL_ok gs (by decide +kernel)) fdraw (by decide) ?_)
    | (show EX _ _ _ (.Call (.Name "_law_gcd" _) _ _ _) _ _ _; refine ex_call cn (gloL_ok gs (by decide +kernel)) flgcd (by decide) ?_)
    | (show EX _ _ _ (.Call (.Name "_law_low" _) _ _ _) _ _ _; refine ex_call cn (gloL_ok gs (by decide +kernel)) flow (by decide) ?_)
    | (show EX _ _ _ (.Call (.Name "is_integer_value" _) _ _ _) _ _ _; refine ex_call cn (gloL_ok gs (by decide +kernel)) fiiv (by decide) ?_)
    | (show EX _ _ _ (.Call (.Name "_law_int" _) _ _ _) _ _ _; refine ex_call cn (gloL_ok gs (by decide +kernel)) fint (by decide) ?_)
    | (show EX _ _ _ (.Call (.Name "all" _) _ _ _) _ _ _; refine ex_allc cn (gloL_ok gs (by decide +kernel)) fx.all ?_)
    | (show EX _ _ _ (.Call (.Name "_law_is_fraction" _) _ _ _) _ _ _; refine ex_call cn (gloL_ok gs (by decide +kernel)) flisf (by decide) ?_)
    | (show EX _ _ _ (.Call (.Name "_law_worth" _) _ _ _) _ _ _; refine ex_call cn (gloL_ok gs (by decide +kernel)) fworth (by decide) ?_)
    | (show EX _ _ _ (.Call (.Name "ratio" _) _ _ _) _ _ _; refine ex_call cn (gloL_ok gs (by decide +kernel)) fratio (by decide) ?_)
    | (show EX _ _ _ (.Call (.Name "gcd" _) _ _ _) _ _ _; refine ex_gcd cn (gloL_ok gs (by decide +kernel)) fx.gcd ?_)
    | (show EX _ _ _ (.Call (.Name "min" _) _ _ _) _ _ _; refine ex_min2 cn (gloL_ok gs (by decide +kernel)) fx.min ?_)
    | (show EX _ _ _ (.Call (.Name "_law_pick" _) _ _ _) _ _ _; refine ex_call cn (gloL_ok gs (by decide +kernel)) fpick (by decide) ?_)
    | (show EX _ _ _ (.Call (.Name "_law_huge" _) _ _ _) _ _ _; refine ex_call cn (gloL_ok gs (by decide +kernel)) fhuge (by decide) ?_)
    | (show EX _ _ _ (.Call (.Name "_law_number" _) _ _ _) _ _ _; refine ex_call cn (gloL_ok gs (by decide +kernel)) fnumber (by decide) ?_)
    | (show EX _ _ _ (.Call (.Name "isinstance" _) [_, .Tuple [.Name "list" _, .Name "tuple" _] _ _] _ _) _ _ _; refine ex_isi2 (T := "list") (U := "tuple") cn (gloL_ok gs (by decide +kernel)) fx.isi (gloL_ok gs (by decide +kernel)) fx.list (by decide +kernel) (gloL_ok gs (by decide +kernel)) fx.tuple (by decide +kernel) ?_)
    | (show EX _ _ _ (.Call (.Name "isinstance" _) [_, .Name "int" _] _ _) _ _ _; refine ex_isi (T := "int") cn (gloL_ok gs (by decide +kernel)) fx.isi (gloL_ok gs (by decide +kernel)) fx.int (by decide +kernel) ?_)
    | (show EX _ _ _ (.Call (.Name "isinstance" _) [_, .Name "bool" _] _ _) _ _ _; refine ex_isi (T := "bool") cn (gloL_ok gs (by decide +kernel)) fx.isi (gloL_ok gs (by decide +kernel)) fx.bool (by decide +kernel) ?_)
    | (show EX _ _ _ (.Call (.Name "isinstance" _) [_, .Name "str" _] _ _) _ _ _; refine ex_isi (T := "str") cn (gloL_ok gs (by decide +kernel)) fx.isi (gloL_ok gs (by decide +kernel)) fx.str (by decide +kernel) ?_)
    | (show EX _ _ _ (.Call (.Name "isinstance" _) [_, .Name "tuple" _] _ _) _ _ _; refine ex_isi (T := "tuple") cn (gloL_ok gs (by decide +kernel)) fx.isi (gloL_ok gs (by decide +kernel)) fx.tuple (by decide +kernel) ?_)
    | (show EX _ _ _ (.Call (.Name "isinstance" _) [_, .Name "list" _] _ _) _ _ _; refine ex_isi (T := "list") cn (gloL_ok gs (by decide +kernel)) fx.isi (gloL_ok gs (by decide +kernel)) fx.list (by decide +kernel) ?_)
    | (show EX _ _ _ (.Call (.Name "isinstance" _) [_, .Name "dict" _] _ _) _ _ _; refine ex_isi (T := "dict") cn (gloL_ok gs (by decide +kernel)) fx.isi (gloL_ok gs (by decide +kernel)) fx.dict (by decide +kernel) ?_)
    | refine ex_len cn (gloL_ok gs (by decide +kernel)) fx.len ?_ | refine ex_abs cn (gloL_ok gs (by decide +kernel)) fx.abs ?_ | refine ex_intc cn (gloL_ok gs (by decide +kernel)) fx.int ?_)
local macro_rules
  | `(tactic| walk_at "e") => `(tactic| first
    | (show EX _ _ _ (.Name _ _) _ _ _; walk_at "name")
    | (show EX _ _ _ (.Constant _ _ _) _ _ _; first | refine ex_int ?_ | refine ex_str ?_ | refine ex_bl ?_ | refine ex_non ?_)
    | (show EX _ _ _ (.BinOp _ _ _ _) _ _ _; first | refine ex_add ?_ | refine ex_sub ?_ | refine ex_mul ?_ | refine ex_mod ?_ | refine ex_div ?_ | refine ex_pow ?_)
    | (show EX _ _ _ (.Subscript _ _ _) _ _ _; refine ex_ix (fun _ _ => rfl) ?_)
    | (show EX _ _ _ (.Call _ _ _ _) _ _ _; walk_at "call")
    | (show EX _ _ _ (.Compare _ [.Is] _ _) _ _ _; refine ex_isN ?_)
    | (show EX _ _ _ (.Compare _ [_] _ _) _ _ _; first | refine ex_lt ?_ | refine ex_le ?_ | refine ex_gt ?_ | refine ex_ge ?_ | refine ex_eq cn ?_ | refine ex_ne cn ?_)
    | (show EX _ _ _ (.Compare _ [.Is] _ _) _ _ _; refine ex_isN ?_)
    | (show TX _ _ _ (.Compare _ [.In] _ _) _ _ _; refine tx_in (by rfl) ?_)
    | (show TX _ _ _ (.Compare _ [.Is] _ _) _ _ _; refine tx_isN ?_)
    | (show TX _ _ _ (.Compare _ [_] _ _) _ _ _; first | refine tx_lt ?_ | refine tx_le ?_ | refine tx_gt ?_ | refine tx_ge ?_ | refine tx_eq cn ?_ | refine tx_ne cn ?_)
    | (show TX _ _ _ (.Call _ _ _ _) _ _ _; refine tx_val ?_)
    | (show TX _ _ _ (.Name _ _) _ _ _; refine tx_val ?_)
    | (show TX _ _ _ (.UnaryOp _ _ _) _ _ _; refine tx_not ?_)
    | (show TX _ _ _ (.BoolOp _ _ _) _ _ _; refine tx_bool ?_)
    | (show TW _ _ _ (.BoolOp _ [_] _) _ _ _; first | refine tw_and1 ?_ | refine tw_or1 ?_)
    | (show TW _ _ _ (.BoolOp _ _ _) _ _ _; first | refine tw_and ?_ | refine tw_or ?_)
    | (show AX _ _ _ [] _ _ _; refine ax_nil ?_)
    | (show AX _ _ _ (_ :: _) _ _ _; refine ax_cons ?_)
    | (show EX _ _ _ (.Tuple _ _ _) _ _ _; refine ex_tup ?_)
    | (show EX _ _ _ (.List _ _) _ _ _; refine ex_lst ?_)
    | (show EX _ _ _ (.IfExp _ _ _ _) _ _ _; refine ex_if ?_)
    | (show EX _ _ _ (.UnaryOp _ _ _) _ _ _; first | refine ex_neg ?_ | refine ex_not ?_)
    | (show EX _ _ _ (.BoolOp _ [_] _) _ _ _; refine ex_one ?_)
    | (show EX _ _ _ (.BoolOp _ _ _) _ _ _; first | refine ex_and ?_ | refine ex_or ?_)
    | (show SX _ _ _ [] _ _ _; refine sx_nil ?_)
    | (show SX _ _ _ [_] _ _ _; refine sx_one ?_)
    | (show SX _ _ _ (_ :: _) _ _ _; refine sx_cons ?_)
    | (show S1 _ _ _ (.Return (some _) _) _ _ _; refine s_ret ?_)
    | (show S1 _ _ _ (.If _ _ _ _) _ _ _; refine s_if ?_)
    | (show S1 _ _ _ (.Assign [.Name _ _] _ _) _ _ _; walk_at "sset")
    | (show SX _ _ _ (defBody _) _ _ _; first | refine sx_cons ?_ | refine sx_one ?_))
local macro_rules
  | `(tactic| walk_at "sset") => `(tactic| first
    | refine s_set (i := 0) cn (by rfl) (locL_ok ls (by decide +kernel)) ?_ | refine s_set (i := 1) cn (by rfl) (locL_ok ls (by decide +kernel)) ?_ | refine s_set (i := 2) cn (by rfl) (locL_ok ls (by decide +kernel)) ?_ | refine s_set (i := 3) cn (by rfl) (locL_ok ls (by decide +kernel)) ?_ | refine s_set (i := 4) cn (by rfl) (locL_ok ls (by decide +kernel)) ?_ | refine s_set (i := 5) cn (by rfl) (locL_ok ls (by decide +kernel)) ?_ | refine s_set (i := 6) cn (by rfl) (locL_ok ls (by decide +kernel)) ?_ | refine s_set (i := 7) cn (by rfl) (locL_ok ls (by decide +kernel)) ?_ | refine s_set (i := 8) cn (by rfl) (locL_ok ls (by decide +kernel)) ?_ | refine s_set (i := 9) cn (by rfl) (locL_ok ls (by decide +kernel)) ?_)
local macro_rules
  | `(tactic| walk_at "l") => `(tactic| first
    | (show RO _ _ _ _ _ _; first | refine add_int ?_ | refine lt_int ?_ | refine le_int ?_ | refine gt_int ?_ | refine ge_int ?_ | refine eq_int ?_ | refine ne_int ?_ | refine eq_bl ?_ | refine ne_bl ?_ | refine eq_str ?_ | refine ne_str ?_)
    | refine ⟨_, _, isD_lst rfl, isD_tup rfl, ?_⟩
    | refine ⟨_, isD_lst rfl, ?_⟩ | refine ⟨_, isD_tup rfl, ?_⟩ | refine ⟨_, isD_dic rfl, ?_⟩ | refine ⟨_, isD_bl rfl, ?_⟩ | refine ⟨_, isD_int rfl, ?_⟩ | refine ⟨_, isD_str rfl, ?_⟩
    | refine ⟨fun _ => ?_, fun h => Bool.noConfusion (show true = false from h)⟩
    | refine ⟨fun h => Bool.noConfusion (show false = true from h), fun _ => ?_⟩
    | refine ⟨fun _ => ?_, fun h => Bool.noConfusion (show false = true from h)⟩
    | refine ⟨fun h => Bool.noConfusion (show true = false from h), fun _ => ?_⟩
    | (show ixD _ _ _; first | refine ix_lstA (by rfl) ?_ | refine ix_tupA (by rfl) ?_)
    | refine ⟨_, _, rfl, rfl, Or.inl (Or.inr (by decide)), ?_⟩
    | refine ⟨_, _, rfl, rfl, Or.inl (Or.inl ⟨by omega, by omega⟩), ?_⟩
    | refine ⟨_, _, rfl, rfl, Or.inl ⟨by decide, by decide⟩, ?_⟩
    | refine ⟨_, _, rfl, rfl, ⟨by decide, by decide, by first | omega | decide⟩, ?_⟩
    | refine ⟨_, _, rfl, rfl, (show _ ≠ _ by first | decide | omega), ?_⟩
    | refine ⟨_, _, rfl, rfl, ?_⟩
    | refine ⟨_, rfl, ?_⟩
    | refine Or.inl ⟨_, rfl, ?_⟩
    | refine ⟨(show _ ≤ 100000 from Nat.le_of_ble_eq_true (by rfl)), ?_⟩)
local macro_rules
  | `(tactic| walk_at "go") => `(tactic| repeat (first | walk_at "e" | walk_at "l"))
local macro_rules
  | `(tactic| walk_at "bset") => `(tactic| (refine bs_cons (E := E) ?_; first
    | refine b_set (E := E) (i := 1) cn (by rfl) (locL_ok ls (by decide +kernel)) ?_ | refine b_set (E := E) (i := 2) cn (by rfl) (locL_ok ls (by decide +kernel)) ?_ | refine b_set (E := E) (i := 3) cn (by rfl) (locL_ok ls (by decide +kernel)) ?_ | refine b_set (E := E) (i := 4) cn (by rfl) (locL_ok ls (by decide +kernel)) ?_))
local macro_rules
  | `(tactic| walk_at "bput") => `(tactic| (refine bs_cons (E := E) ?_; first
    | refine b_put (E := E) (k := 1) bg cn (by rfl) (visC_ok vs (by decide +kernel)) (by decide) (by decide) ?_ | refine b_put (E := E) (k := 2) bg cn (by rfl) (visC_ok vs (by decide +kernel)) (by decide) (by decide) ?_
    | refine b_put (E := E) (k := 3) bg cn (by rfl) (visC_ok vs (by decide +kernel)) (by decide) (by decide) ?_ | refine b_put (E := E) (k := 4) bg cn (by rfl) (visC_ok vs (by decide +kernel)) (by decide) (by decide) ?_))
local macro_rules
  | `(tactic| walk_at "gname") => `(tactic| first | refine gx_name (i := 0) cn (by rfl) (locL_ok ls (by decide +kernel)) ?_ | refine gx_name (i := 1) cn (by rfl) (locL_ok ls (by decide +kernel)) ?_ | refine gx_name (i := 2) cn (by rfl) (locL_ok ls (by decide +kernel)) ?_ | refine gx_name (i := 3) cn (by rfl) (locL_ok ls (by decide +kernel)) ?_ | refine gx_name (i := 4) cn (by rfl) (locL_ok ls (by decide +kernel)) ?_ | refine gx_name (i := 5) cn (by rfl) (locL_ok ls (by decide +kernel)) ?_ | refine gx_name (i := 6) cn (by rfl) (locL_ok ls (by decide +kernel)) ?_ | refine gx_name (i := 7) cn (by rfl) (locL_ok ls (by decide +kernel)) ?_ | refine gx_name (i := 8) cn (by rfl) (locL_ok ls (by decide +kernel)) ?_ | refine gx_name (i := 9) cn (by rfl) (locL_ok ls (by decide +kernel)) ?_)

def F_fields (G : Gb) : XSpec := fun C ns ds K => ∃ v c, look "code" ns ds = some (.str c) ∧ look "value" ns ds = some v ∧ (c = "InvalidNumber" ∨ c = "InvalidFraction") ∧ FldC G C "code" ∧ FldC G C "value" ∧ K (.tup [v])
theorem fn_fields {G : Gb} (fx : Fx G) (pk : Pk G "_law_fields" d_L_fields) : FnX G "_law_fields" "_law_e" (F_fields G) := by
  obtain ⟨f, fd0, FD, hm⟩ := pk.ex
  refine fnx_intro (N := N_L_fields) FD sc_L_fields hm (bd_L_fields FD) fun X a C dx oe cn hx W ns ds Kc h => ?_
  obtain ⟨v, c, l1, l2, hc, fc, fv, hK⟩ := h
  have gs := gs_L_fields
  have vs := vs_L_fields
  have ls := ls_L_fields
  walk_at "go"
  refine ex_cau cn hx fc ?_
  walk_at "name"
  refine ⟨_, _, _, rfl, l1, ?_⟩
  walk_at "go"
  have hin : inD (.str c) [.str "InvalidNumber", .str "InvalidFraction", .str "InvalidDirections", .str "InvalidName", .str "InvalidKind"] = true := by
    rcases hc with rfl | rfl <;> decide +kernel
  refine ⟨rfl, by decide +kernel, fun _ => ?_, fun h => ?_⟩
  · walk_at "go"
    refine ex_cau cn hx fv ?_
    walk_at "name"
    refine ⟨_, _, _, rfl, l2, ?_⟩
    walk_at "go"
    exact hK
  · rw [hin] at h
    cases h
theorem EX.impZ {X : Cx} {E : XK} {W : Wd} {e : Expr} {Γ : List (Option D)} {K : D → Prop} {Z Z' : ZK} (h : EX X E W e Γ K Z) (k : ∀ C ns ds, Z C ns ds → Z' C ns ds) : EX X E W e Γ K Z' := by
  unfold EX at h ⊢
  exact fun σ H Q en hi q z => h σ H Q en hi q fun C ns ds dx H' xs zt => z C ns ds dx H' xs (k C ns ds zt)
/-- what a lambda's reading must come to, so that it is the due -/
def LB (G : Gb) (m : Nat) (d : D) (cN cM : Value) : ZK := fun C ns ds => PySem.W.exmAny G.K (.ref C) [cN, cM] = some true ∧ ∃ v c, look "code" ns ds = some (.str c) ∧ look "value" ns ds = some v ∧ (c = "InvalidNumber" ∨ c = "InvalidFraction") ∧ FldC G C "code" ∧ FldC G C "value" ∧ d = .tup [.str c, v] ∧ Smp m d
theorem ex_is {G : Gb} {X : Cx} {E : XK} {j m : Nat} {N : List Str} {sc : Scope} {W : Wd} {Γ : List (Option D)} {Z : ZK} {K : D → Prop} {pos p lpos : Pos} {params : Arguments} {body due : Expr} {scope : Scope} {T : List (Addr × Str)} {c P : Addr} {q : Str} {cN cM : Value}
    (fx : Fx G) (pkis : Pk G "_law_is" d_L_is) (pkgot : Pk G "_law_got" d_L_got) (fsame : Fn G "_law_same" P_L_same (m + 3) (F_same m)) (ffields : FnX G "_law_fields" "_law_e" (F_fields G)) (hN : G.mg "NetError" = some cN) (hM : G.mg "Missing" = some cM) (hmj : m + 1 ≤ j)
    (cx : Cn G X E (j + 3) N sc) (df : Df X E) (hg : gloB sc "_law_is" = true) (tw : TabW W T) (mk : Mk G T c P (q ++ "<lambda>")) (hcode : X.env.code = .ref c) (hq : X.env.qual = q) (L : LamX.lamSB sc scope = true)
    (h : EX X E W due Γ (fun d => (∀ X' E', Cn G X' E' j N scope → EX X' E' W body Γ (fun r => d = .tup [.str "", r] ∧ Smp m d) (LB G m d cN cM)) ∧ K (.bl true)) Z)
    (hbind : ∀ (cl : List (Str × Addr)) (pm cv ctv : Value), bindArgs (PySem.W.kla_fn "<lambda>" (q ++ "<lambda>") params body scope cl pm cv ctv) ⟨[], []⟩ = pure [])
    (hdef : defaultsOf params X.env = ([], [])) (h1 : starEach [.Lambda params body scope lpos, due] X.env = (false, eval (.Lambda params body scope lpos) X.env) :: starEach [due] X.env) (h2 : starEach [due] X.env = (false, eval due X.env) :: starEach [] X.env) (h3 : (backTo pos (starEach [due] X.env)).any (·.1) = false) :
    EX X E W (.Call (.Name "_law_is" p) [.Lambda params body scope lpos, due] [] pos) Γ K Z := by
  obtain ⟨fI, fdI, FDi, hmi⟩ := pkis.ex
  obtain ⟨fG, fdG, FDg, hmg⟩ := pkgot.ex
  refine ex_lamcall (k := j + 2) cx df hg FDi sc_L_is rfl hmi (bd_L_is FDi) tw mk hcode hq L (h.imp fun d hd f c' σ Z1 cz dz la => ?_) hdef h1 h2 h3
  obtain ⟨hb, hK⟩ := hd
  have gs := gs_L_is
  have vs := vs_L_is
  have cn := cz
  refine sx_one (s_ret ?_)
  refine ex_call cz (gloL_ok gs (by decide +kernel)) fsame ⟨by omega, by omega⟩ (ax_cons ?_)
  refine ex_pass (k := j + 1) cz (gloL_ok gs (by decide +kernel)) FDg sc_L_got hmg (bd_L_got FDg) la (ax_cons ?_)
  walk_at "name"
  refine ax_nil ⟨rfl, fun Z2 cz2 dz2 la2 => ?_⟩
  have fin : ∀ pp : Pos, Smp m d → AX Z1 XE0 (W.mem X.K Γ σ) [.Name "_law_due" pp] (startG N_L_is [.lam f c' (X.env.qual ++ "<lambda>"), d]) (fun xs => F_same m (W.mem X.K Γ σ) (d :: xs) K Z0) Z0 := fun pp hs => by
    refine ax_cons ?_
    walk_at "name"
    exact ax_nil ⟨d, rfl, hs, hK⟩
  have gs := gs_L_got
  have vs := vs_L_got
  have ls := ls_L_got
  have cn := cz2
  refine sx_one (s_try2 (m := j) cz2 rfl dz2 (i := 1) (by rfl) (locL_ok ls (by decide +kernel)) (by decide +kernel) hN (by decide +kernel) hM fun X' E' cn' df' eqs => ?_)
  have la' : LamA X σ f c' params body scope X' := by
    obtain ⟨H0, s0, lk, un, new⟩ := la2.ex
    obtain ⟨e1, e2, e3, e4, e5, e6⟩ := eqs
    refine ⟨⟨H0, s0, lk, by rw [e1, e2]; exact un, fun b hb => new b ?_⟩, by rw [e6]; exact la2.hex⟩
    have hb : b ∈ frs X'.outer := hb
    rw [e3] at hb
    exact hb
  have cn := cn'
  refine sx_one (s_ret (ex_tup (ax_cons (ex_str (ax_cons ?_)))))
  refine ex_ask (k := j) cx (by omega) cn' la' (fun pm ctv => by rw [hq]; exact hbind _ _ _ _) (i := 0) (by rfl) (visC_ok vs (by decide +kernel)) (by rfl) fun X2 cn2 => ?_
  refine EX.impZ (EX.imp (hb X2 E' cn2) fun r ⟨e, hs⟩ => ?_) fun C ns ds ⟨hm, v, c, l1, l2, hc, fc, fv, e, hs⟩ => ⟨hm, fun Xs a dx oe cnx hx hr => ?_⟩
  · refine ax_nil ⟨by show 2 ≤ 100000; decide, ?_⟩
    rw [← e]
    exact fin _ hs
  · have cn := cnx
    refine sx_one (s_ret (ex_add (ex_tup (ax_cons (ex_cau cnx hx fc ?_)))))
    walk_at "name"
    refine ⟨_, _, _, rfl, l1, ax_nil ⟨by show 1 ≤ 100000; decide, ?_⟩⟩
    refine ex_callX cnx hx hr (gloL_ok gs (by decide +kernel)) ffields ?_
    walk_at "name"
    refine ⟨_, _, rfl, v, c, l1, l2, hc, fc, fv, ?_⟩
    refine add_tup (by simp) (by show 2 ≤ 100000; decide) ?_
    show AX Z1 XE0 _ _ _ (fun xs => F_same m (W.mem X.K Γ σ) ((.tup [.str c, v]) :: xs) K Z0) Z0
    rw [← e]
    exact fin _ hs
end K02

set_option Elab.async false
set_option linter.all false
set_option maxRecDepth 100000
set_option maxHeartbeats 4000000
namespace K02
open PySem PySem.Spec PyProof.Rows L2 DX
set_option hygiene false
local macro_rules
  | `(tactic| walk_at "name") => `(tactic| first | refine ex_name (i := 0) cn (by rfl) (visC_ok vs (by decide +kernel)) (by rfl) ?_ | refine ex_name (i := 1) cn (by rfl) (visC_ok vs (by decide +kernel)) (by rfl) ?_ | refine ex_name (i := 2) cn (by rfl) (visC_ok vs (by decide +kernel)) (by rfl) ?_ | refine ex_name (i := 3) cn (by rfl) (visC_ok vs (by decide +kernel)) (by rfl) ?_ | refine ex_name (i := 4) cn (by rfl) (visC_ok vs (by decide +kernel)) (by rfl) ?_ | refine ex_name (i := 5) cn (by rfl) (visC_ok vs (by decide +kernel)) (by rfl) ?_ | refine ex_name (i := 6) cn (by rfl) (visC_ok vs (by decide +kernel)) (by rfl) ?_ | refine ex_name (i := 7) cn (by rfl) (visC_ok vs (by decide +kernel)) (by rfl) ?_)
local macro_rules
  | `(tactic| walk_at "call") => `(tactic| first
    | (show EX _ _ _ (.Call (.Name "_law_draw" _) _ _ _) _ _ _; refine ex_call cn (gloL_ok gs (by decide +kernel)) fdraw (by decide) ?_)
    | (show EX _ _ _ (.Call (.Name "_law_gcd" _) _ _ _) _ _ _; refine ex_call cn (gloL_ok gs (by decide +kernel)) flgcd (by decide) ?_)
    | (show EX _ _ _ (.Call (.Name "_law_low" _) _ _ _) _ _ _; refine ex_call cn (gloL_ok gs (by decide +kernel)) flow (by decide) ?_)
    | (show EX _ _ _ (.Call (.Name "is_integer_value" _) _ _ _) _ _ _; refine ex_call cn (gloL_ok gs (by decide +kernel)) fiiv (by decide) ?_)
    | (show EX _ _ _ (.Call (.Name "_law_int" _) _ _ _) _ _ _; refine ex_call cn (gloL_ok gs (by decide +kernel)) fint (by decide) ?_)
    | (show EX _ _ _ (.Call (.Name "all" _) _ _ _) _ _ _; refine ex_allc cn (gloL_ok gs (by decide +kernel)) fx.all ?_)
    | (show EX _ _ _ (.Call (.Name "_law_is_fraction" _) _ _ _) _ _ _; refine ex_call cn (gloL_ok gs (by decide +kernel)) flisf (by decide) ?_)
    | (show EX _ _ _ (.Call (.Name "_law_worth" _) _ _ _) _ _ _; refine ex_call cn (gloL_ok gs (by decide +kernel)) fworth (by decide) ?_)
    | (show EX _ _ _ (.Call (.Name "ratio" _) _ _ _) _ _ _; refine ex_call cn (gloL_ok gs (by decide +kernel)) fratio (by decide) ?_)
    | (show EX _ _ _ (.Call (.Name "gcd" _) _ _ _) _ _ _; refine ex_gcd cn (gloL_ok gs (by decide +kernel)) fx.gcd ?_)
    | (show EX _ _ _ (.Call (.Name "min" _) _ _ _) _ _ _; refine ex_min2 cn (gloL_ok gs (by decide +kernel)) fx.min ?_)
    | (show EX _ _ _ (.Call (.Name "_law_pick" _) _ _ _) _ _ _; refine ex_call cn (gloL_ok gs (by decide +kernel)) fpick (by decide) ?_)
    | (show EX _ _ _ (.Call (.Name "_law_huge" _) _ _ _) _ _ _; refine ex_call cn (gloL_ok gs (by decide +kernel)) fhuge (by decide) ?_)
    | (show EX _ _ _ (.Call (.Name "_law_number" _) _ _ _) _ _ _; refine ex_call cn (gloL_ok gs (by decide +kernel)) fnumber (by decide) ?_)
    | (show EX _ _ _ (.Call (.Name "isinstance" _) [_, .Tuple [.Name "list" _, .Name "tuple" _] _ _] _ _) _ _ _; refine ex_isi2 (T := "list") (U := "tuple") cn (gloL_ok gs (by decide +kernel)) fx.isi (gloL_ok gs (by decide +kernel)) fx.list (by decide +kernel) (gloL_ok gs (by decide +kernel)) fx.tuple (by decide +kernel) ?_)
    | (show EX _ _ _ (.Call (.Name "isinstance" _) [_, .Name "int" _] _ _) _ _ _; refine ex_isi (T := "int") cn (gloL_ok gs (by decide +kernel)) fx.isi (gloL_ok gs (by decide +kernel)) fx.int (by decide +kernel) ?_)
    | (show EX _ _ _ (.Call (.Name "isinstance" _) [_, .Name "bool" _] _ _) _ _ _; refine ex_isi (T := "bool") cn (gloL_ok gs (by decide +kernel)) fx.isi (gloL_ok gs (by decide +kernel)) fx.bool (by decide +kernel) ?_)
    | (show EX _ _ _ (.Call (.Name "isinstance" _) [_, .Name "str" _] _ _) _ _ _; refine ex_isi (T := "str") cn (gloL_ok gs (by decide +kernel)) fx.isi (gloL_ok gs (by decide +kernel)) fx.str (by decide +kernel) ?_)
    | (show EX _ _ _ (.Call (.Name "isinstance" _) [_, .Name "tuple" _] _ _) _ _ _; refine ex_isi (T := "tuple") cn (gloL_ok gs (by decide +kernel)) fx.isi (gloL_ok gs (by decide +kernel)) fx.tuple (by decide +kernel) ?_)
    | (show EX _ _ _ (.Call (.Name "isinstance" _) [_, .Name "list" _] _ _) _ _ _; refine ex_isi (T := "list") cn (gloL_ok gs (by decide +kernel)) fx.isi (gloL_ok gs (by decide +kernel)) fx.list (by decide +kernel) ?_)
    | (show EX _ _ _ (.Call (.Name "isinstance" _) [_, .Name "dict" _] _ _) _ _ _; refine ex_isi (T := "dict") cn (gloL_ok gs (by decide +kernel)) fx.isi (gloL_ok gs (by decide +kernel)) fx.dict (by decide +kernel) ?_)
    | refine ex_len cn (gloL_ok gs (by decide +kernel)) fx.len ?_ | refine ex_abs cn (gloL_ok gs (by decide +kernel)) fx.abs ?_ | refine ex_intc cn (gloL_ok gs (by decide +kernel)) fx.int ?_)
local macro_rules
  | `(tactic| walk_at "e") => `(tactic| first
    | (show EX _ _ _ (.Name _ _) _ _ _; walk_at "name")
    | (show EX _ _ _ (.Constant _ _ _) _ _ _; first | refine ex_int ?_ | refine ex_str ?_ | refine ex_bl ?_ | refine ex_non ?_)
    | (show EX _ _ _ (.BinOp _ _ _ _) _ _ _; first | refine ex_add ?_ | refine ex_sub ?_ | refine ex_mul ?_ | refine ex_mod ?_ | refine ex_div ?_ | refine ex_pow ?_)
    | (show EX _ _ _ (.Subscript _ _ _) _ _ _; refine ex_ix (fun _ _ => rfl) ?_)
    | (show EX _ _ _ (.Call _ _ _ _) _ _ _; walk_at "call")
    | (show EX _ _ _ (.Compare _ [.Is] _ _) _ _ _; refine ex_isN ?_)
    | (show EX _ _ _ (.Compare _ [_] _ _) _ _ _; first | refine ex_lt ?_ | refine ex_le ?_ | refine ex_gt ?_ | refine ex_ge ?_ | refine ex_eq cn ?_ | refine ex_ne cn ?_)
    | (show EX _ _ _ (.Compare _ [.Is] _ _) _ _ _; refine ex_isN ?_)
    | (show TX _ _ _ (.Compare _ [.In] _ _) _ _ _; refine tx_in (by rfl) ?_)
    | (show TX _ _ _ (.Compare _ [.Is] _ _) _ _ _; refine tx_isN ?_)
    | (show TX _ _ _ (.Compare _ [_] _ _) _ _ _; first | refine tx_lt ?_ | refine tx_le ?_ | refine tx_gt ?_ | refine tx_ge ?_ | refine tx_eq cn ?_ | refine tx_ne cn ?_)
    | (show TX _ _ _ (.Call _ _ _ _) _ _ _; refine tx_val ?_)
    | (show TX _ _ _ (.Name _ _) _ _ _; refine tx_val ?_)
    | (show TX _ _ _ (.UnaryOp _ _ _) _ _ _; refine tx_not ?_)
    | (show TX _ _ _ (.BoolOp _ _ _) _ _ _; refine tx_bool ?_)
    | (show TW _ _ _ (.BoolOp _ [_] _) _ _ _; first | refine tw_and1 ?_ | refine tw_or1 ?_)
    | (show TW _ _ _ (.BoolOp _ _ _) _ _ _; first | refine tw_and ?_ | refine tw_or ?_)
    | (show AX _ _ _ [] _ _ _; refine ax_nil ?_)
    | (show AX _ _ _ (_ :: _) _ _ _; refine ax_cons ?_)
    | (show EX _ _ _ (.Tuple _ _ _) _ _ _; refine ex_tup ?_)
    | (show EX _ _ _ (.List _ _) _ _ _; refine ex_lst ?_)
    | (show EX _ _ _ (.IfExp _ _ _ _) _ _ _; refine ex_if ?_)
    | (show EX _ _ _ (.UnaryOp _ _ _) _ _ _; first | refine ex_neg ?_ | refine ex_not ?_)
    | (show EX _ _ _ (.BoolOp _ [_] _) _ _ _; refine ex_one ?_)
    | (show EX _ _ _ (.BoolOp _ _ _) _ _ _; first | refine ex_and ?_ | refine ex_or ?_)
    | (show SX _ _ _ [] _ _ _; refine sx_nil ?_)
    | (show SX _ _ _ [_] _ _ _; refine sx_one ?_)
    | (show SX _ _ _ (_ :: _) _ _ _; refine sx_cons ?_)
    | (show S1 _ _ _ (.Return (some _) _) _ _ _; refine s_ret ?_)
    | (show S1 _ _ _ (.If _ _ _ _) _ _ _; refine s_if ?_)
    | (show S1 _ _ _ (.Assign [.Name _ _] _ _) _ _ _; walk_at "sset")
    | (show SX _ _ _ (defBody _) _ _ _; first | refine sx_cons ?_ | refine sx_one ?_))
local macro_rules
  | `(tactic| walk_at "sset") => `(tactic| first
    | refine s_set (i := 0) cn (by rfl) (locL_ok ls (by decide +kernel)) ?_ | refine s_set (i := 1) cn (by rfl) (locL_ok ls (by decide +kernel)) ?_ | refine s_set (i := 2) cn (by rfl) (locL_ok ls (by decide +kernel)) ?_ | refine s_set (i := 3) cn (by rfl) (locL_ok ls (by decide +kernel)) ?_ | refine s_set (i := 4) cn (by rfl) (locL_ok ls (by decide +kernel)) ?_ | refine s_set (i := 5) cn (by rfl) (locL_ok ls (by decide +kernel)) ?_ | refine s_set (i := 6) cn (by rfl) (locL_ok ls (by decide +kernel)) ?_ | refine s_set (i := 7) cn (by rfl) (locL_ok ls (by decide +kernel)) ?_ | refine s_set (i := 8) cn (by rfl) (locL_ok ls (by decide +kernel)) ?_ | refine s_set (i := 9) cn (by rfl) (locL_ok ls (by decide +kernel)) ?_)
local macro_rules
  | `(tactic| walk_at "l") => `(tactic| first
    | (show RO _ _ _ _ _ _; first | refine add_int ?_ | refine lt_int ?_ | refine le_int ?_ | refine gt_int ?_ | refine ge_int ?_ | refine eq_int ?_ | refine ne_int ?_ | refine eq_bl ?_ | refine ne_bl ?_ | refine eq_str ?_ | refine ne_str ?_)
    | refine ⟨_, _, isD_lst rfl, isD_tup rfl, ?_⟩
    | refine ⟨_, isD_lst rfl, ?_⟩ | refine ⟨_, isD_tup rfl, ?_⟩ | refine ⟨_, isD_dic rfl, ?_⟩ | refine ⟨_, isD_bl rfl, ?_⟩ | refine ⟨_, isD_int rfl, ?_⟩ | refine ⟨_, isD_str rfl, ?_⟩
    | refine ⟨fun _ => ?_, fun h => Bool.noConfusion (show true = false from h)⟩
    | refine ⟨fun h => Bool.noConfusion (show false = true from h), fun _ => ?_⟩
    | refine ⟨fun _ => ?_, fun h => Bool.noConfusion (show false = true from h)⟩
    | refine ⟨fun h => Bool.noConfusion (show true = false from h), fun _ => ?_⟩
    | (show ixD _ _ _; first | refine ix_lstA (by rfl) ?_ | refine ix_tupA (by rfl) ?_)
    | refine ⟨_, _, rfl, rfl, Or.inl (Or.inr (by decide)), ?_⟩
    | refine ⟨_, _, rfl, rfl, Or.inl (Or.inl ⟨by omega, by omega⟩), ?_⟩
    | refine ⟨_, _, rfl, rfl, Or.inl ⟨by decide, by decide⟩, ?_⟩
    | refine ⟨_, _, rfl, rfl, ⟨by decide, by decide, by first | omega | decide⟩, ?_⟩
    | refine ⟨_, _, rfl, rfl, (show _ ≠ _ by first | decide | omega), ?_⟩
    | refine ⟨_, _, rfl, rfl, ?_⟩
    | refine ⟨_, rfl, ?_⟩
    | refine Or.inl ⟨_, rfl, ?_⟩
    | refine ⟨(show _ ≤ 100000 from Nat.le_of_ble_eq_true (by rfl)), ?_⟩)
local macro_rules
  | `(tactic| walk_at "go") => `(tactic| repeat (first | walk_at "e" | walk_at "l"))
local macro_rules
  | `(tactic| walk_at "bset") => `(tactic| (refine bs_cons (E := E) ?_; first
    | refine b_set (E := E) (i := 1) cn (by rfl) (locL_ok ls (by decide +kernel)) ?_ | refine b_set (E := E) (i := 2) cn (by rfl) (locL_ok ls (by decide +kernel)) ?_ | refine b_set (E := E) (i := 3) cn (by rfl) (locL_ok ls (by decide +kernel)) ?_ | refine b_set (E := E) (i := 4) cn (by rfl) (locL_ok ls (by decide +kernel)) ?_))
local macro_rules
  | `(tactic| walk_at "bput") => `(tactic| (refine bs_cons (E := E) ?_; first
    | refine b_put (E := E) (k := 1) bg cn (by rfl) (visC_ok vs (by decide +kernel)) (by decide) (by decide) ?_ | refine b_put (E := E) (k := 2) bg cn (by rfl) (visC_ok vs (by decide +kernel)) (by decide) (by decide) ?_
    | refine b_put (E := E) (k := 3) bg cn (by rfl) (visC_ok vs (by decide +kernel)) (by decide) (by decide) ?_ | refine b_put (E := E) (k := 4) bg cn (by rfl) (visC_ok vs (by decide +kernel)) (by decide) (by decide) ?_))
local macro_rules
  | `(tactic| walk_at "gname") => `(tactic| first | refine gx_name (i := 0) cn (by rfl) (locL_ok ls (by decide +kernel)) ?_ | refine gx_name (i := 1) cn (by rfl) (locL_ok ls (by decide +kernel)) ?_ | refine gx_name (i := 2) cn (by rfl) (locL_ok ls (by decide +kernel)) ?_ | refine gx_name (i := 3) cn (by rfl) (locL_ok ls (by decide +kernel)) ?_ | refine gx_name (i := 4) cn (by rfl) (locL_ok ls (by decide +kernel)) ?_ | refine gx_name (i := 5) cn (by rfl) (locL_ok ls (by decide +kernel)) ?_ | refine gx_name (i := 6) cn (by rfl) (locL_ok ls (by decide +kernel)) ?_ | refine gx_name (i := 7) cn (by rfl) (locL_ok ls (by decide +kernel)) ?_ | refine gx_name (i := 8) cn (by rfl) (locL_ok ls (by decide +kernel)) ?_ | refine gx_name (i := 9) cn (by rfl) (locL_ok ls (by decide +kernel)) ?_)

theorem eqv_no {c d : Int} (h : c ≠ 0) : PyData.eqv (.tuple [.int c, .int d]) (.tuple [.int 0, .int 1]) = false := by
  simp [PyData.eqv, PyData.eqvAll, h]
def F_divided (C1 C2 : Addr) : FSpec := fun W ds K Z => ∃ a b c d : Int, ds = [.tup [.int a, .int b], .tup [.int c, .int d]] ∧ b.natAbs < 2 ^ 3000 ∧ d.natAbs < 2 ^ 3000 ∧ a.natAbs < 2 ^ 3000 ∧ c.natAbs < 2 ^ 3000 ∧ 0 < b ∧ (c = 0 → d = 1 ∧ Z C2 ["code", "value"] [.str "InvalidFraction", .tup [.int c, .int d]]) ∧ (c ≠ 0 → K (rat (a * d) (b * c)))
theorem fn_divided {G : Gb} {C1 C2 : Addr} (fx : Fx G) (er : Err G "InvalidFraction" ["value"] "InvalidFraction" 1 C2) (hNo : GlV G "NOTHING" (.tup [.int 0, .int 1])) (fratio : Fn G "ratio" P_ratio 3 (F_ratio C1)) (pk : Pk G "divided" d_divided) : Fn G "divided" P_divided 4 (F_divided C1 C2) := by
  obtain ⟨f, fd0, FD, hm⟩ := pk.ex
  refine fn_intro (N := N_divided) FD sc_divided hm (bd_divided FD) (fun W ds Kc Z h => ?_) fun X E cn df po W ds Kc Z h => ?_
  · obtain ⟨_, _, _, _, rfl, _⟩ := h
    rfl
  · obtain ⟨a, b, c, d, rfl, hb, hd, ha, hc, b0, h0, hK⟩ := h
    have gs := gs_divided
    have vs := vs_divided
    have ls := ls_divided
    walk_at "go"
    refine ex_glob cn (gloL_ok gs (by decide +kernel)) hNo ?_
    refine eq_py (a := .tuple [.int c, .int d]) (b := .tuple [.int 0, .int 1]) rfl rfl rfl rfl ?_
    by_cases hc0 : c = 0
    · obtain ⟨hd1, hZ⟩ := h0 hc0
      subst hc0 hd1
      refine ⟨_, rfl, fun _ => ?_, fun h => ?_⟩
      · refine sx_one ?_
        refine s_raise cn df (gloL_ok gs (by decide +kernel)) er (by decide) ?_
        walk_at "go"
        exact ⟨rfl, by show 1 ≤ 1000; decide, hZ⟩
      · exact absurd h (by decide)
    · rw [eqv_no hc0]
      walk_at "go"
      refine ⟨mok ha hd, ?_⟩
      walk_at "go"
      refine ⟨mok hb hc, ?_⟩
      walk_at "go"
      have n0 : b * c ≠ 0 := Int.mul_ne_zero (by omega) hc0
      exact ⟨_, _, rfl, mlt hb hc, fun _ => hK hc0, fun z => absurd z n0⟩
end K02

set_option Elab.async false
set_option linter.all false
set_option maxRecDepth 100000
set_option maxHeartbeats 4000000
namespace K02
open PySem PySem.Spec PyProof.Rows L2 DX
set_option hygiene false
local macro_rules
  | `(tactic| walk_at "name") => `(tactic| first | refine ex_name (i := 0) cn (by rfl) (visC_ok vs (by decide +kernel)) (by rfl) ?_ | refine ex_name (i := 1) cn (by rfl) (visC_ok vs (by decide +kernel)) (by rfl) ?_ | refine ex_name (i := 2) cn (by rfl) (visC_ok vs (by decide +kernel)) (by rfl) ?_ | refine ex_name (i := 3) cn (by rfl) (visC_ok vs (by decide +kernel)) (by rfl) ?_ | refine ex_name (i := 4) cn (by rfl) (visC_ok vs (by decide +kernel)) (by rfl) ?_ | refine ex_name (i := 5) cn (by rfl) (visC_ok vs (by decide +kernel)) (by rfl) ?_ | refine ex_name (i := 6) cn (by rfl) (visC_ok vs (by decide +kernel)) (by rfl) ?_ | refine ex_name (i := 7) cn (by rfl) (visC_ok vs (by decide +kernel)) (by rfl) ?_)
local macro_rules
  | `(tactic| walk_at "call") => `(tactic| first
    | (show EX _ _ _ (.Call (.Name "_law_draw" _) _ _ _) _ _ _; refine ex_call cn (gloL_ok gs (by decide +kernel)) fdraw (by decide) ?_)
    | (show EX _ _ _ (.Call (.Name "_law_gcd" _) _ _ _) _ _ _; refine ex_call cn (gloL_ok gs (by decide +kernel)) flgcd (by decide) ?_)
    | (show EX _ _ _ (.Call (.Name "_law_low" _) _ _ _) _ _ _; refine ex_call cn (gloL_ok gs (by decide +kernel)) flow (by decide) ?_)
    | (show EX _ _ _ (.Call (.Name "is_integer_value" _) _ _ _) _ _ _; refine ex_call cn (gloL_ok gs (by decide +kernel)) fiiv (by decide) ?_)
    | (show EX _ _ _ (.Call (.Name "_law_int" _) _ _ _) _ _ _; refine ex_call cn (gloL_ok gs (by decide +kernel)) fint (by decide) ?_)
    | (show EX _ _ _ (.Call (.Name "all" _) _ _ _) _ _ _; refine ex_allc cn (gloL_ok gs (by decide +kernel)) fx.all ?_)
    | (show EX _ _ _ (.Call (.Name "_law_is_fraction" _) _ _ _) _ _ _; refine ex_call cn (gloL_ok gs (by decide +kernel)) flisf (by decide) ?_)
    | (show EX _ _ _ (.Call (.Name "_law_worth" _) _ _ _) _ _ _; refine ex_call cn (gloL_ok gs (by decide +kernel)) fworth (by decide) ?_)
    | (show EX _ _ _ (.Call (.Name "ratio" _) _ _ _) _ _ _; refine ex_call cn (gloL_ok gs (by decide +kernel)) fratio (by decide) ?_)
    | (show EX _ _ _ (.Call (.Name "gcd" _) _ _ _) _ _ _; refine ex_gcd cn (gloL_ok gs (by decide +kernel)) fx.gcd ?_)
    | (show EX _ _ _ (.Call (.Name "min" _) _ _ _) _ _ _; refine ex_min2 cn (gloL_ok gs (by decide +kernel)) fx.min ?_)
    | (show EX _ _ _ (.Call (.Name "_law_pick" _) _ _ _) _ _ _; refine ex_call cn (gloL_ok gs (by decide +kernel)) fpick (by decide) ?_)
    | (show EX _ _ _ (.Call (.Name "_law_huge" _) _ _ _) _ _ _; refine ex_call cn (gloL_ok gs (by decide +kernel)) fhuge (by decide) ?_)
    | (show EX _ _ _ (.Call (.Name "_law_number" _) _ _ _) _ _ _; refine ex_call cn (gloL_ok gs (by decide +kernel)) fnumber (by decide) ?_)
    | (show EX _ _ _ (.Call (.Name "isinstance" _) [_, .Tuple [.Name "list" _, .Name "tuple" _] _ _] _ _) _ _ _; refine ex_isi2 (T := "list") (U := "tuple") cn (gloL_ok gs (by decide +kernel)) fx.isi (gloL_ok gs (by decide +kernel)) fx.list (by decide +kernel) (gloL_ok gs (by decide +kernel)) fx.tuple (by decide +kernel) ?_)
    | (show EX _ _ _ (.Call (.Name "isinstance" _) [_, .Name "int" _] _ _) _ _ _; refine ex_isi (T := "int") cn (gloL_ok gs (by decide +kernel)) fx.isi (gloL_ok gs (by decide +kernel)) fx.int (by decide +kernel) ?_)
    | (show EX _ _ _ (.Call (.Name "isinstance" _) [_, .Name "bool" _] _ _) _ _ _; refine ex_isi (T := "bool") cn (gloL_ok gs (by decide +kernel)) fx.isi (gloL_ok gs (by decide +kernel)) fx.bool (by decide +kernel) ?_)
    | (show EX _ _ _ (.Call (.Name "isinstance" _) [_, .Name "str" _] _ _) _ _ _; refine ex_isi (T := "str") cn (gloL_ok gs (by decide +kernel)) fx.isi (gloL_ok gs (by decide +kernel)) fx.str (by decide +kernel) ?_)
    | (show EX _ _ _ (.Call (.Name "isinstance" _) [_, .Name "tuple" _] _ _) _ _ _; refine ex_isi (T := "tuple") cn (gloL_ok gs (by decide +kernel)) fx.isi (gloL_ok gs (by decide +kernel)) fx.tuple (by decide +kernel) ?_)
    | (show EX _ _ _ (.Call (.Name "isinstance" _) [_, .Name "list" _] _ _) _ _ _; refine ex_isi (T := "list") cn (gloL_ok gs (by decide +kernel)) fx.isi (gloL_ok gs (by decide +kernel)) fx.list (by decide +kernel) ?_)
    | (show EX _ _ _ (.Call (.Name "isinstance" _) [_, .Name "dict" _] _ _) _ _ _; refine ex_isi (T := "dict") cn (gloL_ok gs (by decide +kernel)) fx.isi (gloL_ok gs (by decide +kernel)) fx.dict (by decide +kernel) ?_)
    | refine ex_len cn (gloL_ok gs (by decide +kernel)) fx.len ?_ | refine ex_abs cn (gloL_ok gs (by decide +kernel)) fx.abs ?_ | refine ex_intc cn (gloL_ok gs (by decide +kernel)) fx.int ?_)
local macro_rules
  | `(tactic| walk_at "e") => `(tactic| first
    | (show EX _ _ _ (.Name _ _) _ _ _; walk_at "name")
    | (show EX _ _ _ (.Constant _ _ _) _ _ _; first | refine ex_int ?_ | refine ex_str ?_ | refine ex_bl ?_ | refine ex_non ?_)
    | (show EX _ _ _ (.BinOp _ _ _ _) _ _ _; first | refine ex_add ?_ | refine ex_sub ?_ | refine ex_mul ?_ | refine ex_mod ?_ | refine ex_div ?_ | refine ex_pow ?_)
    | (show EX _ _ _ (.Subscript _ _ _) _ _ _; refine ex_ix (fun _ _ => rfl) ?_)
    | (show EX _ _ _ (.Call _ _ _ _) _ _ _; walk_at "call")
    | (show EX _ _ _ (.Compare _ [.Is] _ _) _ _ _; refine ex_isN ?_)
    | (show EX _ _ _ (.Compare _ [_] _ _) _ _ _; first | refine ex_lt ?_ | refine ex_le ?_ | refine ex_gt ?_ | refine ex_ge ?_ | refine ex_eq cn ?_ | refine ex_ne cn ?_)
    | (show EX _ _ _ (.Compare _ [.Is] _ _) _ _ _; refine ex_isN ?_)
    | (show TX _ _ _ (.Compare _ [.In] _ _) _ _ _; refine tx_in (by rfl) ?_)
    | (show TX _ _ _ (.Compare _ [.Is] _ _) _ _ _; refine tx_isN ?_)
    | (show TX _ _ _ (.Compare _ [_] _ _) _ _ _; first | refine tx_lt ?_ | refine tx_le ?_ | refine tx_gt ?_ | refine tx_ge ?_ | refine tx_eq cn ?_ | refine tx_ne cn ?_)
    | (show TX _ _ _ (.Call _ _ _ _) _ _ _; refine tx_val ?_)
    | (show TX _ _ _ (.Name _ _) _ _ _; refine tx_val ?_)
    | (show TX _ _ _ (.UnaryOp _ _ _) _ _ _; refine tx_not ?_)
    | (show TX _ _ _ (.BoolOp _ _ _) _ _ _; refine tx_bool ?_)
    | (show TW _ _ _ (.BoolOp _ [_] _) _ _ _; first | refine tw_and1 ?_ | refine tw_or1 ?_)
    | (show TW _ _ _ (.BoolOp _ _ _) _ _ _; first | refine tw_and ?_ | refine tw_or ?_)
    | (show AX _ _ _ [] _ _ _; refine ax_nil ?_)
    | (show AX _ _ _ (_ :: _) _ _ _; refine ax_cons ?_)
    | (show EX _ _ _ (.Tuple _ _ _) _ _ _; refine ex_tup ?_)
    | (show EX _ _ _ (.List _ _) _ _ _; refine ex_lst ?_)
    | (show EX _ _ _ (.IfExp _ _ _ _) _ _ _; refine ex_if ?_)
    | (show EX _ _ _ (.UnaryOp _ _ _) _ _ _; first | refine ex_neg ?_ | refine ex_not ?_)
    | (show EX _ _ _ (.BoolOp _ [_] _) _ _ _; refine ex_one ?_)
    | (show EX _ _ _ (.BoolOp _ _ _) _ _ _; first | refine ex_and ?_ | refine ex_or ?_)
    | (show SX _ _ _ [] _ _ _; refine sx_nil ?_)
    | (show SX _ _ _ [_] _ _ _; refine sx_one ?_)
    | (show SX _ _ _ (_ :: _) _ _ _; refine sx_cons ?_)
    | (show S1 _ _ _ (.Return (some _) _) _ _ _; refine s_ret ?_)
    | (show S1 _ _ _ (.If _ _ _ _) _ _ _; refine s_if ?_)
    | (show S1 _ _ _ (.Assign [.Name _ _] _ _) _ _ _; walk_at "sset")
    | (show SX _ _ _ (defBody _) _ _ _; first | refine sx_cons ?_ | refine sx_one ?_))
local macro_rules
  | `(tactic| walk_at "sset") => `(tactic| first
    | refine s_set (i := 0) cn (by rfl) (locL_ok ls (by decide +kernel)) ?_ | refine s_set (i := 1) cn (by rfl) (locL_ok ls (by decide +kernel)) ?_ | refine s_set (i := 2) cn (by rfl) (locL_ok ls (by decide +kernel)) ?_ | refine s_set (i := 3) cn (by rfl) (locL_ok ls (by decide +kernel)) ?_ | refine s_set (i := 4) cn (by rfl) (locL_ok ls (by decide +kernel)) ?_ | refine s_set (i := 5) cn (by rfl) (locL_ok ls (by decide +kernel)) ?_ | refine s_set (i := 6) cn (by rfl) (locL_ok ls (by decide +kernel)) ?_ | refine s_set (i := 7) cn (by rfl) (locL_ok ls (by decide +kernel)) ?_ | refine s_set (i := 8) cn (by rfl) (locL_ok ls (by decide +kernel)) ?_ | refine s_set (i := 9) cn (by rfl) (locL_ok ls (by decide +kernel)) ?_)
local macro_rules
  | `(tactic| walk_at "l") => `(tactic| first
    | (show RO _ _ _ _ _ _; first | refine add_int ?_ | refine lt_int ?_ | refine le_int ?_ | refine gt_int ?_ | refine ge_int ?_ | refine eq_int ?_ | refine ne_int ?_ | refine eq_bl ?_ | refine ne_bl ?_ | refine eq_str ?_ | refine ne_str ?_)
    | refine ⟨_, _, isD_lst rfl, isD_tup rfl, ?_⟩
    | refine ⟨_, isD_lst rfl, ?_⟩ | refine ⟨_, isD_tup rfl, ?_⟩ | refine ⟨_, isD_dic rfl, ?_⟩ | refine ⟨_, isD_bl rfl, ?_⟩ | refine ⟨_, isD_int rfl, ?_⟩ | refine ⟨_, isD_str rfl, ?_⟩
    | refine ⟨fun _ => ?_, fun h => Bool.noConfusion (show true = false from h)⟩
    | refine ⟨fun h => Bool.noConfusion (show false = true from h), fun _ => ?_⟩
    | refine ⟨fun _ => ?_, fun h => Bool.noConfusion (show false = true from h)⟩
    | refine ⟨fun h => Bool.noConfusion (show true = false from h), fun _ => ?_⟩
    | (show ixD _ _ _; first | refine ix_lstA (by rfl) ?_ | refine ix_tupA (by rfl) ?_)
    | refine ⟨_, _, rfl, rfl, Or.inl (Or.inr (by decide)), ?_⟩
    | refine ⟨_, _, rfl, rfl, Or.inl (Or.inl ⟨by omega, by omega⟩), ?_⟩
    | refine ⟨_, _, rfl, rfl, Or.inl ⟨by decide, by decide⟩, ?_⟩
    | refine ⟨_, _, rfl, rfl, ⟨by decide, by decide, by first | omega | decide⟩, ?_⟩
    | refine ⟨_, _, rfl, rfl, (show _ ≠ _ by first | decide | omega), ?_⟩
    | refine ⟨_, _, rfl, rfl, ?_⟩
    | refine ⟨_, rfl, ?_⟩
    | refine Or.inl ⟨_, rfl, ?_⟩
    | refine ⟨(show _ ≤ 100000 from Nat.le_of_ble_eq_true (by rfl)), ?_⟩)
local macro_rules
  | `(tactic| walk_at "go") => `(tactic| repeat (first | walk_at "e" | walk_at "l"))
local macro_rules
  | `(tactic| walk_at "bset") => `(tactic| (refine bs_cons (E := E) ?_; first
    | refine b_set (E := E) (i := 1) cn (by rfl) (locL_ok ls (by decide +kernel)) ?_ | refine b_set (E := E) (i := 2) cn (by rfl) (locL_ok ls (by decide +kernel)) ?_ | refine b_set (E := E) (i := 3) cn (by rfl) (locL_ok ls (by decide +kernel)) ?_ | refine b_set (E := E) (i := 4) cn (by rfl) (locL_ok ls (by decide +kernel)) ?_))
local macro_rules
  | `(tactic| walk_at "bput") => `(tactic| (refine bs_cons (E := E) ?_; first
    | refine b_put (E := E) (k := 1) bg cn (by rfl) (visC_ok vs (by decide +kernel)) (by decide) (by decide) ?_ | refine b_put (E := E) (k := 2) bg cn (by rfl) (visC_ok vs (by decide +kernel)) (by decide) (by decide) ?_
    | refine b_put (E := E) (k := 3) bg cn (by rfl) (visC_ok vs (by decide +kernel)) (by decide) (by decide) ?_ | refine b_put (E := E) (k := 4) bg cn (by rfl) (visC_ok vs (by decide +kernel)) (by decide) (by decide) ?_))
local macro_rules
  | `(tactic| walk_at "gname") => `(tactic| first | refine gx_name (i := 0) cn (by rfl) (locL_ok ls (by decide +kernel)) ?_ | refine gx_name (i := 1) cn (by rfl) (locL_ok ls (by decide +kernel)) ?_ | refine gx_name (i := 2) cn (by rfl) (locL_ok ls (by decide +kernel)) ?_ | refine gx_name (i := 3) cn (by rfl) (locL_ok ls (by decide +kernel)) ?_ | refine gx_name (i := 4) cn (by rfl) (locL_ok ls (by decide +kernel)) ?_ | refine gx_name (i := 5) cn (by rfl) (locL_ok ls (by decide +kernel)) ?_ | refine gx_name (i := 6) cn (by rfl) (locL_ok ls (by decide +kernel)) ?_ | refine gx_name (i := 7) cn (by rfl) (locL_ok ls (by decide +kernel)) ?_ | refine gx_name (i := 8) cn (by rfl) (locL_ok ls (by decide +kernel)) ?_ | refine gx_name (i := 9) cn (by rfl) (locL_ok ls (by decide +kernel)) ?_)

def fr (p : Int × Int) : D := .tup [.int p.1, .int p.2]
def addF (p q : Int × Int) : Int × Int := (p.1 * q.2 + q.1 * p.2, p.2 * q.2)
def sumF (fs : List (Int × Int)) : Int × Int := fs.foldl addF (0, 1)
def SmallF (k : Nat) (p : Int × Int) : Prop := LowT p.1 p.2 ∧ p.1.natAbs < 2 ^ k ∧ p.2.natAbs < 2 ^ k
def F_total : FSpec := fun W ds K Z => ∃ fs : List (Int × Int), ds = [.tup (fs.map fr)] ∧ fs.length ≤ 4 ∧ (∀ p ∈ fs, SmallF 200 p) ∧ ∀ a b : Int, SmallF 2000 (a, b) → a * (sumF fs).2 = (sumF fs).1 * b → K (.tup [.int a, .int b])
theorem step_val {k b d a c l D N : Int} (h1 : k * (b * d) = (a * d + c * b) * l) (h2 : a * D = N * b) (hb : b ≠ 0) : k * (D * d) = (N * d + c * D) * l := by
  have : b * (k * (D * d)) = b * ((N * d + c * D) * l) := by
    grind
  exact Int.eq_of_mul_eq_mul_left hb this
/-- one fraction more: what plus gives -/
theorem plus_step {a b c d : Int} {k : Nat} (h1 : SmallF k (a, b)) (h2 : SmallF 200 (c, d)) : b * d ≠ 0 ∧ ∃ x y, rat (a * d + c * b) (b * d) = .tup [.int x, .int y] ∧ SmallF (k + 201) (x, y) ∧ x * (b * d) = (a * d + c * b) * y := by
  obtain ⟨⟨b0, _⟩, ha, hb⟩ := h1
  obtain ⟨⟨d0, _⟩, hc, hd⟩ := h2
  have u0 : 0 < b * d := Int.mul_pos b0 d0
  obtain ⟨x, y, e1, e2, e3, e4, e5⟩ := low_T (n := a * d + c * b) (m := b * d) (by omega)
  have g0 := gcd_ne (n := a * d + c * b) (m := b * d) (by omega)
  refine ⟨by omega, x, y, ?_, ?_, ?_⟩
  · unfold rat sg
    rw [if_neg (by omega), e3, e4]
  · generalize Nat.gcd (a * d + c * b).natAbs (b * d).natAbs = g at *
    have y0 : 0 < y := by
      rcases Int.lt_trichotomy y 0 with h | h | h
      · have := Int.mul_neg_of_pos_of_neg (show (0 : Int) < g by omega) h
        omega
      · subst h; simp at e2; omega
      · exact h
    have a1 : (a * d + c * b).natAbs = g * x.natAbs := by
      have := congrArg Int.natAbs e1
      rwa [Int.natAbs_mul (g : Int) x, Int.natAbs_natCast] at this
    have a2 : (b * d).natAbs = g * y.natAbs := by
      have := congrArg Int.natAbs e2
      rwa [Int.natAbs_mul (g : Int) y, Int.natAbs_natCast] at this
    have b1 : x.natAbs ≤ (a * d + c * b).natAbs := by rw [a1]; exact Nat.le_mul_of_pos_left _ (Nat.pos_of_ne_zero g0)
    have b2 : y.natAbs ≤ (b * d).natAbs := by rw [a2]; exact Nat.le_mul_of_pos_left _ (Nat.pos_of_ne_zero g0)
    have c1 : (a * d).natAbs < 2 ^ (k + 200) := wide_lt ha hd
    have c2 : (c * b).natAbs < 2 ^ (200 + k) := wide_lt hc hb
    have c3 : (b * d).natAbs < 2 ^ (k + 200) := wide_lt hb hd
    rw [Nat.add_comm 200 k] at c2
    have c4 : 2 ^ (k + 201) = 2 * 2 ^ (k + 200) := by rw [← Nat.pow_succ']
    refine ⟨⟨y0, e5⟩, ?_, ?_⟩
    · show x.natAbs < _
      omega
    · show y.natAbs < _
      omega
  · generalize Nat.gcd (a * d + c * b).natAbs (b * d).natAbs = g at *
    have e : x * ((g : Int) * y) = ((g : Int) * x) * y := by grind
    rw [← e2, ← e1] at e
    exact e
theorem small_up {k : Nat} (hk : k ≤ 2000) {p : Int × Int} (h : SmallF k p) : SmallF 2000 p := ⟨h.1, Nat.lt_of_lt_of_le h.2.1 (Nat.pow_le_pow_right (by decide) hk), Nat.lt_of_lt_of_le h.2.2 (Nat.pow_le_pow_right (by decide) hk)⟩
theorem lt3 {a k : Nat} (hk : k ≤ 3000) (h : a < 2 ^ k) : a < 2 ^ 3000 := Nat.lt_of_lt_of_le h (Nat.pow_le_pow_right (by decide) hk)
theorem fn_total {G : Gb} {C : Addr} (fx : Fx G) (hNo : GlV G "NOTHING" (.tup [.int 0, .int 1])) (fplus : Fn G "plus" P_plus 4 (F_two C fun a b c d => (a * d + c * b, b * d))) (pk : Pk G "total" d_total)
    (hb : ∀ f fd, FunD G.K "total" d_total.qual d_total.params d_total.body d_total.scope (d_total.dvs G.K) (d_total.kws G.K) f fd → ∀ (kV doc pm : Value) (an : Option Addr) (cdv ct : Value) (rest : List Value), bindArgs (PySem.W.fnOf "total" d_total.qual d_total.params d_total.body d_total.scope .none kV doc pm an cdv ct) ⟨rest, []⟩ = (newTuple rest >>= fun t => pure [(("fractions" : PySem.Str), t)])) : FnS G "total" 5 F_total := by
  obtain ⟨f, fd0, FD, hm⟩ := pk.ex
  have gs : gloL (defScope s_total) ["NOTHING", "plus"] = true := by decide +kernel
  have vs : visL (defScope s_total) ["fractions", "result", "fraction"] = true := by decide +kernel
  have ls : locL (defScope s_total) ["fractions", "result", "fraction"] = true := by decide +kernel
  refine fns_intro (N := N_total) FD sc_total hm (hb f fd0 FD) fun X E cn df po W ds Kc Z h => ?_
  obtain ⟨fs, rfl, hl, hs, hK⟩ := h
  refine sx_cons ?_
  walk_at "e"
  refine ex_glob cn (gloL_ok gs (by decide +kernel)) hNo ?_
  refine sx_cons ?_
  refine s_for cn po (ix_tup ?_)
  walk_at "name"
  refine ⟨_, rfl, fun i Γ => i ≤ fs.length ∧ ∃ a b : Int, ∃ o : Option D, Γ = [some (.tup (fs.map fr)), some (.tup [.int a, .int b]), o] ∧ SmallF (201 * i + 2) (a, b) ∧ a * (sumF (fs.take i)).2 = (sumF (fs.take i)).1 * b, ?_, ?_, ?_⟩
  · exact ⟨Nat.zero_le _, 0, 1, none, rfl, ⟨⟨by decide, by decide⟩, by decide, by decide⟩, by simp [sumF]⟩
  · rintro i d Γ' hd ⟨hi, a, b, o, rfl, hsm, hv⟩
    rw [List.getElem?_map] at hd
    cases hp : fs[i]? with
    | none => rw [hp] at hd; cases hd
    | some q =>
      rw [hp] at hd
      cases hd
      have hlt : i < fs.length := (List.getElem?_eq_some_iff.mp hp).1
      have hq : SmallF 200 q := hs q (List.mem_of_getElem? hp)
      obtain ⟨c, e⟩ := q
      obtain ⟨n0, x, y, er, hxy, hval⟩ := plus_step (a := a) (b := b) (c := c) (d := e) hsm hq
      walk_at "gname"
      refine sx_one ?_
      walk_at "sset"
      refine ex_call cn (gloL_ok gs (by decide +kernel)) fplus (by decide) (ax_cons ?_)
      walk_at "name"
      refine ax_cons ?_
      walk_at "name"
      refine ax_nil ?_
      refine ⟨a, b, c, e, rfl, lt3 (by omega) hsm.2.2, lt3 (by omega) hq.2.2, lt3 (by omega) hsm.2.1, lt3 (by omega) hq.2.1, n0, ?_⟩
      rw [er]
      refine ⟨hlt, x, y, _, rfl, ?_, ?_⟩
      · have : 201 * (i + 1) + 2 = (201 * i + 2) + 201 := by omega
        rw [this]
        exact hxy
      · have hb0 : b ≠ 0 := by have := hsm.1.1; have : 0 < b := this; omega
        have et : fs.take (i + 1) = fs.take i ++ [(c, e)] := by rw [List.take_add_one, hp]; rfl
        have es : sumF (fs.take (i + 1)) = addF (sumF (fs.take i)) (c, e) := by
          rw [et]; unfold sumF; rw [List.foldl_append]; rfl
        rw [es]
        exact step_val hval hv hb0
  · rintro Γ' ⟨hi, a, b, o, rfl, hsm, hv⟩
    walk_at "go"
    rw [List.length_map, List.take_length] at hv
    rw [List.length_map] at hsm
    exact hK a b (small_up (by omega) hsm) hv
end K02

set_option Elab.async false
set_option linter.all false
set_option maxRecDepth 100000
set_option maxHeartbeats 4000000
namespace K02
open PySem PySem.Spec PyProof.Rows L2 DX
set_option hygiene false
local macro_rules
  | `(tactic| walk_at "name") => `(tactic| first | refine ex_name (i := 0) cn (by rfl) (visC_ok vs (by decide +kernel)) (by rfl) ?_ | refine ex_name (i := 1) cn (by rfl) (visC_ok vs (by decide +kernel)) (by rfl) ?_ | refine ex_name (i := 2) cn (by rfl) (visC_ok vs (by decide +kernel)) (by rfl) ?_ | refine ex_name (i := 3) cn (by rfl) (visC_ok vs (by decide +kernel)) (by rfl) ?_ | refine ex_name (i := 4) cn (by rfl) (visC_ok vs (by decide +kernel)) (by rfl) ?_ | refine ex_name (i := 5) cn (by rfl) (visC_ok vs (by decide +kernel)) (by rfl) ?_ | refine ex_name (i := 6) cn (by rfl) (visC_ok vs (by decide +kernel)) (by rfl) ?_ | refine ex_name (i := 7) cn (by rfl) (visC_ok vs (by decide +kernel)) (by rfl) ?_)
local macro_rules
  | `(tactic| walk_at "call") => `(tactic| first
    | (show EX _ _ _ (.Call (.Name "_law_draw" _) _ _ _) _ _ _; refine ex_call cn (gloL_ok gs (by decide +kernel)) fdraw (by decide) ?_)
    | (show EX _ _ _ (.Call (.Name "_law_gcd" _) _ _ _) _ _ _; refine ex_call cn (gloL_ok gs (by decide +kernel)) flgcd (by decide) ?_)
    | (show EX _ _ _ (.Call (.Name "_law_low" _) _ _ _) _ _ _; refine ex_call cn (gloL_ok gs (by decide +kernel)) flow (by decide) ?_)
    | (show EX _ _ _ (.Call (.Name "is_integer_value" _) _ _ _) _ _ _; refine ex_call cn (gloL_ok gs (by decide +kernel)) fiiv (by decide) ?_)
    | (show EX _ _ _ (.Call (.Name "_law_int" _) _ _ _) _ _ _; refine ex_call cn (gloL_ok gs (by decide +kernel)) fint (by decide) ?_)
    | (show EX _ _ _ (.Call (.Name "all" _) _ _ _) _ _ _; refine ex_allc cn (gloL_ok gs (by decide +kernel)) fx.all ?_)
    | (show EX _ _ _ (.Call (.Name "_law_is_fraction" _) _ _ _) _ _ _; refine ex_call cn (gloL_ok gs (by decide +kernel)) flisf (by decide) ?_)
    | (show EX _ _ _ (.Call (.Name "_law_worth" _) _ _ _) _ _ _; refine ex_call cn (gloL_ok gs (by decide +kernel)) fworth (by decide) ?_)
    | (show EX _ _ _ (.Call (.Name "ratio" _) _ _ _) _ _ _; refine ex_call cn (gloL_ok gs (by decide +kernel)) fratio (by decide) ?_)
    | (show EX _ _ _ (.Call (.Name "gcd" _) _ _ _) _ _ _; refine ex_gcd cn (gloL_ok gs (by decide +kernel)) fx.gcd ?_)
    | (show EX _ _ _ (.Call (.Name "min" _) _ _ _) _ _ _; refine ex_min2 cn (gloL_ok gs (by decide +kernel)) fx.min ?_)
    | (show EX _ _ _ (.Call (.Name "_law_pick" _) _ _ _) _ _ _; refine ex_call cn (gloL_ok gs (by decide +kernel)) fpick (by decide) ?_)
    | (show EX _ _ _ (.Call (.Name "_law_huge" _) _ _ _) _ _ _; refine ex_call cn (gloL_ok gs (by decide +kernel)) fhuge (by decide) ?_)
    | (show EX _ _ _ (.Call (.Name "_law_number" _) _ _ _) _ _ _; refine ex_call cn (gloL_ok gs (by decide +kernel)) fnumber (by decide) ?_)
    | (show EX _ _ _ (.Call (.Name "isinstance" _) [_, .Tuple [.Name "list" _, .Name "tuple" _] _ _] _ _) _ _ _; refine ex_isi2 (T := "list") (U := "tuple") cn (gloL_ok gs (by decide +kernel)) fx.isi (gloL_ok gs (by decide +kernel)) fx.list (by decide +kernel) (gloL_ok gs (by decide +kernel)) fx.tuple (by decide +kernel) ?_)
    | (show EX _ _ _ (.Call (.Name "isinstance" _) [_, .Name "int" _] _ _) _ _ _; refine ex_isi (T := "int") cn (gloL_ok gs (by decide +kernel)) fx.isi (gloL_ok gs (by decide +kernel)) fx.int (by decide +kernel) ?_)
    | (show EX _ _ _ (.Call (.Name "isinstance" _) [_, .Name "bool" _] _ _) _ _ _; refine ex_isi (T := "bool") cn (gloL_ok gs (by decide +kernel)) fx.isi (gloL_ok gs (by decide +kernel)) fx.bool (by decide +kernel) ?_)
    | (show EX _ _ _ (.Call (.Name "isinstance" _) [_, .Name "str" _] _ _) _ _ _; refine ex_isi (T := "str") cn (gloL_ok gs (by decide +kernel)) fx.isi (gloL_ok gs (by decide +kernel)) fx.str (by decide +kernel) ?_)
    | (show EX _ _ _ (.Call (.Name "isinstance" _) [_, .Name "tuple" _] _ _) _ _ _; refine ex_isi (T := "tuple") cn (gloL_ok gs (by decide +kernel)) fx.isi (gloL_ok gs (by decide +kernel)) fx.tuple (by decide +kernel) ?_)
    | (show EX _ _ _ (.Call (.Name "isinstance" _) [_, .Name "list" _] _ _) _ _ _; refine ex_isi (T := "list") cn (gloL_ok gs (by decide +kernel)) fx.isi (gloL_ok gs (by decide +kernel)) fx.list (by decide +kernel) ?_)
    | (show EX _ _ _ (.Call (.Name "isinstance" _) [_, .Name "dict" _] _ _) _ _ _; refine ex_isi (T := "dict") cn (gloL_ok gs (by decide +kernel)) fx.isi (gloL_ok gs (by decide +kernel)) fx.dict (by decide +kernel) ?_)
    | refine ex_len cn (gloL_ok gs (by decide +kernel)) fx.len ?_ | refine ex_abs cn (gloL_ok gs (by decide +kernel)) fx.abs ?_ | refine ex_intc cn (gloL_ok gs (by decide +kernel)) fx.int ?_)
local macro_rules
  | `(tactic| walk_at "e") => `(tactic| first
    | (show EX _ _ _ (.Name _ _) _ _ _; walk_at "name")
    | (show EX _ _ _ (.Constant _ _ _) _ _ _; first | refine ex_int ?_ | refine ex_str ?_ | refine ex_bl ?_ | refine ex_non ?_)
    | (show EX _ _ _ (.BinOp _ _ _ _) _ _ _; first | refine ex_add ?_ | refine ex_sub ?_ | refine ex_mul ?_ | refine ex_mod ?_ | refine ex_div ?_ | refine ex_pow ?_)
    | (show EX _ _ _ (.Subscript _ _ _) _ _ _; refine ex_ix (fun _ _ => rfl) ?_)
    | (show EX _ _ _ (.Call _ _ _ _) _ _ _; walk_at "call")
    | (show EX _ _ _ (.Compare _ [.Is] _ _) _ _ _; refine ex_isN ?_)
    | (show EX _ _ _ (.Compare _ [_] _ _) _ _ _; first | refine ex_lt ?_ | refine ex_le ?_ | refine ex_gt ?_ | refine ex_ge ?_ | refine ex_eq cn ?_ | refine ex_ne cn ?_)
    | (show EX _ _ _ (.Compare _ [.Is] _ _) _ _ _; refine ex_isN ?_)
    | (show TX _ _ _ (.Compare _ [.In] _ _) _ _ _; refine tx_in (by rfl) ?_)
    | (show TX _ _ _ (.Compare _ [.Is] _ _) _ _ _; refine tx_isN ?_)
    | (show TX _ _ _ (.Compare _ [_] _ _) _ _ _; first | refine tx_lt ?_ | refine tx_le ?_ | refine tx_gt ?_ | refine tx_ge ?_ | refine tx_eq cn ?_ | refine tx_ne cn ?_)
    | (show TX _ _ _ (.Call _ _ _ _) _ _ _; refine tx_val ?_)
    | (show TX _ _ _ (.Name _ _) _ _ _; refine tx_val ?_)
    | (show TX _ _ _ (.UnaryOp _ _ _) _ _ _; refine tx_not ?_)
    | (show TX _ _ _ (.BoolOp _ _ _) _ _ _; refine tx_bool ?_)
    | (show TW _ _ _ (.BoolOp _ [_] _) _ _ _; first | refine tw_and1 ?_ | refine tw_or1 ?_)
    | (show TW _ _ _ (.BoolOp _ _ _) _ _ _; first | refine tw_and ?_ | refine tw_or ?_)
    | (show AX _ _ _ [] _ _ _; refine ax_nil ?_)
    | (show AX _ _ _ (_ :: _) _ _ _; refine ax_cons ?_)
    | (show EX _ _ _ (.Tuple _ _ _) _ _ _; refine ex_tup ?_)
    | (show EX _ _ _ (.List _ _) _ _ _; refine ex_lst ?_)
    | (show EX _ _ _ (.IfExp _ _ _ _) _ _ _; refine ex_if ?_)
    | (show EX _ _ _ (.UnaryOp _ _ _) _ _ _; first | refine ex_neg ?_ | refine ex_not ?_)
    | (show EX _ _ _ (.BoolOp _ [_] _) _ _ _; refine ex_one ?_)
    | (show EX _ _ _ (.BoolOp _ _ _) _ _ _; first | refine ex_and ?_ | refine ex_or ?_)
    | (show SX _ _ _ [] _ _ _; refine sx_nil ?_)
    | (show SX _ _ _ [_] _ _ _; refine sx_one ?_)
    | (show SX _ _ _ (_ :: _) _ _ _; refine sx_cons ?_)
    | (show S1 _ _ _ (.Return (some _) _) _ _ _; refine s_ret ?_)
    | (show S1 _ _ _ (.If _ _ _ _) _ _ _; refine s_if ?_)
    | (show S1 _ _ _ (.Assign [.Name _ _] _ _) _ _ _; walk_at "sset")
    | (show SX _ _ _ (defBody _) _ _ _; first | refine sx_cons ?_ | refine sx_one ?_))
local macro_rules
  | `(tactic| walk_at "sset") => `(tactic| first
    | refine s_set (i := 0) cn (by rfl) (locL_ok ls (by decide +kernel)) ?_ | refine s_set (i := 1) cn (by rfl) (locL_ok ls (by decide +kernel)) ?_ | refine s_set (i := 2) cn (by rfl) (locL_ok ls (by decide +kernel)) ?_ | refine s_set (i := 3) cn (by rfl) (locL_ok ls (by decide +kernel)) ?_ | refine s_set (i := 4) cn (by rfl) (locL_ok ls (by decide +kernel)) ?_ | refine s_set (i := 5) cn (by rfl) (locL_ok ls (by decide +kernel)) ?_ | refine s_set (i := 6) cn (by rfl) (locL_ok ls (by decide +kernel)) ?_ | refine s_set (i := 7) cn (by rfl) (locL_ok ls (by decide +kernel)) ?_ | refine s_set (i := 8) cn (by rfl) (locL_ok ls (by decide +kernel)) ?_ | refine s_set (i := 9) cn (by rfl) (locL_ok ls (by decide +kernel)) ?_)
local macro_rules
  | `(tactic| walk_at "l") => `(tactic| first
    | (show RO _ _ _ _ _ _; first | refine add_int ?_ | refine lt_int ?_ | refine le_int ?_ | refine gt_int ?_ | refine ge_int ?_ | refine eq_int ?_ | refine ne_int ?_ | refine eq_bl ?_ | refine ne_bl ?_ | refine eq_str ?_ | refine ne_str ?_)
    | refine ⟨_, _, isD_lst rfl, isD_tup rfl, ?_⟩
    | refine ⟨_, isD_lst rfl, ?_⟩ | refine ⟨_, isD_tup rfl, ?_⟩ | refine ⟨_, isD_dic rfl, ?_⟩ | refine ⟨_, isD_bl rfl, ?_⟩ | refine ⟨_, isD_int rfl, ?_⟩ | refine ⟨_, isD_str rfl, ?_⟩
    | refine ⟨fun _ => ?_, fun h => Bool.noConfusion (show true = false from h)⟩
    | refine ⟨fun h => Bool.noConfusion (show false = true from h), fun _ => ?_⟩
    | refine ⟨fun _ => ?_, fun h => Bool.noConfusion (show false = true from h)⟩
    | refine ⟨fun h => Bool.noConfusion (show true = false from h), fun _ => ?_⟩
    | (show ixD _ _ _; first | refine ix_lstA (by rfl) ?_ | refine ix_tupA (by rfl) ?_)
    | refine ⟨_, _, rfl, rfl, Or.inl (Or.inr (by decide)), ?_⟩
    | refine ⟨_, _, rfl, rfl, Or.inl (Or.inl ⟨by omega, by omega⟩), ?_⟩
    | refine ⟨_, _, rfl, rfl, Or.inl ⟨by decide, by decide⟩, ?_⟩
    | refine ⟨_, _, rfl, rfl, ⟨by decide, by decide, by first | omega | decide⟩, ?_⟩
    | refine ⟨_, _, rfl, rfl, (show _ ≠ _ by first | decide | omega), ?_⟩
    | refine ⟨_, _, rfl, rfl, ?_⟩
    | refine ⟨_, rfl, ?_⟩
    | refine Or.inl ⟨_, rfl, ?_⟩
    | refine ⟨(show _ ≤ 100000 from Nat.le_of_ble_eq_true (by rfl)), ?_⟩)
local macro_rules
  | `(tactic| walk_at "go") => `(tactic| repeat (first | walk_at "e" | walk_at "l"))
local macro_rules
  | `(tactic| walk_at "bset") => `(tactic| (refine bs_cons (E := E) ?_; first
    | refine b_set (E := E) (i := 1) cn (by rfl) (locL_ok ls (by decide +kernel)) ?_ | refine b_set (E := E) (i := 2) cn (by rfl) (locL_ok ls (by decide +kernel)) ?_ | refine b_set (E := E) (i := 3) cn (by rfl) (locL_ok ls (by decide +kernel)) ?_ | refine b_set (E := E) (i := 4) cn (by rfl) (locL_ok ls (by decide +kernel)) ?_))
local macro_rules
  | `(tactic| walk_at "bput") => `(tactic| (refine bs_cons (E := E) ?_; first
    | refine b_put (E := E) (k := 1) bg cn (by rfl) (visC_ok vs (by decide +kernel)) (by decide) (by decide) ?_ | refine b_put (E := E) (k := 2) bg cn (by rfl) (visC_ok vs (by decide +kernel)) (by decide) (by decide) ?_
    | refine b_put (E := E) (k := 3) bg cn (by rfl) (visC_ok vs (by decide +kernel)) (by decide) (by decide) ?_ | refine b_put (E := E) (k := 4) bg cn (by rfl) (visC_ok vs (by decide +kernel)) (by decide) (by decide) ?_))
local macro_rules
  | `(tactic| walk_at "gname") => `(tactic| first | refine gx_name (i := 0) cn (by rfl) (locL_ok ls (by decide +kernel)) ?_ | refine gx_name (i := 1) cn (by rfl) (locL_ok ls (by decide +kernel)) ?_ | refine gx_name (i := 2) cn (by rfl) (locL_ok ls (by decide +kernel)) ?_ | refine gx_name (i := 3) cn (by rfl) (locL_ok ls (by decide +kernel)) ?_ | refine gx_name (i := 4) cn (by rfl) (locL_ok ls (by decide +kernel)) ?_ | refine gx_name (i := 5) cn (by rfl) (locL_ok ls (by decide +kernel)) ?_ | refine gx_name (i := 6) cn (by rfl) (locL_ok ls (by decide +kernel)) ?_ | refine gx_name (i := 7) cn (by rfl) (locL_ok ls (by decide +kernel)) ?_ | refine gx_name (i := 8) cn (by rfl) (locL_ok ls (by decide +kernel)) ?_ | refine gx_name (i := 9) cn (by rfl) (locL_ok ls (by decide +kernel)) ?_)
theorem RpL_int1 {K : PySem.W.Frag} {W : Wd} {H : Hp} : RpL K W H [.int 1] [V.int 1] := ⟨_, _, rfl, rfl, rfl⟩
theorem ratio_all {G : Gb} {C : Addr} (fx : Fx G) (er : Err G "InvalidNumber" ["value"] "InvalidNumber" 1 C) (pk : Pk G "ratio" d_ratio) : Fn G "ratio" P_ratio 3 (F_ratio C) ∧ FnB G "ratio" P_ratio 3 (F_ratio C) [.int 1] ∧ FnK G "ratio" P_ratio 3 (F_ratio C) ["under", "over"] (fun ds => ds.reverse) ∧ FnK G "ratio" P_ratio 3 (F_ratio C) ["over"] (fun ds => ds ++ [.int 1]) := by
  obtain ⟨f, fd, FD, hm⟩ := pk.ex
  have ok := ok_ratio fx er FD
  refine ⟨⟨f, fd, hm, FD.kp, bd2_ratio FD, ok⟩, ?_, ?_, ?_⟩
  · obtain ⟨ds, v, b⟩ := bd1_ratio FD
    exact FnB.of hm FD.kp b v (fun W H _ => RpL_int1) ok
  · exact ⟨f, fd, _, _, hm, FD.kp, bk2_ratio FD, fun W H ds zs _ _ r => r.rev, ok⟩
  · obtain ⟨its, b⟩ := bk1_ratio FD
    exact ⟨f, fd, _, _, hm, FD.kp, b, fun W H ds zs _ _ r => r.app RpL_int1, ok⟩
end K02

set_option Elab.async false
set_option linter.all false
set_option maxRecDepth 100000
set_option maxHeartbeats 4000000
namespace K02
open PySem PySem.Spec PyProof.Rows L2 DX
set_option hygiene false
local macro_rules
  | `(tactic| walk_at "name") => `(tactic| first | refine ex_name (i := 0) cn (by rfl) (visC_ok vs (by decide +kernel)) (by rfl) ?_ | refine ex_name (i := 1) cn (by rfl) (visC_ok vs (by decide +kernel)) (by rfl) ?_ | refine ex_name (i := 2) cn (by rfl) (visC_ok vs (by decide +kernel)) (by rfl) ?_ | refine ex_name (i := 3) cn (by rfl) (visC_ok vs (by decide +kernel)) (by rfl) ?_ | refine ex_name (i := 4) cn (by rfl) (visC_ok vs (by decide +kernel)) (by rfl) ?_ | refine ex_name (i := 5) cn (by rfl) (visC_ok vs (by decide +kernel)) (by rfl) ?_ | refine ex_name (i := 6) cn (by rfl) (visC_ok vs (by decide +kernel)) (by rfl) ?_ | refine ex_name (i := 7) cn (by rfl) (visC_ok vs (by decide +kernel)) (by rfl) ?_)
local macro_rules
  | `(tactic| walk_at "call") => `(tactic| first
    | (show EX _ _ _ (.Call (.Name "_law_draw" _) _ _ _) _ _ _; refine ex_call cn (gloL_ok gs (by decide +kernel)) fdraw (by decide) ?_)
    | (show EX _ _ _ (.Call (.Name "_law_gcd" _) _ _ _) _ _ _; refine ex_call cn (gloL_ok gs (by decide +kernel)) flgcd (by decide) ?_)
    | (show EX _ _ _ (.Call (.Name "_law_low" _) _ _ _) _ _ _; refine ex_call cn (gloL_ok gs (by decide +kernel)) flow (by decide) ?_)
    | (show EX _ _ _ (.Call (.Name "is_integer_value" _) _ _ _) _ _ _; refine ex_call cn (gloL_ok gs (by decide +kernel)) fiiv (by decide) ?_)
    | (show EX _ _ _ (.Call (.Name "_law_int" _) _ _ _) _ _ _; refine ex_call cn (gloL_ok gs (by decide +kernel)) fint (by decide) ?_)
    | (show EX _ _ _ (.Call (.Name "all" _) _ _ _) _ _ _; refine ex_allc cn (gloL_ok gs (by decide +kernel)) fx.all ?_)
    | (show EX _ _ _ (.Call (.Name "_law_is_fraction" _) _ _ _) _ _ _; refine ex_call cn (gloL_ok gs (by decide +kernel)) flisf (by decide) ?_)
    | (show EX _ _ _ (.Call (.Name "_law_worth" _) _ _ _) _ _ _; refine ex_call cn (gloL_ok gs (by decide +kernel)) fworth (by decide) ?_)
    | (show EX _ _ _ (.Call (.Name "ratio" _) _ _ _) _ _ _; refine ex_call cn (gloL_ok gs (by decide +kernel)) fratio (by decide) ?_)
    | (show EX _ _ _ (.Call (.Name "gcd" _) _ _ _) _ _ _; refine ex_gcd cn (gloL_ok gs (by decide +kernel)) fx.gcd ?_)
    | (show EX _ _ _ (.Call (.Name "min" _) _ _ _) _ _ _; refine ex_min2 cn (gloL_ok gs (by decide +kernel)) fx.min ?_)
    | (show EX _ _ _ (.Call (.Name "_law_pick" _) _ _ _) _ _ _; refine ex_call cn (gloL_ok gs (by decide +kernel)) fpick (by decide) ?_)
    | (show EX _ _ _ (.Call (.Name "_law_huge" _) _ _ _) _ _ _; refine ex_call cn (gloL_ok gs (by decide +kernel)) fhuge (by decide) ?_)
    | (show EX _ _ _ (.Call (.Name "_law_number" _) _ _ _) _ _ _; refine ex_call cn (gloL_ok gs (by decide +kernel)) fnumber (by decide) ?_)
    | (show EX _ _ _ (.Call (.Name "isinstance" _) [_, .Tuple [.Name "list" _, .Name "tuple" _] _ _] _ _) _ _ _; refine ex_isi2 (T := "list") (U := "tuple") cn (gloL_ok gs (by decide +kernel)) fx.isi (gloL_ok gs (by decide +kernel)) fx.list (by decide +kernel) (gloL_ok gs (by decide +kernel)) fx.tuple (by decide +kernel) ?_)
    | (show EX _ _ _ (.Call (.Name "isinstance" _) [_, .Name "int" _] _ _) _ _ _; refine ex_isi (T := "int") cn (gloL_ok gs (by decide +kernel)) fx.isi (gloL_ok gs (by decide +kernel)) fx.int (by decide +kernel) ?_)
    | (show EX _ _ _ (.Call (.Name "isinstance" _) [_, .Name "bool" _] _ _) _ _ _; refine ex_isi (T := "bool") cn (gloL_ok gs (by decide +kernel)) fx.isi (gloL_ok gs (by decide +kernel)) fx.bool (by decide +kernel) ?_)
    | (show EX _ _ _ (.Call (.Name "isinstance" _) [_, .Name "str" _] _ _) _ _ _; refine ex_isi (T := "str") cn (gloL_ok gs (by decide +kernel)) fx.isi (gloL_ok gs (by decide +kernel)) fx.str (by decide +kernel) ?_)
    | (show EX _ _ _ (.Call (.Name "isinstance" _) [_, .Name "tuple" _] _ _) _ _ _; refine ex_isi (T := "tuple") cn (gloL_ok gs (by decide +kernel)) fx.isi (gloL_ok gs (by decide +kernel)) fx.tuple (by decide +kernel) ?_)
    | (show EX _ _ _ (.Call (.Name "isinstance" _) [_, .Name "list" _] _ _) _ _ _; refine ex_isi (T := "list") cn (gloL_ok gs (by decide +kernel)) fx.isi (gloL_ok gs (by decide +kernel)) fx.list (by decide +kernel) ?_)
    | (show EX _ _ _ (.Call (.Name "isinstance" _) [_, .Name "dict" _] _ _) _ _ _; refine ex_isi (T := "dict") cn (gloL_ok gs (by decide +kernel)) fx.isi (gloL_ok gs (by decide +kernel)) fx.dict (by decide +kernel) ?_)
    | refine ex_len cn (gloL_ok gs (by decide +kernel)) fx.len ?_ | refine ex_abs cn (gloL_ok gs (by decide +kernel)) fx.abs ?_ | refine ex_intc cn (gloL_ok gs (by decide +kernel)) fx.int ?_)
local macro_rules
  | `(tactic| walk_at "e") => `(tactic| first
    | (show EX _ _ _ (.Name _ _) _ _ _; walk_at "name")
    | (show EX _ _ _ (.Constant _ _ _) _ _ _; first | refine ex_int ?_ | refine ex_str ?_ | refine ex_bl ?_ | refine ex_non ?_)
    | (show EX _ _ _ (.BinOp _ _ _ _) _ _ _; first | refine ex_add ?_ | refine ex_sub ?_ | refine ex_mul ?_ | refine ex_mod ?_ | refine ex_div ?_ | refine ex_pow ?_)
    | (show EX _ _ _ (.Subscript _ _ _) _ _ _; refine ex_ix (fun _ _ => rfl) ?_)
    | (show EX _ _ _ (.Call _ _ _ _) _ _ _; walk_at "call")
    | (show EX _ _ _ (.Compare _ [.Is] _ _) _ _ _; refine ex_isN ?_)
    | (show EX _ _ _ (.Compare _ [_] _ _) _ _ _; first | refine ex_lt ?_ | refine ex_le ?_ | refine ex_gt ?_ | refine ex_ge ?_ | refine ex_eq cn ?_ | refine ex_ne cn ?_)
    | (show EX _ _ _ (.Compare _ [.Is] _ _) _ _ _; refine ex_isN ?_)
    | (show TX _ _ _ (.Compare _ [.In] _ _) _ _ _; refine tx_in (by rfl) ?_)
    | (show TX _ _ _ (.Compare _ [.Is] _ _) _ _ _; refine tx_isN ?_)
    | (show TX _ _ _ (.Compare _ [_] _ _) _ _ _; first | refine tx_lt ?_ | refine tx_le ?_ | refine tx_gt ?_ | refine tx_ge ?_ | refine tx_eq cn ?_ | refine tx_ne cn ?_)
    | (show TX _ _ _ (.Call _ _ _ _) _ _ _; refine tx_val ?_)
    | (show TX _ _ _ (.Name _ _) _ _ _; refine tx_val ?_)
    | (show TX _ _ _ (.UnaryOp _ _ _) _ _ _; refine tx_not ?_)
    | (show TX _ _ _ (.BoolOp _ _ _) _ _ _; refine tx_bool ?_)
    | (show TW _ _ _ (.BoolOp _ [_] _) _ _ _; first | refine tw_and1 ?_ | refine tw_or1 ?_)
    | (show TW _ _ _ (.BoolOp _ _ _) _ _ _; first | refine tw_and ?_ | refine tw_or ?_)
    | (show AX _ _ _ [] _ _ _; refine ax_nil ?_)
    | (show AX _ _ _ (_ :: _) _ _ _; refine ax_cons ?_)
    | (show EX _ _ _ (.Tuple _ _ _) _ _ _; refine ex_tup ?_)
    | (show EX _ _ _ (.List _ _) _ _ _; refine ex_lst ?_)
    | (show EX _ _ _ (.IfExp _ _ _ _) _ _ _; refine ex_if ?_)
    | (show EX _ _ _ (.UnaryOp _ _ _) _ _ _; first | refine ex_neg ?_ | refine ex_not ?_)
    | (show EX _ _ _ (.BoolOp _ [_] _) _ _ _; refine ex_one ?_)
    | (show EX _ _ _ (.BoolOp _ _ _) _ _ _; first | refine ex_and ?_ | refine ex_or ?_)
    | (show SX _ _ _ [] _ _ _; refine sx_nil ?_)
    | (show SX _ _ _ [_] _ _ _; refine sx_one ?_)
    | (show SX _ _ _ (_ :: _) _ _ _; refine sx_cons ?_)
    | (show S1 _ _ _ (.Return (some _) _) _ _ _; refine s_ret ?_)
    | (show S1 _ _ _ (.If _ _ _ _) _ _ _; refine s_if ?_)
    | (show S1 _ _ _ (.Assign [.Name _ _] _ _) _ _ _; walk_at "sset")
    | (show SX _ _ _ (defBody _) _ _ _; first | refine sx_cons ?_ | refine sx_one ?_))
local macro_rules
  | `(tactic| walk_at "sset") => `(tactic| first
    | refine s_set (i := 0) cn (by rfl) (locL_ok ls (by decide +kernel)) ?_ | refine s_set (i := 1) cn (by rfl) (locL_ok ls (by decide +kernel)) ?_ | refine s_set (i := 2) cn (by rfl) (locL_ok ls (by decide +kernel)) ?_ | refine s_set (i := 3) cn (by rfl) (locL_ok ls (by decide +kernel)) ?_ | refine s_set (i := 4) cn (by rfl) (locL_ok ls (by decide +kernel)) ?_ | refine s_set (i := 5) cn (by rfl) (locL_ok ls (by decide +kernel)) ?_ | refine s_set (i := 6) cn (by rfl) (locL_ok ls (by decide +kernel)) ?_ | refine s_set (i := 7) cn (by rfl) (locL_ok ls (by decide +kernel)) ?_ | refine s_set (i := 8) cn (by rfl) (locL_ok ls (by decide +kernel)) ?_ | refine s_set (i := 9) cn (by rfl) (locL_ok ls (by decide +kernel)) ?_)
local macro_rules
  | `(tactic| walk_at "l") => `(tactic| first
    | (show RO _ _ _ _ _ _; first | refine add_int ?_ | refine lt_int ?_ | refine le_int ?_ | refine gt_int ?_ | refine ge_int ?_ | refine eq_int ?_ | refine ne_int ?_ | refine eq_bl ?_ | refine ne_bl ?_ | refine eq_str ?_ | refine ne_str ?_)
    | refine ⟨_, _, isD_lst rfl, isD_tup rfl, ?_⟩
    | refine ⟨_, isD_lst rfl, ?_⟩ | refine ⟨_, isD_tup rfl, ?_⟩ | refine ⟨_, isD_dic rfl, ?_⟩ | refine ⟨_, isD_bl rfl, ?_⟩ | refine ⟨_, isD_int rfl, ?_⟩ | refine ⟨_, isD_str rfl, ?_⟩
    | refine ⟨fun _ => ?_, fun h => Bool.noConfusion (show true = false from h)⟩
    | refine ⟨fun h => Bool.noConfusion (show false = true from h), fun _ => ?_⟩
    | refine ⟨fun _ => ?_, fun h => Bool.noConfusion (show false = true from h)⟩
    | refine ⟨fun h => Bool.noConfusion (show true = false from h), fun _ => ?_⟩
    | (show ixD _ _ _; first | refine ix_lstA (by rfl) ?_ | refine ix_tupA (by rfl) ?_)
    | refine ⟨_, _, rfl, rfl, Or.inl (Or.inr (by decide)), ?_⟩
    | refine ⟨_, _, rfl, rfl, Or.inl (Or.inl ⟨by omega, by omega⟩), ?_⟩
    | refine ⟨_, _, rfl, rfl, Or.inl ⟨by decide, by decide⟩, ?_⟩
    | refine ⟨_, _, rfl, rfl, ⟨by decide, by decide, by first | omega | decide⟩, ?_⟩
    | refine ⟨_, _, rfl, rfl, (show _ ≠ _ by first | decide | omega), ?_⟩
    | refine ⟨_, _, rfl, rfl, ?_⟩
    | refine ⟨_, rfl, ?_⟩
    | refine Or.inl ⟨_, rfl, ?_⟩
    | refine ⟨(show _ ≤ 100000 from Nat.le_of_ble_eq_true (by rfl)), ?_⟩)
local macro_rules
  | `(tactic| walk_at "go") => `(tactic| repeat (first | walk_at "e" | walk_at "l"))
local macro_rules
  | `(tactic| walk_at "bset") => `(tactic| (refine bs_cons (E := E) ?_; first
    | refine b_set (E := E) (i := 1) cn (by rfl) (locL_ok ls (by decide +kernel)) ?_ | refine b_set (E := E) (i := 2) cn (by rfl) (locL_ok ls (by decide +kernel)) ?_ | refine b_set (E := E) (i := 3) cn (by rfl) (locL_ok ls (by decide +kernel)) ?_ | refine b_set (E := E) (i := 4) cn (by rfl) (locL_ok ls (by decide +kernel)) ?_))
local macro_rules
  | `(tactic| walk_at "bput") => `(tactic| (refine bs_cons (E := E) ?_; first
    | refine b_put (E := E) (k := 1) bg cn (by rfl) (visC_ok vs (by decide +kernel)) (by decide) (by decide) ?_ | refine b_put (E := E) (k := 2) bg cn (by rfl) (visC_ok vs (by decide +kernel)) (by decide) (by decide) ?_
    | refine b_put (E := E) (k := 3) bg cn (by rfl) (visC_ok vs (by decide +kernel)) (by decide) (by decide) ?_ | refine b_put (E := E) (k := 4) bg cn (by rfl) (visC_ok vs (by decide +kernel)) (by decide) (by decide) ?_))
local macro_rules
  | `(tactic| walk_at "gname") => `(tactic| first | refine gx_name (i := 0) cn (by rfl) (locL_ok ls (by decide +kernel)) ?_ | refine gx_name (i := 1) cn (by rfl) (locL_ok ls (by decide +kernel)) ?_ | refine gx_name (i := 2) cn (by rfl) (locL_ok ls (by decide +kernel)) ?_ | refine gx_name (i := 3) cn (by rfl) (locL_ok ls (by decide +kernel)) ?_ | refine gx_name (i := 4) cn (by rfl) (locL_ok ls (by decide +kernel)) ?_ | refine gx_name (i := 5) cn (by rfl) (locL_ok ls (by decide +kernel)) ?_ | refine gx_name (i := 6) cn (by rfl) (locL_ok ls (by decide +kernel)) ?_ | refine gx_name (i := 7) cn (by rfl) (locL_ok ls (by decide +kernel)) ?_ | refine gx_name (i := 8) cn (by rfl) (locL_ok ls (by decide +kernel)) ?_ | refine gx_name (i := 9) cn (by rfl) (locL_ok ls (by decide +kernel)) ?_)
/-- a value that may be asked whether it is a fraction, as a Bool -/
def askB (x : D) : Bool := plainD x && (match x with
  | .tup ds => decide (ds.length ≤ 100000) && ds.all plainD
  | _ => true)
theorem ask_of {x : D} (h : askB x = true) : Ask x := by
  obtain ⟨h1, h2⟩ := Bool.and_eq_true_iff.mp h
  refine ⟨h1, fun ds e => ?_⟩
  subst e
  obtain ⟨h3, h4⟩ := Bool.and_eq_true_iff.mp h2
  exact ⟨of_decide_eq_true h3, fun d hd => List.all_eq_true.mp h4 d hd⟩
/-- what is odd -/
def oddM (i : Int) : List D := [.non, .bl true, .bl false, .str "", .str "a", .str "A", .int 2, .int i, .tup [], .lst [], .dic [] [], .tup [.int i], .lst [.int i, .int i], .tup [.int i, .bl true], .tup [.str "a", .tup [.int i]], .dic [.inr "a"] [.lst [.int 1, .tup [.bl true, .non]]], .lst [.lst [.str "a", .str "b", .tup [.int 0]]], .str "3", .tup [.tup [.int 1, .int 0], .tup [.int 0, .int 1]], .int 1000000000000000000000000000000000000000]
def F_odd : FSpec := fun W ds K Z => Bagged W ∧ ds = [.bag] ∧ ∀ i : Int, -1 ≤ i → i ≤ 3 → ∀ d ∈ oddM i, K d
theorem fn_odd {G : Gb} (fx : Fx G) (fdraw : Fn G "_law_draw" P_L_draw 4 F_draw) (fpick : Fn G "_law_pick" P_L_pick 5 F_pick) (pk : Pk G "_law_odd" d_L_odd) : Fn G "_law_odd" P_L_odd 6 F_odd := by
  obtain ⟨f, fd0, FD, hm⟩ := pk.ex
  refine fn_intro (N := N_L_odd) FD sc_L_odd hm (bd_L_odd FD) (fun W ds Kc Z h => ?_) fun X E cn df po W ds Kc Z h => ?_
  · obtain ⟨_, rfl, _⟩ := h
    rfl
  · obtain ⟨bg, rfl, hK⟩ := h
    have gs := gs_L_odd
    have vs := vs_L_odd
    have ls := ls_L_odd
    walk_at "go"
    refine ⟨bg, _, rfl, by decide, by decide, fun a a0 a1 => ?_⟩
    walk_at "go"
    refine ex_dic0 ?_
    walk_at "go"
    refine ex_dicO ?_
    walk_at "go"
    rw [p39]
    refine pick_lst bg ⟨Nat.le_of_ble_eq_true (by rfl), Nat.le_of_ble_eq_true (by rfl)⟩ ?_
    exact hK (a - 1) (by omega) (by omega)
theorem odd_ask {i : Int} : ∀ d ∈ oddM i, Ask d := fun d hd => ask_of (List.all_eq_true.mp (show (oddM i).all askB = true from rfl) d hd)
end K02

set_option Elab.async false
set_option linter.all false
set_option maxRecDepth 100000
set_option maxHeartbeats 4000000
namespace K02
open PySem PySem.Spec PyProof.Rows L2 DX
set_option hygiene false
local macro_rules
  | `(tactic| walk_at "name") => `(tactic| first | refine ex_name (i := 0) cn (by rfl) (visC_ok vs (by decide +kernel)) (by rfl) ?_ | refine ex_name (i := 1) cn (by rfl) (visC_ok vs (by decide +kernel)) (by rfl) ?_ | refine ex_name (i := 2) cn (by rfl) (visC_ok vs (by decide +kernel)) (by rfl) ?_ | refine ex_name (i := 3) cn (by rfl) (visC_ok vs (by decide +kernel)) (by rfl) ?_ | refine ex_name (i := 4) cn (by rfl) (visC_ok vs (by decide +kernel)) (by rfl) ?_ | refine ex_name (i := 5) cn (by rfl) (visC_ok vs (by decide +kernel)) (by rfl) ?_ | refine ex_name (i := 6) cn (by rfl) (visC_ok vs (by decide +kernel)) (by rfl) ?_ | refine ex_name (i := 7) cn (by rfl) (visC_ok vs (by decide +kernel)) (by rfl) ?_)
local macro_rules
  | `(tactic| walk_at "call") => `(tactic| first
    | (show EX _ _ _ (.Call (.Name "_law_draw" _) _ _ _) _ _ _; refine ex_call cn (gloL_ok gs (by decide +kernel)) fdraw (by decide) ?_)
    | (show EX _ _ _ (.Call (.Name "_law_gcd" _) _ _ _) _ _ _; refine ex_call cn (gloL_ok gs (by decide +kernel)) flgcd (by decide) ?_)
    | (show EX _ _ _ (.Call (.Name "_law_low" _) _ _ _) _ _ _; refine ex_call cn (gloL_ok gs (by decide +kernel)) flow (by decide) ?_)
    | (show EX _ _ _ (.Call (.Name "is_integer_value" _) _ _ _) _ _ _; refine ex_call cn (gloL_ok gs (by decide +kernel)) fiiv (by decide) ?_)
    | (show EX _ _ _ (.Call (.Name "_law_int" _) _ _ _) _ _ _; refine ex_call cn (gloL_ok gs (by decide +kernel)) fint (by decide) ?_)
    | (show EX _ _ _ (.Call (.Name "all" _) _ _ _) _ _ _; refine ex_allc cn (gloL_ok gs (by decide +kernel)) fx.all ?_)
    | (show EX _ _ _ (.Call (.Name "_law_is_fraction" _) _ _ _) _ _ _; refine ex_call cn (gloL_ok gs (by decide +kernel)) flisf (by decide) ?_)
    | (show EX _ _ _ (.Call (.Name "_law_worth" _) _ _ _) _ _ _; refine ex_call cn (gloL_ok gs (by decide +kernel)) fworth (by decide) ?_)
    | (show EX _ _ _ (.Call (.Name "ratio" _) _ _ _) _ _ _; refine ex_call cn (gloL_ok gs (by decide +kernel)) fratio (by decide) ?_)
    | (show EX _ _ _ (.Call (.Name "gcd" _) _ _ _) _ _ _; refine ex_gcd cn (gloL_ok gs (by decide +kernel)) fx.gcd ?_)
    | (show EX _ _ _ (.Call (.Name "min" _) _ _ _) _ _ _; refine ex_min2 cn (gloL_ok gs (by decide +kernel)) fx.min ?_)
    | (show EX _ _ _ (.Call (.Name "_law_pick" _) _ _ _) _ _ _; refine ex_call cn (gloL_ok gs (by decide +kernel)) fpick (by decide) ?_)
    | (show EX _ _ _ (.Call (.Name "_law_huge" _) _ _ _) _ _ _; refine ex_call cn (gloL_ok gs (by decide +kernel)) fhuge (by decide) ?_)
    | (show EX _ _ _ (.Call (.Name "_law_number" _) _ _ _) _ _ _; refine ex_call cn (gloL_ok gs (by decide +kernel)) fnumber (by decide) ?_)
    | (show EX _ _ _ (.Call (.Name "isinstance" _) [_, .Tuple [.Name "list" _, .Name "tuple" _] _ _] _ _) _ _ _; refine ex_isi2 (T := "list") (U := "tuple") cn (gloL_ok gs (by decide +kernel)) fx.isi (gloL_ok gs (by decide +kernel)) fx.list (by decide +kernel) (gloL_ok gs (by decide +kernel)) fx.tuple (by decide +kernel) ?_)
    | (show EX _ _ _ (.Call (.Name "isinstance" _) [_, .Name "int" _] _ _) _ _ _; refine ex_isi (T := "int") cn (gloL_ok gs (by decide +kernel)) fx.isi (gloL_ok gs (by decide +kernel)) fx.int (by decide +kernel) ?_)
    | (show EX _ _ _ (.Call (.Name "isinstance" _) [_, .Name "bool" _] _ _) _ _ _; refine ex_isi (T := "bool") cn (gloL_ok gs (by decide +kernel)) fx.isi (gloL_ok gs (by decide +kernel)) fx.bool (by decide +kernel) ?_)
    | (show EX _ _ _ (.Call (.Name "isinstance" _) [_, .Name "str" _] _ _) _ _ _; refine ex_isi (T := "str") cn (gloL_ok gs (by decide +kernel)) fx.isi (gloL_ok gs (by decide +kernel)) fx.str (by decide +kernel) ?_)
    | (show EX _ _ _ (.Call (.Name "isinstance" _) [_, .Name "tuple" _] _ _) _ _ _; refine ex_isi (T := "tuple") cn (gloL_ok gs (by decide +kernel)) fx.isi (gloL_ok gs (by decide +kernel)) fx.tuple (by decide +kernel) ?_)
    | (show EX _ _ _ (.Call (.Name "isinstance" _) [_, .Name "list" _] _ _) _ _ _; refine ex_isi (T := "list") cn (gloL_ok gs (by decide +kernel)) fx.isi (gloL_ok gs (by decide +kernel)) fx.list (by decide +kernel) ?_)
    | (show EX _ _ _ (.Call (.Name "isinstance" _) [_, .Name "dict" _] _ _) _ _ _; refine ex_isi (T := "dict") cn (gloL_ok gs (by decide +kernel)) fx.isi (gloL_ok gs (by decide +kernel)) fx.dict (by decide +kernel) ?_)
    | (show EX _ _ _ (.Call (.Name "str" _) _ _ _) _ _ _; refine ex_strc cn (gloL_ok gs (by decide +kernel)) fx.str ?_)
    | (show EX _ _ _ (.Call (.Name _ _) (_ :: _) [] _) _ _ _; refine ex_call cn (gloL_ok gs (by decide +kernel)) (by assumption) (by decide) ?_)
    | refine ex_len cn (gloL_ok gs (by decide +kernel)) fx.len ?_ | refine ex_abs cn (gloL_ok gs (by decide +kernel)) fx.abs ?_ | refine ex_intc cn (gloL_ok gs (by decide +kernel)) fx.int ?_)
local macro_rules
  | `(tactic| walk_at "e") => `(tactic| first
    | (show EX _ _ _ (.Name _ _) _ _ _; walk_at "name")
    | (show EX _ _ _ (.Constant _ _ _) _ _ _; first | refine ex_int ?_ | refine ex_str ?_ | refine ex_bl ?_ | refine ex_non ?_)
    | (show EX _ _ _ (.BinOp _ _ _ _) _ _ _; first | refine ex_add ?_ | refine ex_sub ?_ | refine ex_mul ?_ | refine ex_mod ?_ | refine ex_div ?_ | refine ex_pow ?_)
    | (show EX _ _ _ (.Subscript _ (.Slice _ _ none _) _) _ _ _; refine ex_slice ?_)
    | (show EX _ _ _ (.Subscript _ _ _) _ _ _; refine ex_ix (fun _ _ => rfl) ?_)
    | (show PX _ _ _ none _ _ _; refine px_none ?_)
    | (show PX _ _ _ (some _) _ _ _; refine px_some ?_)
    | (show EX _ _ _ (.Call _ _ _ _) _ _ _; walk_at "call")
    | (show EX _ _ _ (.Compare _ [.Is] _ _) _ _ _; refine ex_isN ?_)
    | (show EX _ _ _ (.Compare _ [_] _ _) _ _ _; first | refine ex_lt ?_ | refine ex_le ?_ | refine ex_gt ?_ | refine ex_ge ?_ | refine ex_eq cn ?_ | refine ex_ne cn ?_)
    | (show EX _ _ _ (.Compare _ [.Is] _ _) _ _ _; refine ex_isN ?_)
    | (show TX _ _ _ (.Compare _ [.In] _ _) _ _ _; refine tx_in (by rfl) ?_)
    | (show TX _ _ _ (.Compare _ [.Is] _ _) _ _ _; refine tx_isN ?_)
    | (show TX _ _ _ (.Compare _ [_] _ _) _ _ _; first | refine tx_lt ?_ | refine tx_le ?_ | refine tx_gt ?_ | refine tx_ge ?_ | refine tx_eq cn ?_ | refine tx_ne cn ?_)
    | (show TX _ _ _ (.Call _ _ _ _) _ _ _; refine tx_val ?_)
    | (show TX _ _ _ (.Name _ _) _ _ _; refine tx_val ?_)
    | (show TX _ _ _ (.UnaryOp _ _ _) _ _ _; refine tx_not ?_)
    | (show TX _ _ _ (.BoolOp _ _ _) _ _ _; refine tx_bool ?_)
    | (show TW _ _ _ (.BoolOp _ [_] _) _ _ _; first | refine tw_and1 ?_ | refine tw_or1 ?_)
    | (show TW _ _ _ (.BoolOp _ _ _) _ _ _; first | refine tw_and ?_ | refine tw_or ?_)
    | (show AX _ _ _ [] _ _ _; refine ax_nil ?_)
    | (show AX _ _ _ (_ :: _) _ _ _; refine ax_cons ?_)
    | (show EX _ _ _ (.Tuple _ _ _) _ _ _; refine ex_tup ?_)
    | (show EX _ _ _ (.List _ _) _ _ _; refine ex_lst ?_)
    | (show EX _ _ _ (.IfExp _ _ _ _) _ _ _; refine ex_if ?_)
    | (show EX _ _ _ (.UnaryOp _ _ _) _ _ _; first | refine ex_neg ?_ | refine ex_not ?_)
    | (show EX _ _ _ (.BoolOp _ [_] _) _ _ _; refine ex_one ?_)
    | (show EX _ _ _ (.BoolOp _ _ _) _ _ _; first | refine ex_and ?_ | refine ex_or ?_)
    | (show SX _ _ _ [] _ _ _; refine sx_nil ?_)
    | (show SX _ _ _ [_] _ _ _; refine sx_one ?_)
    | (show SX _ _ _ (_ :: _) _ _ _; refine sx_cons ?_)
    | (show S1 _ _ _ (.Return (some _) _) _ _ _; refine s_ret ?_)
    | (show S1 _ _ _ (.If _ _ _ _) _ _ _; refine s_if ?_)
    | (show S1 _ _ _ (.Assign [.Name _ _] _ _) _ _ _; walk_at "sset")
    | (show SX _ _ _ (defBody _) _ _ _; first | refine sx_cons ?_ | refine sx_one ?_))
local macro_rules
  | `(tactic| walk_at "sset") => `(tactic| first
    | refine s_set (i := 0) cn (by rfl) (locL_ok ls (by decide +kernel)) ?_ | refine s_set (i := 1) cn (by rfl) (locL_ok ls (by decide +kernel)) ?_ | refine s_set (i := 2) cn (by rfl) (locL_ok ls (by decide +kernel)) ?_ | refine s_set (i := 3) cn (by rfl) (locL_ok ls (by decide +kernel)) ?_ | refine s_set (i := 4) cn (by rfl) (locL_ok ls (by decide +kernel)) ?_ | refine s_set (i := 5) cn (by rfl) (locL_ok ls (by decide +kernel)) ?_ | refine s_set (i := 6) cn (by rfl) (locL_ok ls (by decide +kernel)) ?_ | refine s_set (i := 7) cn (by rfl) (locL_ok ls (by decide +kernel)) ?_ | refine s_set (i := 8) cn (by rfl) (locL_ok ls (by decide +kernel)) ?_ | refine s_set (i := 9) cn (by rfl) (locL_ok ls (by decide +kernel)) ?_)
local macro_rules
  | `(tactic| walk_at "l") => `(tactic| first
    | (show RO _ _ _ _ _ _; first | refine add_int ?_ | refine lt_int ?_ | refine le_int ?_ | refine gt_int ?_ | refine ge_int ?_ | refine eq_int ?_ | refine ne_int ?_ | refine eq_bl ?_ | refine ne_bl ?_ | refine eq_str ?_ | refine ne_str ?_)
    | refine ⟨_, _, isD_lst rfl, isD_tup rfl, ?_⟩
    | refine ⟨_, isD_lst rfl, ?_⟩ | refine ⟨_, isD_tup rfl, ?_⟩ | refine ⟨_, isD_dic rfl, ?_⟩ | refine ⟨_, isD_bl rfl, ?_⟩ | refine ⟨_, isD_int rfl, ?_⟩ | refine ⟨_, isD_str rfl, ?_⟩
    | refine ⟨fun _ => ?_, fun h => Bool.noConfusion (show true = false from h)⟩
    | refine ⟨fun h => Bool.noConfusion (show false = true from h), fun _ => ?_⟩
    | refine ⟨fun _ => ?_, fun h => Bool.noConfusion (show false = true from h)⟩
    | refine ⟨fun h => Bool.noConfusion (show true = false from h), fun _ => ?_⟩
    | (show ixD _ _ _; first | refine ix_lstA (by rfl) ?_ | refine ix_tupA (by rfl) ?_)
    | refine ⟨_, _, rfl, rfl, Or.inl (Or.inr (by decide)), ?_⟩
    | refine ⟨_, _, rfl, rfl, Or.inl (Or.inl ⟨by omega, by omega⟩), ?_⟩
    | refine ⟨_, _, rfl, rfl, Or.inl ⟨by decide, by decide⟩, ?_⟩
    | refine ⟨_, _, rfl, rfl, ⟨by decide, by decide, by first | omega | decide⟩, ?_⟩
    | refine ⟨_, _, rfl, rfl, (show _ ≠ _ by first | decide | omega), ?_⟩
    | refine ⟨_, _, rfl, rfl, ?_⟩
    | refine ⟨_, rfl, ?_⟩
    | refine Or.inl ⟨_, rfl, ?_⟩
    | refine ⟨(show _ ≤ 100000 from Nat.le_of_ble_eq_true (by rfl)), ?_⟩)
local macro_rules
  | `(tactic| walk_at "go") => `(tactic| repeat (first | walk_at "e" | walk_at "l"))
local macro_rules
  | `(tactic| walk_at "bset") => `(tactic| (refine bs_cons (E := E) ?_; first
    | refine b_set (E := E) (i := 1) cn (by rfl) (locL_ok ls (by decide +kernel)) ?_ | refine b_set (E := E) (i := 2) cn (by rfl) (locL_ok ls (by decide +kernel)) ?_ | refine b_set (E := E) (i := 3) cn (by rfl) (locL_ok ls (by decide +kernel)) ?_ | refine b_set (E := E) (i := 4) cn (by rfl) (locL_ok ls (by decide +kernel)) ?_))
local macro_rules
  | `(tactic| walk_at "bput") => `(tactic| (refine bs_cons (E := E) ?_; first
    | refine b_put (E := E) (k := 1) bg cn (by rfl) (visC_ok vs (by decide +kernel)) (by decide) (by decide) ?_ | refine b_put (E := E) (k := 2) bg cn (by rfl) (visC_ok vs (by decide +kernel)) (by decide) (by decide) ?_
    | refine b_put (E := E) (k := 3) bg cn (by rfl) (visC_ok vs (by decide +kernel)) (by decide) (by decide) ?_ | refine b_put (E := E) (k := 4) bg cn (by rfl) (visC_ok vs (by decide +kernel)) (by decide) (by decide) ?_))
local macro_rules
  | `(tactic| walk_at "gname") => `(tactic| first | refine gx_name (i := 0) cn (by rfl) (locL_ok ls (by decide +kernel)) ?_ | refine gx_name (i := 1) cn (by rfl) (locL_ok ls (by decide +kernel)) ?_ | refine gx_name (i := 2) cn (by rfl) (locL_ok ls (by decide +kernel)) ?_ | refine gx_name (i := 3) cn (by rfl) (locL_ok ls (by decide +kernel)) ?_ | refine gx_name (i := 4) cn (by rfl) (locL_ok ls (by decide +kernel)) ?_ | refine gx_name (i := 5) cn (by rfl) (locL_ok ls (by decide +kernel)) ?_ | refine gx_name (i := 6) cn (by rfl) (locL_ok ls (by decide +kernel)) ?_ | refine gx_name (i := 7) cn (by rfl) (locL_ok ls (by decide +kernel)) ?_ | refine gx_name (i := 8) cn (by rfl) (locL_ok ls (by decide +kernel)) ?_ | refine gx_name (i := 9) cn (by rfl) (locL_ok ls (by decide +kernel)) ?_)
/-- what is nearly a fraction -/
def nearM (a b : Int) (z : PySem.Str) (o : D) : List D := [.tup [.int a, .int b], .tup [.int (2 * a), .int (2 * b)], .tup [.int a, .int (-b)], .tup [.int (-a), .int b], .tup [.int a, .int 0], .tup [.int 0, .int b], .tup [.int 0, .int 1], .tup [.int 0, .int (-1)], .lst [.int a, .int b], .tup [.int a, .int b, .int 1], .tup [.int a], .tup [.bl true, .int b], .tup [.int a, .bl true], .tup [.bl false, .int 1]] ++ [.tup [.int (a + b), .int b], .tup [.non, .int b], .tup [.str z, .int 1], .tup [.tup [.int a, .int b], .int 1], .int a, o]
def F_near : FSpec := fun W ds K Z => Bagged W ∧ ∃ a b : Int, ds = [.bag, .int a, .int b] ∧ 0 < b ∧ a.natAbs < 2 ^ 200 ∧ b.natAbs < 2 ^ 200 ∧ ∀ d, Ask d → K d
theorem near_ask {a b : Int} {z : PySem.Str} {o : D} (ho : Ask o) : ∀ d ∈ nearM a b z o, Ask d := fun d hd => by
  have h : ∀ d ∈ nearM a b z .non, Ask d := fun d hd => ask_of (List.all_eq_true.mp (show (nearM a b z .non).all askB = true from rfl) d hd)
  have e : nearM a b z o = (nearM a b z .non).dropLast ++ [o] := rfl
  rw [e] at hd
  rcases List.mem_append.mp hd with hd | hd
  · exact h d (List.dropLast_subset _ hd)
  · rcases List.mem_singleton.mp hd with rfl
    exact ho
theorem fn_near {G : Gb} (fx : Fx G) (fpick : Fn G "_law_pick" P_L_pick 5 F_pick) (fodd : Fn G "_law_odd" P_L_odd 6 F_odd) (pk : Pk G "_law_near" d_L_near) : Fn G "_law_near" P_L_near 7 F_near := by
  obtain ⟨f, fd0, FD, hm⟩ := pk.ex
  refine fn_intro (N := N_L_near) FD sc_L_near hm (bd_L_near FD) (fun W ds Kc Z h => ?_) fun X E cn df po W ds Kc Z h => ?_
  · obtain ⟨_, _, _, rfl, _⟩ := h
    rfl
  · obtain ⟨bg, a, b, rfl, b0, ha, hb, hK⟩ := h
    have gs := gs_L_near
    have vs := vs_L_near
    have ls := ls_L_near
    obtain ⟨bn, rfl⟩ := Int.eq_ofNat_of_zero_le (show 0 ≤ b by omega)
    walk_at "go"
    refine ⟨Nat.lt_of_lt_of_le hb (Nat.pow_le_pow_right (by decide) (by decide)), fun z hz _ => ?_⟩
    walk_at "go"
    refine ⟨by omega, ?_⟩
    walk_at "go"
    refine ⟨bg, rfl, fun i i0 i1 o ho => ?_⟩
    walk_at "go"
    refine add_lst (by simp) ?_
    refine ax_nil ?_
    refine pick_lst bg ⟨by simp, by simp⟩ ?_
    exact fun d hd => hK d (near_ask (odd_ask o ho) d hd)
end K02

set_option Elab.async false
set_option linter.all false
set_option maxRecDepth 100000
set_option maxHeartbeats 4000000
namespace K02
open PySem PySem.Spec PyProof.Rows L2 DX
set_option hygiene false
local macro_rules
  | `(tactic| walk_at "name") => `(tactic| first | refine ex_name (i := 0) cn (by rfl) (visC_ok vs (by decide +kernel)) (by rfl) ?_ | refine ex_name (i := 1) cn (by rfl) (visC_ok vs (by decide +kernel)) (by rfl) ?_ | refine ex_name (i := 2) cn (by rfl) (visC_ok vs (by decide +kernel)) (by rfl) ?_ | refine ex_name (i := 3) cn (by rfl) (visC_ok vs (by decide +kernel)) (by rfl) ?_ | refine ex_name (i := 4) cn (by rfl) (visC_ok vs (by decide +kernel)) (by rfl) ?_ | refine ex_name (i := 5) cn (by rfl) (visC_ok vs (by decide +kernel)) (by rfl) ?_ | refine ex_name (i := 6) cn (by rfl) (visC_ok vs (by decide +kernel)) (by rfl) ?_ | refine ex_name (i := 7) cn (by rfl) (visC_ok vs (by decide +kernel)) (by rfl) ?_ | refine ex_name (i := 8) cn (by rfl) (visC_ok vs (by decide +kernel)) (by rfl) ?_ | refine ex_name (i := 9) cn (by rfl) (visC_ok vs (by decide +kernel)) (by rfl) ?_ | refine ex_name (i := 10) cn (by rfl) (visC_ok vs (by decide +kernel)) (by rfl) ?_ | refine ex_name (i := 11) cn (by rfl) (visC_ok vs (by decide +kernel)) (by rfl) ?_ | refine ex_name (i := 12) cn (by rfl) (visC_ok vs (by decide +kernel)) (by rfl) ?_ | refine ex_name (i := 13) cn (by rfl) (visC_ok vs (by decide +kernel)) (by rfl) ?_ | refine ex_name (i := 14) cn (by rfl) (visC_ok vs (by decide +kernel)) (by rfl) ?_ | refine ex_name (i := 15) cn (by rfl) (visC_ok vs (by decide +kernel)) (by rfl) ?_)
local macro_rules
  | `(tactic| walk_at "call") => `(tactic| first
    | (show EX _ _ _ (.Call (.Name "ratio" _) [_] [] _) _ _ _; refine ex_callD cn (gloL_ok gs (by decide +kernel)) fratioB (by decide) ?_)
    | (show EX _ _ _ (.Call (.Name "ratio" _) [] [_] _) _ _ _; refine ex_kw1 cn (gloL_ok gs (by decide +kernel)) fratioK1 (by decide) ?_)
    | (show EX _ _ _ (.Call (.Name "ratio" _) [] [_, _] _) _ _ _; refine ex_kw2 cn (gloL_ok gs (by decide +kernel)) fratioK2 (by decide) ?_)
    | (show EX _ _ _ (.Call (.Name "total" _) [] [] _) _ _ _; refine ex_callS0 cn (gloL_ok gs (by decide +kernel)) ftotal (by decide) ?_)
    | (show EX _ _ _ (.Call (.Name "total" _) (_ :: _) [] _) _ _ _; refine ex_callS cn (gloL_ok gs (by decide +kernel)) ftotal (by decide) ?_)
    | (show EX _ _ _ (.Call (.Name "_law_draw" _) _ _ _) _ _ _; refine ex_call cn (gloL_ok gs (by decide +kernel)) fdraw (by decide) ?_)
    | (show EX _ _ _ (.Call (.Name "_law_gcd" _) _ _ _) _ _ _; refine ex_call cn (gloL_ok gs (by decide +kernel)) flgcd (by decide) ?_)
    | (show EX _ _ _ (.Call (.Name "_law_low" _) _ _ _) _ _ _; refine ex_call cn (gloL_ok gs (by decide +kernel)) flow (by decide) ?_)
    | (show EX _ _ _ (.Call (.Name "is_integer_value" _) _ _ _) _ _ _; refine ex_call cn (gloL_ok gs (by decide +kernel)) fiiv (by decide) ?_)
    | (show EX _ _ _ (.Call (.Name "_law_int" _) _ _ _) _ _ _; refine ex_call cn (gloL_ok gs (by decide +kernel)) fint (by decide) ?_)
    | (show EX _ _ _ (.Call (.Name "all" _) _ _ _) _ _ _; refine ex_allc cn (gloL_ok gs (by decide +kernel)) fx.all ?_)
    | (show EX _ _ _ (.Call (.Name "_law_is_fraction" _) _ _ _) _ _ _; refine ex_call cn (gloL_ok gs (by decide +kernel)) flisf (by decide) ?_)
    | (show EX _ _ _ (.Call (.Name "_law_worth" _) _ _ _) _ _ _; refine ex_call cn (gloL_ok gs (by decide +kernel)) fworth (by decide) ?_)
    | (show EX _ _ _ (.Call (.Name "ratio" _) _ _ _) _ _ _; refine ex_call cn (gloL_ok gs (by decide +kernel)) fratio (by decide) ?_)
    | (show EX _ _ _ (.Call (.Name "gcd" _) _ _ _) _ _ _; refine ex_gcd cn (gloL_ok gs (by decide +kernel)) fx.gcd ?_)
    | (show EX _ _ _ (.Call (.Name "min" _) _ _ _) _ _ _; refine ex_min2 cn (gloL_ok gs (by decide +kernel)) fx.min ?_)
    | (show EX _ _ _ (.Call (.Name "_law_pick" _) _ _ _) _ _ _; refine ex_call cn (gloL_ok gs (by decide +kernel)) fpick (by decide) ?_)
    | (show EX _ _ _ (.Call (.Name "_law_huge" _) _ _ _) _ _ _; refine ex_call cn (gloL_ok gs (by decide +kernel)) fhuge (by decide) ?_)
    | (show EX _ _ _ (.Call (.Name "_law_number" _) _ _ _) _ _ _; refine ex_call cn (gloL_ok gs (by decide +kernel)) fnumber (by decide) ?_)
    | (show EX _ _ _ (.Call (.Name "isinstance" _) [_, .Tuple [.Name "list" _, .Name "tuple" _] _ _] _ _) _ _ _; refine ex_isi2 (T := "list") (U := "tuple") cn (gloL_ok gs (by decide +kernel)) fx.isi (gloL_ok gs (by decide +kernel)) fx.list (by decide +kernel) (gloL_ok gs (by decide +kernel)) fx.tuple (by decide +kernel) ?_)
    | (show EX _ _ _ (.Call (.Name "isinstance" _) [_, .Name "int" _] _ _) _ _ _; refine ex_isi (T := "int") cn (gloL_ok gs (by decide +kernel)) fx.isi (gloL_ok gs (by decide +kernel)) fx.int (by decide +kernel) ?_)
    | (show EX _ _ _ (.Call (.Name "isinstance" _) [_, .Name "bool" _] _ _) _ _ _; refine ex_isi (T := "bool") cn (gloL_ok gs (by decide +kernel)) fx.isi (gloL_ok gs (by decide +kernel)) fx.bool (by decide +kernel) ?_)
    | (show EX _ _ _ (.Call (.Name "isinstance" _) [_, .Name "str" _] _ _) _ _ _; refine ex_isi (T := "str") cn (gloL_ok gs (by decide +kernel)) fx.isi (gloL_ok gs (by decide +kernel)) fx.str (by decide +kernel) ?_)
    | (show EX _ _ _ (.Call (.Name "isinstance" _) [_, .Name "tuple" _] _ _) _ _ _; refine ex_isi (T := "tuple") cn (gloL_ok gs (by decide +kernel)) fx.isi (gloL_ok gs (by decide +kernel)) fx.tuple (by decide +kernel) ?_)
    | (show EX _ _ _ (.Call (.Name "isinstance" _) [_, .Name "list" _] _ _) _ _ _; refine ex_isi (T := "list") cn (gloL_ok gs (by decide +kernel)) fx.isi (gloL_ok gs (by decide +kernel)) fx.list (by decide +kernel) ?_)
    | (show EX _ _ _ (.Call (.Name "isinstance" _) [_, .Name "dict" _] _ _) _ _ _; refine ex_isi (T := "dict") cn (gloL_ok gs (by decide +kernel)) fx.isi (gloL_ok gs (by decide +kernel)) fx.dict (by decide +kernel) ?_)
    | (show EX _ _ _ (.Call (.Name "str" _) _ _ _) _ _ _; refine ex_strc cn (gloL_ok gs (by decide +kernel)) fx.str ?_)
    | (show EX _ _ _ (.Call (.Name _ _) (_ :: _) [] _) _ _ _; refine ex_call cn (gloL_ok gs (by decide +kernel)) (by assumption) (by decide) ?_)
    | refine ex_len cn (gloL_ok gs (by decide +kernel)) fx.len ?_ | refine ex_abs cn (gloL_ok gs (by decide +kernel)) fx.abs ?_ | refine ex_intc cn (gloL_ok gs (by decide +kernel)) fx.int ?_)
local macro_rules
  | `(tactic| walk_at "e") => `(tactic| first
    | (show EX _ _ _ (.Name _ _) _ _ _; walk_at "name")
    | (show EX _ _ _ (.Constant _ _ _) _ _ _; first | refine ex_int ?_ | refine ex_str ?_ | refine ex_bl ?_ | refine ex_non ?_)
    | (show EX _ _ _ (.BinOp _ _ _ _) _ _ _; first | refine ex_add ?_ | refine ex_sub ?_ | refine ex_mul ?_ | refine ex_mod ?_ | refine ex_div ?_ | refine ex_pow ?_)
    | (show EX _ _ _ (.Subscript _ (.Slice _ _ none _) _) _ _ _; refine ex_slice ?_)
    | (show EX _ _ _ (.Subscript _ _ _) _ _ _; refine ex_ix (fun _ _ => rfl) ?_)
    | (show PX _ _ _ none _ _ _; refine px_none ?_)
    | (show PX _ _ _ (some _) _ _ _; refine px_some ?_)
    | (show EX _ _ _ (.Call _ _ _ _) _ _ _; walk_at "call")
    | (show EX _ _ _ (.Compare _ [.Is] _ _) _ _ _; refine ex_isN ?_)
    | (show EX _ _ _ (.Compare _ [_] _ _) _ _ _; first | refine ex_lt ?_ | refine ex_le ?_ | refine ex_gt ?_ | refine ex_ge ?_ | refine ex_eq cn ?_ | refine ex_ne cn ?_)
    | (show EX _ _ _ (.Compare _ [.Is] _ _) _ _ _; refine ex_isN ?_)
    | (show TX _ _ _ (.Compare _ [.In] _ _) _ _ _; refine tx_in (by rfl) ?_)
    | (show TX _ _ _ (.Compare _ [.Is] _ _) _ _ _; refine tx_isN ?_)
    | (show TX _ _ _ (.Compare _ [_] _ _) _ _ _; first | refine tx_lt ?_ | refine tx_le ?_ | refine tx_gt ?_ | refine tx_ge ?_ | refine tx_eq cn ?_ | refine tx_ne cn ?_)
    | (show TX _ _ _ (.Call _ _ _ _) _ _ _; refine tx_val ?_)
    | (show TX _ _ _ (.Name _ _) _ _ _; refine tx_val ?_)
    | (show TX _ _ _ (.UnaryOp _ _ _) _ _ _; refine tx_not ?_)
    | (show TX _ _ _ (.BoolOp _ _ _) _ _ _; refine tx_bool ?_)
    | (show TW _ _ _ (.BoolOp _ [_] _) _ _ _; first | refine tw_and1 ?_ | refine tw_or1 ?_)
    | (show TW _ _ _ (.BoolOp _ _ _) _ _ _; first | refine tw_and ?_ | refine tw_or ?_)
    | (show AX _ _ _ [] _ _ _; refine ax_nil ?_)
    | (show AX _ _ _ (_ :: _) _ _ _; refine ax_cons ?_)
    | (show EX _ _ _ (.Tuple _ _ _) _ _ _; refine ex_tup ?_)
    | (show EX _ _ _ (.List _ _) _ _ _; refine ex_lst ?_)
    | (show EX _ _ _ (.IfExp _ _ _ _) _ _ _; refine ex_if ?_)
    | (show EX _ _ _ (.UnaryOp _ _ _) _ _ _; first | refine ex_neg ?_ | refine ex_not ?_)
    | (show EX _ _ _ (.BoolOp _ [_] _) _ _ _; refine ex_one ?_)
    | (show EX _ _ _ (.BoolOp _ _ _) _ _ _; first | refine ex_and ?_ | refine ex_or ?_)
    | (show SX _ _ _ [] _ _ _; refine sx_nil ?_)
    | (show SX _ _ _ [_] _ _ _; refine sx_one ?_)
    | (show SX _ _ _ (_ :: _) _ _ _; refine sx_cons ?_)
    | (show S1 _ _ _ (.Return (some _) _) _ _ _; refine s_ret ?_)
    | (show S1 _ _ _ (.If _ _ _ _) _ _ _; refine s_if ?_)
    | (show S1 _ _ _ (.Assign [.Name _ _] _ _) _ _ _; walk_at "sset")
    | (show S1 _ _ _ (.Assign [.Tuple _ _ _] (.Name _ _) _) _ _ _; refine s_asg ?_)
    | (show GX _ _ (.Tuple _ _ _) _ _ _; refine gx_tup cn ?_)
    | (show GXs _ _ [] _ _ _; refine gxs_nil ?_)
    | (show GXs _ _ (_ :: _) _ _ _; refine gxs_cons ?_)
    | (show GX _ _ (.Name _ _) _ _ _; walk_at "gname")
    | (show SX _ _ _ (defBody _) _ _ _; first | refine sx_cons ?_ | refine sx_one ?_))
local macro_rules
  | `(tactic| walk_at "sset") => `(tactic| first
    | refine s_set (i := 0) cn (by rfl) (locL_ok ls (by decide +kernel)) ?_ | refine s_set (i := 1) cn (by rfl) (locL_ok ls (by decide +kernel)) ?_ | refine s_set (i := 2) cn (by rfl) (locL_ok ls (by decide +kernel)) ?_ | refine s_set (i := 3) cn (by rfl) (locL_ok ls (by decide +kernel)) ?_ | refine s_set (i := 4) cn (by rfl) (locL_ok ls (by decide +kernel)) ?_ | refine s_set (i := 5) cn (by rfl) (locL_ok ls (by decide +kernel)) ?_ | refine s_set (i := 6) cn (by rfl) (locL_ok ls (by decide +kernel)) ?_ | refine s_set (i := 7) cn (by rfl) (locL_ok ls (by decide +kernel)) ?_ | refine s_set (i := 8) cn (by rfl) (locL_ok ls (by decide +kernel)) ?_ | refine s_set (i := 9) cn (by rfl) (locL_ok ls (by decide +kernel)) ?_ | refine s_set (i := 10) cn (by rfl) (locL_ok ls (by decide +kernel)) ?_ | refine s_set (i := 11) cn (by rfl) (locL_ok ls (by decide +kernel)) ?_ | refine s_set (i := 12) cn (by rfl) (locL_ok ls (by decide +kernel)) ?_ | refine s_set (i := 13) cn (by rfl) (locL_ok ls (by decide +kernel)) ?_ | refine s_set (i := 14) cn (by rfl) (locL_ok ls (by decide +kernel)) ?_ | refine s_set (i := 15) cn (by rfl) (locL_ok ls (by decide +kernel)) ?_)
local macro_rules
  | `(tactic| walk_at "l") => `(tactic| first
    | (show RO _ _ _ _ _ _; first | refine add_int ?_ | refine lt_int ?_ | refine le_int ?_ | refine gt_int ?_ | refine ge_int ?_ | refine eq_int ?_ | refine ne_int ?_ | refine eq_bl ?_ | refine ne_bl ?_ | refine eq_str ?_ | refine ne_str ?_)
    | refine ⟨_, _, isD_lst rfl, isD_tup rfl, ?_⟩
    | refine ⟨_, isD_lst rfl, ?_⟩ | refine ⟨_, isD_tup rfl, ?_⟩ | refine ⟨_, isD_dic rfl, ?_⟩ | refine ⟨_, isD_bl rfl, ?_⟩ | refine ⟨_, isD_int rfl, ?_⟩ | refine ⟨_, isD_str rfl, ?_⟩
    | refine ⟨fun _ => ?_, fun h => Bool.noConfusion (show true = false from h)⟩
    | refine ⟨fun h => Bool.noConfusion (show false = true from h), fun _ => ?_⟩
    | refine ⟨fun _ => ?_, fun h => Bool.noConfusion (show false = true from h)⟩
    | refine ⟨fun h => Bool.noConfusion (show true = false from h), fun _ => ?_⟩
    | (show ixD _ _ _; first | refine ix_lstA (by rfl) ?_ | refine ix_tupA (by rfl) ?_)
    | refine ⟨_, _, rfl, rfl, Or.inl (Or.inr (by decide)), ?_⟩
    | refine ⟨_, _, rfl, rfl, Or.inl (Or.inl ⟨by omega, by omega⟩), ?_⟩
    | refine ⟨_, _, rfl, rfl, Or.inl ⟨by decide, by decide⟩, ?_⟩
    | refine ⟨_, _, rfl, rfl, ⟨by decide, by decide, by first | omega | decide⟩, ?_⟩
    | refine ⟨_, _, rfl, rfl, (show _ ≠ _ by first | decide | omega), ?_⟩
    | refine ⟨_, _, rfl, rfl, ?_⟩
    | refine ⟨_, rfl, ?_⟩
    | refine Or.inl ⟨_, rfl, ?_⟩ | refine Or.inr ⟨_, rfl, ?_⟩
    | refine ⟨(show _ ≤ 100000 from Nat.le_of_ble_eq_true (by rfl)), ?_⟩)
local macro_rules
  | `(tactic| walk_at "go") => `(tactic| repeat (first | walk_at "e" | walk_at "l"))
local macro_rules
  | `(tactic| walk_at "bset") => `(tactic| (refine bs_cons (E := E) ?_; first
    | refine b_set (E := E) (i := 1) cn (by rfl) (locL_ok ls (by decide +kernel)) ?_ | refine b_set (E := E) (i := 2) cn (by rfl) (locL_ok ls (by decide +kernel)) ?_ | refine b_set (E := E) (i := 3) cn (by rfl) (locL_ok ls (by decide +kernel)) ?_ | refine b_set (E := E) (i := 4) cn (by rfl) (locL_ok ls (by decide +kernel)) ?_))
local macro_rules
  | `(tactic| walk_at "bput") => `(tactic| (refine bs_cons (E := E) ?_; first
    | refine b_put (E := E) (k := 1) bg cn (by rfl) (visC_ok vs (by decide +kernel)) (by decide) (by decide) ?_ | refine b_put (E := E) (k := 2) bg cn (by rfl) (visC_ok vs (by decide +kernel)) (by decide) (by decide) ?_
    | refine b_put (E := E) (k := 3) bg cn (by rfl) (visC_ok vs (by decide +kernel)) (by decide) (by decide) ?_ | refine b_put (E := E) (k := 4) bg cn (by rfl) (visC_ok vs (by decide +kernel)) (by decide) (by decide) ?_))
local macro_rules
  | `(tactic| walk_at "gname") => `(tactic| first | refine gx_name (i := 0) cn (by rfl) (locL_ok ls (by decide +kernel)) ?_ | refine gx_name (i := 1) cn (by rfl) (locL_ok ls (by decide +kernel)) ?_ | refine gx_name (i := 2) cn (by rfl) (locL_ok ls (by decide +kernel)) ?_ | refine gx_name (i := 3) cn (by rfl) (locL_ok ls (by decide +kernel)) ?_ | refine gx_name (i := 4) cn (by rfl) (locL_ok ls (by decide +kernel)) ?_ | refine gx_name (i := 5) cn (by rfl) (locL_ok ls (by decide +kernel)) ?_ | refine gx_name (i := 6) cn (by rfl) (locL_ok ls (by decide +kernel)) ?_ | refine gx_name (i := 7) cn (by rfl) (locL_ok ls (by decide +kernel)) ?_ | refine gx_name (i := 8) cn (by rfl) (locL_ok ls (by decide +kernel)) ?_ | refine gx_name (i := 9) cn (by rfl) (locL_ok ls (by decide +kernel)) ?_ | refine gx_name (i := 10) cn (by rfl) (locL_ok ls (by decide +kernel)) ?_ | refine gx_name (i := 11) cn (by rfl) (locL_ok ls (by decide +kernel)) ?_ | refine gx_name (i := 12) cn (by rfl) (locL_ok ls (by decide +kernel)) ?_ | refine gx_name (i := 13) cn (by rfl) (locL_ok ls (by decide +kernel)) ?_ | refine gx_name (i := 14) cn (by rfl) (locL_ok ls (by decide +kernel)) ?_ | refine gx_name (i := 15) cn (by rfl) (locL_ok ls (by decide +kernel)) ?_ | refine gx_namec (i := 0) cn df (by rfl) (by decide +kernel) ?_ | refine gx_namec (i := 1) cn df (by rfl) (by decide +kernel) ?_ | refine gx_namec (i := 2) cn df (by rfl) (by decide +kernel) ?_ | refine gx_namec (i := 3) cn df (by rfl) (by decide +kernel) ?_ | refine gx_namec (i := 4) cn df (by rfl) (by decide +kernel) ?_ | refine gx_namec (i := 5) cn df (by rfl) (by decide +kernel) ?_ | refine gx_namec (i := 6) cn df (by rfl) (by decide +kernel) ?_ | refine gx_namec (i := 7) cn df (by rfl) (by decide +kernel) ?_ | refine gx_namec (i := 8) cn df (by rfl) (by decide +kernel) ?_ | refine gx_namec (i := 9) cn df (by rfl) (by decide +kernel) ?_ | refine gx_namec (i := 10) cn df (by rfl) (by decide +kernel) ?_ | refine gx_namec (i := 11) cn df (by rfl) (by decide +kernel) ?_ | refine gx_namec (i := 12) cn df (by rfl) (by decide +kernel) ?_ | refine gx_namec (i := 13) cn df (by rfl) (by decide +kernel) ?_ | refine gx_namec (i := 14) cn df (by rfl) (by decide +kernel) ?_ | refine gx_namec (i := 15) cn df (by rfl) (by decide +kernel) ?_)
theorem fdivL {g k : Int} (h : g ≠ 0) : (g * k).fdiv g = k := by
  rw [Int.mul_comm]; exact Int.mul_fdiv_cancel _ h
/-- a ratio in lowest terms -/
theorem rat_ok {n m : Int} {k : Nat} (m0 : m ≠ 0) (hn : n.natAbs < 2 ^ k) (hm : m.natAbs < 2 ^ k) : ∃ x y, rat n m = .tup [.int x, .int y] ∧ SmallF k (x, y) ∧ x * m = n * y := by
  obtain ⟨a, b, e1, e2, e3, e4, e5⟩ := low_T (n := n) (m := m) m0
  have g0 := gcd_ne (n := n) (m := m) m0
  unfold rat sg
  generalize Nat.gcd n.natAbs m.natAbs = g at *
  have gz : (g : Int) ≠ 0 := by omega
  have a1 : n.natAbs = g * a.natAbs := by rw [e1, Int.natAbs_mul, Int.natAbs_natCast]
  have a2 : m.natAbs = g * b.natAbs := by rw [e2, Int.natAbs_mul, Int.natAbs_natCast]
  have b1 : a.natAbs ≤ n.natAbs := by rw [a1]; exact Nat.le_mul_of_pos_left _ (Nat.pos_of_ne_zero g0)
  have b2 : b.natAbs ≤ m.natAbs := by rw [a2]; exact Nat.le_mul_of_pos_left _ (Nat.pos_of_ne_zero g0)
  by_cases hneg : m < 0
  · rw [if_pos hneg]
    have f1 : n.fdiv (-(g : Int)) = -a := by
      have : n = (-(g : Int)) * (-a) := by rw [Int.neg_mul_neg]; exact e1
      rw [this]; exact fdivL (by omega)
    have f2 : m.fdiv (-(g : Int)) = -b := by
      have : m = (-(g : Int)) * (-b) := by rw [Int.neg_mul_neg]; exact e2
      rw [this]; exact fdivL (by omega)
    have bneg : b < 0 := by
      rcases Int.lt_trichotomy b 0 with h | h | h
      · exact h
      · subst h; simp at e2; omega
      · have := Int.mul_pos (show (0 : Int) < g by omega) h
        omega
    refine ⟨-a, -b, by rw [f1, f2], ⟨⟨show 0 < -b by omega, by rw [Int.natAbs_neg, Int.natAbs_neg]; exact e5⟩, ?_, ?_⟩, ?_⟩
    · show (-a).natAbs < _
      rw [Int.natAbs_neg]; omega
    · show (-b).natAbs < _
      rw [Int.natAbs_neg]; omega
    · rw [e1, e2]; grind
  · rw [if_neg hneg]
    have bpos : 0 < b := by
      rcases Int.lt_trichotomy b 0 with h | h | h
      · have := Int.mul_neg_of_pos_of_neg (show (0 : Int) < g by omega) h
        omega
      · subst h; simp at e2; omega
      · exact h
    refine ⟨a, b, by rw [e3, e4], ⟨⟨bpos, e5⟩, ?_, ?_⟩, ?_⟩
    · show a.natAbs < _
      omega
    · show b.natAbs < _
      omega
    · rw [e1, e2]; grind
theorem up6 {a k : Nat} (hk : k ≤ 6000) (h : a < 2 ^ k) : a < 2 ^ 6000 := Nat.lt_of_lt_of_le h (Nat.pow_le_pow_right (by decide) hk)
theorem worth_of {W : Wd} {K : D → Prop} {Z : ZK} {x y n m : Int} {k j : Nat} (sm : SmallF k (x, y)) (hk : k ≤ 6000) (hj : j ≤ 6000) (hn : n.natAbs < 2 ^ j) (hm : m.natAbs < 2 ^ j) (he : x * m = n * y) (hK : K (.bl true)) : F_worth W [.tup [.int x, .int y], .int n, .int m] K Z :=
  ⟨x, y, n, m, rfl, sm.1, up6 hk sm.2.1, up6 hk sm.2.2, up6 hj hn, up6 hj hm, he, hK⟩
def F_ratio_so (T : List (Addr × PySem.Str)) : FSpec := fun W ds K Z => Bagged W ∧ TabW W T ∧ ds = [.bag] ∧ K (.bl true)
theorem lb_of {G : Gb} {C : Addr} {cN cM : Value} {m : Nat} {v : D} {c : PySem.Str} (ef : DX.ErrF G C "value" cN cM) (hc : c = "InvalidNumber" ∨ c = "InvalidFraction") (hs : Smp m (.tup [.str c, v])) : LB G m (.tup [.str c, v]) cN cM C ["code", "value"] [.str c, v] :=
  ⟨ef.any, v, c, look_c, look_n (by decide +kernel), hc, ef.fc, ef.fv, rfl, hs⟩
theorem fn_ratio_so {G : Gb} {C : Addr} {T : List (Addr × PySem.Str)} {cN cM : Value} (fx : Fx G) (ef : DX.ErrF G C "value" cN cM) (hN : G.mg "NetError" = some cN) (hM : G.mg "Missing" = some cM) (pkis : Pk G "_law_is" d_L_is) (pkgot : Pk G "_law_got" d_L_got) (fsame : Fn G "_law_same" P_L_same 4 (F_same 1)) (ffields : FnX G "_law_fields" "_law_e" (F_fields G))
    (fnumber : Fn G "_law_number" P_L_number 7 F_number) (fratio : Fn G "ratio" P_ratio 3 (F_ratio C)) (fratioB : FnB G "ratio" P_ratio 3 (F_ratio C) [.int 1]) (fratioK2 : FnK G "ratio" P_ratio 3 (F_ratio C) ["under", "over"] (fun ds => ds.reverse)) (fratioK1 : FnK G "ratio" P_ratio 3 (F_ratio C) ["over"] (fun ds => ds ++ [.int 1]))
    (fworth : Fn G "_law_worth" P_L_worth 4 F_worth) (pk : DX.PkC G T "_law_ratio_so" d_L_ratio_so) : Fn G "_law_ratio_so" P_L_ratio_so 8 (F_ratio_so T) := by
  obtain ⟨f, fd0, c, P, FD, hm, hcode, mk⟩ := pk.ex
  refine fn_introC (N := N_L_ratio_so) FD sc_L_ratio_so hm (bd_L_ratio_so FD) (fun W ds Kc Z h => ?_) fun X E cn df po hq hc W ds Kc Z h => ?_
  · obtain ⟨_, _, rfl, _⟩ := h
    rfl
  · obtain ⟨bg, tw, rfl, hK⟩ := h
    rw [hcode] at hc
    have gs := gs_L_ratio_so
    have vs := vs_L_ratio_so
    have ls := ls_L_ratio_so
    refine sx_cons ?_
    refine s_asg (hw := by rw [swp_env cn.scp]; kernel_rfl) ?_
    walk_at "go"
    refine ⟨bg, _, rfl, by decide, by decide, fun n n0 n1 => ?_⟩
    walk_at "go"
    refine ⟨bg, _, rfl, by decide, by decide, fun m m0 m1 => ?_⟩
    walk_at "go"
    have nb : n.natAbs < 2 ^ 120 := by omega
    have mb : m.natAbs < 2 ^ 120 := by omega
    walk_at "go"
    refine ⟨fun h => ?_, fun h => ?_⟩
    · have h : m = 0 := of_decide_eq_true h
      subst h
      walk_at "go"
      refine ex_is (j := 4) (m := 1) fx pkis pkgot fsame ffields hN hM (by decide) cn df (gloL_ok gs (by decide +kernel)) tw mk hc hq (by decide +kernel) ?_ (fun _ _ _ _ => rfl) rfl rfl rfl rfl
      walk_at "go"
      refine ⟨fun X' E' cn' => ?_, ?_⟩
      · refine ex_call cn' (by decide +kernel) fratio (by decide) (ax_cons (ex_name (i := 1) cn' (by rfl) (by decide +kernel) (by rfl) (ax_cons (ex_name (i := 2) cn' (by rfl) (by decide +kernel) (by rfl) (ax_nil ?_)))))
        exact ⟨n, 0, rfl, by decide, fun z => absurd rfl z, fun _ => lb_of ef (.inl rfl) ⟨by simp, by simp [Smp]⟩⟩
      · walk_at "go"
        refine ⟨n, 1, rfl, by decide, fun _ => ?_, fun z => absurd z (by decide)⟩
        obtain ⟨x, y, e, sm, hv⟩ := rat_ok (n := n) (m := 1) (k := 120) (by decide) nb (by decide)
        rw [e]
        walk_at "go"
        refine worth_of sm (by decide) (by decide) nb (by decide) hv ?_
        walk_at "go"
        exact hK
    · have h : m ≠ 0 := of_decide_eq_false h
      obtain ⟨x, y, e, sm, hv⟩ := rat_ok (n := n) (m := m) (k := 120) h nb mb
      obtain ⟨x1, y1, e1, sm1, hv1⟩ := rat_ok (n := n) (m := 1) (k := 120) (by decide) nb (by decide)
      have mb8 : m.natAbs < 2 ^ 8000 := Nat.lt_of_lt_of_le mb (Nat.pow_le_pow_right (by decide) (by decide))
      walk_at "go"
      refine ⟨n, m, rfl, mb8, fun _ => ?_, fun z => absurd z h⟩
      rw [e]
      walk_at "go"
      refine worth_of sm (by decide) (by decide) nb mb hv ?_
      walk_at "go"
      refine ⟨n, m, rfl, mb8, fun _ => ?_, fun z => absurd z h⟩
      rw [e]
      walk_at "go"
      refine worth_of sm (by decide) (by decide) nb mb hv ?_
      walk_at "go"
      refine ⟨n, 1, rfl, by decide, fun _ => ?_, fun z => absurd z (by decide)⟩
      rw [e1]
      walk_at "go"
      refine worth_of sm1 (by decide) (by decide) nb (by decide) hv1 ?_
      walk_at "go"
      exact hK
def F_two_so (T : List (Addr × PySem.Str)) : FSpec := fun W ds K Z => TabW W T ∧ ∃ a b c d : Int, ds = [.tup [.int a, .int b], .tup [.int c, .int d]] ∧ SmallF 200 (a, b) ∧ SmallF 200 (c, d) ∧ K (.bl true)
theorem b400 {a b c d : Int} (ha : a.natAbs < 2 ^ 200) (hd : d.natAbs < 2 ^ 200) (hc : c.natAbs < 2 ^ 200) (hb : b.natAbs < 2 ^ 200) : (a * d + c * b).natAbs < 2 ^ 402 ∧ (a * d - c * b).natAbs < 2 ^ 402 ∧ (a * d).natAbs < 2 ^ 402 := by
  have h1 : (a * d).natAbs < 2 ^ 400 := wide_lt ha hd
  have h2 : (c * b).natAbs < 2 ^ 400 := wide_lt hc hb
  omega
theorem fn_two_so {G : Gb} {C1 C2 : Addr} {T : List (Addr × PySem.Str)} {cN cM : Value} (fx : Fx G) (ef : DX.ErrF G C2 "value" cN cM) (hN : G.mg "NetError" = some cN) (hM : G.mg "Missing" = some cM) (pkis : Pk G "_law_is" d_L_is) (pkgot : Pk G "_law_got" d_L_got) (fsame : ∀ m, Fn G "_law_same" P_L_same (m + 3) (F_same m)) (ffields : FnX G "_law_fields" "_law_e" (F_fields G))
    (fplus : Fn G "plus" P_plus 4 (F_two C1 fun a b c d => (a * d + c * b, b * d))) (fminus : Fn G "minus" P_minus 4 (F_two C1 fun a b c d => (a * d - c * b, b * d))) (ftimes : Fn G "times" P_times 4 (F_two C1 fun a b c d => (a * c, b * d))) (fdivided : Fn G "divided" P_divided 4 (F_divided C1 C2)) (fless : Fn G "is_less" P_is_less 2 F_less)
    (fworth : Fn G "_law_worth" P_L_worth 4 F_worth) (pk : DX.PkC G T "_law_two_so" d_L_two_so) : Fn G "_law_two_so" P_L_two_so 8 (F_two_so T) := by
  obtain ⟨f, fd0, c, P, FD, hm, hcode, mk⟩ := pk.ex
  refine fn_introC (N := N_L_two_so) FD sc_L_two_so hm (bd_L_two_so FD) (fun W ds Kc Z h => ?_) fun X E cn df po hq hc W ds Kc Z h => ?_
  · obtain ⟨_, _, _, _, _, rfl, _⟩ := h
    rfl
  · obtain ⟨tw, a, b, c', d, rfl, sp, sq, hK⟩ := h
    rw [hcode] at hc
    have gs := gs_L_two_so
    have vs := vs_L_two_so
    have ls := ls_L_two_so
    have fsame1 := fsame 1
    have ha := lt3 (k := 200) (by decide) sp.2.1
    have hb := lt3 (k := 200) (by decide) sp.2.2
    have hc3 := lt3 (k := 200) (by decide) sq.2.1
    have hd := lt3 (k := 200) (by decide) sq.2.2
    have b0 : 0 < b := sp.1.1
    have d0 : 0 < d := sq.1.1
    dsimp only at ha hb hc3 hd
    walk_at "go"
    have n0 : b * d ≠ 0 := Int.ne_of_gt (Int.mul_pos b0 d0)
    obtain ⟨s1, s2, s3⟩ := b400 sp.2.1 sq.2.2 sq.2.1 sp.2.2
    obtain ⟨_, _, s4⟩ := b400 sp.2.2 sq.2.2 sp.2.1 sq.2.1
    obtain ⟨_, _, s5⟩ := b400 sp.2.1 sq.2.1 sp.2.1 sq.2.1
    obtain ⟨_, _, s6⟩ := b400 sp.2.2 sq.2.1 sp.2.1 sq.2.1
    dsimp only at s1 s2 s3 s4 s5 s6
    obtain ⟨x1, y1, e1, sm1, hv1⟩ := rat_ok n0 s1 s4
    obtain ⟨x2, y2, e2, sm2, hv2⟩ := rat_ok n0 s2 s4
    obtain ⟨x3, y3, e3, sm3, hv3⟩ := rat_ok n0 s5 s4
    refine ⟨a, b, c', d, rfl, hb, hd, ha, hc3, n0, ?_⟩
    rw [e1]
    walk_at "go"
    refine ⟨mok ha hd, ?_⟩
    walk_at "go"
    refine ⟨mok hc3 hb, ?_⟩
    walk_at "go"
    refine ⟨mok hb hd, ?_⟩
    walk_at "go"
    refine worth_of sm1 (by decide) (by decide) s1 s4 hv1 ?_
    walk_at "go"
    refine ⟨a, b, c', d, rfl, hb, hd, ha, hc3, n0, ?_⟩
    rw [e2]
    walk_at "go"
    refine ⟨mok ha hd, ?_⟩
    walk_at "go"
    refine ⟨mok hc3 hb, ?_⟩
    walk_at "go"
    refine ⟨mok hb hd, ?_⟩
    walk_at "go"
    refine worth_of sm2 (by decide) (by decide) s2 s4 hv2 ?_
    walk_at "go"
    refine ⟨a, b, c', d, rfl, hb, hd, ha, hc3, n0, ?_⟩
    rw [e3]
    walk_at "go"
    refine ⟨mok ha hc3, ?_⟩
    walk_at "go"
    refine ⟨mok hb hd, ?_⟩
    walk_at "go"
    refine worth_of sm3 (by decide) (by decide) s5 s4 hv3 ?_
    walk_at "go"
    refine ⟨a, b, c', d, rfl, hb, hd, ha, hc3, ?_⟩
    walk_at "go"
    refine ⟨mok ha hd, ?_⟩
    walk_at "go"
    refine ⟨mok hc3 hb, ?_⟩
    walk_at "go"
    refine ⟨trivial, ?_⟩
    walk_at "go"
    refine ⟨fun h => ?_, fun h => ?_⟩
    · have h : c' = 0 := of_decide_eq_true h
      subst h
      have d1 : d = 1 := by
        have := sq.1.2
        dsimp only at this
        rw [Int.natAbs_zero, Nat.gcd_zero_left] at this
        omega
      subst d1
      walk_at "go"
      refine ex_is (j := 4) (m := 2) fx pkis pkgot (fsame 2) ffields hN hM (by decide) cn df (gloL_ok gs (by decide +kernel)) tw mk hc hq (by decide +kernel) ?_ (fun _ _ _ _ => rfl) rfl rfl rfl rfl
      walk_at "go"
      refine ⟨fun X' E' cn' => ?_, hK⟩
      refine ex_call cn' (by decide +kernel) fdivided (by decide) (ax_cons (ex_name (i := 0) cn' (by rfl) (by decide +kernel) (by rfl) (ax_cons (ex_name (i := 1) cn' (by rfl) (by decide +kernel) (by rfl) (ax_nil ?_)))))
      exact ⟨a, b, 0, 1, rfl, hb, hd, ha, hc3, b0, fun _ => ⟨rfl, lb_of ef (.inr rfl) ⟨by simp, by simp [Smp]⟩⟩, fun z => absurd rfl z⟩
    · have h : c' ≠ 0 := of_decide_eq_false h
      obtain ⟨x4, y4, e4, sm4, hv4⟩ := rat_ok (n := a * d) (m := b * c') (Int.mul_ne_zero (by omega) h) s3 s6
      walk_at "go"
      refine ⟨a, b, c', d, rfl, hb, hd, ha, hc3, b0, fun z => absurd z h, fun _ => ?_⟩
      rw [e4]
      walk_at "go"
      refine ⟨mok ha hd, ?_⟩
      walk_at "go"
      refine ⟨mok hb hc3, ?_⟩
      walk_at "go"
      exact worth_of sm4 (by decide) (by decide) s3 s6 hv4 hK
end K02

set_option Elab.async false
set_option linter.all false
set_option maxRecDepth 100000
set_option maxHeartbeats 4000000
namespace K02
open PySem PySem.Spec PyProof.Rows L2 DX
set_option hygiene false
local macro_rules
  | `(tactic| walk_at "name") => `(tactic| first | refine ex_name (i := 0) cn (by rfl) (visC_ok vs (by decide +kernel)) (by rfl) ?_ | refine ex_name (i := 1) cn (by rfl) (visC_ok vs (by decide +kernel)) (by rfl) ?_ | refine ex_name (i := 2) cn (by rfl) (visC_ok vs (by decide +kernel)) (by rfl) ?_ | refine ex_name (i := 3) cn (by rfl) (visC_ok vs (by decide +kernel)) (by rfl) ?_ | refine ex_name (i := 4) cn (by rfl) (visC_ok vs (by decide +kernel)) (by rfl) ?_ | refine ex_name (i := 5) cn (by rfl) (visC_ok vs (by decide +kernel)) (by rfl) ?_ | refine ex_name (i := 6) cn (by rfl) (visC_ok vs (by decide +kernel)) (by rfl) ?_ | refine ex_name (i := 7) cn (by rfl) (visC_ok vs (by decide +kernel)) (by rfl) ?_ | refine ex_name (i := 8) cn (by rfl) (visC_ok vs (by decide +kernel)) (by rfl) ?_ | refine ex_name (i := 9) cn (by rfl) (visC_ok vs (by decide +kernel)) (by rfl) ?_ | refine ex_name (i := 10) cn (by rfl) (visC_ok vs (by decide +kernel)) (by rfl) ?_ | refine ex_name (i := 11) cn (by rfl) (visC_ok vs (by decide +kernel)) (by rfl) ?_ | refine ex_name (i := 12) cn (by rfl) (visC_ok vs (by decide +kernel)) (by rfl) ?_ | refine ex_name (i := 13) cn (by rfl) (visC_ok vs (by decide +kernel)) (by rfl) ?_ | refine ex_name (i := 14) cn (by rfl) (visC_ok vs (by decide +kernel)) (by rfl) ?_ | refine ex_name (i := 15) cn (by rfl) (visC_ok vs (by decide +kernel)) (by rfl) ?_)
local macro_rules
  | `(tactic| walk_at "call") => `(tactic| first
    | (show EX _ _ _ (.Call (.Name "ratio" _) [_] [] _) _ _ _; refine ex_callD cn (gloL_ok gs (by decide +kernel)) fratioB (by decide) ?_)
    | (show EX _ _ _ (.Call (.Name "ratio" _) [] [_] _) _ _ _; refine ex_kw1 cn (gloL_ok gs (by decide +kernel)) fratioK1 (by decide) ?_)
    | (show EX _ _ _ (.Call (.Name "ratio" _) [] [_, _] _) _ _ _; refine ex_kw2 cn (gloL_ok gs (by decide +kernel)) fratioK2 (by decide) ?_)
    | (show EX _ _ _ (.Call (.Name "total" _) [] [] _) _ _ _; refine ex_callS0 cn (gloL_ok gs (by decide +kernel)) ftotal (by decide) ?_)
    | (show EX _ _ _ (.Call (.Name "total" _) (_ :: _) [] _) _ _ _; refine ex_callS cn (gloL_ok gs (by decide +kernel)) ftotal (by decide) ?_)
    | (show EX _ _ _ (.Call (.Name "_law_draw" _) _ _ _) _ _ _; refine ex_call cn (gloL_ok gs (by decide +kernel)) fdraw (by decide) ?_)
    | (show EX _ _ _ (.Call (.Name "_law_gcd" _) _ _ _) _ _ _; refine ex_call cn (gloL_ok gs (by decide +kernel)) flgcd (by decide) ?_)
    | (show EX _ _ _ (.Call (.Name "_law_low" _) _ _ _) _ _ _; refine ex_call cn (gloL_ok gs (by decide +kernel)) flow (by decide) ?_)
    | (show EX _ _ _ (.Call (.Name "is_integer_value" _) _ _ _) _ _ _; refine ex_call cn (gloL_ok gs (by decide +kernel)) fiiv (by decide) ?_)
    | (show EX _ _ _ (.Call (.Name "_law_int" _) _ _ _) _ _ _; refine ex_call cn (gloL_ok gs (by decide +kernel)) fint (by decide) ?_)
    | (show EX _ _ _ (.Call (.Name "all" _) _ _ _) _ _ _; refine ex_allc cn (gloL_ok gs (by decide +kernel)) fx.all ?_)
    | (show EX _ _ _ (.Call (.Name "_law_is_fraction" _) _ _ _) _ _ _; refine ex_call cn (gloL_ok gs (by decide +kernel)) flisf (by decide) ?_)
    | (show EX _ _ _ (.Call (.Name "_law_worth" _) _ _ _) _ _ _; refine ex_call cn (gloL_ok gs (by decide +kernel)) fworth (by decide) ?_)
    | (show EX _ _ _ (.Call (.Name "ratio" _) _ _ _) _ _ _; refine ex_call cn (gloL_ok gs (by decide +kernel)) fratio (by decide) ?_)
    | (show EX _ _ _ (.Call (.Name "gcd" _) _ _ _) _ _ _; refine ex_gcd cn (gloL_ok gs (by decide +kernel)) fx.gcd ?_)
    | (show EX _ _ _ (.Call (.Name "min" _) _ _ _) _ _ _; refine ex_min2 cn (gloL_ok gs (by decide +kernel)) fx.min ?_)
    | (show EX _ _ _ (.Call (.Name "_law_pick" _) _ _ _) _ _ _; refine ex_call cn (gloL_ok gs (by decide +kernel)) fpick (by decide) ?_)
    | (show EX _ _ _ (.Call (.Name "_law_huge" _) _ _ _) _ _ _; refine ex_call cn (gloL_ok gs (by decide +kernel)) fhuge (by decide) ?_)
    | (show EX _ _ _ (.Call (.Name "_law_number" _) _ _ _) _ _ _; refine ex_call cn (gloL_ok gs (by decide +kernel)) fnumber (by decide) ?_)
    | (show EX _ _ _ (.Call (.Name "isinstance" _) [_, .Tuple [.Name "list" _, .Name "tuple" _] _ _] _ _) _ _ _; refine ex_isi2 (T := "list") (U := "tuple") cn (gloL_ok gs (by decide +kernel)) fx.isi (gloL_ok gs (by decide +kernel)) fx.list (by decide +kernel) (gloL_ok gs (by decide +kernel)) fx.tuple (by decide +kernel) ?_)
    | (show EX _ _ _ (.Call (.Name "isinstance" _) [_, .Name "int" _] _ _) _ _ _; refine ex_isi (T := "int") cn (gloL_ok gs (by decide +kernel)) fx.isi (gloL_ok gs (by decide +kernel)) fx.int (by decide +kernel) ?_)
    | (show EX _ _ _ (.Call (.Name "isinstance" _) [_, .Name "bool" _] _ _) _ _ _; refine ex_isi (T := "bool") cn (gloL_ok gs (by decide +kernel)) fx.isi (gloL_ok gs (by decide +kernel)) fx.bool (by decide +kernel) ?_)
    | (show EX _ _ _ (.Call (.Name "isinstance" _) [_, .Name "str" _] _ _) _ _ _; refine ex_isi (T := "str") cn (gloL_ok gs (by decide +kernel)) fx.isi (gloL_ok gs (by decide +kernel)) fx.str (by decide +kernel) ?_)
    | (show EX _ _ _ (.Call (.Name "isinstance" _) [_, .Name "tuple" _] _ _) _ _ _; refine ex_isi (T := "tuple") cn (gloL_ok gs (by decide +kernel)) fx.isi (gloL_ok gs (by decide +kernel)) fx.tuple (by decide +kernel) ?_)
    | (show EX _ _ _ (.Call (.Name "isinstance" _) [_, .Name "list" _] _ _) _ _ _; refine ex_isi (T := "list") cn (gloL_ok gs (by decide +kernel)) fx.isi (gloL_ok gs (by decide +kernel)) fx.list (by decide +kernel) ?_)
    | (show EX _ _ _ (.Call (.Name "isinstance" _) [_, .Name "dict" _] _ _) _ _ _; refine ex_isi (T := "dict") cn (gloL_ok gs (by decide +kernel)) fx.isi (gloL_ok gs (by decide +kernel)) fx.dict (by decide +kernel) ?_)
    | (show EX _ _ _ (.Call (.Name "str" _) _ _ _) _ _ _; refine ex_strc cn (gloL_ok gs (by decide +kernel)) fx.str ?_)
    | (show EX _ _ _ (.Call (.Name _ _) (_ :: _) [] _) _ _ _; refine ex_call cn (gloL_ok gs (by decide +kernel)) (by assumption) (by decide) ?_)
    | refine ex_len cn (gloL_ok gs (by decide +kernel)) fx.len ?_ | refine ex_abs cn (gloL_ok gs (by decide +kernel)) fx.abs ?_ | refine ex_intc cn (gloL_ok gs (by decide +kernel)) fx.int ?_)
local macro_rules
  | `(tactic| walk_at "e") => `(tactic| first
    | (show EX _ _ _ (.Name _ _) _ _ _; walk_at "name")
    | (show EX _ _ _ (.Constant _ _ _) _ _ _; first | refine ex_int ?_ | refine ex_str ?_ | refine ex_bl ?_ | refine ex_non ?_)
    | (show EX _ _ _ (.BinOp _ _ _ _) _ _ _; first | refine ex_add ?_ | refine ex_sub ?_ | refine ex_mul ?_ | refine ex_mod ?_ | refine ex_div ?_ | refine ex_pow ?_)
    | (show EX _ _ _ (.Subscript _ (.Slice _ _ none _) _) _ _ _; refine ex_slice ?_)
    | (show EX _ _ _ (.Subscript _ _ _) _ _ _; refine ex_ix (fun _ _ => rfl) ?_)
    | (show PX _ _ _ none _ _ _; refine px_none ?_)
    | (show PX _ _ _ (some _) _ _ _; refine px_some ?_)
    | (show EX _ _ _ (.Call _ _ _ _) _ _ _; walk_at "call")
    | (show EX _ _ _ (.Compare _ [.Is] _ _) _ _ _; refine ex_isN ?_)
    | (show EX _ _ _ (.Compare _ [_] _ _) _ _ _; first | refine ex_lt ?_ | refine ex_le ?_ | refine ex_gt ?_ | refine ex_ge ?_ | refine ex_eq cn ?_ | refine ex_ne cn ?_)
    | (show EX _ _ _ (.Compare _ [.Is] _ _) _ _ _; refine ex_isN ?_)
    | (show TX _ _ _ (.Compare _ [.In] _ _) _ _ _; refine tx_in (by rfl) ?_)
    | (show TX _ _ _ (.Compare _ [.Is] _ _) _ _ _; refine tx_isN ?_)
    | (show TX _ _ _ (.Compare _ [_] _ _) _ _ _; first | refine tx_lt ?_ | refine tx_le ?_ | refine tx_gt ?_ | refine tx_ge ?_ | refine tx_eq cn ?_ | refine tx_ne cn ?_)
    | (show TX _ _ _ (.Call _ _ _ _) _ _ _; refine tx_val ?_)
    | (show TX _ _ _ (.Name _ _) _ _ _; refine tx_val ?_)
    | (show TX _ _ _ (.UnaryOp _ _ _) _ _ _; refine tx_not ?_)
    | (show TX _ _ _ (.BoolOp _ _ _) _ _ _; refine tx_bool ?_)
    | (show TW _ _ _ (.BoolOp _ [_] _) _ _ _; first | refine tw_and1 ?_ | refine tw_or1 ?_)
    | (show TW _ _ _ (.BoolOp _ _ _) _ _ _; first | refine tw_and ?_ | refine tw_or ?_)
    | (show AX _ _ _ [] _ _ _; refine ax_nil ?_)
    | (show AX _ _ _ (_ :: _) _ _ _; refine ax_cons ?_)
    | (show EX _ _ _ (.Tuple _ _ _) _ _ _; refine ex_tup ?_)
    | (show EX _ _ _ (.List _ _) _ _ _; refine ex_lst ?_)
    | (show EX _ _ _ (.IfExp _ _ _ _) _ _ _; refine ex_if ?_)
    | (show EX _ _ _ (.UnaryOp _ _ _) _ _ _; first | refine ex_neg ?_ | refine ex_not ?_)
    | (show EX _ _ _ (.BoolOp _ [_] _) _ _ _; refine ex_one ?_)
    | (show EX _ _ _ (.BoolOp _ _ _) _ _ _; first | refine ex_and ?_ | refine ex_or ?_)
    | (show SX _ _ _ [] _ _ _; refine sx_nil ?_)
    | (show SX _ _ _ [_] _ _ _; refine sx_one ?_)
    | (show SX _ _ _ (_ :: _) _ _ _; refine sx_cons ?_)
    | (show S1 _ _ _ (.Return (some _) _) _ _ _; refine s_ret ?_)
    | (show S1 _ _ _ (.If _ _ _ _) _ _ _; refine s_if ?_)
    | (show S1 _ _ _ (.Assign [.Name _ _] _ _) _ _ _; walk_at "sset")
    | (show S1 _ _ _ (.Assign [.Tuple _ _ _] (.Name _ _) _) _ _ _; refine s_asg ?_)
    | (show GX _ _ (.Tuple _ _ _) _ _ _; refine gx_tup cn ?_)
    | (show GXs _ _ [] _ _ _; refine gxs_nil ?_)
    | (show GXs _ _ (_ :: _) _ _ _; refine gxs_cons ?_)
    | (show GX _ _ (.Name _ _) _ _ _; walk_at "gname")
    | (show SX _ _ _ (defBody _) _ _ _; first | refine sx_cons ?_ | refine sx_one ?_))
local macro_rules
  | `(tactic| walk_at "sset") => `(tactic| first
    | refine s_set (i := 0) cn (by rfl) (locL_ok ls (by decide +kernel)) ?_ | refine s_set (i := 1) cn (by rfl) (locL_ok ls (by decide +kernel)) ?_ | refine s_set (i := 2) cn (by rfl) (locL_ok ls (by decide +kernel)) ?_ | refine s_set (i := 3) cn (by rfl) (locL_ok ls (by decide +kernel)) ?_ | refine s_set (i := 4) cn (by rfl) (locL_ok ls (by decide +kernel)) ?_ | refine s_set (i := 5) cn (by rfl) (locL_ok ls (by decide +kernel)) ?_ | refine s_set (i := 6) cn (by rfl) (locL_ok ls (by decide +kernel)) ?_ | refine s_set (i := 7) cn (by rfl) (locL_ok ls (by decide +kernel)) ?_ | refine s_set (i := 8) cn (by rfl) (locL_ok ls (by decide +kernel)) ?_ | refine s_set (i := 9) cn (by rfl) (locL_ok ls (by decide +kernel)) ?_ | refine s_set (i := 10) cn (by rfl) (locL_ok ls (by decide +kernel)) ?_ | refine s_set (i := 11) cn (by rfl) (locL_ok ls (by decide +kernel)) ?_ | refine s_set (i := 12) cn (by rfl) (locL_ok ls (by decide +kernel)) ?_ | refine s_set (i := 13) cn (by rfl) (locL_ok ls (by decide +kernel)) ?_ | refine s_set (i := 14) cn (by rfl) (locL_ok ls (by decide +kernel)) ?_ | refine s_set (i := 15) cn (by rfl) (locL_ok ls (by decide +kernel)) ?_)
local macro_rules
  | `(tactic| walk_at "l") => `(tactic| first
    | (show RO _ _ _ _ _ _; first | refine add_int ?_ | refine lt_int ?_ | refine le_int ?_ | refine gt_int ?_ | refine ge_int ?_ | refine eq_int ?_ | refine ne_int ?_ | refine eq_bl ?_ | refine ne_bl ?_ | refine eq_str ?_ | refine ne_str ?_)
    | refine ⟨_, _, isD_lst rfl, isD_tup rfl, ?_⟩
    | refine ⟨_, isD_lst rfl, ?_⟩ | refine ⟨_, isD_tup rfl, ?_⟩ | refine ⟨_, isD_dic rfl, ?_⟩ | refine ⟨_, isD_bl rfl, ?_⟩ | refine ⟨_, isD_int rfl, ?_⟩ | refine ⟨_, isD_str rfl, ?_⟩
    | refine ⟨fun _ => ?_, fun h => Bool.noConfusion (show true = false from h)⟩
    | refine ⟨fun h => Bool.noConfusion (show false = true from h), fun _ => ?_⟩
    | refine ⟨fun _ => ?_, fun h => Bool.noConfusion (show false = true from h)⟩
    | refine ⟨fun h => Bool.noConfusion (show true = false from h), fun _ => ?_⟩
    | (show ixD _ _ _; first | refine ix_lstA (by rfl) ?_ | refine ix_tupA (by rfl) ?_)
    | refine ⟨_, _, rfl, rfl, Or.inl (Or.inr (by decide)), ?_⟩
    | refine ⟨_, _, rfl, rfl, Or.inl (Or.inl ⟨by omega, by omega⟩), ?_⟩
    | refine ⟨_, _, rfl, rfl, Or.inl ⟨by decide, by decide⟩, ?_⟩
    | refine ⟨_, _, rfl, rfl, ⟨by decide, by decide, by first | omega | decide⟩, ?_⟩
    | refine ⟨_, _, rfl, rfl, (show _ ≠ _ by first | decide | omega), ?_⟩
    | refine ⟨_, _, rfl, rfl, ?_⟩
    | refine ⟨_, rfl, ?_⟩
    | refine Or.inl ⟨_, rfl, ?_⟩ | refine Or.inr ⟨_, rfl, ?_⟩
    | refine ⟨(show _ ≤ 100000 from Nat.le_of_ble_eq_true (by rfl)), ?_⟩)
local macro_rules
  | `(tactic| walk_at "go") => `(tactic| repeat (first | walk_at "e" | walk_at "l"))
local macro_rules
  | `(tactic| walk_at "bset") => `(tactic| (refine bs_cons (E := E) ?_; first
    | refine b_set (E := E) (i := 1) cn (by rfl) (locL_ok ls (by decide +kernel)) ?_ | refine b_set (E := E) (i := 2) cn (by rfl) (locL_ok ls (by decide +kernel)) ?_ | refine b_set (E := E) (i := 3) cn (by rfl) (locL_ok ls (by decide +kernel)) ?_ | refine b_set (E := E) (i := 4) cn (by rfl) (locL_ok ls (by decide +kernel)) ?_))
local macro_rules
  | `(tactic| walk_at "bput") => `(tactic| (refine bs_cons (E := E) ?_; first
    | refine b_put (E := E) (k := 1) bg cn (by rfl) (visC_ok vs (by decide +kernel)) (by decide) (by decide) ?_ | refine b_put (E := E) (k := 2) bg cn (by rfl) (visC_ok vs (by decide +kernel)) (by decide) (by decide) ?_
    | refine b_put (E := E) (k := 3) bg cn (by rfl) (visC_ok vs (by decide +kernel)) (by decide) (by decide) ?_ | refine b_put (E := E) (k := 4) bg cn (by rfl) (visC_ok vs (by decide +kernel)) (by decide) (by decide) ?_))
local macro_rules
  | `(tactic| walk_at "gname") => `(tactic| first | refine gx_name (i := 0) cn (by rfl) (locL_ok ls (by decide +kernel)) ?_ | refine gx_name (i := 1) cn (by rfl) (locL_ok ls (by decide +kernel)) ?_ | refine gx_name (i := 2) cn (by rfl) (locL_ok ls (by decide +kernel)) ?_ | refine gx_name (i := 3) cn (by rfl) (locL_ok ls (by decide +kernel)) ?_ | refine gx_name (i := 4) cn (by rfl) (locL_ok ls (by decide +kernel)) ?_ | refine gx_name (i := 5) cn (by rfl) (locL_ok ls (by decide +kernel)) ?_ | refine gx_name (i := 6) cn (by rfl) (locL_ok ls (by decide +kernel)) ?_ | refine gx_name (i := 7) cn (by rfl) (locL_ok ls (by decide +kernel)) ?_ | refine gx_name (i := 8) cn (by rfl) (locL_ok ls (by decide +kernel)) ?_ | refine gx_name (i := 9) cn (by rfl) (locL_ok ls (by decide +kernel)) ?_ | refine gx_name (i := 10) cn (by rfl) (locL_ok ls (by decide +kernel)) ?_ | refine gx_name (i := 11) cn (by rfl) (locL_ok ls (by decide +kernel)) ?_ | refine gx_name (i := 12) cn (by rfl) (locL_ok ls (by decide +kernel)) ?_ | refine gx_name (i := 13) cn (by rfl) (locL_ok ls (by decide +kernel)) ?_ | refine gx_name (i := 14) cn (by rfl) (locL_ok ls (by decide +kernel)) ?_ | refine gx_name (i := 15) cn (by rfl) (locL_ok ls (by decide +kernel)) ?_)
theorem fn_bag {G : Gb} (fx : Fx G) (pk : Pk G "_law_bag" d_L_bag) : Fn G "_law_bag" P_L_bag 2 (F_bag G.K) := by
  obtain ⟨f, fd0, FD, hm⟩ := pk.ex
  refine fn_intro (N := N_L_bag) FD sc_L_bag hm (bd_L_bag FD) (fun W ds Kc Z h => ?_) fun X E cn df po W ds Kc Z h => ?_
  · obtain ⟨_, _, rfl, _⟩ := h
    rfl
  · obtain ⟨A, ns, rfl, hs, hK⟩ := h
    have gs := gs_L_bag
    have vs := vs_L_bag
    have ls := ls_L_bag
    refine sx_cons ?_
    walk_at "sset"
    refine ex_listc cn (gloL_ok gs (by decide +kernel)) fx.list ?_
    refine ex_sliceA cn ?_
    walk_at "name"
    refine ⟨A, ns, rfl, hs, ?_⟩
    refine px_none ?_
    refine px_some ?_
    refine ex_int ?_
    refine ⟨63, rfl, _, rfl, ?_⟩
    have hl := cutL_len63 ns
    generalize cutL ns none (some 63) = cells at hl
    walk_at "go"
    refine ⟨by rw [List.length_map]; omega, ?_⟩
    walk_at "go"
    have e : D.lst [.lst (cells.map .int), .int 0, .int 0, .int (12035 + 37 * ((cells.map D.int).length : Int)), .int 0] = bag0 cells := by
      unfold bag0; rw [List.length_map]
    rw [e]
    exact hK cells hl
theorem frac_unique {a b c d : Int} (h1 : LowT a b) (h2 : LowT c d) (h : a * d = c * b) : a = c ∧ b = d := by
  obtain ⟨b0, g1⟩ := h1
  obtain ⟨d0, g2⟩ := h2
  have hn : a.natAbs * d.natAbs = c.natAbs * b.natAbs := by rw [← Int.natAbs_mul, ← Int.natAbs_mul, h]
  have k1 : b.natAbs ∣ d.natAbs := by
    have : b.natAbs ∣ a.natAbs * d.natAbs := hn ▸ Nat.dvd_mul_left ..
    exact (Nat.Coprime.symm g1).dvd_of_dvd_mul_left this
  have k2 : d.natAbs ∣ b.natAbs := by
    have : d.natAbs ∣ c.natAbs * b.natAbs := hn ▸ Nat.dvd_mul_left ..
    exact (Nat.Coprime.symm g2).dvd_of_dvd_mul_left this
  have e := Nat.dvd_antisymm k1 k2
  have e2 : b = d := by omega
  subst e2
  exact ⟨Int.eq_of_mul_eq_mul_right (by omega) h, rfl⟩
theorem same_of {W : Wd} {K : D → Prop} {Z : ZK} {m : Nat} {x y : D} (h : x = y) (s : Smp m x) (k : K (.bl true)) : F_same m W [x, y] K Z := by
  subst h
  exact ⟨x, rfl, s, k⟩
theorem all_frac {ds : List D} {Kx : D → Prop} (h1 : ∀ d ∈ ds, ∃ c e, d = .tup [.int c, .int e] ∧ SmallF 125 (c, e)) (h2 : ∀ c e, SmallF 125 (c, e) → Kx (.tup [.int c, .int e])) : ∀ d ∈ ds, Kx d := fun d hd => by
  obtain ⟨c, e, rfl, h⟩ := h1 d hd
  exact h2 c e h
theorem low_ok {n m : Int} {k : Nat} (m0 : 0 < m) (hn : n.natAbs < 2 ^ k) (hm : m.natAbs < 2 ^ k) : SmallF k (n.fdiv (Nat.gcd n.natAbs m.natAbs : Nat), m.fdiv (Nat.gcd n.natAbs m.natAbs : Nat)) := by
  obtain ⟨x, y, e, sm, hv⟩ := rat_ok (n := n) (m := m) (by omega) hn hm
  unfold rat sg at e
  rw [if_neg (by omega)] at e
  injection e with e
  injection e with e1 e2
  injection e1 with e1
  injection e2 with e2 _
  injection e2 with e2
  rw [e1, e2]
  exact sm
theorem small_le {k j : Nat} (h : k ≤ j) {p : Int × Int} (s : SmallF k p) : SmallF j p := ⟨s.1, Nat.lt_of_lt_of_le s.2.1 (Nat.pow_le_pow_right (by decide) h), Nat.lt_of_lt_of_le s.2.2 (Nat.pow_le_pow_right (by decide) h)⟩
end K02

set_option Elab.async false
set_option linter.all false
set_option maxRecDepth 100000
set_option maxHeartbeats 4000000
namespace K02
open PySem PySem.Spec PyProof.Rows L2 DX
set_option hygiene false
local macro_rules
  | `(tactic| walk_at "name") => `(tactic| first | refine ex_name (i := 0) cn (by rfl) (visC_ok vs (by decide +kernel)) (by rfl) ?_ | refine ex_name (i := 1) cn (by rfl) (visC_ok vs (by decide +kernel)) (by rfl) ?_ | refine ex_name (i := 2) cn (by rfl) (visC_ok vs (by decide +kernel)) (by rfl) ?_ | refine ex_name (i := 3) cn (by rfl) (visC_ok vs (by decide +kernel)) (by rfl) ?_ | refine ex_name (i := 4) cn (by rfl) (visC_ok vs (by decide +kernel)) (by rfl) ?_ | refine ex_name (i := 5) cn (by rfl) (visC_ok vs (by decide +kernel)) (by rfl) ?_ | refine ex_name (i := 6) cn (by rfl) (visC_ok vs (by decide +kernel)) (by rfl) ?_ | refine ex_name (i := 7) cn (by rfl) (visC_ok vs (by decide +kernel)) (by rfl) ?_ | refine ex_name (i := 8) cn (by rfl) (visC_ok vs (by decide +kernel)) (by rfl) ?_ | refine ex_name (i := 9) cn (by rfl) (visC_ok vs (by decide +kernel)) (by rfl) ?_ | refine ex_name (i := 10) cn (by rfl) (visC_ok vs (by decide +kernel)) (by rfl) ?_ | refine ex_name (i := 11) cn (by rfl) (visC_ok vs (by decide +kernel)) (by rfl) ?_ | refine ex_name (i := 12) cn (by rfl) (visC_ok vs (by decide +kernel)) (by rfl) ?_ | refine ex_name (i := 13) cn (by rfl) (visC_ok vs (by decide +kernel)) (by rfl) ?_ | refine ex_name (i := 14) cn (by rfl) (visC_ok vs (by decide +kernel)) (by rfl) ?_ | refine ex_name (i := 15) cn (by rfl) (visC_ok vs (by decide +kernel)) (by rfl) ?_)
local macro_rules
  | `(tactic| walk_at "call") => `(tactic| first
    | (show EX _ _ _ (.Call (.Name "ratio" _) [_] [] _) _ _ _; refine ex_callD cn (gloL_ok gs (by decide +kernel)) fratioB (by decide) ?_)
    | (show EX _ _ _ (.Call (.Name "ratio" _) [] [_] _) _ _ _; refine ex_kw1 cn (gloL_ok gs (by decide +kernel)) fratioK1 (by decide) ?_)
    | (show EX _ _ _ (.Call (.Name "ratio" _) [] [_, _] _) _ _ _; refine ex_kw2 cn (gloL_ok gs (by decide +kernel)) fratioK2 (by decide) ?_)
    | (show EX _ _ _ (.Call (.Name "total" _) [] [] _) _ _ _; refine ex_callS0 cn (gloL_ok gs (by decide +kernel)) ftotal (by decide) ?_)
    | (show EX _ _ _ (.Call (.Name "total" _) (_ :: _) [] _) _ _ _; refine ex_callS cn (gloL_ok gs (by decide +kernel)) ftotal (by decide) ?_)
    | (show EX _ _ _ (.Call (.Name "_law_draw" _) _ _ _) _ _ _; refine ex_call cn (gloL_ok gs (by decide +kernel)) fdraw (by decide) ?_)
    | (show EX _ _ _ (.Call (.Name "_law_gcd" _) _ _ _) _ _ _; refine ex_call cn (gloL_ok gs (by decide +kernel)) flgcd (by decide) ?_)
    | (show EX _ _ _ (.Call (.Name "_law_low" _) _ _ _) _ _ _; refine ex_call cn (gloL_ok gs (by decide +kernel)) flow (by decide) ?_)
    | (show EX _ _ _ (.Call (.Name "is_integer_value" _) _ _ _) _ _ _; refine ex_call cn (gloL_ok gs (by decide +kernel)) fiiv (by decide) ?_)
    | (show EX _ _ _ (.Call (.Name "_law_int" _) _ _ _) _ _ _; refine ex_call cn (gloL_ok gs (by decide +kernel)) fint (by decide) ?_)
    | (show EX _ _ _ (.Call (.Name "all" _) _ _ _) _ _ _; refine ex_allc cn (gloL_ok gs (by decide +kernel)) fx.all ?_)
    | (show EX _ _ _ (.Call (.Name "_law_is_fraction" _) _ _ _) _ _ _; refine ex_call cn (gloL_ok gs (by decide +kernel)) flisf (by decide) ?_)
    | (show EX _ _ _ (.Call (.Name "_law_worth" _) _ _ _) _ _ _; refine ex_call cn (gloL_ok gs (by decide +kernel)) fworth (by decide) ?_)
    | (show EX _ _ _ (.Call (.Name "ratio" _) _ _ _) _ _ _; refine ex_call cn (gloL_ok gs (by decide +kernel)) fratio (by decide) ?_)
    | (show EX _ _ _ (.Call (.Name "gcd" _) _ _ _) _ _ _; refine ex_gcd cn (gloL_ok gs (by decide +kernel)) fx.gcd ?_)
    | (show EX _ _ _ (.Call (.Name "min" _) _ _ _) _ _ _; refine ex_min2 cn (gloL_ok gs (by decide +kernel)) fx.min ?_)
    | (show EX _ _ _ (.Call (.Name "_law_pick" _) _ _ _) _ _ _; refine ex_call cn (gloL_ok gs (by decide +kernel)) fpick (by decide) ?_)
    | (show EX _ _ _ (.Call (.Name "_law_huge" _) _ _ _) _ _ _; refine ex_call cn (gloL_ok gs (by decide +kernel)) fhuge (by decide) ?_)
    | (show EX _ _ _ (.Call (.Name "_law_number" _) _ _ _) _ _ _; refine ex_call cn (gloL_ok gs (by decide +kernel)) fnumber (by decide) ?_)
    | (show EX _ _ _ (.Call (.Name "isinstance" _) [_, .Tuple [.Name "list" _, .Name "tuple" _] _ _] _ _) _ _ _; refine ex_isi2 (T := "list") (U := "tuple") cn (gloL_ok gs (by decide +kernel)) fx.isi (gloL_ok gs (by decide +kernel)) fx.list (by decide +kernel) (gloL_ok gs (by decide +kernel)) fx.tuple (by decide +kernel) ?_)
    | (show EX _ _ _ (.Call (.Name "isinstance" _) [_, .Name "int" _] _ _) _ _ _; refine ex_isi (T := "int") cn (gloL_ok gs (by decide +kernel)) fx.isi (gloL_ok gs (by decide +kernel)) fx.int (by decide +kernel) ?_)
    | (show EX _ _ _ (.Call (.Name "isinstance" _) [_, .Name "bool" _] _ _) _ _ _; refine ex_isi (T := "bool") cn (gloL_ok gs (by decide +kernel)) fx.isi (gloL_ok gs (by decide +kernel)) fx.bool (by decide +kernel) ?_)
    | (show EX _ _ _ (.Call (.Name "isinstance" _) [_, .Name "str" _] _ _) _ _ _; refine ex_isi (T := "str") cn (gloL_ok gs (by decide +kernel)) fx.isi (gloL_ok gs (by decide +kernel)) fx.str (by decide +kernel) ?_)
    | (show EX _ _ _ (.Call (.Name "isinstance" _) [_, .Name "tuple" _] _ _) _ _ _; refine ex_isi (T := "tuple") cn (gloL_ok gs (by decide +kernel)) fx.isi (gloL_ok gs (by decide +kernel)) fx.tuple (by decide +kernel) ?_)
    | (show EX _ _ _ (.Call (.Name "isinstance" _) [_, .Name "list" _] _ _) _ _ _; refine ex_isi (T := "list") cn (gloL_ok gs (by decide +kernel)) fx.isi (gloL_ok gs (by decide +kernel)) fx.list (by decide +kernel) ?_)
    | (show EX _ _ _ (.Call (.Name "isinstance" _) [_, .Name "dict" _] _ _) _ _ _; refine ex_isi (T := "dict") cn (gloL_ok gs (by decide +kernel)) fx.isi (gloL_ok gs (by decide +kernel)) fx.dict (by decide +kernel) ?_)
    | (show EX _ _ _ (.Call (.Name "str" _) _ _ _) _ _ _; refine ex_strc cn (gloL_ok gs (by decide +kernel)) fx.str ?_)
    | (show EX _ _ _ (.Call (.Name _ _) (_ :: _) [] _) _ _ _; refine ex_call cn (gloL_ok gs (by decide +kernel)) (by assumption) (by decide) ?_)
    | refine ex_len cn (gloL_ok gs (by decide +kernel)) fx.len ?_ | refine ex_abs cn (gloL_ok gs (by decide +kernel)) fx.abs ?_ | refine ex_intc cn (gloL_ok gs (by decide +kernel)) fx.int ?_)
local macro_rules
  | `(tactic| walk_at "e") => `(tactic| first
    | (show EX _ _ _ (.Name _ _) _ _ _; walk_at "name")
    | (show EX _ _ _ (.Constant _ _ _) _ _ _; first | refine ex_int ?_ | refine ex_str ?_ | refine ex_bl ?_ | refine ex_non ?_)
    | (show EX _ _ _ (.BinOp _ _ _ _) _ _ _; first | refine ex_add ?_ | refine ex_sub ?_ | refine ex_mul ?_ | refine ex_mod ?_ | refine ex_div ?_ | refine ex_pow ?_)
    | (show EX _ _ _ (.Subscript _ (.Slice _ _ none _) _) _ _ _; refine ex_slice ?_)
    | (show EX _ _ _ (.Subscript _ _ _) _ _ _; refine ex_ix (fun _ _ => rfl) ?_)
    | (show PX _ _ _ none _ _ _; refine px_none ?_)
    | (show PX _ _ _ (some _) _ _ _; refine px_some ?_)
    | (show EX _ _ _ (.Call _ _ _ _) _ _ _; walk_at "call")
    | (show EX _ _ _ (.Compare _ [.Is] _ _) _ _ _; refine ex_isN ?_)
    | (show EX _ _ _ (.Compare _ [_] _ _) _ _ _; first | refine ex_lt ?_ | refine ex_le ?_ | refine ex_gt ?_ | refine ex_ge ?_ | refine ex_eq cn ?_ | refine ex_ne cn ?_)
    | (show EX _ _ _ (.Compare _ [.Is] _ _) _ _ _; refine ex_isN ?_)
    | (show TX _ _ _ (.Compare _ [.In] _ _) _ _ _; refine tx_in (by rfl) ?_)
    | (show TX _ _ _ (.Compare _ [.Is] _ _) _ _ _; refine tx_isN ?_)
    | (show TX _ _ _ (.Compare _ [_] _ _) _ _ _; first | refine tx_lt ?_ | refine tx_le ?_ | refine tx_gt ?_ | refine tx_ge ?_ | refine tx_eq cn ?_ | refine tx_ne cn ?_)
    | (show TX _ _ _ (.Call _ _ _ _) _ _ _; refine tx_val ?_)
    | (show TX _ _ _ (.Name _ _) _ _ _; refine tx_val ?_)
    | (show TX _ _ _ (.UnaryOp _ _ _) _ _ _; refine tx_not ?_)
    | (show TX _ _ _ (.BoolOp _ _ _) _ _ _; refine tx_bool ?_)
    | (show TW _ _ _ (.BoolOp _ [_] _) _ _ _; first | refine tw_and1 ?_ | refine tw_or1 ?_)
    | (show TW _ _ _ (.BoolOp _ _ _) _ _ _; first | refine tw_and ?_ | refine tw_or ?_)
    | (show AX _ _ _ [] _ _ _; refine ax_nil ?_)
    | (show AX _ _ _ (_ :: _) _ _ _; refine ax_cons ?_)
    | (show EX _ _ _ (.Tuple _ _ _) _ _ _; refine ex_tup ?_)
    | (show EX _ _ _ (.List _ _) _ _ _; refine ex_lst ?_)
    | (show EX _ _ _ (.IfExp _ _ _ _) _ _ _; refine ex_if ?_)
    | (show EX _ _ _ (.UnaryOp _ _ _) _ _ _; first | refine ex_neg ?_ | refine ex_not ?_)
    | (show EX _ _ _ (.BoolOp _ [_] _) _ _ _; refine ex_one ?_)
    | (show EX _ _ _ (.BoolOp _ _ _) _ _ _; first | refine ex_and ?_ | refine ex_or ?_)
    | (show SX _ _ _ [] _ _ _; refine sx_nil ?_)
    | (show SX _ _ _ [_] _ _ _; refine sx_one ?_)
    | (show SX _ _ _ (_ :: _) _ _ _; refine sx_cons ?_)
    | (show S1 _ _ _ (.Return (some _) _) _ _ _; refine s_ret ?_)
    | (show S1 _ _ _ (.If _ _ _ _) _ _ _; refine s_if ?_)
    | (show S1 _ _ _ (.Assign [.Name _ _] _ _) _ _ _; walk_at "sset")
    | (show S1 _ _ _ (.Assign [.Tuple _ _ _] (.Name _ _) _) _ _ _; refine s_asg ?_)
    | (show GX _ _ (.Tuple _ _ _) _ _ _; refine gx_tup cn ?_)
    | (show GXs _ _ [] _ _ _; refine gxs_nil ?_)
    | (show GXs _ _ (_ :: _) _ _ _; refine gxs_cons ?_)
    | (show GX _ _ (.Name _ _) _ _ _; walk_at "gname")
    | (show SX _ _ _ (defBody _) _ _ _; first | refine sx_cons ?_ | refine sx_one ?_))
local macro_rules
  | `(tactic| walk_at "sset") => `(tactic| first
    | refine s_set (i := 0) cn (by rfl) (locL_ok ls (by decide +kernel)) ?_ | refine s_set (i := 1) cn (by rfl) (locL_ok ls (by decide +kernel)) ?_ | refine s_set (i := 2) cn (by rfl) (locL_ok ls (by decide +kernel)) ?_ | refine s_set (i := 3) cn (by rfl) (locL_ok ls (by decide +kernel)) ?_ | refine s_set (i := 4) cn (by rfl) (locL_ok ls (by decide +kernel)) ?_ | refine s_set (i := 5) cn (by rfl) (locL_ok ls (by decide +kernel)) ?_ | refine s_set (i := 6) cn (by rfl) (locL_ok ls (by decide +kernel)) ?_ | refine s_set (i := 7) cn (by rfl) (locL_ok ls (by decide +kernel)) ?_ | refine s_set (i := 8) cn (by rfl) (locL_ok ls (by decide +kernel)) ?_ | refine s_set (i := 9) cn (by rfl) (locL_ok ls (by decide +kernel)) ?_ | refine s_set (i := 10) cn (by rfl) (locL_ok ls (by decide +kernel)) ?_ | refine s_set (i := 11) cn (by rfl) (locL_ok ls (by decide +kernel)) ?_ | refine s_set (i := 12) cn (by rfl) (locL_ok ls (by decide +kernel)) ?_ | refine s_set (i := 13) cn (by rfl) (locL_ok ls (by decide +kernel)) ?_ | refine s_set (i := 14) cn (by rfl) (locL_ok ls (by decide +kernel)) ?_ | refine s_set (i := 15) cn (by rfl) (locL_ok ls (by decide +kernel)) ?_)
local macro_rules
  | `(tactic| walk_at "l") => `(tactic| first
    | (show RO _ _ _ _ _ _; first | refine add_int ?_ | refine lt_int ?_ | refine le_int ?_ | refine gt_int ?_ | refine ge_int ?_ | refine eq_int ?_ | refine ne_int ?_ | refine eq_bl ?_ | refine ne_bl ?_ | refine eq_str ?_ | refine ne_str ?_)
    | refine ⟨_, _, isD_lst rfl, isD_tup rfl, ?_⟩
    | refine ⟨_, isD_lst rfl, ?_⟩ | refine ⟨_, isD_tup rfl, ?_⟩ | refine ⟨_, isD_dic rfl, ?_⟩ | refine ⟨_, isD_bl rfl, ?_⟩ | refine ⟨_, isD_int rfl, ?_⟩ | refine ⟨_, isD_str rfl, ?_⟩
    | refine ⟨fun _ => ?_, fun h => Bool.noConfusion (show true = false from h)⟩
    | refine ⟨fun h => Bool.noConfusion (show false = true from h), fun _ => ?_⟩
    | refine ⟨fun _ => ?_, fun h => Bool.noConfusion (show false = true from h)⟩
    | refine ⟨fun h => Bool.noConfusion (show true = false from h), fun _ => ?_⟩
    | (show ixD _ _ _; first | refine ix_lstA (by rfl) ?_ | refine ix_tupA (by rfl) ?_)
    | refine ⟨_, _, rfl, rfl, Or.inl (Or.inr (by decide)), ?_⟩
    | refine ⟨_, _, rfl, rfl, Or.inl (Or.inl ⟨by omega, by omega⟩), ?_⟩
    | refine ⟨_, _, rfl, rfl, Or.inl ⟨by decide, by decide⟩, ?_⟩
    | refine ⟨_, _, rfl, rfl, ⟨by decide, by decide, by first | omega | decide⟩, ?_⟩
    | refine ⟨_, _, rfl, rfl, (show _ ≠ _ by first | decide | omega), ?_⟩
    | refine ⟨_, _, rfl, rfl, ?_⟩
    | refine ⟨_, rfl, ?_⟩
    | refine Or.inl ⟨_, rfl, ?_⟩ | refine Or.inr ⟨_, rfl, ?_⟩
    | refine ⟨(show _ ≤ 100000 from Nat.le_of_ble_eq_true (by rfl)), ?_⟩)
local macro_rules
  | `(tactic| walk_at "go") => `(tactic| repeat (first | walk_at "e" | walk_at "l"))
local macro_rules
  | `(tactic| walk_at "bset") => `(tactic| (refine bs_cons (E := E) ?_; first
    | refine b_set (E := E) (i := 1) cn (by rfl) (locL_ok ls (by decide +kernel)) ?_ | refine b_set (E := E) (i := 2) cn (by rfl) (locL_ok ls (by decide +kernel)) ?_ | refine b_set (E := E) (i := 3) cn (by rfl) (locL_ok ls (by decide +kernel)) ?_ | refine b_set (E := E) (i := 4) cn (by rfl) (locL_ok ls (by decide +kernel)) ?_))
local macro_rules
  | `(tactic| walk_at "bput") => `(tactic| (refine bs_cons (E := E) ?_; first
    | refine b_put (E := E) (k := 1) bg cn (by rfl) (visC_ok vs (by decide +kernel)) (by decide) (by decide) ?_ | refine b_put (E := E) (k := 2) bg cn (by rfl) (visC_ok vs (by decide +kernel)) (by decide) (by decide) ?_
    | refine b_put (E := E) (k := 3) bg cn (by rfl) (visC_ok vs (by decide +kernel)) (by decide) (by decide) ?_ | refine b_put (E := E) (k := 4) bg cn (by rfl) (visC_ok vs (by decide +kernel)) (by decide) (by decide) ?_))
local macro_rules
  | `(tactic| walk_at "gname") => `(tactic| first | refine gx_name (i := 0) cn (by rfl) (locL_ok ls (by decide +kernel)) ?_ | refine gx_name (i := 1) cn (by rfl) (locL_ok ls (by decide +kernel)) ?_ | refine gx_name (i := 2) cn (by rfl) (locL_ok ls (by decide +kernel)) ?_ | refine gx_name (i := 3) cn (by rfl) (locL_ok ls (by decide +kernel)) ?_ | refine gx_name (i := 4) cn (by rfl) (locL_ok ls (by decide +kernel)) ?_ | refine gx_name (i := 5) cn (by rfl) (locL_ok ls (by decide +kernel)) ?_ | refine gx_name (i := 6) cn (by rfl) (locL_ok ls (by decide +kernel)) ?_ | refine gx_name (i := 7) cn (by rfl) (locL_ok ls (by decide +kernel)) ?_ | refine gx_name (i := 8) cn (by rfl) (locL_ok ls (by decide +kernel)) ?_ | refine gx_name (i := 9) cn (by rfl) (locL_ok ls (by decide +kernel)) ?_ | refine gx_name (i := 10) cn (by rfl) (locL_ok ls (by decide +kernel)) ?_ | refine gx_name (i := 11) cn (by rfl) (locL_ok ls (by decide +kernel)) ?_ | refine gx_name (i := 12) cn (by rfl) (locL_ok ls (by decide +kernel)) ?_ | refine gx_name (i := 13) cn (by rfl) (locL_ok ls (by decide +kernel)) ?_ | refine gx_name (i := 14) cn (by rfl) (locL_ok ls (by decide +kernel)) ?_ | refine gx_name (i := 15) cn (by rfl) (locL_ok ls (by decide +kernel)) ?_)
/-- what the law's turn needs -/
structure All (G : Gb) (C1 C2 : Addr) (T : List (Addr × PySem.Str)) : Prop where
  fx : Fx G
  bag : Fn G "_law_bag" P_L_bag 2 (F_bag G.K)
  fraction : Fn G "_law_fraction" P_L_fraction 8 F_fraction
  pick : Fn G "_law_pick" P_L_pick 5 F_pick
  low : Fn G "_law_low" P_L_low 3 F_low
  two : Fn G "_law_two_so" P_L_two_so 8 (F_two_so T)
  rso : Fn G "_law_ratio_so" P_L_ratio_so 8 (F_ratio_so T)
  same : ∀ m, Fn G "_law_same" P_L_same (m + 3) (F_same m)
  sign : Fn G "sign" P_sign 2 F_sign
  floor : Fn G "floor_of" P_floor_of 2 F_floor
  total : FnS G "total" 5 F_total
  worth : Fn G "_law_worth" P_L_worth 4 F_worth
  near : Fn G "_law_near" P_L_near 7 F_near
  isf : Fn G "is_fraction" P_is_fraction 3 F_isf
  lisf : Fn G "_law_is_fraction" P_L_is_fraction 3 F_isf
theorem sum1 {a b x y : Int} (h : SmallF 2000 (x, y)) (s : SmallF 200 (a, b)) (hv : x * (sumF [(a, b)]).2 = (sumF [(a, b)]).1 * y) : x = a ∧ y = b := by
  refine frac_unique h.1 s.1 ?_
  have hv : x * (1 * b) = (0 * b + a * 1) * y := hv
  rw [Int.one_mul, Int.zero_mul, Int.zero_add, Int.mul_one] at hv
  exact hv
theorem sum2 {a b c d x y : Int} (hv : x * (sumF [(a, b), (c, d)]).2 = (sumF [(a, b), (c, d)]).1 * y) : x * (b * d) = (a * d + c * b) * y := by
  have hv : x * (1 * b * d) = ((0 * b + a * 1) * d + c * (1 * b)) * y := hv
  simp only [Int.one_mul, Int.zero_mul, Int.zero_add, Int.mul_one] at hv
  exact hv
theorem sum4 {a b c d e f x y : Int} (b0 : b ≠ 0) (hv : x * (sumF [(a, b), (c, d), (e, f), (a, b)]).2 = (sumF [(a, b), (c, d), (e, f), (a, b)]).1 * y) : x * (b * d * f) = ((2 * a * d + c * b) * f + e * b * d) * y := by
  have hv : x * (1 * b * d * f * b) = ((((0 * b + a * 1) * d + c * (1 * b)) * f + e * (1 * b * d)) * b + a * (1 * b * d * f)) * y := hv
  simp only [Int.one_mul, Int.zero_mul, Int.zero_add, Int.mul_one] at hv
  refine Int.eq_of_mul_eq_mul_left b0 ?_
  grind
theorem bnd4 {a b c d e f : Int} (ha : a.natAbs < 2 ^ 125) (hb : b.natAbs < 2 ^ 125) (hc : c.natAbs < 2 ^ 125) (hd : d.natAbs < 2 ^ 125) (he : e.natAbs < 2 ^ 125) (hf : f.natAbs < 2 ^ 125) :
    (2 * a).natAbs < 2 ^ 126 ∧ (2 * a * d + c * b).natAbs < 2 ^ 252 ∧ (e * b).natAbs < 2 ^ 252 ∧ (b * d).natAbs < 2 ^ 252 ∧ ((2 * a * d + c * b) * f + e * b * d).natAbs < 2 ^ 380 ∧ (b * d * f).natAbs < 2 ^ 380 := by
  have h1 : (2 * a).natAbs < 2 ^ 126 := by omega
  have h2 : (2 * a * d).natAbs < 2 ^ 251 := wide_lt h1 hd
  have h3 : (c * b).natAbs < 2 ^ 250 := wide_lt hc hb
  have h4 : (2 * a * d + c * b).natAbs < 2 ^ 252 := by omega
  have h5 : ((2 * a * d + c * b) * f).natAbs < 2 ^ 377 := wide_lt h4 hf
  have h6 : (e * b).natAbs < 2 ^ 250 := wide_lt he hb
  have h7 : (e * b * d).natAbs < 2 ^ 375 := wide_lt h6 hd
  have h8 : (b * d).natAbs < 2 ^ 250 := wide_lt hb hd
  have h9 : (b * d * f).natAbs < 2 ^ 375 := wide_lt h8 hf
  refine ⟨h1, h4, by omega, by omega, by omega, by omega⟩
theorem fn_law {G : Gb} {C1 C2 : Addr} {T : List (Addr × PySem.Str)} {f : Addr} {fd : FuncData} (al : All G C1 C2 T) (FD : FunD G.K d_law.name d_law.qual d_law.params d_law.body d_law.scope (d_law.dvs G.K) (d_law.kws G.K) f fd) :
    FnOk G.prog G.w G.K G.mg G.base (L2N.CX G.prog G.w) 9 f fd P_law (spLaw G.K T) := by
  obtain ⟨fx, fbag, ffraction, fpick, flow, ftwo, frso, fsame, fsign, ffloor, ftotal, fworth, fnear, fisf, flisf⟩ := al
  have fsame1 := fsame 1
  have gs := gs_law
  have vs := vs_law
  have ls := ls_law
  refine law_ok (N := N_law) FD rfl sc_law (by decide) (fun X E cn df W A ns hs => ?_) (fun X E cn df po W A bg tw => ?_)
  · walk_at "sset"
    walk_at "call"
    refine ax_cons ?_
    walk_at "name"
    refine ax_nil ?_
    exact ⟨A, ns, rfl, hs, fun cells hl => ⟨cells, hl, rfl⟩⟩
  · refine sx_cons ?_
    refine s_for cn po (ix_range1 cn (gloL_ok gs (by decide +kernel)) fx.range ?_)
    refine ex_int ?_
    refine ⟨3, rfl, by decide, by decide, fun i Γ => ∃ o2 o3 o4 o5 o6 o7 o8 o9 o10 o11 : Option D, Γ = [some (.adr A), some .bag, o2, o3, o4, o5, o6, o7, o8, o9, o10, o11], ?_, ?_, ?_⟩
    · exact ⟨_, _, _, _, _, _, _, _, _, _, rfl⟩
    · rintro i dd Γ' _ ⟨o2, o3, o4, o5, o6, o7, o8, o9, o10, o11, rfl⟩
      walk_at "gname"
      refine sx_cons ?_
      refine s_par2 (i := 5) (j := 6) cn (by rfl) (by rfl) (by decide) (locL_ok ls (by decide +kernel)) (locL_ok ls (by decide +kernel)) (by kernel_rfl) ?_
      walk_at "go"
      refine ⟨bg, _, rfl, by decide, by decide, fun a b hT ha hb => ?_⟩
      walk_at "go"
      refine ⟨bg, _, rfl, by decide, by decide, fun e f hT2 he hf => ?_⟩
      walk_at "go"
      refine ⟨_, _, rfl, ?_⟩
      walk_at "go"
      refine ⟨bg, _, rfl, by decide, by decide, fun c0 d0 hT3 hc0 hd0 => ?_⟩
      have sp : SmallF 125 (a, b) := small_le (k := 120) (by decide) ⟨hT, ha, hb⟩
      have sr : SmallF 125 (e, f) := small_le (k := 120) (by decide) ⟨hT2, he, hf⟩
      have s0 : SmallF 125 (c0, d0) := small_le (k := 120) (by decide) ⟨hT3, hc0, hd0⟩
      have b0 : 0 < b := hT.1
      have sl := low_ok (n := a + 1) (m := b) (k := 125) b0 (by omega) (by omega)
      walk_at "go"
      refine ⟨a + 1, b, rfl, b0, Nat.lt_of_lt_of_le hb (Nat.pow_le_pow_right (by decide) (by decide)), ?_⟩
      walk_at "go"
      refine pick_lst bg ⟨Nat.le_of_ble_eq_true (by rfl), Nat.le_of_ble_eq_true (by rfl)⟩ (all_frac ?_ ?_)
      · refine List.forall_mem_cons.mpr ⟨⟨_, _, rfl, s0⟩, List.forall_mem_cons.mpr ⟨⟨_, _, rfl, sp⟩, List.forall_mem_cons.mpr ⟨⟨_, _, rfl, ?_⟩, List.forall_mem_cons.mpr ⟨⟨_, _, rfl, ⟨⟨by decide, by decide⟩, by decide, by decide⟩⟩, List.forall_mem_cons.mpr ⟨⟨_, _, rfl, sl⟩, List.forall_mem_cons.mpr ⟨⟨_, _, rfl, ?_⟩, fun _ h => nomatch h⟩⟩⟩⟩⟩⟩
        · exact ⟨⟨b0, by rw [Int.natAbs_neg]; exact hT.2⟩, by show (-a).natAbs < _; rw [Int.natAbs_neg]; omega, by show b.natAbs < _; omega⟩
        · exact ⟨⟨by show (0 : Int) < 1; decide, by show Nat.gcd b.natAbs 1 = 1; simp⟩, by show b.natAbs < _; omega, by show (1 : Int).natAbs < _; decide⟩
      · intro c d sq
        have up : ∀ {p : Int × Int}, SmallF 125 p → SmallF 200 p := small_le (by decide)
        have d0' : 0 < d := sq.1.1
        have f0 : 0 < f := hT2.1
        walk_at "go"
        refine ⟨tw, a, b, c, d, rfl, up sp, up sq, ?_⟩
        walk_at "go"
        refine ⟨tw, c, d, e, f, rfl, up sq, up sr, ?_⟩
        walk_at "go"
        refine ⟨bg, tw, rfl, ?_⟩
        walk_at "go"
        refine ⟨a, b, rfl, ?_⟩
        walk_at "go"
        refine ⟨a, b, rfl, by omega, Nat.lt_of_lt_of_le hb (Nat.pow_le_pow_right (by decide) (by decide)), ?_⟩
        walk_at "go"
        refine ⟨0, 1, rfl, ?_⟩
        walk_at "go"
        refine ⟨.inr ⟨by omega, Nat.lt_of_lt_of_le hb (Nat.pow_le_pow_right (by decide) (by decide))⟩, ?_⟩
        walk_at "go"
        refine same_of ?_ ⟨by simp, by simp [Smp]⟩ ?_
        · have e1 : signI a = (if decide (0 < a) = true then 1 else 0) - (if decide (a < 0) = true then 1 else 0) := by
            unfold signI
            simp only [decide_eq_true_eq]
            split <;> split <;> omega
          have e2 : signI 0 = 0 := rfl
          rw [e1, e2]
        walk_at "go"
        refine ⟨[], rfl, by decide, (fun _ h => nomatch h), fun x y hx hv => ?_⟩
        obtain ⟨rfl, rfl⟩ := frac_unique (a := x) (b := y) (c := 0) (d := 1) hx.1 ⟨by decide, by decide⟩ hv
        walk_at "go"
        refine ⟨⟨by simp, by simp [Smp]⟩, ?_⟩
        have mem1 : ∀ p ∈ [(a, b)], SmallF 200 p := fun p hp => by
          rcases List.mem_singleton.mp hp with rfl
          exact up sp
        have mem2 : ∀ p ∈ [(a, b), (c, d)], SmallF 200 p := fun p hp => by
          rcases List.mem_cons.mp hp with rfl | hp
          · exact up sp
          · rcases List.mem_singleton.mp hp with rfl
            exact up sq
        have mem4 : ∀ p ∈ [(a, b), (c, d), (e, f), (a, b)], SmallF 200 p := fun p hp => by
          rcases List.mem_cons.mp hp with rfl | hp
          · exact up sp
          rcases List.mem_cons.mp hp with rfl | hp
          · exact up sq
          rcases List.mem_cons.mp hp with rfl | hp
          · exact up sr
          · rcases List.mem_singleton.mp hp with rfl
            exact up sp
        have ha3 := lt3 (k := 125) (by decide) sp.2.1
        have hb3 := lt3 (k := 125) (by decide) sp.2.2
        have hc3 := lt3 (k := 125) (by decide) sq.2.1
        have hd3 := lt3 (k := 125) (by decide) sq.2.2
        have he3 := lt3 (k := 125) (by decide) sr.2.1
        have hf3 := lt3 (k := 125) (by decide) sr.2.2
        obtain ⟨s1, s2, s3⟩ := b400 (up sp).2.1 (up sq).2.2 (up sq).2.1 (up sp).2.2
        obtain ⟨_, _, s4⟩ := b400 (up sp).2.2 (up sq).2.2 (up sp).2.1 (up sq).2.1
        dsimp only at s1 s2 s3 s4 ha3 hb3 hc3 hd3 he3 hf3
        walk_at "go"
        refine ⟨[(a, b)], rfl, (show 1 ≤ 4 by decide), mem1, fun x y hx hv => ?_⟩
        obtain ⟨ex, ey⟩ := sum1 hx (up sp) hv
        have ex := ex.symm
        have ey := ey.symm
        subst ex ey
        walk_at "go"
        refine ⟨⟨by simp, by simp [Smp]⟩, ?_⟩
        walk_at "go"
        refine ⟨[(a, b), (c, d)], rfl, (show 2 ≤ 4 by decide), mem2, fun x2 y2 hx2 hv2 => ?_⟩
        walk_at "go"
        refine ⟨mok ha3 hd3, ?_⟩
        walk_at "go"
        refine ⟨mok hc3 hb3, ?_⟩
        walk_at "go"
        refine ⟨mok hb3 hd3, ?_⟩
        walk_at "go"
        refine worth_of hx2 (by decide) (by decide) s1 s4 (sum2 hv2) ?_
        walk_at "go"
        refine ⟨[(a, b), (c, d), (e, f), (a, b)], rfl, (show 4 ≤ 4 by decide), mem4, fun x4 y4 hx4 hv4 => ?_⟩
        obtain ⟨l1, l2, l3, l4, l5, l6⟩ := bnd4 sp.2.1 sp.2.2 sq.2.1 sq.2.2 sr.2.1 sr.2.2
        dsimp only at l1 l2 l3 l4 l5 l6
        walk_at "go"
        refine ⟨mok (lt3 (k := 126) (by decide) l1) hd3, ?_⟩
        walk_at "go"
        refine ⟨mok hc3 hb3, ?_⟩
        walk_at "go"
        refine ⟨mok (lt3 (k := 252) (by decide) l2) hf3, ?_⟩
        walk_at "go"
        refine ⟨mok he3 hb3, ?_⟩
        walk_at "go"
        refine ⟨mok (lt3 (k := 252) (by decide) l3) hd3, ?_⟩
        walk_at "go"
        refine ⟨mok hb3 hd3, ?_⟩
        walk_at "go"
        refine ⟨mok (lt3 (k := 252) (by decide) l4) hf3, ?_⟩
        walk_at "go"
        refine worth_of hx4 (by decide) (by decide) l5 l6 (sum4 (by omega) hv4) ?_
        walk_at "go"
        refine s_for cn po (ix_range1 cn (gloL_ok gs (by decide +kernel)) fx.range ?_)
        refine ex_int ?_
        refine ⟨4, rfl, by decide, by decide, fun i Γ => ∃ u w : Option D, Γ = [some (.adr A), some .bag, some dd, some (.tup [.int c, .int d]), u, some (.tup [.int a, .int b]), some (.tup [.int e, .int f]), some (.int a), some (.int b), some (.int c), some (.int d), w], ?_, ?_, ?_⟩
        · exact ⟨_, _, rfl⟩
        · rintro j dk Γ' _ ⟨u, w, rfl⟩
          walk_at "gname"
          walk_at "go"
          refine ⟨bg, a, b, rfl, b0, (up sp).2.1, (up sp).2.2, fun x hx => ?_⟩
          walk_at "go"
          refine ⟨hx, ?_⟩
          walk_at "go"
          refine ⟨hx, ?_⟩
          walk_at "go"
          refine ⟨trivial, ?_⟩
          walk_at "go"
          exact ⟨_, _, rfl⟩
        · rintro Γ' ⟨u, w, rfl⟩
          exact ⟨_, _, _, _, _, _, _, _, _, _, rfl⟩
    · rintro Γ' ⟨o2, o3, o4, o5, o6, o7, o8, o9, o10, o11, rfl⟩
      walk_at "go"
      rfl
end K02

set_option Elab.async false
set_option linter.all false
set_option maxRecDepth 100000
set_option maxHeartbeats 4000000
namespace K02
open PySem PySem.Spec PyProof.Rows L2 DX
abbrev PWl : Program := PySem.Challenge.rw_endlessnets_k02_fractions_reckoned.prog
def tfd : List He.DefD := [d_L_ratio_so, d_L_two_so]
abbrev Tt (K : PySem.W.Frag) : List (Addr × PySem.Str) := TtOf K tfd
section
variable {G : Gb} {h : Heap}
theorem err_number (X : G.K.In h) (Gm : h.Ns mainGlobals G.mg) (c : He.SaysD fa fn G.K) (e : errF G.K "InvalidNumber" = true) (b : binB G.K (He.ga G.K "NetError") = true) : Err G "InvalidNumber" ["value"] "InvalidNumber" 1 (He.ga G.K "InvalidNumber") ∧ DX.ErrF G (He.ga G.K "InvalidNumber") "value" (.ref (He.ga G.K "NetError")) (.ref (He.ga G.K "Missing")) := by
  unfold errF at e
  simp only [Bool.and_eq_true, decide_eq_true_eq] at e
  obtain ⟨e1, e2, e3, e4, e5, e6, e7⟩ := e
  obtain ⟨fd, F⟩ := c.def_ 0 (d := d_InvalidNumber_init) rfl
  have x := xfB_ok e2
  exact ⟨⟨gl_InvalidNumber X Gm c, oexB_ok e1, init1 (oexB_ok e1) (binB_ok b) (gl_NetError X Gm c) (He.eqO_ok e5) (He.eqO_ok e6) F sc_InvalidNumber_init (by decide +kernel) (by decide +kernel) (by decide +kernel) (He.eqO_ok e3) e4 (bd_InvalidNumber_init F)⟩, ⟨e7, ⟨x, He.eqO_ok e6⟩, ⟨x, He.eqO_ok e5⟩⟩⟩
theorem err_fraction (X : G.K.In h) (Gm : h.Ns mainGlobals G.mg) (c : He.SaysD fa fn G.K) (e : errF G.K "InvalidFraction" = true) (b : binB G.K (He.ga G.K "NetError") = true) : Err G "InvalidFraction" ["value"] "InvalidFraction" 1 (He.ga G.K "InvalidFraction") ∧ DX.ErrF G (He.ga G.K "InvalidFraction") "value" (.ref (He.ga G.K "NetError")) (.ref (He.ga G.K "Missing")) := by
  unfold errF at e
  simp only [Bool.and_eq_true, decide_eq_true_eq] at e
  obtain ⟨e1, e2, e3, e4, e5, e6, e7⟩ := e
  obtain ⟨fd, F⟩ := c.def_ 1 (d := d_InvalidFraction_init) rfl
  have x := xfB_ok e2
  exact ⟨⟨gl_InvalidFraction X Gm c, oexB_ok e1, init1 (oexB_ok e1) (binB_ok b) (gl_NetError X Gm c) (He.eqO_ok e5) (He.eqO_ok e6) F sc_InvalidFraction_init (by decide +kernel) (by decide +kernel) (by decide +kernel) (He.eqO_ok e3) e4 (bd_InvalidFraction_init F)⟩, ⟨e7, ⟨x, He.eqO_ok e6⟩, ⟨x, He.eqO_ok e5⟩⟩⟩
theorem nothing_ok (X : G.K.In h) (Gm : h.Ns mainGlobals G.mg) (t : He.tupB G.K "NOTHING" [.int 0, .int 1] = true) (e : He.eqO (PySem.W.nsIn G.K mainGlobals "NOTHING") (some (some (.ref (He.ga G.K "NOTHING")))) = true) : GlV G "NOTHING" (.tup [.int 0, .int 1]) :=
  ⟨_, .ref (He.ga G.K "NOTHING"), PySem.W.mg_of X Gm (He.eqO_ok e), rfl, fun W H _ => ⟨_, _, rfl, He.tupB_ok t H, _, _, rfl, rfl, _, _, rfl, rfl, rfl⟩⟩
theorem all_of (X : G.K.In h) (Gm : h.Ns mainGlobals G.mg) (c : He.SaysD fa fn G.K) (m : exB G.K = true) (tb : ∀ p ∈ tf, LamX.TabB G.base G.mg (He.cT G.K p).1 (He.cT G.K p).2) : All G (He.ga G.K "InvalidNumber") (He.ga G.K "InvalidFraction") (Tt G.K) := by
  unfold exB at m
  simp only [Bool.and_eq_true] at m
  obtain ⟨m0, m1, m2, m3, m4, m5, m6⟩ := m
  have nd := of_decide_eq_true m0
  have fx : Fx G := ⟨fr_isinstance X Gm c, fr_bool X Gm c, fr_str X Gm c, fr_tuple X Gm c, fr_dict X Gm c, fr_all X Gm c, fr_range X Gm c, fr_zip X Gm c, fr_min X Gm c, PySem.W.mg_of X Gm (He.eqO_ok m6), fr_abs X Gm c, fr_int X Gm c, fr_len X Gm c, fr_list X Gm c⟩
  obtain ⟨er1, ef1⟩ := err_number X Gm c m1 m3
  obtain ⟨er2, ef2⟩ := err_fraction X Gm c m2 m3
  have hNo := nothing_ok X Gm m4 m5
  have hN := gl_NetError X Gm c
  have hM := gl_Missing X Gm c
  have fdraw := fn_draw fx (pk_L_draw X Gm c)
  have fpick := fn_pick fx fdraw (pk_L_pick X Gm c)
  have fhuge := fn_huge fx fdraw fpick (pk_L_huge X Gm c)
  have fnumber := fn_number fx fdraw fpick fhuge (pk_L_number X Gm c)
  have fint := fn_int fx (pk_L_int X Gm c)
  have fiiv := fn_iiv fx (pk_is_integer_value X Gm c)
  have flgcd := fn_gcd fx (pk_L_gcd X Gm c)
  have flow := fn_low fx flgcd (pk_L_low X Gm c)
  have ffraction := fn_fraction fx fpick fnumber flow (pk_L_fraction X Gm c)
  obtain ⟨fratio, fratioB, fratioK2, fratioK1⟩ := ratio_all fx er1 (pk_ratio X Gm c)
  have fplus := fn_plus fx fratio (pk_plus X Gm c)
  have fminus := fn_minus fx fratio (pk_minus X Gm c)
  have ftimes := fn_times fx fratio (pk_times X Gm c)
  have fdivided := fn_divided fx er2 hNo fratio (pk_divided X Gm c)
  have flisf := fn_L_is_fraction fx flgcd fint (pk_L_is_fraction X Gm c)
  have fworth := fn_worth fx flisf (pk_L_worth X Gm c)
  have fsame := fn_same fx (pk_L_same X Gm c)
  have ffields := fn_fields fx (pk_L_fields X Gm c)
  have fodd := fn_odd fx fdraw fpick (pk_L_odd X Gm c)
  have fless := fn_is_less fx (pk_is_less X Gm c)
  have one := tt_one (K := G.K) (ds := tfd) nd
  have p1 : DX.PkC G (Tt G.K) "_law_ratio_so" d_L_ratio_so := DX.pkc (c.def_ 30 (d := d_L_ratio_so) rfl) rfl (gl_L_ratio_so X Gm c) (tb _ (List.mem_cons_self ..)) (List.mem_cons_self ..) (one _ (List.mem_cons_self ..))
  have p2 : DX.PkC G (Tt G.K) "_law_two_so" d_L_two_so := DX.pkc (c.def_ 31 (d := d_L_two_so) rfl) rfl (gl_L_two_so X Gm c) (tb _ (List.mem_cons_of_mem _ (List.mem_cons_self ..))) (List.mem_cons_of_mem _ (List.mem_cons_self ..)) (one _ (List.mem_cons_of_mem _ (List.mem_cons_self ..)))
  exact ⟨fx, fn_bag fx (pk_L_bag X Gm c), ffraction, fpick, flow, fn_two_so fx ef2 hN hM (pk_L_is X Gm c) (pk_L_got X Gm c) fsame ffields fplus fminus ftimes fdivided fless fworth p2,
    fn_ratio_so fx ef1 hN hM (pk_L_is X Gm c) (pk_L_got X Gm c) (fsame 1) ffields fnumber fratio fratioB fratioK2 fratioK1 fworth p1, fsame, fn_sign fx (pk_sign X Gm c), fn_floor_of fx (pk_floor_of X Gm c), fn_total fx hNo fplus (pk_total X Gm c) (fun _ _ _ => star_total),
    fworth, fn_near fx fpick fodd (pk_L_near X Gm c), fn_is_fraction fx fiiv (pk_is_fraction X Gm c), flisf⟩
end
end K02

set_option Elab.async false
set_option linter.all false
set_option maxRecDepth 100000
set_option maxHeartbeats 4000000
namespace K02
open PySem PySem.Spec PyProof.Rows L2 DX
theorem law_at {w : World} {K : PySem.W.Frag} {mg : PySem.Str → Option Value} {fL : Addr} {h : Heap} (X : K.In h) (Gm : h.Ns mainGlobals mg) (hmg : mg "law" = some (.ref fL)) (c : He.SaysX fa fn [] tf exB w h K) :
    LamX.LawAtS PySem.Challenge.rw_endlessnets_k02_fractions_reckoned w K (L2N.CX PWl w) 9 63 "_law_script" mg fL h := by
  have cd := c.t.d
  obtain ⟨fd, F⟩ := cd.def_ 32 (d := d_law) rfl
  have e : fL = He.fAd K d_law.at_ := by
    have := gl_law (G := ⟨PWl, w, K, mg, h⟩) X Gm cd
    exact Value.ref.inj (Option.some.inj (hmg.symm.trans this))
  subst e
  have b := FunD.bindsA (ps := ["_law_script"]) F fun _ _ _ _ _ _ us hl => match us, hl with | [_], _ => rfl
  refine ⟨fd, tf.map (He.cT K), spLaw K (Tt K), fun p hp => ?_, fun p hp => ?_, fun p hp => ?_, fun s v => b s [v] rfl, fun H a ns hl _ hT hS => ⟨a, ns, rfl, hS, tt_nil (ds := tfd) hT, fun _ => rfl⟩, fun base KB GB TB => ?_⟩
  · obtain ⟨q, hq, rfl⟩ := List.mem_map.mp hp
    exact c.empty q hq
  · obtain ⟨q, hq, rfl⟩ := List.mem_map.mp hp
    exact c.out q hq
  · obtain ⟨q, hq, rfl⟩ := List.mem_map.mp hp
    exact PySem.W.codeHd_of_K X (c.hd q hq)
  · exact fn_law (G := ⟨PWl, w, K, mg, base⟩) (all_of (G := ⟨PWl, w, K, mg, base⟩) KB GB cd c.more fun p hp => TB _ (List.mem_map_of_mem hp)) F
end K02
open PySem PySem.W PySem.Calls PyProof.Rows
theorem PySem.Challenge.cw_endlessnets_k02_fractions_reckoned_holds : PySem.Challenge.rw_endlessnets_k02_fractions_reckoned.Holds := by
  w_on; o_law
  refine HandSHeadRun.head_imp (r := OpenLaw.row PySem.Challenge.rw_endlessnets_k02_fractions_reckoned) (q := view (OpenLaw.row PySem.Challenge.rw_endlessnets_k02_fractions_reckoned).prog [0, K02.lawAt]) (H := K02.hk) (ob := K02.ob) (M := 4000) (loose := K02.loose) (d := HandSHeadRun.topDef (OpenLaw.row PySem.Challenge.rw_endlessnets_k02_fractions_reckoned).prog K02.lawAt) (kwd := []) K02.ob_eq
    K02.run (by kernel_rfl) (by kernel_rfl) (by kernel_rfl) (by rfl) (by first | assumption | decide +kernel) (by decide +kernel) ⟨rfl, rfl, rfl, rfl, rfl, by decide +kernel⟩ ?hw ?hc
  case hw => w_witness2
  case hc =>
    refine LamX.walk_ofTsE (l := PySem.Challenge.rw_endlessnets_k02_fractions_reckoned) (n := 63) (k := 9) (x := "_law_script") (CX := fun w => L2N.CX K02.PWl w) rfl (by decide) (by kernel_rfl) ⟨rfl, by decide, by decide⟩ ?F (fun _ _ _ _ _ z => by obtain ⟨_, _, _, _, _, _, _, _, _, _, _, _, z⟩ := z; exact z)
    intro w mg fL h Y Gm hmg0
    obtain ⟨K, KX, c⟩ := Y
    have hmg : mg ("law" : PySem.Str) = some (.ref fL) := by
      have e : (HandSHeadRun.topDef (OpenLaw.row PySem.Challenge.rw_endlessnets_k02_fractions_reckoned).prog K02.lawAt).name = ("law" : PySem.Str) := by kernel_rfl
      rw [← e]
      exact hmg0
    exact ⟨K, KX, K02.law_at KX Gm hmg c⟩
