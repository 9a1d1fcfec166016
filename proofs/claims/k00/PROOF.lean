import PyProof.Rows.All
import Wide.All
import OpenK.AllK
import Wide.FinOn
import HandS.ForMost
import HandS.Wide
import HandS.Deep
import KE.GoesMore
import KE.GoesEnum
import HandS.Conv
import HandS.More
import HandS.IsInst
import HandS.Style
import HandS.SortOrd
import HandS.SortRule
import KE.KRevSl
import HandS.TupAny
import HandS.Star
import HandS.RevRange
import HandS.WideBits
import HandS.GenList
import HandS.Codes
import HandS.TupMul
import HandS.SlotsOwn
import HandS.WordsExc
import HandS.TryOnly
import KE.KTupSum
import HandS.ExcInit
import HandS.Nested
import HandS.FStr
import KE.KExcSuper
import KE.KSuper
import HandS.Exc
import HandS.ExcField
import HandS.SortInts
import HandS.ExcBuiltin
import KE.KExcIs
import KE.KOwnIn
import KE.RegKSuper
import PySem.Challenge.RW_algebraparts_k00_numbers
set_option Elab.async false
set_option maxRecDepth 100000
set_option maxHeartbeats 2000000
/-! Fd1: data as they stand in the heap: what a value tells (Rp), what an evaluation leaves (NewM), slots by data (Sd), expressions by data (Ev). -/
namespace Fd
open PySem L2

/-! ### data -/
mutual
inductive Rp (G : Hp) : V → PyData → Prop
  | non : Rp G .non .none
  | bl (b : Bool) : Rp G (.bl b) (.bool b)
  | int (i : Int) : Rp G (.int i) (.int i)
  | str (x : Str) : Rp G (.str x) (.str x)
  | lst {a : Addr} {xs : List V} {ds : List PyData} : G a = some (.lst xs) → RpAll G xs ds → Rp G (.ref a) (.list ds)
  | tup {a : Addr} {xs : List V} {ds : List PyData} : G a = some (.tup xs) → RpAll G xs ds → Rp G (.ref a) (.tuple ds)
  /-- an object of a class of the text, as it stays: the class's place, then its fields -/
  | obj {a C dx : Addr} {fs : List (Str × V)} {kvs : List (PyData × PyData)} : G a = some (.ins C dx fs) → RpF G fs kvs → Rp G (.ref a) (.dict ((.int (C : Nat), .none) :: kvs))
inductive RpAll (G : Hp) : List V → List PyData → Prop
  | nil : RpAll G [] []
  | cons {v : V} {vs : List V} {d : PyData} {ds : List PyData} : Rp G v d → RpAll G vs ds → RpAll G (v :: vs) (d :: ds)
inductive RpF (G : Hp) : List (Str × V) → List (PyData × PyData) → Prop
  | nil : RpF G [] []
  | cons {f : Str} {v : V} {vs : List (Str × V)} {d : PyData} {ds : List (PyData × PyData)} : Rp G v d → RpF G vs ds → RpF G ((f, v) :: vs) ((.str f, d) :: ds)
end
mutual
theorem Rp.mono {G H : Hp} (e : Same G H) : ∀ {v : V} {d : PyData}, Rp G v d → Rp H v d
  | _, _, .non => .non
  | _, _, .bl b => .bl b
  | _, _, .int i => .int i
  | _, _, .str x => .str x
  | _, _, .lst h1 h2 => .lst (e _ _ h1) (RpAll.mono e h2)
  | _, _, .tup h1 h2 => .tup (e _ _ h1) (RpAll.mono e h2)
  | _, _, .obj h1 h2 => .obj (e _ _ h1) (RpF.mono e h2)
theorem RpAll.mono {G H : Hp} (e : Same G H) : ∀ {vs : List V} {ds : List PyData}, RpAll G vs ds → RpAll H vs ds
  | _, _, .nil => .nil
  | _, _, .cons h1 h2 => .cons (Rp.mono e h1) (RpAll.mono e h2)
theorem RpF.mono {G H : Hp} (e : Same G H) : ∀ {vs : List (Str × V)} {ds : List (PyData × PyData)}, RpF G vs ds → RpF H vs ds
  | _, _, .nil => .nil
  | _, _, .cons h1 h2 => .cons (Rp.mono e h1) (RpF.mono e h2)
end
mutual
theorem Rp.dp {K : PySem.W.Frag} {H : Hp} : ∀ {v : V} {d : PyData}, Rp H v d → d.canLay0 = true → Dp K H v d
  | _, _, .non, _ => .non
  | _, _, .bl b, _ => .bl b
  | _, _, .int i, _ => .int i
  | _, _, .str x, _ => .str x
  | _, _, .lst h1 h2, c => .lst (SqL.of h1) (RpAll.dp h2 (by simpa only [PyData.canLay0] using c))
  | _, _, .tup h1 h2, c => .tup (SqT.of h1) (RpAll.dp h2 (by simpa only [PyData.canLay0] using c))
  | _, _, .obj _ _, c => absurd c (by simp [PyData.canLay0])
theorem RpAll.dp {K : PySem.W.Frag} {H : Hp} : ∀ {vs : List V} {ds : List PyData}, RpAll H vs ds → PyData.canLayAll0 ds = true → DpAll K H vs ds
  | _, _, .nil, _ => .nil
  | _, _, .cons h1 h2, c => by
    simp only [PyData.canLayAll0, Bool.and_eq_true] at c
    exact .cons (Rp.dp h1 c.1) (RpAll.dp h2 c.2)
end
theorem lay_of {d : PyData} (h : SeqAt.shaped d = true) : d.canLay0 = true := by
  unfold SeqAt.shaped at h
  exact (Bool.and_eq_true_iff.mp h).1
/-- a field by its name -/
def kvGet (f : Str) : List (PyData × PyData) → Option PyData
  | [] => none
  | (.str g, d) :: r => if f = g then some d else kvGet f r
  | _ :: r => kvGet f r
def kvPut (f : Str) (d : PyData) : List (PyData × PyData) → List (PyData × PyData)
  | [] => [(.str f, d)]
  | (.str g, e) :: r => if g = f then (.str g, d) :: r else (.str g, e) :: kvPut f d r
  | e :: r => e :: kvPut f d r
theorem RpF.get {G : Hp} {f : Str} : ∀ {fs : List (Str × V)} {ks : List (PyData × PyData)} {d : PyData}, RpF G fs ks → kvGet f ks = some d → ∃ v, fs.lookup f = some v ∧ Rp G v d
  | _, _, d, .nil, e => by cases e
  | _, _, d, .cons (f := g) (v := v) h1 h2, e => by
    unfold kvGet at e
    by_cases h : f = g
    · rw [if_pos h] at e
      cases e
      exact ⟨v, by subst h; simp [List.lookup], h1⟩
    · rw [if_neg h] at e
      obtain ⟨u, q1, q2⟩ := RpF.get h2 e
      refine ⟨u, ?_, q2⟩
      have : (f == g) = false := by simpa using h
      simp [List.lookup, this, q1]
theorem RpF.none {G : Hp} {f : Str} : ∀ {fs : List (Str × V)} {ks : List (PyData × PyData)}, RpF G fs ks → kvGet f ks = Option.none → fs.lookup f = Option.none
  | _, _, .nil, e => rfl
  | _, _, .cons (f := g) (v := v) h1 h2, e => by
    unfold kvGet at e
    by_cases h : f = g
    · rw [if_pos h] at e
      cases e
    · rw [if_neg h] at e
      have : (f == g) = false := by simpa using h
      simp [List.lookup, this, RpF.none h2 e]
theorem RpF.put {G : Hp} {f : Str} {v : V} {d : PyData} (r : Rp G v d) : ∀ {fs : List (Str × V)} {ks : List (PyData × PyData)}, RpF G fs ks → RpF G (putF f v fs) (kvPut f d ks)
  | _, _, .nil => .cons r .nil
  | _, _, .cons (f := g) h1 h2 => by
    unfold putF kvPut
    by_cases h : g = f
    · rw [if_pos h, if_pos h]
      exact .cons r h2
    · rw [if_neg h, if_neg h]
      exact .cons h1 (RpF.put r h2)
theorem RpF.len {G : Hp} : ∀ {fs : List (Str × V)} {ks : List (PyData × PyData)}, RpF G fs ks → fs.length = ks.length
  | _, _, .nil => rfl
  | _, _, .cons _ h2 => by rw [List.length_cons, List.length_cons, RpF.len h2]
theorem RpAll.len {H : Hp} : ∀ {vs : List V} {ds : List PyData}, RpAll H vs ds → vs.length = ds.length
  | _, _, .nil => rfl
  | _, _, .cons _ h2 => by rw [List.length_cons, List.length_cons, RpAll.len h2]
theorem RpAll.get {H : Hp} : ∀ {vs : List V} {ds : List PyData} {i : Nat} {d : PyData}, RpAll H vs ds → ds[i]? = some d → ∃ v, vs[i]? = some v ∧ Rp H v d
  | _, _, _, _, .nil, e => by simp at e
  | _, _, 0, _, .cons h1 _, e => by simp at e; subst e; exact ⟨_, rfl, h1⟩
  | _, _, i + 1, d, .cons _ h2, e => by
    obtain ⟨u, q1, q2⟩ := RpAll.get (i := i) h2 (by simpa using e)
    exact ⟨u, by simpa using q1, q2⟩
theorem RpAll.getV {H : Hp} : ∀ {vs : List V} {ds : List PyData} {i : Nat} {v : V}, RpAll H vs ds → vs[i]? = some v → ∃ d, ds[i]? = some d ∧ Rp H v d
  | _, _, _, _, .nil, e => by simp at e
  | _, _, 0, _, .cons h1 _, e => by simp at e; subst e; exact ⟨_, rfl, h1⟩
  | _, _, i + 1, d, .cons _ h2, e => by
    obtain ⟨u, q1, q2⟩ := RpAll.getV (i := i) h2 (by simpa using e)
    exact ⟨u, by simpa using q1, q2⟩
theorem RpAll.append {H : Hp} : ∀ {vs us : List V} {ds es : List PyData}, RpAll H vs ds → RpAll H us es → RpAll H (vs ++ us) (ds ++ es)
  | _, _, _, _, .nil, q => q
  | _, _, _, _, .cons h1 h2, q => .cons h1 (RpAll.append h2 q)
theorem RpAll.set {H : Hp} {v : V} {d : PyData} (r : Rp H v d) : ∀ {vs : List V} {ds : List PyData} (i : Nat), RpAll H vs ds → RpAll H (vs.set i v) (ds.set i d)
  | _, _, _, .nil => .nil
  | _, _, 0, .cons _ t => .cons r t
  | _, _, i + 1, .cons q t => .cons q (RpAll.set r i t)
theorem RpAll.drop {H : Hp} : ∀ {vs : List V} {ds : List PyData} (n : Nat), RpAll H vs ds → RpAll H (vs.drop n) (ds.drop n)
  | _, _, 0, r => r
  | _, _, _ + 1, .nil => .nil
  | _, _, n + 1, .cons _ t => RpAll.drop n t
theorem RpAll.take {H : Hp} : ∀ {vs : List V} {ds : List PyData} (n : Nat), RpAll H vs ds → RpAll H (vs.take n) (ds.take n)
  | _, _, 0, _ => .nil
  | _, _, _ + 1, .nil => .nil
  | _, _, n + 1, .cons r t => .cons r (RpAll.take n t)
theorem RpAll.rev {H : Hp} : ∀ {vs : List V} {ds : List PyData}, RpAll H vs ds → RpAll H vs.reverse ds.reverse
  | _, _, .nil => .nil
  | _, _, .cons r t => by
    rw [List.reverse_cons, List.reverse_cons]
    exact RpAll.append (RpAll.rev t) (.cons r .nil)
theorem RpAll.one {H : Hp} {v : V} {d : PyData} (r : Rp H v d) : RpAll H [v] [d] := .cons r .nil
theorem RpAll.ints {H : Hp} : ∀ {vs : List V} {ns : List Int}, RpAll H vs (ns.map PyData.int) → vs = ns.map V.int
  | _, [], h => by cases h; rfl
  | _, n :: ns, h => by
    cases h with
    | cons h1 h2 =>
      cases h1
      rw [List.map_cons, ← RpAll.ints h2]
theorem RpAll.of_ints {H : Hp} : ∀ {ns : List Int}, RpAll H (ns.map V.int) (ns.map PyData.int)
  | [] => .nil
  | n :: ns => .cons (.int n) (RpAll.of_ints (ns := ns))
theorem Rp.intE {H : Hp} {v : V} {i : Int} (h : Rp H v (.int i)) : v = .int i := by cases h; rfl
theorem Rp.blE {H : Hp} {v : V} {i : Bool} (h : Rp H v (.bool i)) : v = .bl i := by cases h; rfl
theorem Rp.nonE {H : Hp} {v : V} (h : Rp H v .none) : v = .non := by cases h; rfl
theorem Rp.strE {H : Hp} {v : V} {x : Str} (h : Rp H v (.str x)) : v = .str x := by cases h; rfl
theorem Rp.lstE {H : Hp} {v : V} {ds : List PyData} (h : Rp H v (.list ds)) : ∃ a xs, v = .ref a ∧ H a = some (.lst xs) ∧ RpAll H xs ds := by
  cases h with
  | lst h1 h2 => exact ⟨_, _, rfl, h1, h2⟩
theorem Rp.tupE {H : Hp} {v : V} {ds : List PyData} (h : Rp H v (.tuple ds)) : ∃ a xs, v = .ref a ∧ H a = some (.tup xs) ∧ RpAll H xs ds := by
  cases h with
  | tup h1 h2 => exact ⟨_, _, rfl, h1, h2⟩

/-! ### what an evaluation leaves -/
/-- from the known part G of H to the known part G2 of H2; M: what may have been changed -/
structure NewM (M : Addr → Prop) (G H G2 H2 : Hp) : Prop where
  g : Same G G2
  i : Same G2 H2
  h : ∀ a o, ¬ M a → H a = some o → H2 a = some o
  t : ∀ a, H a ≠ none → H2 a ≠ none
  f : ∀ a, ¬ M a → H a ≠ none → G a = none → G2 a = none
def M0 : Addr → Prop := fun _ => False
abbrev New (G H G2 H2 : Hp) : Prop := NewM M0 G H G2 H2
theorem NewM.refl {M : Addr → Prop} {G H : Hp} (e : Same G H) : NewM M G H G H := ⟨Same.refl G, e, fun _ _ _ h => h, fun _ h => h, fun _ _ _ h => h⟩
theorem NewM.trans {M M1 : Addr → Prop} {G H G1 H1 G2 H2 : Hp} (a : NewM M G H G1 H1) (b : NewM M1 G1 H1 G2 H2) (hm : ∀ x, M1 x → M x ∨ H x = none) : NewM M G H G2 H2 where
  g := a.g.trans b.g
  i := b.i
  h := fun x o n e => b.h x o (fun m => by
    rcases hm x m with z | z
    · exact n z
    · rw [e] at z; cases z) (a.h x o n e)
  t := fun x e => b.t x (a.t x e)
  f := fun x k e n => b.f x (fun m => by
    rcases hm x m with z | z
    · exact k z
    · exact e z) (a.t x e) (a.f x k e n)
theorem NewM.mono {M M' : Addr → Prop} {G H G2 H2 : Hp} (a : NewM M G H G2 H2) (hm : ∀ x, M x → M' x) : NewM M' G H G2 H2 :=
  ⟨a.g, a.i, fun x o n e => a.h x o (fun m => n (hm x m)) e, a.t, fun x k => a.f x fun m => k (hm x m)⟩
theorem New.same {G H G2 H2 : Hp} (a : New G H G2 H2) : Same H H2 := fun b o e => a.h b o (fun z => z) e
theorem same_none {G H : Hp} (e : Same G H) {p : Addr} (n : H p = none) : G p = none := by
  cases q : G p with
  | none => rfl
  | some o => rw [e p o q] at n; cases n
/-- a new object that is known from then on -/
theorem new_dat {M : Addr → Prop} {G H : Hp} (e : Same G H) {p : Addr} (n : H p = none) (o : HO) : NewM M G H (upd G p o) (upd H p o) where
  g := fun b u q => by rw [upd_ne (ne_of_none q (same_none e n))]; exact q
  i := fun b u q => by
    by_cases hb : b = p
    · subst hb; rw [upd_same] at q ⊢; exact q
    · rw [upd_ne hb] at q ⊢; exact e b u q
  h := fun b u _ q => by rw [upd_ne (ne_of_none q n)]; exact q
  t := fun b q => by
    by_cases hb : b = p
    · subst hb; rw [upd_same]; intro z; cases z
    · rw [upd_ne hb]; exact q
  f := fun b _ q z => by
    by_cases hb : b = p
    · subst hb; exact absurd n q
    · rw [upd_ne hb]; exact z
/-- a new object that stays one's own -/
theorem new_own {M : Addr → Prop} {G H : Hp} (e : Same G H) {p : Addr} (n : H p = none) (o : HO) : NewM M G H G (upd H p o) where
  g := Same.refl G
  i := fun b u q => by rw [upd_ne (ne_of_none (e b u q) n)]; exact e b u q
  h := fun b u _ q => by rw [upd_ne (ne_of_none q n)]; exact q
  t := fun b q => by
    by_cases hb : b = p
    · subst hb; rw [upd_same]; intro z; cases z
    · rw [upd_ne hb]; exact q
  f := fun b _ q z => z
/-- one's own object changed -/
theorem new_set {M : Addr → Prop} {G H : Hp} (e : Same G H) {p : Addr} (n : G p = none) (m : M p) (o : HO) : NewM M G H G (upd H p o) where
  g := Same.refl G
  i := fun b u q => by rw [upd_ne (ne_of_none q n)]; exact e b u q
  h := fun b u k q => by rw [upd_ne (fun z => k (by rw [z]; exact m))]; exact q
  t := fun b q => by
    by_cases hb : b = p
    · subst hb; rw [upd_same]; intro z; cases z
    · rw [upd_ne hb]; exact q
  f := fun b _ q z => z
/-- one's own object becomes known -/
theorem new_frz {M : Addr → Prop} {G H : Hp} (e : Same G H) {p : Addr} {o : HO} (hp : H p = some o) (ng : G p = none) (m : M p) : NewM M G H (upd G p o) H where
  g := fun b u q => by rw [upd_ne (ne_of_none q ng)]; exact q
  i := fun b u q => by
    by_cases hb : b = p
    · subst hb; rw [upd_same] at q; rw [hp]; exact q
    · rw [upd_ne hb] at q; exact e b u q
  h := fun _ _ _ q => q
  t := fun _ q => q
  f := fun b k q z => by
    by_cases hb : b = p
    · subst hb; exact absurd m k
    · rw [upd_ne hb]; exact z

/-! ### slots -/
inductive Sl where
  | un
  | dat (d : PyData)
  | val (v : V)
  | cell (a : Addr) (ds : List PyData)
  | dic (a : Addr) (kvs : List (Int × PyData))
  /-- a list of one's own whose items are lists of one's own -/
  | nst (a : Addr) (bs : List Addr) (rows : List (List PyData))
  /-- an object that is being made -/
  | ob (a C : Addr) (ks : List (PyData × PyData))
  /-- a dict that a loop has locked -/
  | lok (a : Addr) (od : Obj) (kvs : List (Int × PyData))
  /-- what is told by a property that lasts -/
  | hld (φ : V → Hp → Prop) (m : ∀ v G H, Same G H → φ v G → φ v H)
def DicAll (G : Hp) : List (Key × V) → List (Int × PyData) → Prop
  | [], [] => True
  | (k, v) :: r, (i, d) :: q => k = Sum.inl i ∧ Rp G v d ∧ DicAll G r q
  | _, _ => False
theorem DicAll.mono {G H : Hp} (e : Same G H) : ∀ {xs : List (Key × V)} {ds : List (Int × PyData)}, DicAll G xs ds → DicAll H xs ds
  | [], [], _ => trivial
  | (k, v) :: r, (i, d) :: q, h => ⟨h.1, h.2.1.mono e, DicAll.mono e h.2.2⟩
  | [], _ :: _, h => h.elim
  | _ :: _, [], h => h.elim
def NstOk (G H : Hp) (bs : List Addr) (rows : List (List PyData)) : Prop := bs.length = rows.length ∧ ∀ (k : Nat) (b : Addr) (ds : List PyData), bs[k]? = some b → rows[k]? = some ds → G b = none ∧ ∃ xs, H b = some (.lst xs) ∧ RpAll G xs ds
theorem NstOk.to {G H G2 H2 : Hp} {bs : List Addr} {rows : List (List PyData)} (h : NstOk G H bs rows) (e : Same G G2) (hg : ∀ b, b ∈ bs → G b = none → H b ≠ none → G2 b = none) (hh : ∀ b o, b ∈ bs → H b = some o → H2 b = some o) : NstOk G2 H2 bs rows :=
  ⟨h.1, fun k b ds h1 h2 => by
    obtain ⟨q1, xs, q2, q3⟩ := h.2 k b ds h1 h2
    have hb := List.mem_of_getElem? h1
    exact ⟨hg b hb q1 (by rw [q2]; intro z; cases z), xs, hh b _ hb q2, q3.mono e⟩⟩
def SlOk (G H : Hp) : Option V → Sl → Prop
  | _, .un => True
  | o, .dat d => ∃ v, o = some v ∧ Rp G v d
  | o, .val v => o = some v
  | o, .cell a ds => o = some (.ref a) ∧ G a = none ∧ ∃ xs, H a = some (.lst xs) ∧ RpAll G xs ds
  | o, .dic a kvs => o = some (.ref a) ∧ G a = none ∧ ∃ xs, H a = some (.dK xs) ∧ DicAll G xs kvs
  | o, .nst a bs rows => o = some (.ref a) ∧ G a = none ∧ H a = some (.lst (bs.map V.ref)) ∧ NstOk G H bs rows
  | o, .ob a C ks => o = some (.ref a) ∧ G a = none ∧ ∃ dx fs, H a = some (.ins C dx fs) ∧ RpF G fs ks
  | o, .lok a od kvs => o = some (.ref a) ∧ ∃ xs, G a = some (.frz od (.dK xs)) ∧ DicAll G xs kvs
  | o, .hld φ _ => ∃ v, o = some v ∧ φ v G
abbrev En := List Sl
def own1 : Sl → List Addr
  | .cell a _ => [a]
  | .dic a _ => [a]
  | .ob a _ _ => [a]
  | .nst a bs _ => a :: bs
  | _ => []
def owns (Γ : En) : List Addr := Γ.flatMap own1
def Mo (Γ : En) : Addr → Prop := fun a => a ∈ owns Γ
structure Sd (G H : Hp) (σ : L2.St) (Γ : En) : Prop where
  len : σ.length = Γ.length
  at_ : ∀ (i : Nat) (s : Sl), Γ[i]? = some s → ∃ o, σ[i]? = some o ∧ SlOk G H o s
  nd : (owns Γ).Nodup
theorem SlOk.stay {G H G2 H2 : Hp} {o : Option V} {s : Sl} (x : SlOk G H o s) (n : NewM M G H G2 H2) (hm : ∀ a, a ∈ own1 s → ¬ M a) : SlOk G2 H2 o s := by
  cases s with
  | un => trivial
  | dat d => obtain ⟨v, e, r⟩ := x; exact ⟨v, e, r.mono n.g⟩
  | val v => exact x
  | cell a ds =>
    obtain ⟨e, ng, xs, hx, r⟩ := x
    exact ⟨e, n.f a (hm a (by simp [own1])) (by rw [hx]; intro z; cases z) ng, xs, n.h a _ (hm a (by simp [own1])) hx, r.mono n.g⟩
  | dic a ds =>
    obtain ⟨e, ng, xs, hx, r⟩ := x
    exact ⟨e, n.f a (hm a (by simp [own1])) (by rw [hx]; intro z; cases z) ng, xs, n.h a _ (hm a (by simp [own1])) hx, r.mono n.g⟩
  | nst a bs rows =>
    obtain ⟨e, ng, hx, r⟩ := x
    exact ⟨e, n.f a (hm a (by simp [own1])) (by rw [hx]; intro z; cases z) ng, n.h a _ (hm a (by simp [own1])) hx, r.to n.g (fun b hb q1 q2 => n.f b (hm b (by simp [own1, hb])) q2 q1) fun b o hb q => n.h b o (hm b (by simp [own1, hb])) q⟩
  | ob a C ks =>
    obtain ⟨e, ng, dx, fs, hx, r⟩ := x
    exact ⟨e, n.f a (hm a (by simp [own1])) (by rw [hx]; intro z; cases z) ng, dx, fs, n.h a _ (hm a (by simp [own1])) hx, r.mono n.g⟩
  | lok a od ds =>
    obtain ⟨e, xs, hx, r⟩ := x
    exact ⟨e, xs, n.g _ _ hx, r.mono n.g⟩
  | hld φ m =>
    obtain ⟨v, e, r⟩ := x
    exact ⟨v, e, m _ _ _ n.g r⟩
theorem Sd.new {G H G2 H2 : Hp} {σ : L2.St} {Γ : En} (x : Sd G H σ Γ) (n : New G H G2 H2) : Sd G2 H2 σ Γ :=
  ⟨x.len, fun i s e => by
    obtain ⟨o, e1, q⟩ := x.at_ i s e
    exact ⟨o, e1, q.stay n fun _ _ z => z⟩, x.nd⟩
theorem own_mem {Γ : En} {i : Nat} {s : Sl} {a : Addr} (e : Γ[i]? = some s) (h : a ∈ own1 s) : a ∈ owns Γ := List.mem_flatMap.mpr ⟨s, List.mem_of_getElem? e, h⟩
theorem owns_set_sub {a : Addr} : ∀ {Γ : En} {i : Nat} {s : Sl}, a ∈ owns (Γ.set i s) → a ∈ own1 s ∨ a ∈ owns Γ
  | [], i, s, h => by simp [owns] at h
  | t :: Γ, 0, s, h => by
    have h : a ∈ own1 s ++ owns Γ := by simpa [owns] using h
    rcases List.mem_append.mp h with h | h
    · exact .inl h
    · exact .inr (by show a ∈ own1 t ++ owns Γ; exact List.mem_append_right _ h)
  | t :: Γ, i + 1, s, h => by
    have h : a ∈ own1 t ++ owns (Γ.set i s) := by simpa [owns] using h
    rcases List.mem_append.mp h with h | h
    · exact .inr (by show a ∈ own1 t ++ owns Γ; exact List.mem_append_left _ h)
    · rcases owns_set_sub h with h | h
      · exact .inl h
      · exact .inr (by show a ∈ own1 t ++ owns Γ; exact List.mem_append_right _ h)
theorem nodup_set : ∀ {Γ : En} {i : Nat} {s : Sl}, (owns Γ).Nodup → (own1 s).Nodup → (∀ a, a ∈ own1 s → ∀ (j : Nat) (t : Sl), Γ[j]? = some t → a ∈ own1 t → j = i) → (owns (Γ.set i s)).Nodup
  | [], i, s, h, _, _ => by simpa [owns] using h
  | t :: Γ, 0, s, h, h1, h2 => by
    have h : (own1 t ++ owns Γ).Nodup := h
    show (own1 s ++ owns Γ).Nodup
    rw [List.nodup_append] at h ⊢
    refine ⟨h1, h.2.1, fun a ha b hb e => ?_⟩
    subst e
    obtain ⟨u, hu, hau⟩ := List.mem_flatMap.mp hb
    obtain ⟨j, hj⟩ := List.getElem?_of_mem hu
    have := h2 a ha (j + 1) u (by simpa using hj) hau
    omega
  | t :: Γ, i + 1, s, h, h1, h2 => by
    have h : (own1 t ++ owns Γ).Nodup := h
    show (own1 t ++ owns (Γ.set i s)).Nodup
    rw [List.nodup_append] at h ⊢
    refine ⟨h.1, nodup_set h.2.1 h1 (fun a ha j u hj hau => ?_), fun a ha b hb e => ?_⟩
    · have := h2 a ha (j + 1) u (by simpa using hj) hau
      omega
    · subst e
      rcases owns_set_sub hb with q | q
      · have := h2 a q 0 t rfl ha
        omega
      · exact h.2.2 a ha a q rfl
theorem Sd.set {G H : Hp} {σ : L2.St} {Γ : En} {i : Nat} {v : V} {s : Sl} (x : Sd G H σ Γ) (q : SlOk G H (some v) s) (hi : i < Γ.length) (h0 : own1 s = []) : Sd G H (σ.set i (some v)) (Γ.set i s) := by
  refine ⟨by simp [x.len], fun j t e => ?_, nodup_set x.nd (by rw [h0]; exact List.nodup_nil) fun a ha => by rw [h0] at ha; cases ha⟩
  by_cases hj : i = j
  · subst hj
    rw [List.getElem?_set_self hi] at e
    cases e
    exact ⟨_, List.getElem?_set_self (by rw [x.len]; exact hi), q⟩
  · rw [List.getElem?_set_ne hj] at e
    rw [List.getElem?_set_ne hj]
    exact x.at_ j t e
theorem Sd.un {G H : Hp} {σ : L2.St} {Γ : En} {i : Nat} (x : Sd G H σ Γ) (o : Option V) : Sd G H (σ.set i o) (Γ.set i .un) := by
  refine ⟨by simp [x.len], fun j t e => ?_, nodup_set x.nd (by simp [own1]) fun a ha => by simp [own1] at ha⟩
  by_cases hj : i = j
  · subst hj
    have hi : i < Γ.length := by
      have := (List.getElem?_eq_some_iff.mp e).1
      simpa using this
    rw [List.getElem?_set_self hi] at e
    cases e
    exact ⟨_, List.getElem?_set_self (by rw [x.len]; exact hi), trivial⟩
  · rw [List.getElem?_set_ne hj] at e
    rw [List.getElem?_set_ne hj]
    exact x.at_ j t e
/-- a new object of one's own goes to a slot -/
theorem Sd.own {G H : Hp} {σ : L2.St} {Γ : En} {i : Nat} {p : Addr} {s : Sl} (x : Sd G H σ Γ) (q : SlOk G H (some (.ref p)) s) (hi : i < Γ.length) (h0 : own1 s = [p]) (hp : ¬ p ∈ owns Γ) : Sd G H (σ.set i (some (.ref p))) (Γ.set i s) := by
  refine ⟨by simp [x.len], fun j t e => ?_, nodup_set x.nd (by rw [h0]; simp) fun a ha j t hj hat => ?_⟩
  · by_cases hj : i = j
    · subst hj
      rw [List.getElem?_set_self hi] at e
      cases e
      exact ⟨_, List.getElem?_set_self (by rw [x.len]; exact hi), q⟩
    · rw [List.getElem?_set_ne hj] at e
      rw [List.getElem?_set_ne hj]
      exact x.at_ j t e
  · rw [h0] at ha
    have : a = p := by simpa using ha
    subst this
    exact absurd (own_mem hj hat) hp
theorem Sd.fresh {G H : Hp} {σ : L2.St} {Γ : En} (x : Sd G H σ Γ) {p : Addr} (n : H p = none) : ¬ p ∈ owns Γ := fun h => by
  obtain ⟨s, hs, hp⟩ := List.mem_flatMap.mp h
  obtain ⟨j, hj⟩ := List.getElem?_of_mem hs
  obtain ⟨o, _, q⟩ := x.at_ j s hj
  cases s with
  | cell a ds =>
    obtain ⟨_, _, xs, hx, _⟩ := q
    have : p = a := by simpa [own1] using hp
    subst this
    rw [n] at hx; cases hx
  | dic a ds =>
    obtain ⟨_, _, xs, hx, _⟩ := q
    have : p = a := by simpa [own1] using hp
    subst this
    rw [n] at hx; cases hx
  | nst a bs rows =>
    obtain ⟨_, _, hx, r⟩ := q
    have hp : p = a ∨ p ∈ bs := by simpa [own1] using hp
    rcases hp with hp | hp
    · subst hp
      rw [n] at hx; cases hx
    · obtain ⟨k, hk⟩ := List.getElem?_of_mem hp
      have hk2 := (List.getElem?_eq_some_iff.mp hk).1
      obtain ⟨_, xs, h2, _⟩ := r.2 k p _ hk (List.getElem?_eq_getElem (by rw [← r.1]; exact hk2))
      rw [n] at h2; cases h2
  | ob a C ks =>
    obtain ⟨_, _, dx, fs, hx, _⟩ := q
    have : p = a := by simpa [own1] using hp
    subst this
    rw [n] at hx; cases hx
  | _ => simp [own1] at hp
theorem nd_own : ∀ {Γ : En} {i j : Nat} {s t : Sl} {a : Addr}, (owns Γ).Nodup → Γ[i]? = some s → Γ[j]? = some t → a ∈ own1 s → a ∈ own1 t → i = j
  | [], i, j, s, t, a, _, e, _, _, _ => by simp at e
  | u :: Γ, 0, 0, s, t, a, _, _, _, _, _ => rfl
  | u :: Γ, 0, j + 1, s, t, a, nd, e1, e2, h1, h2 => by
    have nd : (own1 u ++ owns Γ).Nodup := nd
    rw [List.nodup_append] at nd
    have : u = s := by simpa using e1
    subst this
    exact absurd rfl (nd.2.2 a h1 a (own_mem (by simpa using e2) h2))
  | u :: Γ, i + 1, 0, s, t, a, nd, e1, e2, h1, h2 => by
    have nd : (own1 u ++ owns Γ).Nodup := nd
    rw [List.nodup_append] at nd
    have : u = t := by simpa using e2
    subst this
    exact absurd rfl (nd.2.2 a h2 a (own_mem (by simpa using e1) h1))
  | u :: Γ, i + 1, j + 1, s, t, a, nd, e1, e2, h1, h2 => by
    have nd : (own1 u ++ owns Γ).Nodup := nd
    rw [List.nodup_append] at nd
    exact congrArg (· + 1) (nd_own (i := i) (j := j) nd.2.1 (by simpa using e1) (by simpa using e2) h1 h2)
/-- the object of the slot i is changed -/
theorem Sd.put {G H : Hp} {σ : L2.St} {Γ : En} {i : Nat} {p : Addr} {s s' : Sl} {o : HO} (x : Sd G H σ Γ) (hs : Γ[i]? = some s) (h0 : own1 s = [p]) (h1 : own1 s' = [p]) (q : ∀ v, SlOk G H v s → SlOk G (upd H p o) v s') : Sd G (upd H p o) σ (Γ.set i s') := by
  have hi : i < Γ.length := (List.getElem?_eq_some_iff.mp hs).1
  refine ⟨by simp [x.len], fun j t e => ?_, nodup_set x.nd (by rw [h1]; simp) fun a ha j t hj hat => ?_⟩
  · by_cases hj : i = j
    · subst hj
      rw [List.getElem?_set_self hi] at e
      cases e
      obtain ⟨v, e1, z⟩ := x.at_ i s hs
      exact ⟨v, e1, q v z⟩
    · rw [List.getElem?_set_ne hj] at e
      obtain ⟨v, e1, z⟩ := x.at_ j t e
      refine ⟨v, e1, ?_⟩
      have hne : ∀ a, a ∈ own1 t → a ≠ p := fun a ha e2 => hj (nd_own x.nd hs e (by rw [h0]; simp) (e2 ▸ ha))
      cases t with
      | un => trivial
      | dat d => exact z
      | val v => exact z
      | cell a ds =>
        obtain ⟨e, ng, xs, hx, r⟩ := z
        exact ⟨e, ng, xs, by rw [upd_ne (hne a (by simp [own1]))]; exact hx, r⟩
      | dic a ds =>
        obtain ⟨e, ng, xs, hx, r⟩ := z
        exact ⟨e, ng, xs, by rw [upd_ne (hne a (by simp [own1]))]; exact hx, r⟩
      | nst a bs rows =>
        obtain ⟨e, ng, hx, r⟩ := z
        exact ⟨e, ng, by rw [upd_ne (hne a (by simp [own1]))]; exact hx, r.to (Same.refl G) (fun b _ q _ => q) fun b o hb q => by rw [upd_ne (hne b (by simp [own1, hb]))]; exact q⟩
      | ob a C ks =>
        obtain ⟨e, ng, dx, fs, hx, r⟩ := z
        exact ⟨e, ng, dx, fs, by rw [upd_ne (hne a (by simp [own1]))]; exact hx, r⟩
      | lok a od ds => exact z
      | hld φ m => exact z
  · have : a = p := by rw [h1] at ha; simpa using ha
    subst this
    exact nd_own x.nd hj hs hat (by rw [h0]; simp)
end Fd

set_option Elab.async false
set_option maxRecDepth 100000
set_option maxHeartbeats 2000000
/-! Fd2: expressions by data. -/
namespace Fd
open PySem L2

/-- te evaluates, in slots Γ, to the data d; Γ': what the slots tell behind it (an argument list, a part of a slice, a test: EvA, EvT) -/
structure Ev (te : TE) (Γ Γ' : En) (d : PyData) : Prop where
  own : ∀ a, a ∈ owns Γ' → a ∈ owns Γ
  run : ∀ (σ : L2.St) (G H : Hp), Same G H → Sd G H σ Γ → ∀ Q : VK, (∀ v G2 H2, NewM (Mo Γ) G H G2 H2 → Sd G2 H2 σ Γ' → Rp G2 v d → Q v H2) → te σ H Q
structure EvT (tt : TT) (Γ Γ' : En) (b : Bool) : Prop where
  own : ∀ a, a ∈ owns Γ' → a ∈ owns Γ
  run : ∀ (σ : L2.St) (G H : Hp), Same G H → Sd G H σ Γ → ∀ Q : Bool → Hp → Prop, (∀ G2 H2, NewM (Mo Γ) G H G2 H2 → Sd G2 H2 σ Γ' → Q b H2) → tt σ H Q
structure EvA (ta : TA) (Γ Γ' : En) (ds : List PyData) : Prop where
  own : ∀ a, a ∈ owns Γ' → a ∈ owns Γ
  run : ∀ (σ : L2.St) (G H : Hp), Same G H → Sd G H σ Γ → ∀ Q : List V → Hp → Prop, (∀ vs G2 H2, NewM (Mo Γ) G H G2 H2 → Sd G2 H2 σ Γ' → RpAll G2 vs ds → Q vs H2) → ta σ H Q
structure EvO (to : TO) (Γ Γ' : En) (o : Option Int) : Prop where
  own : ∀ a, a ∈ owns Γ' → a ∈ owns Γ
  run : ∀ (σ : L2.St) (G H : Hp), Same G H → Sd G H σ Γ → ∀ Q : Option Int → Hp → Prop, (∀ G2 H2, NewM (Mo Γ) G H G2 H2 → Sd G2 H2 σ Γ' → Q o H2) → to σ H Q
/-- a new list, still one's own -/
structure EvC (te : TE) (Γ Γ' : En) (ds : List PyData) : Prop where
  own : ∀ a, a ∈ owns Γ' → a ∈ owns Γ
  run : ∀ (σ : L2.St) (G H : Hp), Same G H → Sd G H σ Γ → ∀ Q : VK, (∀ p xs G2 H2, NewM (Mo Γ) G H G2 H2 → Sd G2 H2 σ Γ' → H p = none → G2 p = none → H2 p = some (.lst xs) → RpAll G2 xs ds → Q (.ref p) H2) → te σ H Q
theorem mo {Γ Γ' : En} {H : Hp} (h : ∀ a, a ∈ owns Γ' → a ∈ owns Γ) : ∀ x, Mo Γ' x → Mo Γ x ∨ H x = none := fun x m => .inl (h x m)

section
variable {Γ Γ' Γ1 Γ2 Γ3 : En} {ta tb te tx : TE} {d e x y : PyData} {ds : List PyData}
theorem Ev.is (h : Ev te Γ Γ' d) (q : d = e) : Ev te Γ Γ' e := by rw [← q]; exact h
theorem Ev.sl (h : Ev te Γ Γ' d) (q : Γ' = Γ1) : Ev te Γ Γ1 d := by rw [← q]; exact h
theorem EvC.is {es : List PyData} (h : EvC te Γ Γ' ds) (q : ds = es) : EvC te Γ Γ' es := by rw [← q]; exact h
theorem EvT.is {b c : Bool} {tt : TT} (h : EvT tt Γ Γ' b) (q : b = c) : EvT tt Γ Γ' c := by rw [← q]; exact h
/-- a new list, known from then on -/
theorem EvC.ev (h : EvC te Γ Γ' ds) : Ev te Γ Γ' (.list ds) := ⟨h.own, fun σ G H e s Q q => h.run σ G H e s Q fun p xs G2 H2 n s2 hp g2 h2 r => by
  have hnew : NewM (Mo Γ) G H (upd G2 p (.lst xs)) H2 := ⟨fun b u k => by rw [upd_ne (ne_of_none k (same_none e hp))]; exact n.g b u k, fun b u k => by
      by_cases hb : b = p
      · subst hb; rw [upd_same] at k; rw [h2]; exact k
      · rw [upd_ne hb] at k; exact n.i b u k, n.h, n.t, fun b k z w => by
      by_cases hb : b = p
      · subst hb; exact absurd hp z
      · rw [upd_ne hb]; exact n.f b k z w⟩
  have sg : Same G2 (upd G2 p (.lst xs)) := fun b u k => by rw [upd_ne (ne_of_none k g2)]; exact k
  refine q _ _ _ hnew ⟨s2.len, fun i t ht => ?_, s2.nd⟩ (.lst upd_same (r.mono sg))
  obtain ⟨o, e1, z⟩ := s2.at_ i t ht
  refine ⟨o, e1, ?_⟩
  have hne : ∀ a, a ∈ own1 t → a ≠ p := fun a ha e2 => s.fresh hp (h.own p (e2 ▸ own_mem ht ha))
  cases t with
  | un => trivial
  | dat d => obtain ⟨v, e3, r3⟩ := z; exact ⟨v, e3, r3.mono sg⟩
  | val v => exact z
  | cell a ds => obtain ⟨e3, ng, ys, hx, r3⟩ := z; exact ⟨e3, by rw [upd_ne (hne a (by simp [own1]))]; exact ng, ys, hx, r3.mono sg⟩
  | dic a ds => obtain ⟨e3, ng, ys, hx, r3⟩ := z; exact ⟨e3, by rw [upd_ne (hne a (by simp [own1]))]; exact ng, ys, hx, r3.mono sg⟩
  | nst a bs rows => obtain ⟨e3, ng, hx, r3⟩ := z; exact ⟨e3, by rw [upd_ne (hne a (by simp [own1]))]; exact ng, hx, r3.to sg (fun b hb q _ => by rw [upd_ne (hne b (by simp [own1, hb]))]; exact q) fun b o _ q => q⟩
  | ob a C ks => obtain ⟨e3, ng, dx, fs, hx, r3⟩ := z; exact ⟨e3, by rw [upd_ne (hne a (by simp [own1]))]; exact ng, dx, fs, hx, r3.mono sg⟩
  | lok a od ds => obtain ⟨e3, ys, hx, r3⟩ := z; exact ⟨e3, ys, sg _ _ hx, r3.mono sg⟩
  | hld φ m => obtain ⟨v, e3, r3⟩ := z; exact ⟨v, e3, m _ _ _ sg r3⟩⟩
/-! names, constants -/
theorem ev_var {i : Nat} (h : Γ[i]? = some (.dat d)) : Ev (tVar i) Γ Γ d := ⟨fun _ z => z, fun σ G H e s Q q => by
  obtain ⟨o, e1, v, rfl, r⟩ := s.at_ i _ h
  exact ⟨v, e1, q v G H (NewM.refl e) s r⟩⟩
theorem ev_flat {v : V} (r : ∀ G, Rp G v d) : Ev (tC v) Γ Γ d := ⟨fun _ z => z, fun σ G H e s Q q => q v G H (NewM.refl e) s (r G)⟩
theorem ev_int {i : Int} : Ev (tC (.int i)) Γ Γ (.int i) := ev_flat fun _ => .int i
theorem ev_bl {b : Bool} : Ev (tC (.bl b)) Γ Γ (.bool b) := ev_flat fun _ => .bl b
theorem ev_non : Ev (tC .non) Γ Γ .none := ev_flat fun _ => .non
theorem ev_str {z : Str} : Ev (tC (.str z)) Γ Γ (.str z) := ev_flat fun _ => .str z
/-! operators of flat answers: r wants no more than the values -/
theorem ev_op {r : R2} {z : PyData} (ha : Ev ta Γ Γ1 x) (hb : Ev tb Γ1 Γ2 y) (hr : ∀ G H u v, Same G H → Rp G u x → Rp G v y → ∀ Q : VK, (∀ w, (∀ G, Rp G w z) → Q w H) → r u v H Q) : Ev (tOp r ta tb) Γ Γ2 z :=
  ⟨fun a m => ha.own a (hb.own a m), fun σ G H e s Q q => ha.run σ G H e s _ fun u G1 H1 n1 s1 r1 => hb.run σ G1 H1 n1.i s1 _ fun v G2 H2 n2 s2 r2 =>
    hr G2 H2 u v n2.i (r1.mono n2.g) r2 Q fun w hw => q w G2 H2 (n1.trans n2 (mo ha.own)) s2 (hw G2)⟩
theorem ev_I0 {g : Int → Int → Int} {i j : Int} (ha : Ev ta Γ Γ1 (.int i)) (hb : Ev tb Γ1 Γ2 (.int j)) : Ev (tOp (rI0 fun i j => .int (g i j)) ta tb) Γ Γ2 (.int (g i j)) :=
  ev_op ha hb fun G H u v _ r1 r2 Q q => ⟨i, j, r1.intE, r2.intE, q _ fun _ => .int _⟩
theorem ev_I {C : Int → Int → Prop} {g : Int → Int → Int} {i j : Int} (ha : Ev ta Γ Γ1 (.int i)) (hb : Ev tb Γ1 Γ2 (.int j)) (hc : C i j) : Ev (tOp (rI C fun i j => .int (g i j)) ta tb) Γ Γ2 (.int (g i j)) :=
  ev_op ha hb fun G H u v _ r1 r2 Q q => ⟨i, j, r1.intE, r2.intE, hc, q _ fun _ => .int _⟩
theorem ev_B0 {g : Int → Int → Bool} {i j : Int} (ha : Ev ta Γ Γ1 (.int i)) (hb : Ev tb Γ1 Γ2 (.int j)) : Ev (tOp (rI0 fun i j => .bl (g i j)) ta tb) Γ Γ2 (.bool (g i j)) :=
  ev_op ha hb fun G H u v _ r1 r2 Q q => ⟨i, j, r1.intE, r2.intE, q _ fun _ => .bl _⟩
theorem ev_un {g : Int → Int} {i : Int} (ha : Ev ta Γ Γ1 (.int i)) : Ev (tUn (rU fun i => .int (g i)) ta) Γ Γ1 (.int (g i)) :=
  ⟨ha.own, fun σ G H e s Q q => ha.run σ G H e s _ fun u G1 H1 n1 s1 r1 => ⟨i, r1.intE, q _ G1 H1 n1 s1 (.int _)⟩⟩
theorem ev_eqI {i j : Int} (ha : Ev ta Γ Γ1 (.int i)) (hb : Ev tb Γ1 Γ2 (.int j)) : Ev (tOp rEq ta tb) Γ Γ2 (.bool (decide (i = j))) :=
  ev_op ha hb fun G H u v _ r1 r2 Q q => by
    rw [r1.intE, r2.intE]
    refine ⟨rfl, ?_⟩
    have e : decide (V.int i = V.int j) = decide (i = j) := by simp
    rw [e]
    exact q _ fun _ => .bl _
theorem ev_neI {i j : Int} (ha : Ev ta Γ Γ1 (.int i)) (hb : Ev tb Γ1 Γ2 (.int j)) : Ev (tOp rNe ta tb) Γ Γ2 (.bool (!decide (i = j))) :=
  ev_op ha hb fun G H u v _ r1 r2 Q q => by
    rw [r1.intE, r2.intE]
    refine ⟨rfl, ?_⟩
    have e : decide (V.int i = V.int j) = decide (i = j) := by simp
    rw [e]
    exact q _ fun _ => .bl _
/-! == and in by data -/
theorem ev_eqD {K : PySem.W.Frag} (ha : Ev ta Γ Γ1 x) (hb : Ev tb Γ1 Γ2 y) (sx : SeqAt.shaped x = true) (sy : SeqAt.shaped y = true) : Ev (tOp (rEqD K) ta tb) Γ Γ2 (.bool (PyData.eqv x y)) :=
  ev_op ha hb fun G H u v e r1 r2 Q q => ⟨x, y, (r1.mono e).dp (lay_of sx), (r2.mono e).dp (lay_of sy), sx, sy, q _ fun _ => .bl _⟩
theorem ev_neD {K : PySem.W.Frag} (ha : Ev ta Γ Γ1 x) (hb : Ev tb Γ1 Γ2 y) (sx : SeqAt.shaped x = true) (sy : SeqAt.shaped y = true) : Ev (tOp (rNeD K) ta tb) Γ Γ2 (.bool (!PyData.eqv x y)) :=
  ev_op ha hb fun G H u v e r1 r2 Q q => ⟨x, y, (r1.mono e).dp (lay_of sx), (r2.mono e).dp (lay_of sy), sx, sy, q _ fun _ => .bl _⟩
theorem ev_inD {K : PySem.W.Frag} (ha : Ev ta Γ Γ1 x) (hb : Ev tb Γ1 Γ2 (.list ds)) (sx : SeqAt.shaped x = true) (sy : SeqAt.shaped (.list ds) = true) : Ev (tOp (rInD K) ta tb) Γ Γ2 (.bool (ds.any fun z => PyData.eqv z x)) :=
  ev_op ha hb fun G H u v e r1 r2 Q q => ⟨x, ds, (r1.mono e).dp (lay_of sx), (r2.mono e).dp (lay_of sy), sx, sy, q _ fun _ => .bl _⟩
theorem ev_notInD {K : PySem.W.Frag} (ha : Ev ta Γ Γ1 x) (hb : Ev tb Γ1 Γ2 (.list ds)) (sx : SeqAt.shaped x = true) (sy : SeqAt.shaped (.list ds) = true) : Ev (tOp (rNotInD K) ta tb) Γ Γ2 (.bool (!ds.any fun z => PyData.eqv z x)) :=
  ev_op ha hb fun G H u v e r1 r2 Q q => ⟨x, ds, (r1.mono e).dp (lay_of sx), (r2.mono e).dp (lay_of sy), sx, sy, q _ fun _ => .bl _⟩
/-! items -/
theorem ev_ixL {K : PySem.W.Frag} {j : Int} {k : Nat} (ha : Ev ta Γ Γ1 (.list ds)) (hb : Ev tb Γ1 Γ2 (.int j)) (hj : j = (k : Int)) (hd : ds[k]? = some d) : Ev (tOp (rIxL K) ta tb) Γ Γ2 d :=
  ⟨fun a m => ha.own a (hb.own a m), fun σ G H e s Q q => ha.run σ G H e s _ fun u G1 H1 n1 s1 r1 => hb.run σ G1 H1 n1.i s1 _ fun v G2 H2 n2 s2 r2 => by
    obtain ⟨p, xs, rfl, hp, ra⟩ := (r1.mono n2.g).lstE
    obtain ⟨w, hw, rw_⟩ := ra.get hd
    exact ⟨p, xs, j, w, rfl, r2.intE, SqL.of (n2.i _ _ hp), by rw [hj]; exact atI_nat hw, q w G2 H2 (n1.trans n2 (mo ha.own)) s2 rw_⟩⟩
theorem ev_ixT {K : PySem.W.Frag} {j : Int} {k : Nat} (ha : Ev ta Γ Γ1 (.tuple ds)) (hb : Ev tb Γ1 Γ2 (.int j)) (hj : j = (k : Int)) (hd : ds[k]? = some d) : Ev (tOp (rIxT K) ta tb) Γ Γ2 d :=
  ⟨fun a m => ha.own a (hb.own a m), fun σ G H e s Q q => ha.run σ G H e s _ fun u G1 H1 n1 s1 r1 => hb.run σ G1 H1 n1.i s1 _ fun v G2 H2 n2 s2 r2 => by
    obtain ⟨p, xs, rfl, hp, ra⟩ := (r1.mono n2.g).tupE
    obtain ⟨w, hw, rw_⟩ := ra.get hd
    exact ⟨p, xs, j, w, rfl, r2.intE, SqT.of (n2.i _ _ hp), by rw [hj]; exact atI_nat hw, q w G2 H2 (n1.trans n2 (mo ha.own)) s2 rw_⟩⟩
/-- an item of one's own list -/
theorem ev_ixC {K : PySem.W.Frag} {i : Nat} {a : Addr} {j : Int} {k : Nat} {ds0 : List PyData} (h : Γ[i]? = some (.cell a ds0)) (hb : Ev tb Γ Γ2 (.int j)) (h2 : Γ2[i]? = some (.cell a ds)) (hj : j = (k : Int)) (hd : ds[k]? = some d) : Ev (tOp (rIxL K) (tVar i) tb) Γ Γ2 d :=
  ⟨hb.own, fun σ G H e s Q q => by
    obtain ⟨o, e1, rfl, _⟩ := s.at_ i _ h
    refine ⟨_, e1, hb.run σ G H e s _ fun v G2 H2 n2 s2 r2 => ?_⟩
    obtain ⟨o, e2, rfl, ng, xs, hx, ra⟩ := s2.at_ i _ h2
    obtain ⟨w, hw, rw_⟩ := ra.get hd
    exact ⟨a, xs, j, w, rfl, r2.intE, SqL.of hx, by rw [hj]; exact atI_nat hw, q w G2 H2 n2 s2 rw_⟩⟩
/-! argument lists, displays -/
variable {tr : TA} {es : List PyData}
theorem ea_nil : EvA tNil Γ Γ [] := ⟨fun _ z => z, fun σ G H e s Q q => q [] G H (NewM.refl e) s .nil⟩
theorem ea_cons (ha : Ev ta Γ Γ1 x) (hr : EvA tr Γ1 Γ2 es) : EvA (tCons ta tr) Γ Γ2 (x :: es) :=
  ⟨fun a m => ha.own a (hr.own a m), fun σ G H e s Q q => ha.run σ G H e s _ fun u G1 H1 n1 s1 r1 => hr.run σ G1 H1 n1.i s1 _ fun vs G2 H2 n2 s2 r2 =>
    q _ G2 H2 (n1.trans n2 (mo ha.own)) s2 (.cons (r1.mono n2.g) r2)⟩
theorem ea_1 (ha : Ev ta Γ Γ1 x) : EvA (tCons ta tNil) Γ Γ1 [x] := ea_cons ha ea_nil
theorem ea_2 (ha : Ev ta Γ Γ1 x) (hb : Ev tb Γ1 Γ2 y) : EvA (tCons ta (tCons tb tNil)) Γ Γ2 [x, y] := ea_cons ha (ea_cons hb ea_nil)
theorem sl_of {n : Nat} (h : n ≤ 1000000) : n ≤ sizeLine := Nat.le_trans h (by decide)
theorem sl_lt {n : Nat} (h : n < 1000000) : n < sizeLine := Nat.lt_of_lt_of_le h (by decide)
/-- the new known object at p -/
theorem Sd.datNew {G H : Hp} {σ : L2.St} (s : Sd G H σ Γ) (e : Same G H) {p : Addr} (n : H p = none) (o : HO) : Sd (upd G p o) (upd H p o) σ Γ := s.new (new_dat e n o)
theorem ev_tup (ha : EvA tr Γ Γ1 es) (hl : es.length ≤ 1000000) : Ev (tTup tr) Γ Γ1 (.tuple es) := ⟨ha.own, fun σ G H e s Q q => ha.run σ G H e s _ fun vs G1 H1 n1 s1 r1 => ⟨sl_of (by rw [r1.len]; exact hl), fun p hp =>
  q _ _ _ (n1.trans (new_dat (M := M0) n1.i hp _) fun _ z => z.elim) (s1.datNew n1.i hp _) (.tup upd_same (r1.mono (new_dat (M := M0) n1.i hp _).g))⟩⟩
theorem none_back {M : Addr → Prop} {G H G2 H2 : Hp} (n : NewM M G H G2 H2) {p : Addr} (h : H2 p = none) : H p = none := by
  cases q : H p with
  | none => rfl
  | some o => exact absurd h (n.t p (by rw [q]; intro z; cases z))
theorem Sd.ownNew {G H : Hp} {σ : L2.St} (s : Sd G H σ Γ) (e : Same G H) {p : Addr} (n : H p = none) (o : HO) : Sd G (upd H p o) σ Γ := s.new (new_own e n o)
theorem ec_lst (ha : EvA tr Γ Γ1 es) (hl : es.length ≤ 1000000) : EvC (tLst tr) Γ Γ1 es := ⟨ha.own, fun σ G H e s Q q => ha.run σ G H e s _ fun vs G1 H1 n1 s1 r1 => ⟨sl_of (by rw [r1.len]; exact hl), fun p hp =>
  q p vs G1 _ (n1.trans (new_own (M := M0) n1.i hp _) fun _ z => z.elim) (s1.ownNew n1.i hp _) (none_back n1 hp) (same_none n1.i hp) upd_same r1⟩⟩
theorem ev_lst (ha : EvA tr Γ Γ1 es) (hl : es.length ≤ 1000000) : Ev (tLst tr) Γ Γ1 (.list es) := (ec_lst ha hl).ev
/-! built-in calls of flat answers -/
theorem ev_cb {r : List V → Hp → VK → Prop} {z : PyData} (ha : EvA tr Γ Γ1 es) (hr : ∀ G H vs, Same G H → RpAll G vs es → ∀ Q : VK, (∀ w, (∀ G, Rp G w z) → Q w H) → r vs H Q) : Ev (tCB r tr) Γ Γ1 z :=
  ⟨ha.own, fun σ G H e s Q q => ha.run σ G H e s _ fun vs G1 H1 n1 s1 r1 => hr G1 H1 vs n1.i r1 Q fun w hw => q w G1 H1 n1 s1 (hw G1)⟩
theorem RpAll.e1 {G : Hp} {vs : List V} (h : RpAll G vs [x]) : ∃ v, vs = [v] ∧ Rp G v x := by
  cases h with
  | cons a b => cases b; exact ⟨_, rfl, a⟩
theorem RpAll.e2 {G : Hp} {vs : List V} (h : RpAll G vs [x, y]) : ∃ v u, vs = [v, u] ∧ Rp G v x ∧ Rp G u y := by
  cases h with
  | cons a b =>
    obtain ⟨u, rfl, r⟩ := b.e1
    exact ⟨_, u, rfl, a, r⟩
abbrev rInt1 : List V → Hp → VK → Prop := fun xs H Q => (∃ i, xs = [.int i] ∧ Q (.int i) H) ∨ ∃ k, xs = [.bl k] ∧ Q (.int (if k then 1 else 0)) H
abbrev rAbs : List V → Hp → VK → Prop := fun xs H Q => ∃ i, xs = [.int i] ∧ Q (.int (if i < 0 then -i else i)) H
abbrev rLenS (K : PySem.W.Frag) : List V → Hp → VK → Prop := fun xs H Q => ∃ p ys, xs = [.ref p] ∧ (SqL K H p ys ∨ SqT K H p ys) ∧ Q (.int ys.length) H
abbrev rListS (K : PySem.W.Frag) : List V → Hp → VK → Prop := fun xs H Q => ∃ p ys, xs = [.ref p] ∧ (SqL K H p ys ∨ SqT K H p ys) ∧ ∀ l, H l = none → Q (.ref l) (upd H l (.lst ys))
abbrev rTupS (K : PySem.W.Frag) : List V → Hp → VK → Prop := fun xs H Q => ∃ p ys, xs = [.ref p] ∧ ((SqL K H p ys ∧ ∀ l, H l = none → Q (.ref l) (upd H l (.tup ys))) ∨ (SqT K H p ys ∧ Q (.ref p) H))
theorem ev_toInt {i : Int} (ha : Ev ta Γ Γ1 (.int i)) : Ev (tCB rInt1 (tCons ta tNil)) Γ Γ1 (.int i) := ev_cb (ea_1 ha) fun G H vs _ r Q q => by
  obtain ⟨v, rfl, r1⟩ := r.e1
  exact .inl ⟨i, by rw [r1.intE], q _ fun _ => .int i⟩
theorem ev_toIntB {b : Bool} (ha : Ev ta Γ Γ1 (.bool b)) : Ev (tCB rInt1 (tCons ta tNil)) Γ Γ1 (.int (if b then 1 else 0)) := ev_cb (ea_1 ha) fun G H vs _ r Q q => by
  obtain ⟨v, rfl, r1⟩ := r.e1
  exact .inr ⟨b, by rw [r1.blE], q _ fun _ => .int _⟩
theorem ev_abs {i : Int} (ha : Ev ta Γ Γ1 (.int i)) : Ev (tCB rAbs (tCons ta tNil)) Γ Γ1 (.int (if i < 0 then -i else i)) := ev_cb (ea_1 ha) fun G H vs _ r Q q => by
  obtain ⟨v, rfl, r1⟩ := r.e1
  exact ⟨i, by rw [r1.intE], q _ fun _ => .int _⟩
theorem ev_lenL {K : PySem.W.Frag} (ha : Ev ta Γ Γ1 (.list ds)) : Ev (tCB (rLenS K) (tCons ta tNil)) Γ Γ1 (.int (ds.length : Int)) := ev_cb (ea_1 ha) fun G H vs e r Q q => by
  obtain ⟨v, rfl, r1⟩ := r.e1
  obtain ⟨p, xs, rfl, hp, ra⟩ := r1.lstE
  exact ⟨p, xs, rfl, .inl (SqL.of (e _ _ hp)), q _ fun _ => by rw [ra.len]; exact .int _⟩
theorem ev_lenT {K : PySem.W.Frag} (ha : Ev ta Γ Γ1 (.tuple ds)) : Ev (tCB (rLenS K) (tCons ta tNil)) Γ Γ1 (.int (ds.length : Int)) := ev_cb (ea_1 ha) fun G H vs e r Q q => by
  obtain ⟨v, rfl, r1⟩ := r.e1
  obtain ⟨p, xs, rfl, hp, ra⟩ := r1.tupE
  exact ⟨p, xs, rfl, .inr (SqT.of (e _ _ hp)), q _ fun _ => by rw [ra.len]; exact .int _⟩
theorem ev_lenC {K : PySem.W.Frag} {i : Nat} {a : Addr} (h : Γ[i]? = some (.cell a ds)) : Ev (tCB (rLenS K) (tCons (tVar i) tNil)) Γ Γ (.int (ds.length : Int)) := ⟨fun _ z => z, fun σ G H e s Q q => by
  obtain ⟨o, e1, rfl, ng, xs, hx, ra⟩ := s.at_ i _ h
  refine ⟨_, e1, a, xs, rfl, .inl (SqL.of hx), ?_⟩
  rw [ra.len]
  exact q _ G H (NewM.refl e) s (.int _)⟩
theorem ec_list {K : PySem.W.Frag} (ha : Ev ta Γ Γ1 d) (hd : d = .list ds ∨ d = .tuple ds) : EvC (tCB (rListS K) (tCons ta tNil)) Γ Γ1 ds := ⟨ha.own, fun σ G H e s Q q => ha.run σ G H e s _ fun v G1 H1 n1 s1 r1 => by
  have h : ∃ p xs, v = .ref p ∧ (SqL K H1 p xs ∨ SqT K H1 p xs) ∧ RpAll G1 xs ds := by
    rcases hd with rfl | rfl
    · obtain ⟨p, xs, rfl, hp, ra⟩ := r1.lstE
      exact ⟨p, xs, rfl, .inl (SqL.of (n1.i _ _ hp)), ra⟩
    · obtain ⟨p, xs, rfl, hp, ra⟩ := r1.tupE
      exact ⟨p, xs, rfl, .inr (SqT.of (n1.i _ _ hp)), ra⟩
  obtain ⟨p, xs, rfl, hp, ra⟩ := h
  exact ⟨p, xs, rfl, hp, fun l hl => q l xs G1 _ (n1.trans (new_own (M := M0) n1.i hl _) fun _ z => z.elim) (s1.ownNew n1.i hl _) (none_back n1 hl) (same_none n1.i hl) upd_same ra⟩⟩
/-- list(x) of one's own list -/
theorem ec_listC {K : PySem.W.Frag} {i : Nat} {a : Addr} (h : Γ[i]? = some (.cell a ds)) : EvC (tCB (rListS K) (tCons (tVar i) tNil)) Γ Γ ds := ⟨fun _ z => z, fun σ G H e s Q q => by
  obtain ⟨o, e1, rfl, ng, xs, hx, ra⟩ := s.at_ i _ h
  exact ⟨_, e1, a, xs, rfl, .inl (SqL.of hx), fun l hl => q l xs G _ (new_own e hl _) (s.ownNew e hl _) hl (same_none e hl) upd_same ra⟩⟩
theorem ev_tupOf {K : PySem.W.Frag} (ha : Ev ta Γ Γ1 (.list ds)) : Ev (tCB (rTupS K) (tCons ta tNil)) Γ Γ1 (.tuple ds) := ⟨ha.own, fun σ G H e s Q q => ha.run σ G H e s _ fun v G1 H1 n1 s1 r1 => by
  obtain ⟨p, xs, rfl, hp, ra⟩ := r1.lstE
  exact ⟨p, xs, rfl, .inl ⟨SqL.of (n1.i _ _ hp), fun l hl => q _ _ _ (n1.trans (new_dat (M := M0) n1.i hl _) fun _ z => z.elim) (s1.datNew n1.i hl _) (.tup upd_same (ra.mono (new_dat (M := M0) n1.i hl _).g))⟩⟩⟩
theorem ev_tupOfT {K : PySem.W.Frag} (ha : Ev ta Γ Γ1 (.tuple ds)) : Ev (tCB (rTupS K) (tCons ta tNil)) Γ Γ1 (.tuple ds) := ⟨ha.own, fun σ G H e s Q q => ha.run σ G H e s _ fun v G1 H1 n1 s1 r1 => by
  obtain ⟨p, xs, rfl, hp, ra⟩ := r1.tupE
  exact ⟨p, xs, rfl, .inr ⟨SqT.of (n1.i _ _ hp), q _ _ _ n1 s1 (.tup hp ra)⟩⟩⟩
theorem ev_tupOfC {K : PySem.W.Frag} {i : Nat} {a : Addr} (h : Γ[i]? = some (.cell a ds)) : Ev (tCB (rTupS K) (tCons (tVar i) tNil)) Γ Γ (.tuple ds) := ⟨fun _ z => z, fun σ G H e s Q q => by
  obtain ⟨o, e1, rfl, ng, xs, hx, ra⟩ := s.at_ i _ h
  exact ⟨_, e1, a, xs, rfl, .inl ⟨SqL.of hx, fun l hl => q _ _ _ (new_dat e hl _) (s.datNew e hl _) (.tup upd_same (ra.mono (new_dat (M := M0) e hl _).g))⟩⟩⟩
/-! lists joined, repeated, cut -/
theorem ec_cat {zs : List PyData} (ha : Ev ta Γ Γ1 (.list ds)) (hb : Ev tb Γ1 Γ2 (.list zs)) (hl : ds.length + zs.length ≤ 1000000) : EvC (tOp rCat ta tb) Γ Γ2 (ds ++ zs) :=
  ⟨fun a m => ha.own a (hb.own a m), fun σ G H e s Q q => ha.run σ G H e s _ fun u G1 H1 n1 s1 r1 => hb.run σ G1 H1 n1.i s1 _ fun v G2 H2 n2 s2 r2 => by
    obtain ⟨p, xs, rfl, hp, ra⟩ := (r1.mono n2.g).lstE
    obtain ⟨p', ys, rfl, hp', ra'⟩ := r2.lstE
    have n12 := n1.trans n2 (mo ha.own)
    exact ⟨p, p', xs, ys, rfl, rfl, n2.i _ _ hp, n2.i _ _ hp', sl_of (by rw [ra.len, ra'.len]; exact hl), fun l hl => q l _ G2 _ (n12.trans (new_own (M := M0) n2.i hl _) fun _ z => z.elim) (s2.ownNew n2.i hl _) (none_back n12 hl) (same_none n2.i hl) upd_same (ra.append ra')⟩⟩
theorem ev_cat {zs : List PyData} (ha : Ev ta Γ Γ1 (.list ds)) (hb : Ev tb Γ1 Γ2 (.list zs)) (hl : ds.length + zs.length ≤ 1000000) : Ev (tOp rCat ta tb) Γ Γ2 (.list (ds ++ zs)) := (ec_cat ha hb hl).ev
theorem RpAll.rep {G : Hp} {v : V} {d : PyData} (r : Rp G v d) : ∀ n : Nat, RpAll G (List.replicate n v) (List.replicate n d)
  | 0 => .nil
  | n + 1 => .cons r (RpAll.rep r n)
/-- [e] * n -/
theorem ec_rep {n : Int} (ha : Ev ta Γ Γ1 (.list [d])) (hb : Ev tb Γ1 Γ2 (.int n)) (h0 : -1000000 ≤ n) (h1 : n ≤ 1000000) : EvC (tOp rRep ta tb) Γ Γ2 (List.replicate n.toNat d) :=
  ⟨fun a m => ha.own a (hb.own a m), fun σ G H e s Q q => ha.run σ G H e s _ fun u G1 H1 n1 s1 r1 => hb.run σ G1 H1 n1.i s1 _ fun v G2 H2 n2 s2 r2 => by
    obtain ⟨p, xs, rfl, hp, ra⟩ := (r1.mono n2.g).lstE
    obtain ⟨w, rfl, rw_⟩ := ra.e1
    have n12 := n1.trans n2 (mo ha.own)
    refine ⟨p, n, [w], rfl, r2.intE, n2.i _ _ hp, by omega, by omega, sl_of (by simp; omega), fun l hl => ?_⟩
    have e1 : (List.replicate n.toNat [w]).flatten = List.replicate n.toNat w := by
      generalize n.toNat = k
      induction k with
      | zero => rfl
      | succ k ih => rw [List.replicate_succ, List.flatten_cons, ih, List.replicate_succ, List.singleton_append]
    rw [e1]
    exact q l _ G2 _ (n12.trans (new_own (M := M0) n2.i hl _) fun _ z => z.elim) (s2.ownNew n2.i hl _) (none_back n12 hl) (same_none n2.i hl) upd_same (RpAll.rep rw_ _)⟩
theorem eo_none : EvO tNoPart Γ Γ none := ⟨fun _ z => z, fun σ G H e s Q q => q G H (NewM.refl e) s⟩
theorem eo_some {i : Int} (ha : Ev ta Γ Γ1 (.int i)) : EvO (tPart ta) Γ Γ1 (some i) := ⟨ha.own, fun σ G H e s Q q => ha.run σ G H e s _ fun v G1 H1 n1 s1 r1 => ⟨i, r1.intE, q G1 H1 n1 s1⟩⟩
/-! tests -/
variable {t u : TT} {a b : Bool}
theorem et_test (h : Ev te Γ Γ1 (.bool b)) : EvT (tTest te) Γ Γ1 b := ⟨h.own, fun σ G H e s Q q => h.run σ G H e s _ fun v G1 H1 n1 s1 r1 => ⟨b, r1.blE, q G1 H1 n1 s1⟩⟩
theorem et_B (h : Ev te Γ Γ1 (.bool b)) : EvT (tB te) Γ Γ1 b := ⟨h.own, fun σ G H e s Q q => h.run σ G H e s _ fun v G1 H1 n1 s1 r1 => ⟨b, r1.blE, q G1 H1 n1 s1⟩⟩
theorem et_yes : EvT tYes Γ Γ true := ⟨fun _ z => z, fun σ G H e s Q q => q G H (NewM.refl e) s⟩
theorem et_not (h : EvT t Γ Γ1 a) : EvT (tNot t) Γ Γ1 (!a) := ⟨h.own, fun σ G H e s Q q => h.run σ G H e s _ q⟩
/-- pure tests: what they leave is what was -/
theorem et_and (h1 : EvT t Γ Γ a) (h2 : a = true → EvT u Γ Γ b) : EvT (tAnd t u) Γ Γ (a && b) := ⟨fun _ z => z, fun σ G H e s Q q => h1.run σ G H e s _ fun G1 H1 n1 s1 => by
  cases a with
  | true => exact (h2 rfl).run σ G1 H1 n1.i s1 Q fun G2 H2 n2 s2 => q G2 H2 (n1.trans n2 fun x m => .inl m) s2
  | false => exact q G1 H1 n1 s1⟩
theorem et_or (h1 : EvT t Γ Γ a) (h2 : a = false → EvT u Γ Γ b) : EvT (tOr t u) Γ Γ (a || b) := ⟨fun _ z => z, fun σ G H e s Q q => h1.run σ G H e s _ fun G1 H1 n1 s1 => by
  cases a with
  | false => exact (h2 rfl).run σ G1 H1 n1.i s1 Q fun G2 H2 n2 s2 => q G2 H2 (n1.trans n2 fun x m => .inl m) s2
  | true => exact q G1 H1 n1 s1⟩
theorem ev_andV (h1 : Ev ta Γ Γ (.bool a)) (h2 : a = true → Ev tb Γ Γ (.bool b)) : Ev (tAndV ta tb) Γ Γ (.bool (a && b)) := ⟨fun _ z => z, fun σ G H e s Q q => h1.run σ G H e s _ fun v G1 H1 n1 s1 r1 => ⟨a, r1.blE, by
  cases a with
  | true => exact (h2 rfl).run σ G1 H1 n1.i s1 Q fun v G2 H2 n2 s2 r2 => q v G2 H2 (n1.trans n2 fun x m => .inl m) s2 r2
  | false => exact q _ G1 H1 n1 s1 (.bl false)⟩⟩
theorem ev_orV (h1 : Ev ta Γ Γ (.bool a)) (h2 : a = false → Ev tb Γ Γ (.bool b)) : Ev (tOrV ta tb) Γ Γ (.bool (a || b)) := ⟨fun _ z => z, fun σ G H e s Q q => h1.run σ G H e s _ fun v G1 H1 n1 s1 r1 => ⟨a, r1.blE, by
  cases a with
  | false => exact (h2 rfl).run σ G1 H1 n1.i s1 Q fun v G2 H2 n2 s2 r2 => q v G2 H2 (n1.trans n2 fun x m => .inl m) s2 r2
  | true => exact q _ G1 H1 n1 s1 (.bl true)⟩⟩
theorem ev_notV (h1 : Ev ta Γ Γ1 (.bool a)) : Ev (tNotV ta) Γ Γ1 (.bool (!a)) := ⟨h1.own, fun σ G H e s Q q => h1.run σ G H e s _ fun v G1 H1 n1 s1 r1 => ⟨a, r1.blE, q _ G1 H1 n1 s1 (.bl _)⟩⟩
theorem ev_if {d : PyData} (h : EvT t Γ Γ1 b) (h1 : b = true → Ev ta Γ1 Γ2 d) (h2 : b = false → Ev tb Γ1 Γ2 d) : Ev (tIf t ta tb) Γ Γ2 d :=
  ⟨fun a m => by
    cases b with
    | true => exact h.own a ((h1 rfl).own a m)
    | false => exact h.own a ((h2 rfl).own a m), fun σ G H e s Q q => h.run σ G H e s _ fun G1 H1 n1 s1 => by
    cases b with
    | true => exact (h1 rfl).run σ G1 H1 n1.i s1 Q fun v G2 H2 n2 s2 r2 => q v G2 H2 (n1.trans n2 (mo h.own)) s2 r2
    | false => exact (h2 rfl).run σ G1 H1 n1.i s1 Q fun v G2 H2 n2 s2 r2 => q v G2 H2 (n1.trans n2 (mo h.own)) s2 r2⟩
theorem Ev.orL {t1 t2 : TE} {d : PyData} (h : Ev t1 Γ Γ1 d) : Ev (fun σ H Q => t1 σ H Q ∨ t2 σ H Q) Γ Γ1 d := ⟨h.own, fun σ G H e s Q q => .inl (h.run σ G H e s Q q)⟩
theorem Ev.orR {t1 t2 : TE} {d : PyData} (h : Ev t2 Γ Γ1 d) : Ev (fun σ H Q => t1 σ H Q ∨ t2 σ H Q) Γ Γ1 d := ⟨h.own, fun σ G H e s Q q => .inr (h.run σ G H e s Q q)⟩
/-! calls of defs by their promises -/
/-- a def that changes nothing: for arguments ds it gives d -/
def spP (pre : List PyData → PyData → Prop) : Sp := fun vs H Q _ => ∃ G ds d, Same G H ∧ RpAll G vs ds ∧ pre ds d ∧ ∀ v G2 H2, New G H G2 H2 → Rp G2 v d → Q v H2
theorem ev_call {pre : List PyData → PyData → Prop} {E : XK} (ha : EvA tr Γ Γ1 es) (h : pre es d) : Ev (tCall (spP pre) [] E tr) Γ Γ1 d :=
  ⟨ha.own, fun σ G H e s Q q => ha.run σ G H e s _ fun vs G1 H1 n1 s1 r1 => ⟨G1, es, d, n1.i, by rw [List.append_nil]; exact r1, h, fun v G2 H2 n2 r2 => q v G2 H2 (n1.trans n2 fun _ z => z.elim) (s1.new n2) r2⟩⟩
/-- a def whose first argument is a list that it changes: from the data ss of that list and the others ds to d and new data of the list -/
def spS (pre : List PyData → List PyData → PyData → List PyData → Prop) : Sp := fun vs H Q _ => ∃ (G : Hp) (a : Addr) (us xs : List V) (ss ds ss' : List PyData) (d : PyData), vs = .ref a :: us ∧ Same G H ∧ G a = none ∧ H a = some (.lst xs) ∧ RpAll G xs ss ∧ RpAll G us ds ∧ pre ss ds d ss' ∧
  ∀ v G2 H2 ys, NewM (fun x => x = a) G H G2 H2 → G2 a = none → H2 a = some (.lst ys) → RpAll G2 ys ss' → Rp G2 v d → Q v H2
/-- the slot of one's own list, told anew -/
theorem Sd.call {G H G2 H2 : Hp} {σ : L2.St} {i : Nat} {a : Addr} {ss ss' : List PyData} {ys : List V} (s : Sd G H σ Γ) (hs : Γ[i]? = some (.cell a ss)) (n : NewM (fun x => x = a) G H G2 H2) (ng : G2 a = none) (h2 : H2 a = some (.lst ys)) (r : RpAll G2 ys ss') :
    Sd G2 H2 σ (Γ.set i (.cell a ss')) ∧ NewM (Mo Γ) G H G2 H2 := by
  have hi : i < Γ.length := (List.getElem?_eq_some_iff.mp hs).1
  refine ⟨⟨by simp [s.len], fun j t e => ?_, nodup_set s.nd (by simp [own1]) fun b hb j t hj hat => ?_⟩, n.mono fun x e => by subst e; exact own_mem hs (by simp [own1])⟩
  · by_cases hj : i = j
    · subst hj
      rw [List.getElem?_set_self hi] at e
      cases e
      obtain ⟨v, e1, z, _⟩ := s.at_ i _ hs
      exact ⟨v, e1, z, ng, ys, h2, r⟩
    · rw [List.getElem?_set_ne hj] at e
      obtain ⟨v, e1, z⟩ := s.at_ j t e
      exact ⟨v, e1, z.stay n fun b hb e2 => hj (nd_own s.nd hs e (by simp [own1]) (e2 ▸ hb))⟩
  · have : b = a := by simpa [own1] using hb
    subst this
    exact nd_own s.nd hj hs hat (by simp [own1])
theorem owns_cell {i : Nat} {a : Addr} {ss ss' : List PyData} (hs : Γ[i]? = some (.cell a ss)) : ∀ b, b ∈ owns (Γ.set i (.cell a ss')) → b ∈ owns Γ := fun b hb => by
  rcases owns_set_sub hb with z | z
  · have : b = a := by simpa [own1] using z
    subst this
    exact own_mem hs (by simp [own1])
  · exact z
theorem ev_callS {pre : List PyData → List PyData → PyData → List PyData → Prop} {E : XK} {i : Nat} {a : Addr} {ss0 ss ss' : List PyData} (h0 : Γ[i]? = some (.cell a ss0)) (ha : EvA tr Γ Γ1 es) (hs : Γ1[i]? = some (.cell a ss)) (h : pre ss es d ss') :
    Ev (tCall (spS pre) [] E (tCons (tVar i) tr)) Γ (Γ1.set i (.cell a ss')) d :=
  ⟨fun b hb => ha.own b (owns_cell hs b hb), fun σ G H e s Q q => by
    obtain ⟨o, e1, rfl, _⟩ := s.at_ i _ h0
    refine ⟨_, e1, ha.run σ G H e s _ fun us G1 H1 n1 s1 r1 => ?_⟩
    obtain ⟨o, e2, rfl, ng, xs, hx, ra⟩ := s1.at_ i _ hs
    refine ⟨G1, a, us, xs, ss, es, ss', d, by rw [List.append_nil], n1.i, ng, hx, ra, r1, h, fun v G2 H2 ys n2 g2 h2 ry rv => ?_⟩
    obtain ⟨s2, n3⟩ := s1.call hs n2 g2 h2 ry
    exact q v G2 H2 (n1.trans n3 (mo ha.own)) s2 rv⟩
end
end Fd

set_option Elab.async false
set_option maxRecDepth 100000
set_option maxHeartbeats 2000000
/-! Fd3: what is walked, list comprehensions, statements, loops, whole defs: by data. -/
namespace Fd
open PySem L2

/-! ### walks -/
def WalkOf (J : It) (G : Hp) (ds : List PyData) : Prop := ∀ (i : Nat) (G' H' : Hp), Same G G' → Same G' H' →
  (i = ds.length → J.stop i H') ∧ ∀ d, ds[i]? = some d → J.go i H' ∧ ∀ x H'', J.yld i H' x H'' → ∃ G'', New G' H' G'' H'' ∧ Rp G'' x d
structure Wk (wi : TI) (Γ Γ' : En) (ds : List PyData) : Prop where
  own : ∀ a, a ∈ owns Γ' → a ∈ owns Γ
  run : ∀ (σ : L2.St) (G H : Hp), Same G H → Sd G H σ Γ → ∀ R : It → Hp → Prop, (∀ J G2 H2, NewM (Mo Γ) G H G2 H2 → Sd G2 H2 σ Γ' → WalkOf J G2 ds → R J H2) → wi σ H R
section
variable {Γ Γ' Γ1 Γ2 : En} {ta tl : TE} {d : PyData} {ds : List PyData} {K : PySem.W.Frag}
theorem wk_list (h : Ev tl Γ Γ1 (.list ds)) : Wk (iList K tl) Γ Γ1 ds := ⟨h.own, fun σ G H e s R q => h.run σ G H e s _ fun v G1 H1 n1 s1 r1 => by
  obtain ⟨a, xs, rfl, ha, ra⟩ := r1.lstE
  refine ⟨a, rfl, ⟨xs, SqL.of (n1.i _ _ ha)⟩, q _ G1 H1 n1 s1 fun i G' H' e1 e2 => ?_⟩
  have ha' : SqL K H' a xs := SqL.of (e2 _ _ (e1 _ _ ha))
  refine ⟨fun hl => ⟨xs, ha', by rw [ra.len, hl]; exact Nat.le_refl _⟩, fun d hd => ?_⟩
  obtain ⟨v, hv, rv⟩ := ra.get hd
  exact ⟨⟨xs, v, ha', hv⟩, fun x H'' y => by
    obtain ⟨rfl, y⟩ := y
    have := y xs ha'
    rw [hv] at this
    cases this
    exact ⟨G', NewM.refl e2, rv.mono e1⟩⟩⟩
theorem wk_tup (h : Ev tl Γ Γ1 (.tuple ds)) : Wk (iTup K tl) Γ Γ1 ds := ⟨h.own, fun σ G H e s R q => h.run σ G H e s _ fun v G1 H1 n1 s1 r1 => by
  obtain ⟨a, xs, rfl, ha, ra⟩ := r1.tupE
  refine ⟨a, rfl, ⟨xs, SqT.of (n1.i _ _ ha)⟩, q _ G1 H1 n1 s1 fun i G' H' e1 e2 => ?_⟩
  have ha' : SqT K H' a xs := SqT.of (e2 _ _ (e1 _ _ ha))
  refine ⟨fun hl => ⟨xs, ha', by rw [ra.len, hl]; exact Nat.le_refl _⟩, fun d hd => ?_⟩
  obtain ⟨v, hv, rv⟩ := ra.get hd
  exact ⟨⟨xs, v, ha', hv⟩, fun x H'' y => by
    obtain ⟨rfl, y⟩ := y
    have := y xs ha'
    rw [hv] at this
    cases this
    exact ⟨G', NewM.refl e2, rv.mono e1⟩⟩⟩
/-- the numbers lo, lo + 1, .., n of them -/
def rg (lo : Int) (n : Nat) : List PyData := (List.range n).map fun (i : Nat) => PyData.int (lo + (i : Int))
theorem rg_len (lo : Int) (n : Nat) : (rg lo n).length = n := by simp [rg]
theorem rg_get {lo : Int} {n i : Nat} (h : i < n) : (rg lo n)[i]? = some (.int (lo + i)) := by
  unfold rg
  rw [List.getElem?_map, List.getElem?_range h]
  rfl
theorem itr_walk (lo : Int) (n : Nat) (G : Hp) : WalkOf (Itr lo n) G (rg lo n) := fun i G' H' e1 e2 => ⟨fun h => by rw [rg_len] at h; rw [h]; exact Nat.le_refl _, fun d hd => by
  have hi : i < n := by
    have := (List.getElem?_eq_some_iff.mp hd).1
    rwa [rg_len] at this
  rw [rg_get hi] at hd
  cases hd
  exact ⟨hi, fun x H'' y => by
    obtain ⟨rfl, rfl⟩ := y
    exact ⟨G', NewM.refl e2, .int _⟩⟩⟩
theorem wk_rng1 {n : Int} (h : Ev ta Γ Γ1 (.int n)) (h1 : -(2 ^ 62) ≤ n) (h2 : n < 2 ^ 62) : Wk (iRng1 (tCons ta tNil)) Γ Γ1 (rg 0 n.toNat) := ⟨h.own, fun σ G H e s R q => h.run σ G H e s _ fun v G1 H1 n1 s1 r1 =>
  ⟨n, by rw [r1.intE], h1, h2, q _ G1 H1 n1 s1 (itr_walk 0 n.toNat G1)⟩⟩
theorem wk_rng2 {tb : TE} {lo n : Int} (ha : Ev ta Γ Γ1 (.int lo)) (hb : Ev tb Γ1 Γ2 (.int n)) (h1 : -(2 ^ 62) ≤ lo) (h2 : lo < 2 ^ 62) (h3 : -(2 ^ 62) ≤ n) (h4 : n < 2 ^ 62) : Wk (iRng2 (tCons ta (tCons tb tNil))) Γ Γ2 (rg lo (n - lo).toNat) :=
  ⟨fun a m => ha.own a (hb.own a m), fun σ G H e s R q => ha.run σ G H e s _ fun v G1 H1 n1 s1 r1 => hb.run σ G1 H1 n1.i s1 _ fun u G2 H2 n2 s2 r2 =>
    ⟨lo, n, by rw [r1.intE, r2.intE], ⟨h1, h2, h3, h4⟩, q _ G2 H2 (n1.trans n2 (mo ha.own)) s2 (itr_walk lo (n - lo).toNat G2)⟩⟩
theorem Wk.orL {w1 w2 : TI} (h : Wk w1 Γ Γ1 ds) : Wk (fun σ H R => w1 σ H R ∨ w2 σ H R) Γ Γ1 ds := ⟨h.own, fun σ G H e s Q q => .inl (h.run σ G H e s Q q)⟩
theorem Wk.orR {w1 w2 : TI} (h : Wk w2 Γ Γ1 ds) : Wk (fun σ H R => w1 σ H R ∨ w2 σ H R) Γ Γ1 ds := ⟨h.own, fun σ G H e s Q q => .inr (h.run σ G H e s Q q)⟩

/-! ### targets -/
/-- data d given to a target: the slots is alone are changed -/
structure Tg (g : TG) (is : List Nat) (d : PyData) (Γ Γ' : En) : Prop where
  own : ∀ a, a ∈ owns Γ' → a ∈ owns Γ
  run : ∀ (σ : L2.St) (G H : Hp) (v : V), Same G H → Sd G H σ Γ → Rp G v d → ∀ Q : L2.St → Hp → Prop, (∀ σ', σ'.length = σ.length → (∀ j, ¬ j ∈ is → σ'[j]? = σ[j]?) → Sd G H σ' Γ' → Q σ' H) → g v σ H Q
theorem owns_dat {i : Nat} {s : Sl} (h : own1 s = []) : ∀ a, a ∈ owns (Γ.set i s) → a ∈ owns Γ := fun a m => by
  rcases owns_set_sub m with z | z
  · rw [h] at z; cases z
  · exact z
theorem tg_name {i : Nat} (hi : i < Γ.length) : Tg (gName i) [i] d Γ (Γ.set i (.dat d)) := ⟨owns_dat rfl, fun σ G H v e s r Q q => q _ (by simp) (fun j hj => by
  rw [List.getElem?_set_ne]
  intro z
  exact hj (by simp [z])) (s.set (s := .dat d) ⟨v, rfl, r⟩ hi rfl)⟩
/-- a, b = .. -/
theorem tg_two {i j : Nat} {d1 d2 : PyData} (hi : i < Γ.length) (hj : j < Γ.length) : Tg (gTup K 2 (gCons (gName i) (gCons (gName j) gNil))) [i, j] (.tuple [d1, d2]) Γ ((Γ.set i (.dat d1)).set j (.dat d2)) :=
  ⟨fun a m => owns_dat rfl a (owns_dat rfl a m), fun σ G H v e s r Q q => by
    obtain ⟨a, xs, rfl, ha, ra⟩ := r.tupE
    obtain ⟨v1, v2, rfl, r1, r2⟩ := ra.e2
    refine ⟨a, _, rfl, SqT.of (e _ _ ha), rfl, v1, [v2], rfl, v2, [], rfl, rfl, q _ (by simp) (fun k hk => ?_) ((s.set (s := .dat d1) ⟨v1, rfl, r1⟩ hi rfl).set (s := .dat d2) ⟨v2, rfl, r2⟩ (by simpa using hj) rfl)⟩
    have h1 : i ≠ k := fun z => hk (by simp [z])
    have h2 : j ≠ k := fun z => hk (by simp [z])
    rw [List.getElem?_set_ne h2, List.getElem?_set_ne h1]⟩
/-- a, b, c = .. -/
theorem RpAll.e3 {G : Hp} {vs : List V} {x y z : PyData} (h : RpAll G vs [x, y, z]) : ∃ v u w, vs = [v, u, w] ∧ Rp G v x ∧ Rp G u y ∧ Rp G w z := by
  cases h with
  | cons a b =>
    obtain ⟨u, w, rfl, r, q⟩ := b.e2
    exact ⟨_, u, w, rfl, a, r, q⟩
theorem tg_three {i j k : Nat} {d1 d2 d3 : PyData} (hi : i < Γ.length) (hj : j < Γ.length) (hk : k < Γ.length) : Tg (gTup K 3 (gCons (gName i) (gCons (gName j) (gCons (gName k) gNil)))) [i, j, k] (.tuple [d1, d2, d3]) Γ (((Γ.set i (.dat d1)).set j (.dat d2)).set k (.dat d3)) :=
  ⟨fun a m => owns_dat rfl a (owns_dat rfl a (owns_dat rfl a m)), fun σ G H v e s r Q q => by
    obtain ⟨a, xs, rfl, ha, ra⟩ := r.tupE
    obtain ⟨v1, v2, v3, rfl, r1, r2, r3⟩ := ra.e3
    refine ⟨a, _, rfl, SqT.of (e _ _ ha), rfl, v1, [v2, v3], rfl, v2, [v3], rfl, v3, [], rfl, rfl, q _ (by simp) (fun l hl => ?_) (((s.set (s := .dat d1) ⟨v1, rfl, r1⟩ hi rfl).set (s := .dat d2) ⟨v2, rfl, r2⟩ (by simpa using hj) rfl).set (s := .dat d3) ⟨v3, rfl, r3⟩ (by simpa using hk) rfl)⟩
    have h1 : i ≠ l := fun z => hl (by simp [z])
    have h2 : j ≠ l := fun z => hl (by simp [z])
    have h3 : k ≠ l := fun z => hl (by simp [z])
    rw [List.getElem?_set_ne h3, List.getElem?_set_ne h2, List.getElem?_set_ne h1]⟩

/-! ### list comprehensions -/
def wipeΓ (Γ : En) : List Nat → En
  | [] => Γ
  | v :: vs => (wipeΓ Γ vs).set v .un
theorem owns_wipe : ∀ {vs : List Nat} {a : Addr}, a ∈ owns (wipeΓ Γ vs) → a ∈ owns Γ
  | [], _, h => h
  | v :: vs, a, h => owns_wipe (owns_dat (i := v) (s := .un) rfl a h)
theorem Sd.wipe {G H : Hp} {σ : L2.St} (s : Sd G H σ Γ) : ∀ vs : List Nat, Sd G H (wipe σ vs) (wipeΓ Γ vs)
  | [] => s
  | v :: vs => (Sd.wipe s vs).un none
theorem wipe_get {σ : L2.St} : ∀ {vs : List Nat} {i : Nat}, (L2.wipe σ vs)[i]? = if i ∈ vs then (σ[i]?.map fun _ => none) else σ[i]?
  | [], i => by simp [L2.wipe]
  | v :: vs, i => by
    unfold L2.wipe
    by_cases h : v = i
    · subst h
      rw [if_pos (List.mem_cons_self)]
      by_cases hlt : v < σ.length
      · rw [List.getElem?_set_self (by rw [wipe_length]; exact hlt), List.getElem?_eq_getElem hlt]; rfl
      · rw [List.getElem?_eq_none (by rw [List.length_set, wipe_length]; omega), List.getElem?_eq_none (by omega)]; rfl
    · rw [List.getElem?_set_ne h, wipe_get]
      by_cases h2 : i ∈ vs
      · rw [if_pos h2, if_pos (List.mem_cons_of_mem _ h2)]
      · rw [if_neg h2, if_neg (by simp only [List.mem_cons, not_or]; exact ⟨fun z => h z.symm, h2⟩)]
theorem wipeΓ_len : ∀ {vs : List Nat}, (wipeΓ Γ vs).length = Γ.length
  | [] => rfl
  | v :: vs => by unfold wipeΓ; rw [List.length_set, wipeΓ_len]
theorem wipeΓ_un : ∀ {vs : List Nat} {i : Nat} {s : Sl}, i ∈ vs → (wipeΓ Γ vs)[i]? = some s → s = .un
  | [], _, _, h, _ => by simp at h
  | v :: vs, i, s, h, e => by
    unfold wipeΓ at e
    by_cases hv : v = i
    · subst hv
      have hlt : v < (wipeΓ Γ vs).length := by
        have := (List.getElem?_eq_some_iff.mp e).1
        simpa using this
      rw [List.getElem?_set_self hlt] at e
      exact (Option.some.inj e).symm
    · rw [List.getElem?_set_ne hv] at e
      rcases List.mem_cons.mp h with z | z
      · exact absurd z.symm hv
      · exact wipeΓ_un z e
theorem Sd.unwipe {G H : Hp} {σ : L2.St} {vs : List Nat} (s : Sd G H (L2.wipe σ vs) Γ) (h : ∀ i s, i ∈ vs → Γ[i]? = some s → s = .un) : Sd G H σ Γ := ⟨by rw [← s.len, wipe_length], fun i t e => by
  obtain ⟨o, e1, q⟩ := s.at_ i t e
  rw [wipe_get] at e1
  by_cases hi : i ∈ vs
  · rw [h i t hi e]
    have hlt : i < σ.length := by
      have := (List.getElem?_eq_some_iff.mp e).1
      have := s.len
      rw [wipe_length] at this
      omega
    exact ⟨_, List.getElem?_eq_getElem hlt, trivial⟩
  · rw [if_neg hi] at e1
    exact ⟨o, e1, q⟩, s.nd⟩
theorem wipe_tg {σ σ' : L2.St} {vs is : List Nat} (hs : ∀ i, i ∈ is → i ∈ vs) (hl : σ'.length = (L2.wipe σ vs).length) (h : ∀ j, ¬ j ∈ is → σ'[j]? = (L2.wipe σ vs)[j]?) : L2.wipe σ' vs = L2.wipe σ vs := by
  rw [wipe_length] at hl
  refine List.ext_getElem? fun j => ?_
  rw [wipe_get, wipe_get]
  by_cases hj : j ∈ vs
  · rw [if_pos hj, if_pos hj]
    by_cases hlt : j < σ.length
    · rw [List.getElem?_eq_getElem hlt, List.getElem?_eq_getElem (by omega)]; rfl
    · rw [List.getElem?_eq_none (by omega), List.getElem?_eq_none (by omega)]
  · rw [if_neg hj, if_neg hj, h j (fun z => hj (hs j z)), wipe_get, if_neg hj]
/-- the items that a comprehension keeps, f i the test and e i the item at the turn i -/
def kept (n : Nat) (f : Nat → Bool) (e : Nat → PyData) : List PyData := ((List.range n).filter f).map e
theorem kept_yes {n : Nat} {f : Nat → Bool} {v : Nat → PyData} (h : f n = true) : kept (n + 1) f v = kept n f v ++ [v n] := by
  unfold kept
  rw [List.range_succ, List.filter_append, List.map_append, List.filter_cons, if_pos h] <;> rfl
theorem kept_no {n : Nat} {f : Nat → Bool} {v : Nat → PyData} (h : f n = false) : kept (n + 1) f v = kept n f v := by
  unfold kept
  rw [List.range_succ, List.filter_append, List.map_append, List.filter_cons, if_neg (by rw [h]; decide)]
  show _ ++ [] = _
  rw [List.append_nil]
theorem kept_len (n : Nat) (f : Nat → Bool) (v : Nat → PyData) : (kept n f v).length ≤ n := by
  unfold kept
  rw [List.length_map]
  have h := List.length_filter_le f (List.range n)
  rw [List.length_range] at h
  exact h
theorem kept_all (n : Nat) (v : Nat → PyData) : kept n (fun _ => true) v = (List.range n).map v := by
  unfold kept
  rw [List.filter_eq_self.mpr (by simp)]
/-- [te for g in wi if tt]: Γs i the slots ahead of the turn i -/
theorem ec_lc {wi : TI} {g : TG} {tt : TT} {te : TE} {vs is : List Nat} (hw : Wk wi Γ Γ1 ds) (hv : wipeΓ Γ1 vs = Γ1) (hs : ∀ i, i ∈ is → i ∈ vs) (hl : ds.length ≤ 1000000) (Γs Γt Γu Γv : Nat → En) (f : Nat → Bool) (e : Nat → PyData)
    (h0 : Γs 0 = Γ1) (hg : ∀ i d, ds[i]? = some d → Tg g is d (Γs i) (Γt i)) (ht : ∀ i d, ds[i]? = some d → EvT tt (Γt i) (Γu i) (f i)) (he : ∀ i d, ds[i]? = some d → f i = true → Ev te (Γu i) (Γv i) (e i))
    (hn : ∀ i d, ds[i]? = some d → Γs (i + 1) = wipeΓ (if f i then Γv i else Γu i) vs) : EvC (tLc wi g tt te vs) Γ (Γs ds.length) (kept ds.length f e) := by
  have ow : ∀ i, i ≤ ds.length → (∀ a, a ∈ owns (Γs i) → a ∈ owns Γ1) ∧ ∀ j s, j ∈ vs → (Γs i)[j]? = some s → s = .un := fun i => by
    induction i with
    | zero =>
      intro _
      rw [h0]
      exact ⟨fun _ z => z, fun j s hj e => by rw [← hv] at e; exact wipeΓ_un hj e⟩
    | succ i ih =>
      intro hi
      have hd : ds[i]? = some ds[i] := List.getElem?_eq_getElem (by omega)
      rw [hn i _ hd]
      refine ⟨fun a m => (ih (by omega)).1 a ((hg i _ hd).own a ((ht i _ hd).own a ?_)), fun j s hj e => wipeΓ_un hj e⟩
      have m := owns_wipe m
      cases hf : f i with
      | true => rw [hf] at m; exact (he i _ hd hf).own a m
      | false => rw [hf] at m; exact m
  refine ⟨fun a m => hw.own a ((ow _ (Nat.le_refl _)).1 a m), fun σ G H e0 s Q q => hw.run σ G H e0 s _ fun J G1 H1 n1 s1 wk => ?_⟩
  intro D hD
  have hDΓ : ¬ D ∈ owns Γ1 := s1.fresh hD
  have s1w : Sd G1 H1 (L2.wipe σ vs) Γ1 := by
    have := s1.wipe vs
    rw [hv] at this
    exact this
  let Pv : Nat → Hp → Prop := fun i H' => ∃ G' xs, NewM (Mo Γ1) G1 H1 G' H' ∧ Sd G' H' (L2.wipe σ vs) (Γs i) ∧ G' D = none ∧ H' D = some (.lst xs) ∧ RpAll G' xs (kept i f e)
  have p0 : Pv 0 (upd H1 D (.lst [])) := ⟨G1, [], new_own n1.i hD _, by rw [h0]; exact s1w.ownNew n1.i hD _, same_none n1.i hD, upd_same, .nil⟩
  refine ⟨fun i m H' => m = ds.length - i ∧ i ≤ ds.length ∧ Pv i H', ⟨_, rfl, Nat.zero_le _, p0⟩, ?_⟩
  rintro i m H' ⟨rfl, hi, G', xs, n2, s2, gD, hD', rx⟩
  obtain ⟨wstop, wgo⟩ := wk i G' H' n2.g n2.i
  by_cases hlt : i < ds.length
  · have hd : ds[i]? = some ds[i] := List.getElem?_eq_getElem hlt
    obtain ⟨go, yld⟩ := wgo _ hd
    refine .inr ⟨go, Pv (i + 1), fun H2 p => ⟨ds.length - (i + 1), by omega, rfl, hlt, p⟩, fun x H2 y => ?_⟩
    obtain ⟨G2, n3, rxx⟩ := yld x H2 y
    have s3 := s2.new n3
    refine (hg i _ hd).run _ G2 H2 x n3.i s3 rxx _ fun σ' hl' hk' s4 => ⟨wipe_tg hs hl' hk', ?_⟩
    have oi := (ow i hi).1
    have m23 : NewM (Mo Γ1) G1 H1 G2 H2 := n2.trans n3 fun _ z => z.elim
    refine (ht i _ hd).run σ' G2 H2 n3.i s4 _ fun G3 H3 n5 s5 => ?_
    have oT : ∀ a, a ∈ owns (Γt i) → a ∈ owns Γ1 := fun a h => oi a ((hg i _ hd).own a h)
    have oU : ∀ a, a ∈ owns (Γu i) → a ∈ owns Γ1 := fun a h => oT a ((ht i _ hd).own a h)
    have m5 : NewM (Mo Γ1) G1 H1 G3 H3 := m23.trans n5 fun a h => .inl (oT a h)
    have d3 : H2 D = some (.lst xs) := n3.same _ _ hD'
    have d5 : H3 D = some (.lst xs) := n5.h D _ (fun h => hDΓ (oT D h)) d3
    have g3 : G2 D = none := n3.f D (fun z => z) (by rw [hD']; intro z; cases z) gD
    have g5 : G3 D = none := n5.f D (fun h => hDΓ (oT D h)) (by rw [d3]; intro z; cases z) g3
    have back : ∀ {Γx : En} {G4 H4 : Hp} {σ4 : L2.St}, Sd G4 H4 σ4 Γx → L2.wipe σ4 vs = L2.wipe σ vs → Sd G4 H4 (L2.wipe σ vs) (wipeΓ Γx vs) := fun {Γx G4 H4 σ4} z ew => by
      rw [← ew]
      exact z.wipe vs
    have ewip : L2.wipe σ' vs = L2.wipe σ vs := wipe_tg hs hl' hk'
    cases hf : f i with
    | false =>
      rw [if_neg (by decide)]
      refine ⟨G3, xs, m5, ?_, g5, d5, ?_⟩
      · rw [hn i _ hd, hf]
        exact back s5 ewip
      · rw [kept_no hf]
        exact rx.mono (n3.g.trans n5.g)
    | true =>
      rw [if_pos rfl]
      refine (he i _ hd hf).run σ' G3 H3 n5.i s5 _ fun v G4 H4 n6 s6 rv => ⟨xs, n6.h D _ (fun h => hDΓ (oU D h)) d5, sl_lt (by rw [rx.len]; have := kept_len i f e; omega), ?_⟩
      have m6 : NewM (Mo Γ1) G1 H1 G4 H4 := m5.trans n6 fun a h => .inl (oU a h)
      have g6 : G4 D = none := n6.f D (fun h => hDΓ (oU D h)) (by rw [d5]; intro z; cases z) g5
      have d6 : H4 D = some (.lst xs) := n6.h D _ (fun h => hDΓ (oU D h)) d5
      have n7 : NewM (fun a => a = D) G4 H4 G4 (upd H4 D (.lst (xs ++ [v]))) := new_set (M := fun a => a = D) n6.i g6 rfl _
      refine ⟨G4, _, m6.trans n7 (fun a h => by subst h; exact .inr hD), ?_, g6, upd_same, ?_⟩
      · rw [hn i _ hd, hf]
        have oV : ¬ D ∈ owns (Γv i) := fun h => hDΓ (oU D ((he i _ hd hf).own D h))
        have s7 : Sd G4 (upd H4 D (.lst (xs ++ [v]))) σ' (Γv i) := ⟨s6.len, fun j t e => by
          obtain ⟨o, e1, z⟩ := s6.at_ j t e
          exact ⟨o, e1, z.stay n7 fun a ha e2 => oV (e2 ▸ own_mem e ha)⟩, s6.nd⟩
        exact back s7 ewip
      · rw [kept_yes hf]
        exact ((rx.mono (n3.g.trans n5.g)).mono n6.g).append (.one rv)
  · have ei : i = ds.length := by omega
    subst ei
    refine .inl ⟨wstop rfl, q D xs G' H' (n1.trans n2 (mo hw.own)) (s2.unwipe (ow _ (Nat.le_refl _)).2) (none_back n1 hD) gD hD' rx⟩
theorem kept_of {α : Type} (xs : List α) (f : α → Bool) (e : α → PyData) : kept xs.length (fun i => (xs[i]?.map f).getD false) (fun i => (xs[i]?.map e).getD .none) = (xs.filter f).map e := by
  have h : ∀ n, n ≤ xs.length → kept n (fun i => (xs[i]?.map f).getD false) (fun i => (xs[i]?.map e).getD .none) = ((xs.take n).filter f).map e := fun n => by
    induction n with
    | zero => intro _; rfl
    | succ n ih =>
      intro hn
      have e1 : xs[n]? = some xs[n] := List.getElem?_eq_getElem (by omega)
      have ih := ih (by omega)
      rw [List.take_succ_eq_append_getElem (by omega : n < xs.length), List.filter_append, List.map_append, ← ih]
      cases hf : f xs[n] with
      | true =>
        rw [kept_yes (by rw [e1]; exact hf), List.filter_cons_of_pos hf, e1]
        rfl
      | false =>
        rw [kept_no (by rw [e1]; exact hf), List.filter_cons_of_neg (by rw [hf]; decide)]
        simp
  have := h xs.length (Nat.le_refl _)
  rwa [List.take_length] at this
/-- the pure case over encoded items: Γt x the slots at the item x -/
theorem ec_lcF {α : Type} {xs : List α} {enc : α → PyData} {wi : TI} {g : TG} {tt : TT} {te : TE} {vs is : List Nat} (hw : Wk wi Γ Γ1 (xs.map enc)) (hv : wipeΓ Γ1 vs = Γ1) (hs : ∀ i, i ∈ is → i ∈ vs) (hl : xs.length ≤ 1000000) (Γt : α → En) (f : α → Bool) (e : α → PyData)
    (hg : ∀ x, x ∈ xs → Tg g is (enc x) Γ1 (Γt x)) (ht : ∀ x, x ∈ xs → EvT tt (Γt x) (Γt x) (f x)) (he : ∀ x, x ∈ xs → f x = true → Ev te (Γt x) (Γt x) (e x)) (hn : ∀ x, x ∈ xs → wipeΓ (Γt x) vs = Γ1) : EvC (tLc wi g tt te vs) Γ Γ1 ((xs.filter f).map e) := by
  have get : ∀ {i : Nat} {d : PyData}, (xs.map enc)[i]? = some d → ∃ x, xs[i]? = some x ∧ x ∈ xs ∧ d = enc x := fun {i d} h => by
    rw [List.getElem?_map] at h
    obtain ⟨x, hx, rfl⟩ := Option.map_eq_some_iff.mp h
    exact ⟨x, hx, List.mem_of_getElem? hx, rfl⟩
  have := ec_lc (ds := xs.map enc) (te := te) (tt := tt) (g := g) hw hv hs (by rw [List.length_map]; exact hl) (fun _ => Γ1) (fun i => (xs[i]?.map Γt).getD Γ1) (fun i => (xs[i]?.map Γt).getD Γ1) (fun i => (xs[i]?.map Γt).getD Γ1)
    (fun i => (xs[i]?.map f).getD false) (fun i => (xs[i]?.map e).getD .none) rfl
    (fun i d h => by obtain ⟨x, hx, hm, rfl⟩ := get h; simp only [hx]; exact hg x hm)
    (fun i d h => by obtain ⟨x, hx, hm, rfl⟩ := get h; simp only [hx]; exact ht x hm)
    (fun i d h hf => by obtain ⟨x, hx, hm, rfl⟩ := get h; simp only [hx] at hf ⊢; exact he x hm hf)
    (fun i d h => by obtain ⟨x, hx, hm, rfl⟩ := get h; simp only [hx]; rw [ite_self]; exact (hn x hm).symm)
  rw [List.length_map, kept_of] at this
  exact this
/-- .. without a test -/
theorem ec_lcM {α : Type} {xs : List α} {enc : α → PyData} {wi : TI} {g : TG} {te : TE} {vs is : List Nat} (hw : Wk wi Γ Γ1 (xs.map enc)) (hv : wipeΓ Γ1 vs = Γ1) (hs : ∀ i, i ∈ is → i ∈ vs) (hl : xs.length ≤ 1000000) (Γt : α → En) (e : α → PyData)
    (hg : ∀ x, x ∈ xs → Tg g is (enc x) Γ1 (Γt x)) (he : ∀ x, x ∈ xs → Ev te (Γt x) (Γt x) (e x)) (hn : ∀ x, x ∈ xs → wipeΓ (Γt x) vs = Γ1) : EvC (tLc wi g tYes te vs) Γ Γ1 (xs.map e) := by
  have := ec_lcF (tt := tYes) hw hv hs hl Γt (fun _ => true) e hg (fun x _ => et_yes) (fun x h _ => he x h) hn
  rwa [List.filter_eq_self.mpr (by simp)] at this
end
end Fd

set_option Elab.async false
set_option maxRecDepth 100000
set_option maxHeartbeats 2000000
/-! Fd4: statements, loops, whole defs: by data. -/
namespace Fd
open PySem PyProof.Rows L2

/-- what is wanted behind a statement, by data -/
structure Ed where
  nx : En → Prop
  rt : En → PyData → Prop
  bk : En → Prop := fun _ => False
  ct : En → Prop := fun _ => False
/-- from Γ at G, H to Γ' at G2, H2 -/
structure Lv (Γ Γ' : En) (G H G2 H2 : Hp) (σ' : L2.St) : Prop where
  n : NewM (Mo Γ) G H G2 H2
  o : ∀ a, a ∈ owns Γ' → a ∈ owns Γ ∨ H a = none
  s : Sd G2 H2 σ' Γ'
theorem Lv.trans {Γ Γ1 Γ2 : En} {G H G1 H1 G2 H2 : Hp} {σ1 σ2 : L2.St} (a : Lv Γ Γ1 G H G1 H1 σ1) (b : Lv Γ1 Γ2 G1 H1 G2 H2 σ2) : Lv Γ Γ2 G H G2 H2 σ2 :=
  ⟨a.n.trans b.n a.o, fun x m => by
    rcases b.o x m with z | z
    · exact a.o x z
    · exact .inr (none_back a.n z), b.s⟩
theorem Lv.refl {Γ : En} {G H : Hp} {σ : L2.St} (e : Same G H) (s : Sd G H σ Γ) : Lv Γ Γ G H G H σ := ⟨NewM.refl e, fun _ z => .inl z, s⟩
theorem Lv.of {Γ Γ' : En} {G H G2 H2 : Hp} {σ : L2.St} (n : NewM (Mo Γ) G H G2 H2) (o : ∀ a, a ∈ owns Γ' → a ∈ owns Γ) (s : Sd G2 H2 σ Γ') : Lv Γ Γ' G H G2 H2 σ := ⟨n, fun x m => .inl (o x m), s⟩
/-- the statement t, from slots Γ, comes to what P wants -/
def StD (t : TS) (Γ : En) (P : Ed) : Prop := ∀ (σ : L2.St) (G H : Hp) (D : Ends), Same G H → Sd G H σ Γ →
  (∀ Γ' σ' G2 H2, P.nx Γ' → Lv Γ Γ' G H G2 H2 σ' → D.nx σ' H2) → (∀ Γ' d σ' v G2 H2, P.rt Γ' d → Lv Γ Γ' G H G2 H2 σ' → Rp G2 v d → D.rt v H2) →
  (∀ Γ' σ' G2 H2, P.bk Γ' → Lv Γ Γ' G H G2 H2 σ' → D.bk σ' H2) → (∀ Γ' σ' G2 H2, P.ct Γ' → Lv Γ Γ' G H G2 H2 σ' → D.ct σ' H2) → t D σ H
section
variable {Γ Γ' Γ1 Γ2 : En} {P P' : Ed} {t u : TS} {te ta tb : TE} {tt : TT} {d : PyData} {ds : List PyData} {K : PySem.W.Frag} {b : Bool}
theorem StD.mono (h : StD t Γ P) (h1 : ∀ Γ, P.nx Γ → P'.nx Γ) (h2 : ∀ Γ d, P.rt Γ d → P'.rt Γ d) (h3 : ∀ Γ, P.bk Γ → P'.bk Γ) (h4 : ∀ Γ, P.ct Γ → P'.ct Γ) : StD t Γ P' :=
  fun σ G H D e s k1 k2 k3 k4 => h σ G H D e s (fun Γ' σ' G2 H2 p l => k1 Γ' σ' G2 H2 (h1 _ p) l) (fun Γ' d σ' v G2 H2 p l r => k2 Γ' d σ' v G2 H2 (h2 _ _ p) l r) (fun Γ' σ' G2 H2 p l => k3 Γ' σ' G2 H2 (h3 _ p) l) fun Γ' σ' G2 H2 p l => k4 Γ' σ' G2 H2 (h4 _ p) l
theorem st_seq (N : En → Prop) (h : StD t Γ { P with nx := N }) (k : ∀ Γ', N Γ' → StD u Γ' P) : StD (tSeq t u) Γ P :=
  fun σ G H D e s k1 k2 k3 k4 => h σ G H { D with nx := u D } e s (fun Γ' σ' G2 H2 p l => k Γ' p σ' G2 H2 D l.n.i l.s (fun Γ' σ' G2 H2 p l' => k1 Γ' σ' G2 H2 p (l.trans l')) (fun Γ' d σ' v G2 H2 p l' r => k2 Γ' d σ' v G2 H2 p (l.trans l') r)
    (fun Γ' σ' G2 H2 p l' => k3 Γ' σ' G2 H2 p (l.trans l')) fun Γ' σ' G2 H2 p l' => k4 Γ' σ' G2 H2 p (l.trans l')) k2 k3 k4
/-- straight on -/
theorem st_then (h : StD t Γ { P with nx := fun Γ' => Γ' = Γ1 }) (k : StD u Γ1 P) : StD (tSeq t u) Γ P := st_seq _ h fun Γ' e => by subst e; exact k
theorem st_next (h : P.nx Γ) : StD tNext Γ P := fun σ G H D e s k1 _ _ _ => k1 Γ σ G H h (Lv.refl e s)
theorem st_break (h : P.bk Γ) : StD tBreak Γ P := fun σ G H D e s _ _ k3 _ => k3 Γ σ G H h (Lv.refl e s)
theorem st_cont (h : P.ct Γ) : StD tCont Γ P := fun σ G H D e s _ _ _ k4 => k4 Γ σ G H h (Lv.refl e s)
theorem st_ret (h : Ev te Γ Γ1 d) (p : P.rt Γ1 d) : StD (tRet te) Γ P := fun σ G H D e s _ k2 _ _ => h.run σ G H e s _ fun v G2 H2 n s2 r => k2 Γ1 d σ v G2 H2 p (Lv.of n h.own s2) r
theorem st_retN (p : P.rt Γ .none) : StD tRetN Γ P := fun σ G H D e s _ k2 _ _ => k2 Γ .none σ .non G H p (Lv.refl e s) .non
theorem st_drop (h : Ev te Γ Γ1 d) (p : P.nx Γ1) : StD (tDrop te) Γ P := fun σ G H D e s k1 _ _ _ => h.run σ G H e s _ fun v G2 H2 n s2 r => k1 Γ1 σ G2 H2 p (Lv.of n h.own s2)
theorem st_asg {g : TG} {is : List Nat} (h : Ev te Γ Γ1 d) (hg : Tg g is d Γ1 Γ2) (p : P.nx Γ2) : StD (tAsg te g) Γ P := fun σ G H D e s k1 _ _ _ => h.run σ G H e s _ fun v G2 H2 n s2 r =>
  hg.run σ G2 H2 v n.i s2 r _ fun σ' _ _ s3 => k1 Γ2 σ' G2 H2 p (Lv.of n (fun a m => h.own a (hg.own a m)) s3)
theorem st_set {i : Nat} (h : Ev te Γ Γ1 d) (hi : i < Γ1.length) (p : P.nx (Γ1.set i (.dat d))) : StD (tAsg te (gName i)) Γ P := st_asg h (tg_name hi) p
/-- x = a new list, which stays one's own -/
theorem st_own {i : Nat} (h : EvC te Γ Γ1 ds) (hi : i < Γ1.length) (p : ∀ a, P.nx (Γ1.set i (.cell a ds))) : StD (tAsg te (gName i)) Γ P := fun σ G H D e s k1 _ _ _ => h.run σ G H e s _ fun a xs G2 H2 n s2 hp g2 h2 r =>
  k1 _ _ G2 H2 (p a) ⟨n, fun x m => by
    rcases owns_set_sub m with z | z
    · have : x = a := by simpa [own1] using z
      subst this
      exact .inr hp
    · exact .inl (h.own x z), s2.own ⟨rfl, g2, xs, h2, r⟩ hi rfl fun m => s.fresh hp (h.own a m)⟩
theorem st_if (h : EvT tt Γ Γ1 b) (h1 : b = true → StD t Γ1 P) (h2 : b = false → StD u Γ1 P) : StD (tIfS tt t u) Γ P := fun σ G H D e s k1 k2 k3 k4 => h.run σ G H e s _ fun G2 H2 n s2 => by
  have l := Lv.of n h.own s2
  cases b with
  | true => exact h1 rfl σ G2 H2 D n.i s2 (fun Γ' σ' G3 H3 p l' => k1 Γ' σ' G3 H3 p (l.trans l')) (fun Γ' d σ' v G3 H3 p l' r => k2 Γ' d σ' v G3 H3 p (l.trans l') r) (fun Γ' σ' G3 H3 p l' => k3 Γ' σ' G3 H3 p (l.trans l')) fun Γ' σ' G3 H3 p l' => k4 Γ' σ' G3 H3 p (l.trans l')
  | false => exact h2 rfl σ G2 H2 D n.i s2 (fun Γ' σ' G3 H3 p l' => k1 Γ' σ' G3 H3 p (l.trans l')) (fun Γ' d σ' v G3 H3 p l' r => k2 Γ' d σ' v G3 H3 p (l.trans l') r) (fun Γ' σ' G3 H3 p l' => k3 Γ' σ' G3 H3 p (l.trans l')) fun Γ' σ' G3 H3 p l' => k4 Γ' σ' G3 H3 p (l.trans l')
/-- the words of a slot may be forgotten; one's own list may become known -/
theorem st_un {i : Nat} (h : StD t (Γ.set i .un) P) : StD t Γ P := fun σ G H D e s k1 k2 k3 k4 => by
  have s' : Sd G H σ (Γ.set i .un) := ⟨by rw [List.length_set]; exact s.len, fun j w q => by
    by_cases hj : i = j
    · subst hj
      have hi : i < Γ.length := by
        have := (List.getElem?_eq_some_iff.mp q).1
        simpa using this
      rw [List.getElem?_set_self hi] at q
      cases q
      exact ⟨_, List.getElem?_eq_getElem (by rw [s.len]; exact hi), trivial⟩
    · rw [List.getElem?_set_ne hj] at q
      exact s.at_ j w q, nodup_set s.nd (by simp [own1]) fun a ha => by simp [own1] at ha⟩
  have l : Lv Γ (Γ.set i .un) G H G H σ := ⟨NewM.refl e, fun a m => .inl (owns_dat rfl a m), s'⟩
  exact h σ G H D e s' (fun Γ' σ' G3 H3 p l' => k1 Γ' σ' G3 H3 p (l.trans l')) (fun Γ' d σ' v G3 H3 p l' r => k2 Γ' d σ' v G3 H3 p (l.trans l') r) (fun Γ' σ' G3 H3 p l' => k3 Γ' σ' G3 H3 p (l.trans l')) fun Γ' σ' G3 H3 p l' => k4 Γ' σ' G3 H3 p (l.trans l')
theorem Sd.frz {G H : Hp} {σ : L2.St} {i : Nat} {a : Addr} (s : Sd G H σ Γ) (e : Same G H) (h : Γ[i]? = some (.cell a ds)) : ∃ G2, NewM (Mo Γ) G H G2 H ∧ Sd G2 H σ (Γ.set i (.dat (.list ds))) := by
  obtain ⟨o, e1, rfl, ng, xs, hx, ra⟩ := s.at_ i _ h
  have n := new_frz (M := Mo Γ) e hx ng (own_mem h (by simp [own1]))
  have hi : i < Γ.length := (List.getElem?_eq_some_iff.mp h).1
  refine ⟨_, n, by simp [s.len], fun j w q => ?_, nodup_set s.nd (by simp [own1]) fun a ha => by simp [own1] at ha⟩
  by_cases hj : i = j
  · subst hj
    rw [List.getElem?_set_self hi] at q
    cases q
    exact ⟨_, e1, _, rfl, .lst upd_same (ra.mono n.g)⟩
  · rw [List.getElem?_set_ne hj] at q
    obtain ⟨o, e2, z⟩ := s.at_ j w q
    refine ⟨o, e2, ?_⟩
    have hne : ∀ x, x ∈ own1 w → x ≠ a := fun x hx e3 => hj (nd_own s.nd h q (by simp [own1]) (e3 ▸ hx))
    cases w with
    | un => trivial
    | dat d => obtain ⟨v, e3, r3⟩ := z; exact ⟨v, e3, r3.mono n.g⟩
    | val v => exact z
    | cell x zs => obtain ⟨e3, ng3, ys, hy, r3⟩ := z; exact ⟨e3, by rw [upd_ne (hne x (by simp [own1]))]; exact ng3, ys, hy, r3.mono n.g⟩
    | dic x zs => obtain ⟨e3, ng3, ys, hy, r3⟩ := z; exact ⟨e3, by rw [upd_ne (hne x (by simp [own1]))]; exact ng3, ys, hy, r3.mono n.g⟩
    | nst x bs rows => obtain ⟨e3, ng3, hy, r3⟩ := z; exact ⟨e3, by rw [upd_ne (hne x (by simp [own1]))]; exact ng3, hy, r3.to n.g (fun b hb q _ => by rw [upd_ne (hne b (by simp [own1, hb]))]; exact q) fun b o _ q => q⟩
    | ob x C ks => obtain ⟨e3, ng3, dx, fs, hy, r3⟩ := z; exact ⟨e3, by rw [upd_ne (hne x (by simp [own1]))]; exact ng3, dx, fs, hy, r3.mono n.g⟩
    | lok x od zs => obtain ⟨e3, ys, hy, r3⟩ := z; exact ⟨e3, ys, n.g _ _ hy, r3.mono n.g⟩
    | hld φ m => obtain ⟨v, e3, r3⟩ := z; exact ⟨v, e3, m _ _ _ n.g r3⟩
theorem st_frz {i : Nat} {a : Addr} (h : Γ[i]? = some (.cell a ds)) (k : StD t (Γ.set i (.dat (.list ds))) P) : StD t Γ P := fun σ G H D e s k1 k2 k3 k4 => by
  obtain ⟨G2, n, s2⟩ := s.frz e h
  have l : Lv Γ (Γ.set i (.dat (.list ds))) G H G2 H σ := ⟨n, fun a m => .inl (owns_dat rfl a m), s2⟩
  exact k σ G2 H D n.i s2 (fun Γ' σ' G3 H3 p l' => k1 Γ' σ' G3 H3 p (l.trans l')) (fun Γ' d σ' v G3 H3 p l' r => k2 Γ' d σ' v G3 H3 p (l.trans l') r) (fun Γ' σ' G3 H3 p l' => k3 Γ' σ' G3 H3 p (l.trans l')) fun Γ' σ' G3 H3 p l' => k4 Γ' σ' G3 H3 p (l.trans l')
/-- xs[i] = e, xs one's own list -/
theorem st_item {i : Nat} {a : Addr} {j : Int} {k : Nat} {ds0 : List PyData} (h : Ev te Γ Γ1 d) (h0 : Γ1[i]? = some (.cell a ds0)) (hb : Ev tb Γ1 Γ2 (.int j)) (hc : Γ2[i]? = some (.cell a ds)) (hj : j = (k : Int)) (hk : k < ds.length) (p : P.nx (Γ2.set i (.cell a (ds.set k d)))) :
    StD (tAsg te (gSub (tVar i) tb rSetL)) Γ P := fun σ G H D e s k1 _ _ _ => h.run σ G H e s _ fun v G2 H2 n s2 r => by
  obtain ⟨o, e1, rfl, _⟩ := s2.at_ i _ h0
  refine ⟨_, e1, hb.run σ G2 H2 n.i s2 _ fun w G3 H3 n3 s3 r3 => ?_⟩
  obtain ⟨o, e2, rfl, ng, xs, hx, ra⟩ := s3.at_ i _ hc
  have hkx : k < xs.length := by rw [ra.len]; exact hk
  have hix : ixN xs.length (k : Int) = some k := by
    unfold ixN
    rw [if_pos (by omega), if_pos (by omega)]
    simp
  have hm : a ∈ owns Γ2 := own_mem hc (by simp [own1])
  have s4 : Sd G3 (upd H3 a (.lst (xs.set k v))) σ (Γ2.set i (.cell a (ds.set k d))) := s3.put hc rfl rfl fun o z => ⟨z.1, z.2.1, _, upd_same, ra.set (r.mono n3.g) k⟩
  refine ⟨a, xs, j, k, rfl, r3.intE, hx, by rw [hj]; exact hix, k1 _ σ G3 _ p ⟨?_, fun x m => .inl (h.own x (hb.own x (owns_cell hc x m))), s4⟩⟩
  exact (n.trans n3 (mo h.own)).trans (new_set (M := fun x => x = a) n3.i ng rfl _) fun x m => by subst m; exact .inl (h.own _ (hb.own _ hm))
/-- xs.append(e), xs one's own list -/
theorem st_app {i : Nat} {a : Addr} {ds0 : List PyData} (h0 : Γ[i]? = some (.cell a ds0)) (h : Ev te Γ Γ1 d) (hc : Γ1[i]? = some (.cell a ds)) (hl : ds.length < 1000000) (p : P.nx (Γ1.set i (.cell a (ds ++ [d])))) :
    StD (tDrop (tBM K "list" rAppend (tVar i) (tCons te tNil))) Γ P := fun σ G H D e s k1 _ _ _ => by
  obtain ⟨o, e1, rfl, _, xs0, hx0, _⟩ := s.at_ i _ h0
  refine ⟨_, e1, .inl ⟨rfl, xs0, SqL.of hx0⟩, h.run σ G H e s _ fun v G2 H2 n s2 r => ?_⟩
  obtain ⟨o, e2, rfl, ng, xs, hx, ra⟩ := s2.at_ i _ hc
  have hm : a ∈ owns Γ1 := own_mem hc (by simp [own1])
  have s4 : Sd G2 (upd H2 a (.lst (xs ++ [v]))) σ (Γ1.set i (.cell a (ds ++ [d]))) := s2.put hc rfl rfl fun o z => ⟨z.1, z.2.1, _, upd_same, ra.append (.one r)⟩
  refine ⟨a, xs, v, rfl, rfl, hx, sl_lt (by rw [ra.len]; exact hl), k1 _ σ G2 _ p ⟨?_, fun x m => .inl (h.own x (owns_cell hc x m)), s4⟩⟩
  exact n.trans (new_set (M := fun x => x = a) n.i ng rfl _) fun x m => by subst m; exact .inl (h.own _ hm)
/-- x += e of numbers -/
theorem st_aug {i : Nat} {x y : Int} {f : Int → Int → Int} {ti : TIp} (hti : ∀ v w H (Q : VK), Q (.int (f v w)) H → ti (.int v) (.int w) H Q) (hx : Γ[i]? = some (.dat (.int x))) (h : Ev te Γ Γ (.int y)) (p : P.nx (Γ.set i (.dat (.int (f x y))))) : StD (tAug i te ti) Γ P := fun σ G H D e s k1 _ _ _ => by
  obtain ⟨o, e1, v, rfl, r0⟩ := s.at_ i _ hx
  refine ⟨v, e1, h.run σ G H e s _ fun w G2 H2 n s2 r => ?_⟩
  rw [r0.intE, r.intE]
  have hi : i < Γ.length := (List.getElem?_eq_some_iff.mp hx).1
  exact hti _ _ _ _ (k1 _ _ G2 H2 p ⟨n, fun a m => .inl (owns_dat rfl a m), s2.set (s := .dat (.int (f x y))) ⟨_, rfl, .int _⟩ hi rfl⟩)
/-- for g in wi: body. I: what holds ahead of the turn i -/
theorem st_for {wi : TI} {g : TG} (hw : Wk wi Γ Γ1 ds) (I : Nat → En → Prop) (h0 : I 0 Γ1)
    (hs : ∀ i d Γi, ds[i]? = some d → I i Γi → ∃ Γt is, Tg g is d Γi Γt ∧ StD t Γt { nx := I (i + 1), ct := I (i + 1), bk := P.nx, rt := P.rt }) (hd : ∀ Γi, I ds.length Γi → P.nx Γi) : StD (tFor wi g t) Γ P :=
  fun σ G H D e s k1 k2 _ _ => hw.run σ G H e s _ fun J G1 H1 n1 s1 wk => by
  have l0 : Lv Γ Γ1 G H G1 H1 σ := Lv.of n1 hw.own s1
  refine ⟨fun i m σ' H' => m = ds.length - i ∧ i ≤ ds.length ∧ ∃ Γi G', I i Γi ∧ Lv Γ1 Γi G1 H1 G' H' σ', ⟨_, rfl, Nat.zero_le _, Γ1, G1, h0, Lv.refl n1.i s1⟩, ?_⟩
  rintro i m σ' H' ⟨rfl, hi, Γi, G', p, l⟩
  obtain ⟨wstop, wgo⟩ := wk i G' H' l.n.g l.n.i
  by_cases hlt : i < ds.length
  · have hdi : ds[i]? = some ds[i] := List.getElem?_eq_getElem hlt
    obtain ⟨go, yld⟩ := wgo _ hdi
    refine .inr ⟨go, fun σ'' H'' => i + 1 ≤ ds.length ∧ ∃ Γi G', I (i + 1) Γi ∧ Lv Γ1 Γi G1 H1 G' H'' σ'', fun σ'' H'' q => ⟨ds.length - (i + 1), by omega, rfl, q.1, q.2⟩, fun x H2 y => ?_⟩
    obtain ⟨G2, n3, rx⟩ := yld x H2 y
    obtain ⟨Γt, is, tg, body⟩ := hs i _ Γi hdi p
    refine tg.run σ' G2 H2 x n3.i (l.s.new n3) rx _ fun σ'' _ _ s4 => ?_
    have l4 : Lv Γ1 Γt G1 H1 G2 H2 σ'' := l.trans ⟨n3.mono fun _ z => z.elim, fun a m => .inl (tg.own a m), s4⟩
    exact body σ'' G2 H2 _ n3.i s4 (fun Γ' σ3 G3 H3 q l' => ⟨hlt, Γ', G3, q, l4.trans l'⟩) (fun Γ' d σ3 v G3 H3 q l' r => k2 Γ' d σ3 v G3 H3 q (l0.trans (l4.trans l')) r)
      (fun Γ' σ3 G3 H3 q l' => k1 Γ' σ3 G3 H3 q (l0.trans (l4.trans l'))) fun Γ' σ3 G3 H3 q l' => ⟨hlt, Γ', G3, q, l4.trans l'⟩
  · have ei : i = ds.length := by omega
    subst ei
    exact .inl ⟨wstop rfl, k1 _ σ' G' H' (hd Γi p) (l0.trans l)⟩
/-- while tt: body. I m: what holds ahead of a turn, m falls -/
theorem st_while (I : Nat → En → Prop) (m0 : Nat) (h0 : I m0 Γ)
    (hs : ∀ m Γi, I m Γi → ∃ b Γt, EvT tt Γi Γt b ∧ (b = true → StD t Γt { nx := fun Γ' => ∃ m', m' < m ∧ I m' Γ', ct := fun Γ' => ∃ m', m' < m ∧ I m' Γ', bk := P.nx, rt := P.rt }) ∧ (b = false → P.nx Γt)) : StD (tWhile tt t) Γ P :=
  fun σ G H D e s k1 k2 _ _ => by
  refine ⟨fun m σ' H' => ∃ Γi G', I m Γi ∧ Lv Γ Γi G H G' H' σ', ⟨m0, Γ, G, h0, Lv.refl e s⟩, ?_⟩
  rintro m σ' H' ⟨Γi, G', p, l⟩
  obtain ⟨b, Γt, ht, h1, h2⟩ := hs m Γi p
  refine ht.run σ' G' H' l.n.i l.s _ fun G2 H2 n2 s2 => ?_
  have l2 := l.trans (Lv.of n2 ht.own s2)
  cases b with
  | true =>
    refine ⟨fun σ'' H'' => ∃ m', m' < m ∧ ∃ Γi G', I m' Γi ∧ Lv Γ Γi G H G' H'' σ'', fun σ'' H'' z => z, ?_⟩
    exact h1 rfl σ' G2 H2 _ n2.i s2 (fun Γ' σ3 G3 H3 ⟨m', hm, q⟩ l' => ⟨m', hm, Γ', G3, q, l2.trans l'⟩) (fun Γ' d σ3 v G3 H3 q l' r => k2 Γ' d σ3 v G3 H3 q (l2.trans l') r)
      (fun Γ' σ3 G3 H3 q l' => k1 Γ' σ3 G3 H3 q (l2.trans l')) fun Γ' σ3 G3 H3 ⟨m', hm, q⟩ l' => ⟨m', hm, Γ', G3, q, l2.trans l'⟩
  | false => exact k1 Γt σ' G2 H2 (h2 rfl) l2
end

/-! ### whole defs -/
section
variable {PP : Program} {w : World} {K : PySem.W.Frag} {mg : Str → Option Value} {base : Heap}
theorem sd_start {G H : Hp} {N : List Str} {vs : List V} {ds : List PyData} {m : Nat} (r : RpAll G vs ds) (hm : m = N.length - vs.length) : Sd G H (L2.start N vs) (ds.map .dat ++ List.replicate m .un) := by
  subst hm
  refine ⟨by simp [L2.start, r.len], fun i t e => ?_, ?_⟩
  · by_cases hi : i < ds.length
    · rw [List.getElem?_append_left (by simpa using hi), List.getElem?_map] at e
      obtain ⟨d, hd, rfl⟩ := Option.map_eq_some_iff.mp e
      obtain ⟨v, hv, rv⟩ := r.get hd
      refine ⟨some v, ?_, v, rfl, rv⟩
      unfold L2.start
      rw [List.getElem?_append_left (by rw [List.length_map, r.len]; exact hi), List.getElem?_map, hv]
      rfl
    · rw [List.getElem?_append_right (by rw [List.length_map]; omega)] at e
      have hlt := (List.getElem?_eq_some_iff.mp e).1
      rw [List.length_map, List.length_replicate] at hlt
      rw [List.getElem?_replicate] at e
      split at e
      · cases e
        refine ⟨none, ?_, trivial⟩
        unfold L2.start
        rw [List.getElem?_append_right (by rw [List.length_map, r.len]; omega), List.length_map, r.len, List.getElem?_replicate]
        rw [if_pos (by rw [← r.len]; rw [← r.len] at hlt; exact hlt)]
      · cases e
  · have : owns (ds.map Sl.dat ++ List.replicate (N.length - vs.length) .un) = [] := by
      unfold owns
      rw [List.flatMap_eq_nil_iff]
      intro s hs
      rcases List.mem_append.mp hs with h | h
      · obtain ⟨d, _, rfl⟩ := List.mem_map.mp h
        rfl
      · rw [List.eq_of_mem_replicate h]
        rfl
    rw [this]
    exact List.nodup_nil
theorem owns_dats (ds : List PyData) (m : Nat) : owns (ds.map Sl.dat ++ List.replicate m .un) = [] := by
  unfold owns
  rw [List.flatMap_eq_nil_iff]
  intro s hs
  rcases List.mem_append.mp hs with h | h
  · obtain ⟨d, _, rfl⟩ := List.mem_map.mp h
    rfl
  · rw [List.eq_of_mem_replicate h]
    rfl
/-- the ends of a def that gives d -/
abbrev Gives (d : PyData) : Ed := { nx := fun _ => d = .none, rt := fun _ e => e = d }
/-- a def that changes nothing keeps its promise -/
theorem def_ok {x qual : Str} {st : Stmt} {f : Addr} {fd : FuncData} {N ps : List Str} {k : Nat} {pre : List PyData → PyData → Prop} (F : Fun K x qual st f fd) (S : FnScope N ps (defScope st)) (len : ∀ ds d, pre ds d → ds.length = ps.length)
    (hbody : ∀ (cdv : Value) (A : Around) (outer : List Env) (s : Shared) (H : Hp) (E : XK), Room k (A.deeper (envOfC qual (defScope st) s.heap.objs.size f cdv)) →
      ∃ t, PSs (cxOf CX0 PP w K mg base N qual (defScope st) f cdv A outer s H E).nox (defBody st) t ∧ ∀ ds d, pre ds d → StD t (ds.map .dat ++ List.replicate (N.length - ps.length) .un) (Gives d)) : FnOk PP w K mg base CX0 (k + 1) f fd ps (spP pre) := by
  refine F.ok S (fun vs H Q E h => ?_) fun cdv A outer s H vs Q E hr h => ?_
  · obtain ⟨G, ds, d, e, r, p, _⟩ := h
    rw [r.len, len ds d p]
  · obtain ⟨G, ds, d, e, r, p, q⟩ := h
    obtain ⟨t, ht, hs⟩ := hbody cdv A outer s H E hr
    refine ⟨t, ht, hs ds d p (L2.start N vs) G H _ e (sd_start r (by rw [r.len, len ds d p])) (fun Γ' σ' G2 H2 z l => ?_) (fun Γ' d' σ' v G2 H2 z l rv => ?_) (fun _ _ _ _ z => z.elim) fun _ _ _ _ z => z.elim⟩
    · have z : d = .none := z
      subst z
      exact q .non G2 H2 (l.n.mono fun a m => by unfold Mo at m; rw [owns_dats] at m; cases m) .non
    · have z : d' = d := z
      subst z
      exact q v G2 H2 (l.n.mono fun a m => by unfold Mo at m; rw [owns_dats] at m; cases m) rv
/-- the ends of a def that changes the list at a, its first argument, to ss' -/
abbrev GivesS (a : Addr) (ss' : List PyData) (d : PyData) : Ed := { nx := fun Γ => d = .none ∧ Γ[0]? = some (.cell a ss'), rt := fun Γ e => e = d ∧ Γ[0]? = some (.cell a ss') }
theorem sd_startS {G H : Hp} {N : List Str} {us xs : List V} {a : Addr} {ss ds : List PyData} {m : Nat} (r : RpAll G us ds) (ng : G a = none) (hx : H a = some (.lst xs)) (rx : RpAll G xs ss) (hm : m = N.length - (us.length + 1)) :
    Sd G H (L2.start N (.ref a :: us)) (.cell a ss :: (ds.map .dat ++ List.replicate m .un)) := by
  subst hm
  have s := sd_start (N := N.tail) (H := H) (m := N.length - (us.length + 1)) r (by cases N <;> simp <;> omega)
  have e : L2.start N (.ref a :: us) = some (.ref a) :: L2.start N.tail us := by
    unfold L2.start
    rw [List.map_cons, List.cons_append]
    congr 2
    cases N <;> simp <;> omega
  rw [e]
  refine ⟨by rw [List.length_cons, List.length_cons, s.len], fun i t h => ?_, ?_⟩
  · cases i with
    | zero =>
      cases h
      exact ⟨_, rfl, rfl, ng, xs, hx, rx⟩
    | succ i => exact s.at_ i t h
  · have : owns (Sl.cell a ss :: (ds.map Sl.dat ++ List.replicate (N.length - (us.length + 1)) .un)) = [a] := by
      show [a] ++ owns (ds.map Sl.dat ++ List.replicate (N.length - (us.length + 1)) .un) = [a]
      rw [owns_dats]
      rfl
    rw [this]
    simp
theorem defS_ok {x qual : Str} {st : Stmt} {f : Addr} {fd : FuncData} {N ps : List Str} {k : Nat} {pre : List PyData → List PyData → PyData → List PyData → Prop} (F : Fun K x qual st f fd) (S : FnScope N ps (defScope st)) (len : ∀ ss ds d ss', pre ss ds d ss' → ds.length + 1 = ps.length)
    (hbody : ∀ (cdv : Value) (A : Around) (outer : List Env) (s : Shared) (H : Hp) (E : XK), Room k (A.deeper (envOfC qual (defScope st) s.heap.objs.size f cdv)) →
      ∃ t, PSs (cxOf CX0 PP w K mg base N qual (defScope st) f cdv A outer s H E).nox (defBody st) t ∧ ∀ a ss ds d ss', pre ss ds d ss' → StD t (.cell a ss :: (ds.map .dat ++ List.replicate (N.length - ps.length) .un)) (GivesS a ss' d)) : FnOk PP w K mg base CX0 (k + 1) f fd ps (spS pre) := by
  refine F.ok S (fun vs H Q E h => ?_) fun cdv A outer s H vs Q E hr h => ?_
  · obtain ⟨G, a, us, xs, ss, ds, ss', d, rfl, e, ng, hx, rx, r, p, _⟩ := h
    rw [List.length_cons, r.len, len ss ds d ss' p]
  · obtain ⟨G, a, us, xs, ss, ds, ss', d, rfl, e, ng, hx, rx, r, p, q⟩ := h
    obtain ⟨t, ht, hs⟩ := hbody cdv A outer s H E hr
    have hM : ∀ m x, Mo (Sl.cell a ss :: (ds.map Sl.dat ++ List.replicate m .un)) x → x = a := fun m x h => by
      have h : x ∈ [a] ++ owns (ds.map Sl.dat ++ List.replicate m .un) := h
      rw [owns_dats] at h
      simpa using h
    refine ⟨t, ht, hs a ss ds d ss' p (L2.start N (.ref a :: us)) G H _ e (sd_startS r ng hx rx (by rw [r.len, len ss ds d ss' p])) (fun Γ' σ' G2 H2 z l => ?_) (fun Γ' d' σ' v G2 H2 z l rv => ?_) (fun _ _ _ _ z => z.elim) fun _ _ _ _ z => z.elim⟩
    · obtain ⟨z, zz⟩ := z
      subst z
      obtain ⟨o, _, _, ng2, ys, hy, ry⟩ := l.s.at_ 0 _ zz
      exact q .non G2 H2 ys (l.n.mono (hM _)) ng2 hy ry .non
    · obtain ⟨z, zz⟩ := z
      subst z
      obtain ⟨o, _, _, ng2, ys, hy, ry⟩ := l.s.at_ 0 _ zz
      exact q v G2 H2 ys (l.n.mono (hM _)) ng2 hy ry rv
end
end Fd

set_option Elab.async false
set_option maxRecDepth 100000
set_option maxHeartbeats 2000000
/-! Fd5: callees, rows of numbers. -/
namespace Fd
open PySem PyProof.Rows L2

/-- a def that stands under its name and keeps its promise -/
structure Cal (PP : Program) (w : World) (K : PySem.W.Frag) (mg : Str → Option Value) (base : Heap) (x : Str) (k : Nat) (ps : List Str) (sp : Sp) : Prop where
  ex : ∃ f fd, FnOk PP w K mg base CX0 k f fd ps sp ∧ mg x = some (.ref f) ∧ PySem.W.keepIn K (.ref f) = true ∧ Binds K fd ps []
theorem pe_cal {X : Cx} {x : Str} {k : Nat} {ps : List Str} {sp : Sp} {e : Expr} {es : List Expr} {p pos : Pos} {t : TA} (C : Cal X.prog X.w X.K X.mg X.base x k ps sp) (hr : Room k X.A) (hg : Gl X x) (ha : PA X (e :: es) t)
    (hdb : (x == ("__debug__" : Str)) = false := by decide) (he : starEach (e :: es) X.env = (false, eval e X.env) :: starEach es X.env := by rfl) (hpl : (backTo pos (starEach es X.env)).any (·.1) = false := by rfl) : PE X (.Call (.Name x p) (e :: es) [] pos) (tCall sp [] E0 t) := by
  obtain ⟨f, fd, F, hm, hk, hb⟩ := C.ex
  exact pe_call F hr hg hm hk hb .nil pass0 ha hdb he hpl
/-- the built-in names that no name of the top covers -/
structure Bi (mg : Str → Option Value) : Prop where
  len : mg "len" = none
  int : mg "int" = none
  abs : mg "abs" = none
  range : mg "range" = none
  list : mg "list" = none
  tuple : mg "tuple" = none
  sorted : mg "sorted" = none
  zip : mg "zip" = none
  enumerate : mg "enumerate" = none
  reversed : mg "reversed" = none
  isinstance : mg "isinstance" = none
  bool : mg "bool" = none
  str : mg "str" = none
  sum : mg "sum" = none
  all : mg "all" = none
  any : mg "any" = none
  min : mg "min" = none
  max : mg "max" = none
  dict : mg "dict" = none
abbrev dR (v : List Int) : PyData := .tuple (v.map .int)
abbrev dRs (rs : List (List Int)) : PyData := .list (rs.map dR)
abbrev dRt (rs : List (List Int)) : PyData := .tuple (rs.map dR)
theorem Tops {st : Stmt} : st = st := rfl
end Fd
namespace Fd
open PySem PyProof.Rows L2
/-- a def of the top stands under its name -/
structure Dfn (K : PySem.W.Frag) (mg : Str → Option Value) (x : Str) (st : Stmt) : Prop where
  ex : ∃ f fd, Fun K x x st f fd ∧ mg x = some (.ref f)
end Fd
namespace Fd
open PySem PyProof.Rows L2
/-! the rules that speak of what the top has written, that part by its name -/
section
variable {X : Cx} {K : PySem.W.Frag}
theorem k_ixL (h : X.K = K) : IxR X (rIxL K) := by subst h; exact ix_list
theorem k_ixT (h : X.K = K) : IxR X (rIxT K) := by subst h; exact ix_tup
theorem k_len (h : X.K = K) : CallR X (.builtin "len") (rLenS K) := by subst h; exact call_len_seq
theorem k_listOf (h : X.K = K) : CallR X (.type "list") (rListS K) := by subst h; exact call_list_of
theorem k_tupOf (h : X.K = K) : CallR X (.type "tuple") (rTupS K) := by subst h; exact call_tuple_of
theorem k_eqD (h : X.K = K) (hu : X.A.units + 64 < cLine) : OpR X (compareOp .Eq) (rEqD K) := by subst h; exact op_eqD hu
theorem k_neD (h : X.K = K) (hu : X.A.units + 64 < cLine) : OpR X (compareOp .NotEq) (rNeD K) := by subst h; exact op_neD hu
theorem k_inD (h : X.K = K) (hu : X.A.units + 65 < cLine) : OpR X (compareOp .In) (rInD K) := by subst h; exact op_inD hu
theorem k_notInD (h : X.K = K) (hu : X.A.units + 65 < cLine) : OpR X (compareOp .NotIn) (rNotInD K) := by subst h; exact op_notInD hu
theorem k_piL {tg l : Expr} {tl : TE} (h : X.K = K) (hl : PE X l tl) : PI X tg l (iList K tl) := by subst h; exact pi_list hl
theorem k_piT {tg l : Expr} {tl : TE} (h : X.K = K) (hl : PE X l tl) : PI X tg l (iTup K tl) := by subst h; exact pi_tup hl
theorem k_slL (h : X.K = K) : SlR X (rSlL K) := by subst h; exact sl_list
theorem k_int1 : CallR X (.type "int") rInt1 := call_int1
theorem k_abs : CallR X (.builtin "abs") rAbs := call_abs
theorem k_pgT {es : List Expr} {k n : Nat} {t : TGs} {pos : Pos} (e : X.K = K) (hc : X.calm = true) (h : PGs X es t) (hn : (assignEach es X.env).length = n := by rfl) (hst : (assignEach es X.env).findIdx? (·.1) = none := by rfl) : PG X (.Tuple es k pos) (gTup K n t) := by
  subst e
  exact pg_tup hc h hn hst
end
end Fd
namespace Fd
open PySem PyProof.Rows L2
section
variable {Γ Γ' Γ1 Γ2 Γ3 : En} {ta tb te tx : TE} {d e x y : PyData} {ds ds0 : List PyData} {K : PySem.W.Frag}
theorem x_ixL {j : Int} (ha : Ev ta Γ Γ1 (.list ds)) (hb : Ev tb Γ1 Γ2 (.int j)) (h0 : 0 ≤ j) (hd : ds[j.toNat]? = some d) : Ev (tOp (rIxL K) ta tb) Γ Γ2 d := ev_ixL ha hb (Int.toNat_of_nonneg h0).symm hd
theorem x_ixT {j : Int} (ha : Ev ta Γ Γ1 (.tuple ds)) (hb : Ev tb Γ1 Γ2 (.int j)) (h0 : 0 ≤ j) (hd : ds[j.toNat]? = some d) : Ev (tOp (rIxT K) ta tb) Γ Γ2 d := ev_ixT ha hb (Int.toNat_of_nonneg h0).symm hd
theorem x_ixC {i : Nat} {a : Addr} {j : Int} (h : Γ[i]? = some (.cell a ds0)) (hb : Ev tb Γ Γ2 (.int j)) (h2 : Γ2[i]? = some (.cell a ds)) (h0 : 0 ≤ j) (hd : ds[j.toNat]? = some d) : Ev (tOp (rIxL K) (tVar i) tb) Γ Γ2 d := ev_ixC h hb h2 (Int.toNat_of_nonneg h0).symm hd
theorem x_ixR {v : List Int} {j : Int} (ha : Ev ta Γ Γ1 (dR v)) (hb : Ev tb Γ1 Γ2 (.int j)) (h0 : 0 ≤ j) (h1 : j < v.length) : Ev (tOp (rIxT K) ta tb) Γ Γ2 (.int (v.getD j.toNat 0)) := x_ixT ha hb h0 (by
  have h : j.toNat < v.length := by omega
  rw [List.getElem?_map, List.getD_eq_getElem?_getD, List.getElem?_eq_getElem h]
  rfl)
/-- an item of a list of encoded things -/
theorem x_ixM {α : Type} {enc : α → PyData} {xs : List α} {j : Int} {z : α} (ha : Ev ta Γ Γ1 (.list (xs.map enc))) (hb : Ev tb Γ1 Γ2 (.int j)) (h0 : 0 ≤ j) (h1 : xs[j.toNat]? = some z) : Ev (tOp (rIxL K) ta tb) Γ Γ2 (enc z) := x_ixL ha hb h0 (by rw [List.getElem?_map, h1]; rfl)
theorem x_ixMT {α : Type} {enc : α → PyData} {xs : List α} {j : Int} {z : α} (ha : Ev ta Γ Γ1 (.tuple (xs.map enc))) (hb : Ev tb Γ1 Γ2 (.int j)) (h0 : 0 ≤ j) (h1 : xs[j.toNat]? = some z) : Ev (tOp (rIxT K) ta tb) Γ Γ2 (enc z) := x_ixT ha hb h0 (by rw [List.getElem?_map, h1]; rfl)
theorem s_item {P : Ed} {i : Nat} {a : Addr} {j : Int} (h : Ev te Γ Γ1 d) (h0 : Γ1[i]? = some (.cell a ds0)) (hb : Ev tb Γ1 Γ2 (.int j)) (hc : Γ2[i]? = some (.cell a ds)) (hj : 0 ≤ j) (hk : j.toNat < ds.length) (p : P.nx (Γ2.set i (.cell a (ds.set j.toNat d)))) :
    StD (tAsg te (gSub (tVar i) tb rSetL)) Γ P := st_item h h0 hb hc (Int.toNat_of_nonneg hj).symm hk p
end
/-- rg as numbers of a range -/
theorem rg0 (n : Nat) : rg 0 n = (List.range n).map fun (i : Nat) => PyData.int (i : Int) := by
  unfold rg
  congr 1
  funext i
  rw [Int.zero_add]
theorem wk_rngN {Γ Γ1 : En} {ta : TE} {n : Nat} {j : Int} (h : Ev ta Γ Γ1 (.int j)) (e : j = (n : Int)) (h2 : n ≤ 1000000) : Wk (iRng1 (tCons ta tNil)) Γ Γ1 ((List.range n).map fun (i : Nat) => PyData.int (i : Int)) := by
  subst e
  rw [← rg0]
  have := wk_rng1 h (by omega) (by omega)
  rwa [Int.toNat_natCast] at this
end Fd

set_option Elab.async false
set_option maxRecDepth 100000
set_option maxHeartbeats 2000000
/-! Fd6: enumerate and zip over lists and tuples in any mix. t = true: a tuple, false: a list. -/
namespace Fd
open PySem PySem.Spec PyProof.Rows L2

def SqB (K : PySem.W.Frag) (t : Bool) (H : Hp) (a : Addr) (xs : List V) : Prop := if t then SqT K H a xs else SqL K H a xs
def SeqH (t : Bool) (h : Heap) (a : Addr) (its : Array Value) : Prop := if t then h.IsTuple a its else h.IsList a its
def ItH (t : Bool) (h : Heap) (it a : Addr) (i : Nat) : Prop := if t then h.IsTupleIter it a i else h.IsListIter it a i
def itO (t : Bool) (a : Addr) : Obj := if t then { cls := .type "tuple_iterator", data := .fields #[.ref a, .int 0 0] } else { cls := .type "list_iterator", data := .fields #[.ref a, .int 0 0] }
theorem ItH.obj {t : Bool} {h : Heap} {it a : Addr} {i : Nat} (x : ItH t h it a i) : ∃ o, h.get? it = some o ∧ ∀ v, o.data ≠ .cell v := by
  cases t <;> (obtain ⟨o, e, _, d⟩ := x; exact ⟨o, e, fun v q => by rw [d] at q; cases q⟩)
theorem ItH.at {t : Bool} {h h' : Heap} {it a : Addr} {i : Nat} (x : ItH t h it a i) (k : ∀ o, h.get? it = some o → h'.get? it = some o) : ItH t h' it a i := by
  cases t
  · exact Heap.IsListIter.at (show h.IsListIter it a i from x) k
  · exact Heap.IsTupleIter.at (show h.IsTupleIter it a i from x) k
theorem SeqH.lt {t : Bool} {h : Heap} {a : Addr} {its : Array Value} (x : SeqH t h a its) : a < h.objs.size := by
  cases t <;> (obtain ⟨o, e, _⟩ := x; exact Heap.lt_size e)
theorem drawsB {prog : Program} {w : World} {A : Around} (t : Bool) (hh : A.handled = none) (it a : Addr) (hne : a ≠ it) (its : Array Value) : Draws prog w A it [it, a] its.size (fun i v => its[i]? = some v) (fun i h => ItH t h it a i ∧ SeqH t h a its) := by
  cases t
  · exact Draws.list hh it a hne its
  · exact Draws.tuple hh it a hne its
theorem beginsB (t : Bool) (a : Addr) (its : Array Value) : Begins (.ref a) (itO t a) fun h => SeqH t h a its := by
  cases t
  · exact begins_list a its
  · exact begins_tuple a its
theorem itO_at {t : Bool} {h : Heap} {a it : Addr} (e : h.get? it = some (itO t a)) : ItH t h it a 0 := by
  cases t <;> exact ⟨_, e, rfl, rfl⟩
theorem seqB {X : Cx} {pins : List (Addr × Obj)} {σ : L2.St} {H : Hp} {s : Shared} (I : Inv X pins σ H s) {t : Bool} {a : Addr} {xs : List V} (h : SqB X.K t H a xs) : ∃ its : List Value, Vals xs its ∧ SeqH t s.heap a its.toArray := by
  cases t
  · obtain ⟨its, r, p, _⟩ := I.list h
    exact ⟨its, r, p.isList⟩
  · obtain ⟨its, r, p, _⟩ := I.tuple h
    exact ⟨its, r, p⟩
theorem injB {X : Cx} {pins : List (Addr × Obj)} {σ : L2.St} {H : Hp} {s : Shared} (I : Inv X pins σ H s) {t : Bool} {a : Addr} {xs ys : List V} (h : SqB X.K t H a xs) (h' : SqB X.K t H a ys) : xs = ys := by
  cases t
  · exact I.list_inj h h'
  · exact I.tuple_inj h h'

theorem nA {m n : Nat} (h : m ≠ n) : @Ne Addr m n := h
theorem nAl {a N : Nat} (k : Nat) (h : a < N) : @Ne Addr (N + k) a := fun e => by have e : N + k = a := e; omega
theorem nAr {a N : Nat} (k : Nat) (h : a < N) : @Ne Addr a (N + k) := fun e => by have e : a = N + k := e; omega
theorem nm2 {z x y : Addr} (h1 : z ≠ x) (h2 : z ≠ y) : z ∉ [x, y] := by simp [h1, h2]
theorem leA {N c : Nat} (h : c = N + 4 ∨ c = N + 2 ∨ c = N + 3 ∨ c = N ∨ c = N + 1) : N ≤ c := by omega
theorem leA2 {N c : Nat} (h : c = N + 1 ∨ c = N) : N ≤ c := by omega
/-! ### enumerate(x) -/
theorem meets_enumB {v : Value} {o : Obj} {Hh : Heap → Prop} (B : Begins v o Hh) : Meets (Builtin.«enumerate.__new__» ⟨[.type "enumerate", v], []⟩) (fun _ R s => Hh s.heap ∧
    R (.ok (.ret (.ref (s.heap.push o).objs.size))) { s with heap := (s.heap.push o).push { cls := .type "enumerate", data := .fields #[.none, .bool false, .ref s.heap.objs.size, rawInt 0, .none, .none] } }) :=
  .of_wp fun prog w A R s h => by
    obtain ⟨hp, g, d, tk, os⟩ := s
    obtain ⟨h1, h⟩ := h
    have hsub := sub_enumerate
    have hit : ∀ {A' : Around} {E Q : Value → Shared → Prop}, Q (.ref hp.objs.size) ⟨hp.push o, g, d, tk, os⟩ → wpAny (model prog w) A' (pyIter v) Q E ⟨hp, g, d, tk, os⟩ := fun q => B.iter prog w _ _ ⟨hp, g, d, tk, os⟩ _ h1 q
    wp_walk using hit
    refine wpAny_stack_any fun stk => wpAny_pure ?_
    split
    · rename_i c1 _ _ _ _ _
      cases (c1 == Value.type "enumerate") <;> (wp_walk using hit; exact ⟨_, rfl, h⟩)
    · wp_walk using hit
      exact ⟨_, rfl, h⟩
theorem call_enumB {prog : Program} {w : World} {A : Around} {E Q : Value → Shared → Prop} {s : Shared} (t : Bool) {a : Addr} {its : Array Value} (hL : SeqH t s.heap a its)
    (h : ∀ h', IsEnum h' (s.heap.objs.size + 1) s.heap.objs.size 0 .none → ItH t h' s.heap.objs.size a 0 → (∀ b o, s.heap.get? b = some o → h'.get? b = some o) → Q (.ref (s.heap.objs.size + 1)) { s with heap := h' }) :
    wpAny (model prog w) A (call (.type "enumerate") [.ref a]) Q E s := by
  refine callType_new F.called_enumerate (by decide) (F.typeCall_enumerate_1 _) (F.newCall_enumerate_1 _) (fun obj => F.args_object_init_2 obj _) F.entry_enumerate_new (meets_enumB (beginsB t a its)) ⟨hL, ?_⟩
  have hz : (s.heap.push (itO t a)).objs.size = s.heap.objs.size + 1 := Heap.size_push ..
  have he := Heap.get?_push_size (s.heap.push (itO t a)) (o := { cls := .type "enumerate", data := .fields #[.none, .bool false, .ref s.heap.objs.size, rawInt 0, .none, .none] }) rfl
  have hi := Heap.get?_push_size s.heap (o := itO t a) (beginsB t a its).free
  show _ ∧ _
  rw [hz] at he ⊢
  exact ⟨⟨_, he, rfl⟩, h _ he (itO_at (Heap.get?_push_of_some _ hi)) fun b o x => Heap.get?_push_of_some _ (Heap.get?_push_of_some _ x)⟩
def ItE (K : PySem.W.Frag) (t : Bool) (a : Addr) : It :=
  ⟨fun i H => ∃ (xs : List V) (x : V), SqB K t H a xs ∧ xs[i]? = some x, fun i H v H' => ∃ T x, v = .ref T ∧ H T = none ∧ H' = upd H T (.tup [.int (i : Nat), x]) ∧ ∀ xs, SqB K t H a xs → xs[i]? = some x, fun i H => ∃ xs : List V, SqB K t H a xs ∧ xs.length = i⟩
theorem turn_enumB {P : Program} {w : World} {K : PySem.W.Frag} {elts : List Expr} {kk : Nat} {tpos : Pos} (t : Bool) (a e it : Addr) (hea : e ≠ a) (hia : a ≠ it) :
    Turn P w K (.Tuple elts kk tpos) (ItE K t a) [e, it] e (fun i h => (∃ old, IsEnum h e it ((i : Nat) : Int) old) ∧ ItH t h it a i ∧ e ≠ it) where
  mem := List.mem_cons_self ..
  obj := fun i h st b hb => by
    obtain ⟨⟨old, he⟩, hi, _⟩ := st
    rcases List.mem_cons.mp hb with z | z
    · subst z; exact ⟨_, he, fun v q => nomatch q⟩
    · have z : b = it := by simpa using z
      subst z; exact hi.obj
  keep := fun i h h' st k => by
    obtain ⟨⟨old, he⟩, hi, hne⟩ := st
    exact ⟨⟨old, k e (by simp) _ he⟩, hi.at fun o q => k it (by simp) o q, hne⟩
  item := by
    intro X hP hw hK hc i pins s σ H E I hf st hg
    subst hP hw hK
    obtain ⟨⟨old, he⟩, hit, hne⟩ := st
    obtain ⟨xs, x, hq, hx⟩ := hg
    obtain ⟨its, rv, p⟩ := seqB I hq
    obtain ⟨u, hu, ru⟩ := rv.get hx
    have hel : e < s.heap.objs.size := Heap.lt_size he
    have hil : it < s.heap.objs.size := by
      obtain ⟨o, z, _⟩ := hit.obj
      exact Heap.lt_size z
    have hlt : i < its.toArray.size := by
      have := (List.getElem?_eq_some_iff.mp hu).1
      simpa using this
    refine wpAny_pyNext_enum_itemD (drawsB t (A := X.A.in1) (I.ok.hd hc) it a hia its.toArray) he ⟨hit, p⟩ hlt hne (by simp [hne, hea]) fun x' h' tk hx' ho hst hT hsz hk => ?_
    have ex : x' = u := by
      have : its[i]? = some x' := by simpa using hx'
      rw [hu] at this
      exact (Option.some.inj this).symm
    subst ex
    refine ⟨_, rfl, wpAny_letOwnedTupleGo_enum (s := { s with heap := h', toks := tk + 1 }) ho fun h'' he' sb => ?_⟩
    have hT2 := (sb.2 _ (Nat.ne_of_gt hel)).trans hT
    have new : ObjOk X.prog X.w (upd H s.heap.objs.size (.tup [.int (i : Nat), x])) h'' s.heap.objs.size (.tup [.int (i : Nat), x]) := ⟨(by decide : 2 ≤ sizeLine), [.int i tk, x'], .cons ⟨_, rfl⟩ (.cons ru .nil), ⟨_, hT2, rfl, _, rfl⟩⟩
    have I1 : Inv X pins σ (upd H s.heap.objs.size (.tup [.int (i : Nat), x])) { s with heap := h'', toks := tk + 1 } :=
      I.turnedNew (ch := [e, it]) (fun b ob hb q => by
        have hb1 : b ≠ e := fun z => hb (by simp [z])
        have hb2 : b ≠ it := fun z => hb (by simp [z])
        exact (sb.2 b hb1).trans (hk b ob hb1 hb2 q)) hf (Nat.le_refl _) new
    refine ⟨.ref s.heap.objs.size, _, I1, rfl, ⟨_, x, rfl, I.hok.fresh (Nat.le_refl _), rfl, fun ys hy => by rw [injB I hy hq]; exact hx⟩, ⟨⟨_, he'⟩, hst.1.at fun o q => (sb.2 it (Ne.symm hne)).trans q, hne⟩, fun b hb => ?_⟩
    have hb' : b < s.heap.objs.size := by
      rcases List.mem_cons.mp hb with z | z
      · subst z; exact hel
      · have z : b = it := by simpa using z
        subst z; exact hil
    rw [upd_ne (Nat.ne_of_lt hb')]
    exact (hf b hb).1
  done := by
    intro X hP hw hK hc i pins s σ H E I hf st hg
    subst hP hw hK
    obtain ⟨⟨old, he⟩, hit, hne⟩ := st
    obtain ⟨xs, hq, hx⟩ := hg
    obtain ⟨its, rv, p⟩ := seqB I hq
    obtain ⟨f0, f1, f2, f3, f4, f5⟩ := hf it (by simp)
    have hl := rv.length
    have hst : (fun i h => ItH t h it a i ∧ SeqH t h a its.toArray) its.toArray.size s.heap := ⟨by rw [List.size_toArray, ← hl, hx]; exact hit, p⟩
    exact wpAny_pyNext_enum_endD (drawsB t (A := X.A.in1) (I.ok.hd hc) it a hia its.toArray) he hst fun h' eb => ⟨rfl, I.turned (t' := s.toks) (fun b o hb q => eb b o hb q) f0 f1 f3 f4 f5⟩
  self := fun A i s Q E st h => by
    obtain ⟨⟨_, he⟩, _⟩ := st
    exact wpAny_pyIter_enum he h
def iEnumB (K : PySem.W.Frag) (t : Bool) (ta : TA) : TI := fun σ H R => ta σ H fun vs H1 => ∃ a xs, vs = [.ref a] ∧ SqB K t H1 a xs ∧ R (ItE K t a) H1
theorem pi_enumB {X : Cx} {K : PySem.W.Frag} (t : Bool) {e : Expr} {ta : TA} {p pos tpos : Pos} {elts : List Expr} {kk : Nat} (hk : X.K = K) (hg : Gl X "enumerate") (hm : X.mg "enumerate" = none) (ha : PA X [e] ta) (hs : starEach [e] X.env = [(false, eval e X.env)] := by rfl) : PI X (.Tuple elts kk tpos) (.Call (.Name "enumerate" p) [e] [] pos) (iEnumB K t ta) := by
  subst hk
  refine ⟨fun pins s σ H R I h => ?_⟩
  refine Call_ (ld_blt I hg hm boot_enumerate (callWith_type1 (thn (ha.run pos pins s σ H _ I h) fun us s1 ⟨vs, H1, I1, r1, q1⟩ => ?_) hs rfl))
  obtain ⟨a, xs, rfl, hq, q⟩ := q1
  cases r1 with
  | cons r rr =>
    cases rr
    cases r
    obtain ⟨its, rv, p'⟩ := seqB I1 hq
    have hal : a < s1.heap.objs.size := p'.lt
    refine call_enumB t p' fun h' he hit hk => wpAny_pyIter_enum he ?_
    refine ⟨s1.heap.objs.size + 1, [s1.heap.objs.size + 1, s1.heap.objs.size], _, _, H1, rfl, I1.kept (t' := s1.toks) hk, turn_enumB t a (s1.heap.objs.size + 1) s1.heap.objs.size (nAl 1 hal) (nAr 0 hal), ⟨⟨.none, he⟩, hit, Nat.succ_ne_self _⟩, fun b hb => ?_, q⟩
    have hle : s1.heap.objs.size ≤ b := leA2 (by simpa using hb)
    exact I1.fpOk hle (I1.hok.fresh hle)

/-! ### zip(x, y) -/
def ItZ (K : PySem.W.Frag) (t1 t2 : Bool) (a b : Addr) : It :=
  ⟨fun i H => ∃ (xs ys : List V) (x y : V), SqB K t1 H a xs ∧ SqB K t2 H b ys ∧ xs[i]? = some x ∧ ys[i]? = some y,
    fun i H v H' => ∃ T x y, v = .ref T ∧ H T = none ∧ H' = upd H T (.tup [x, y]) ∧ (∀ xs, SqB K t1 H a xs → xs[i]? = some x) ∧ ∀ ys, SqB K t2 H b ys → ys[i]? = some y,
    fun i H => ∃ xs ys : List V, SqB K t1 H a xs ∧ SqB K t2 H b ys ∧ i ≤ xs.length ∧ i ≤ ys.length ∧ (i = xs.length ∨ i = ys.length)⟩
theorem turn_zipB {P : Program} {w : World} {K : PySem.W.Frag} {elts : List Expr} {kk : Nat} {tpos : Pos} (t1 t2 : Bool) {a b z TI TO i1 i2 : Addr} (D : ZipSep2 z TI TO i1 i2 [i1, a] [i2, b]) (ha : a ≠ i1) (hb : b ≠ i2) (h12 : i1 ≠ i2) (hz1 : i1 ≠ z) (hz2 : i2 ≠ z) (hT1 : i1 ≠ TO) (hT2 : i2 ≠ TO) :
    Turn P w K (.Tuple elts kk tpos) (ItZ K t1 t2 a b) [z, TI, TO, i1, i2] z (fun i h => IsZip h z TI TO .none ∧ IsTupOf2 h TI (.ref i1) (.ref i2) ∧ (∃ x y, IsTupOf2 h TO x y) ∧ ItH t1 h i1 a i ∧ ItH t2 h i2 b i) where
  mem := List.mem_cons_self ..
  obj := fun i h st c hc => by
    obtain ⟨hz, hTI, ⟨x, y, hTO⟩, g1, g2⟩ := st
    simp only [List.mem_cons, List.not_mem_nil, or_false] at hc
    rcases hc with q | q | q | q | q
    · subst q; exact ⟨_, hz, fun v q => nomatch q⟩
    · subst q; exact ⟨_, hTI, fun v q => nomatch q⟩
    · subst q; exact ⟨_, hTO, fun v q => nomatch q⟩
    · subst q; exact g1.obj
    · subst q; exact g2.obj
  keep := fun i h h' st k => by
    obtain ⟨hz, hTI, ⟨x, y, hTO⟩, g1, g2⟩ := st
    exact ⟨k z (by simp) _ hz, k TI (by simp) _ hTI, ⟨x, y, k TO (by simp) _ hTO⟩, g1.at fun o q => k i1 (by simp) o q, g2.at fun o q => k i2 (by simp) o q⟩
  item := by
    intro X hP hw hK hc i pins s σ H E I hf st hg
    subst hP hw hK
    obtain ⟨hz, hTI, ⟨x0, y0, hTO⟩, g1, g2⟩ := st
    obtain ⟨xs, ys, x, y, hqx, hqy, hx, hy⟩ := hg
    obtain ⟨its, rv, p1⟩ := seqB I hqx
    obtain ⟨its2, rv2, p2⟩ := seqB I hqy
    obtain ⟨u, hu, ru⟩ := rv.get hx
    obtain ⟨u2, hu2, ru2⟩ := rv2.get hy
    have hzl : z < s.heap.objs.size := Heap.lt_size hz
    have hl1 : i < its.toArray.size := by
      have := (List.getElem?_eq_some_iff.mp hu).1
      simpa using this
    have hl2 : i < its2.toArray.size := by
      have := (List.getElem?_eq_some_iff.mp hu2).1
      simpa using this
    refine wpAny_pyNext_zipD2_item D (drawsB t1 (A := X.A.in1) (I.ok.hd hc) i1 a ha its.toArray) (drawsB t2 (A := X.A.in1) (I.ok.hd hc) i2 b hb its2.toArray) hz hTI hTO ⟨g1, p1⟩ ⟨g2, p2⟩ hl1 hl2 fun y1 y2 h' tk q1 q2 hz' hTO' s1' s2' hT hsz hk => ?_
    have e1 : y1 = u := by
      have : its[i]? = some y1 := by simpa using q1
      rw [hu] at this
      exact (Option.some.inj this).symm
    have e2 : y2 = u2 := by
      have : its2[i]? = some y2 := by simpa using q2
      rw [hu2] at this
      exact (Option.some.inj this).symm
    subst e1 e2
    refine ⟨_, rfl, wpAny_letOwnedTupleGo_zip (s := { s with heap := h', toks := tk }) hz' fun h'' z'' sb => ?_⟩
    have hTn := (sb.2 _ (Nat.ne_of_gt hzl)).trans hT
    have new : ObjOk X.prog X.w (upd H s.heap.objs.size (.tup [x, y])) h'' s.heap.objs.size (.tup [x, y]) := ⟨(by decide : 2 ≤ sizeLine), [y1, y2], .cons ru (.cons ru2 .nil), ⟨_, hTn, rfl, _, rfl⟩⟩
    have I1 : Inv X pins σ (upd H s.heap.objs.size (.tup [x, y])) { s with heap := h'', toks := tk } := I.turnedNew (ch := [z, TI, TO, i1, i2]) (fun c o hb q => by
        simp only [List.mem_cons, List.not_mem_nil, or_false, not_or] at hb
        exact (sb.2 c hb.1).trans (hk c o hb.1 hb.2.2.1 hb.2.2.2.1 hb.2.2.2.2 q)) hf (Nat.le_refl _) new
    refine ⟨.ref s.heap.objs.size, _, I1, rfl, ⟨_, x, y, rfl, I.hok.fresh (Nat.le_refl _), rfl, fun l hl => by rw [injB I hl hqx]; exact hx, fun l hl => by rw [injB I hl hqy]; exact hy⟩, ⟨z'', ?_, ⟨y1, y2, ?_⟩, ?_, ?_⟩, fun c hcm => ?_⟩
    · exact (sb.2 _ D.TIz).trans (hk _ _ D.TIz D.TITO D.TIi1 D.TIi2 hTI)
    · exact (sb.2 _ D.TOz).trans hTO'
    · exact s1'.1.at fun o q => (sb.2 _ hz1).trans q
    · exact s2'.1.at fun o q => (sb.2 _ hz2).trans q
    · have hlt : c < s.heap.objs.size := by
        obtain ⟨o1, k1, _⟩ := g1.obj
        obtain ⟨o2, k2, _⟩ := g2.obj
        have m1 := Heap.lt_size k1
        have m2 := Heap.lt_size k2
        have m3 := Heap.lt_size hTI
        have m4 := Heap.lt_size hTO
        simp only [List.mem_cons, List.not_mem_nil, or_false] at hcm
        rcases hcm with q | q | q | q | q <;> (subst q; assumption)
      rw [upd_ne (Nat.ne_of_lt hlt)]
      exact (hf c hcm).1
  done := by
    intro X hP hw hK hc i pins s σ H E I hf st hg
    subst hP hw hK
    obtain ⟨hz, hTI, ⟨x0, y0, hTO⟩, g1, g2⟩ := st
    obtain ⟨xs, ys, hqx, hqy, hx, hy, hend⟩ := hg
    obtain ⟨its, rv, p1⟩ := seqB I hqx
    obtain ⟨its2, rv2, p2⟩ := seqB I hqy
    have l1 := rv.length
    have l2 := rv2.length
    have z1 : its.toArray.size = xs.length := by rw [List.size_toArray, l1]
    have z2 : its2.toArray.size = ys.length := by rw [List.size_toArray, l2]
    exact wpAny_pyNext_zipD2_end D (drawsB t1 (A := X.A.in1) (I.ok.hd hc) i1 a ha its.toArray) (drawsB t2 (A := X.A.in1) (I.ok.hd hc) i2 b hb its2.toArray) hz hTI hTO ⟨g1, p1⟩ ⟨g2, p2⟩ (by omega) (by omega) (by omega) fun h' tk hk => ⟨rfl, I.turnedL (t' := tk) (ch := [z, TI, TO, i1, i2]) (fun c o hb q => by
      simp only [List.mem_cons, List.not_mem_nil, or_false, not_or] at hb
      exact hk c o hb.1 hb.2.2.1 hb.2.2.2.1 hb.2.2.2.2 q) hf⟩
  self := fun A i s Q E st h => wpAny_pyIter_zip st.1 h
def iZipB (K : PySem.W.Frag) (t1 t2 : Bool) (ta : TA) : TI := fun σ H R => ta σ H fun vs H1 => ∃ a b xs ys, vs = [.ref a, .ref b] ∧ SqB K t1 H1 a xs ∧ SqB K t2 H1 b ys ∧ R (ItZ K t1 t2 a b) H1
theorem pi_zipB {X : Cx} {K : PySem.W.Frag} (t1 t2 : Bool) {e e2 : Expr} {ta : TA} {p pos tpos : Pos} {elts : List Expr} {kk : Nat} (hk : X.K = K) (hg : Gl X "zip") (hm : X.mg "zip" = none) (ha : PA X [e, e2] ta) (hs : starEach [e, e2] X.env = (false, eval e X.env) :: starEach [e2] X.env := by rfl) (hpl : (backTo pos (starEach [e2] X.env)).any (·.1) = false := by rfl) :
    PI X (.Tuple elts kk tpos) (.Call (.Name "zip" p) [e, e2] [] pos) (iZipB K t1 t2 ta) := by
  subst hk
  refine ⟨fun pins s σ H R I h => ?_⟩
  refine Call_ (ld_blt I hg hm boot_zip (callWith_type1 (thn (ha.run pos pins s σ H _ I h) fun us s1 ⟨vs, H1, I1, r1, q1⟩ => ?_) hs hpl))
  obtain ⟨a, b, xs, ys, rfl, hqx, hqy, q⟩ := q1
  cases r1 with
  | cons r rr =>
    cases rr with
    | cons r' rr =>
      cases rr
      cases r
      cases r'
      obtain ⟨its, rv, p1⟩ := seqB I1 hqx
      obtain ⟨its2, rv2, p2⟩ := seqB I1 hqy
      have la : (a : Nat) < s1.heap.objs.size := p1.lt
      have lb : (b : Nat) < s1.heap.objs.size := p2.lt
      refine zip_begins2 (beginsB t1 a its.toArray) (beginsB t2 b its2.toArray) p1 p2 fun h' hz hTI hTO g1 g2 hsz hk => wpAny_pyIter_zip hz ?_
      refine ⟨s1.heap.objs.size + 4, [s1.heap.objs.size + 4, s1.heap.objs.size + 2, s1.heap.objs.size + 3, s1.heap.objs.size, s1.heap.objs.size + 1], _, _, H1, rfl, I1.kept (t' := s1.toks) hk,
        turn_zipB t1 t2 ⟨nA (by omega), nA (by omega), nA (by omega), nA (by omega), by simp, nm2 (nA (by omega)) (nAl 4 la), nm2 (nA (by omega)) (nAl 3 la), nA (by omega), by simp, nm2 (nA (by omega)) (nAl 4 lb), nm2 (nA (by omega)) (nAl 3 lb), nm2 (nA (by omega)) (nAl 0 lb), nm2 (nA (by omega)) (nAl 1 la)⟩
          (nAr 0 la) (nAr 1 lb) (nA (by omega)) (nA (by omega)) (nA (by omega)) (nA (by omega)) (nA (by omega)), ⟨hz, hTI, ⟨_, _, hTO⟩, itO_at g1, itO_at g2⟩, fun c hcm => ?_, q⟩
      have hle : s1.heap.objs.size ≤ c := leA (by simpa using hcm)
      exact I1.fpOk hle (I1.hok.fresh hle)
end Fd

set_option Elab.async false
set_option maxRecDepth 100000
set_option maxHeartbeats 2000000
/-! Fd7: enumerate, zip, dicts of one's own, isinstance, sorted: by data. -/
namespace Fd
open PySem PySem.Spec PyProof.Rows L2

def dSeq (t : Bool) (ds : List PyData) : PyData := if t then .tuple ds else .list ds
theorem Rp.seqE {H : Hp} {t : Bool} {v : V} {ds : List PyData} (h : Rp H v (dSeq t ds)) : ∃ a xs, v = .ref a ∧ (∀ (K : PySem.W.Frag) (H' : Hp), Same H H' → SqB K t H' a xs) ∧ RpAll H xs ds := by
  cases t
  · obtain ⟨a, xs, rfl, ha, ra⟩ := (show Rp H v (.list ds) from h).lstE
    exact ⟨a, xs, rfl, fun K H' e => SqL.of (e _ _ ha), ra⟩
  · obtain ⟨a, xs, rfl, ha, ra⟩ := (show Rp H v (.tuple ds) from h).tupE
    exact ⟨a, xs, rfl, fun K H' e => SqT.of (e _ _ ha), ra⟩
def enumD (ds : List PyData) : List PyData := (List.range ds.length).map fun (i : Nat) => PyData.tuple [.int (i : Int), ds.getD i .none]
theorem enumD_len (ds : List PyData) : (enumD ds).length = ds.length := by simp [enumD]
theorem enumD_get {ds : List PyData} {i : Nat} {e : PyData} (h : (enumD ds)[i]? = some e) : ∃ d, ds[i]? = some d ∧ e = .tuple [.int (i : Int), d] := by
  have hi : i < ds.length := by
    have := (List.getElem?_eq_some_iff.mp h).1
    rwa [enumD_len] at this
  unfold enumD at h
  rw [List.getElem?_map, List.getElem?_range hi] at h
  refine ⟨ds[i], List.getElem?_eq_getElem hi, ?_⟩
  rw [← Option.some.inj h]
  show PyData.tuple [_, ds.getD i .none] = _
  rw [List.getD_eq_getElem?_getD, List.getElem?_eq_getElem hi]
  rfl
def zipD (ds es : List PyData) : List PyData := (ds.zip es).map fun p => PyData.tuple [p.1, p.2]
section
variable {Γ Γ' Γ1 Γ2 : En} {ta tb tl te : TE} {d : PyData} {ds es : List PyData} {K : PySem.W.Frag}
theorem wk_enum {t : Bool} (h : Ev ta Γ Γ1 (dSeq t ds)) : Wk (iEnumB K t (tCons ta tNil)) Γ Γ1 (enumD ds) := ⟨h.own, fun σ G H e s R q => h.run σ G H e s _ fun v G1 H1 n1 s1 r1 => by
  obtain ⟨a, xs, rfl, ha, ra⟩ := r1.seqE
  refine ⟨a, xs, rfl, ha K H1 n1.i, q _ G1 H1 n1 s1 fun i G' H' e1 e2 => ?_⟩
  have ha' := ha K H' (e1.trans e2)
  refine ⟨fun hl => ?_, fun d hd => ?_⟩
  · rw [enumD_len] at hl
    exact ⟨xs, ha', by rw [ra.len, hl]⟩
  · obtain ⟨d', hd', rfl⟩ := enumD_get hd
    obtain ⟨v, hv, rv⟩ := ra.get hd'
    exact ⟨⟨xs, v, ha', hv⟩, fun x H'' y => by
      obtain ⟨T, u, rfl, hT, rfl, y⟩ := y
      have := y xs ha'
      rw [hv] at this
      cases this
      have n := new_dat (M := M0) e2 hT (.tup [.int (i : Nat), v])
      exact ⟨_, n, .tup upd_same (.cons (.int _) (.cons (rv.mono (e1.trans n.g)) .nil))⟩⟩⟩
theorem wk_zip {t1 t2 : Bool} (ha : Ev ta Γ Γ1 (dSeq t1 ds)) (hb : Ev tb Γ1 Γ2 (dSeq t2 es)) : Wk (iZipB K t1 t2 (tCons ta (tCons tb tNil))) Γ Γ2 (zipD ds es) := ⟨fun a m => ha.own a (hb.own a m), fun σ G H e s R q => ha.run σ G H e s _ fun v G1 H1 n1 s1 r1 => hb.run σ G1 H1 n1.i s1 _ fun u G2 H2 n2 s2 r2 => by
  obtain ⟨a, xs, rfl, hqa, ra⟩ := (r1.mono n2.g).seqE
  obtain ⟨b, ys, rfl, hqb, rb⟩ := r2.seqE
  refine ⟨a, b, xs, ys, rfl, hqa K H2 n2.i, hqb K H2 n2.i, q _ G2 H2 (n1.trans n2 (mo ha.own)) s2 fun i G' H' e1 e2 => ?_⟩
  have ha' := hqa K H' (e1.trans e2)
  have hb' := hqb K H' (e1.trans e2)
  have l1 := ra.len
  have l2 := rb.len
  have lz : (zipD ds es).length = min ds.length es.length := by simp [zipD]
  refine ⟨fun hl => ⟨xs, ys, ha', hb', by omega, by omega, by omega⟩, fun d hd => ?_⟩
  have hi : i < (zipD ds es).length := (List.getElem?_eq_some_iff.mp hd).1
  unfold zipD at hd
  rw [List.getElem?_map, List.getElem?_eq_getElem (by rw [List.length_zip]; omega), List.getElem_zip] at hd
  cases hd
  obtain ⟨v, hv, rv⟩ := ra.get (i := i) (d := ds[i]'(by omega)) (List.getElem?_eq_getElem (by omega))
  obtain ⟨u, hu, ru⟩ := rb.get (i := i) (d := es[i]'(by omega)) (List.getElem?_eq_getElem (by omega))
  exact ⟨⟨xs, ys, v, u, ha', hb', hv, hu⟩, fun x H'' y => by
    obtain ⟨T, v', u', rfl, hT, rfl, y1, y2⟩ := y
    have z1 := y1 xs ha'
    have z2 := y2 ys hb'
    rw [hv] at z1
    rw [hu] at z2
    cases z1
    cases z2
    have n := new_dat (M := M0) e2 hT (.tup [v, u])
    exact ⟨_, n, .tup upd_same (.cons (rv.mono (e1.trans n.g)) (.cons (ru.mono (e1.trans n.g)) .nil))⟩⟩⟩

/-! ### dicts of one's own, with keys that are numbers -/
def dget (kvs : List (Int × PyData)) (i : Int) : Option PyData := (kvs.find? fun p => decide (p.1 = i)).map (·.2)
def dput (kvs : List (Int × PyData)) (i : Int) (d : PyData) : List (Int × PyData) := if (kvs.any fun p => decide (p.1 = i)) = true then kvs.map (fun p => if p.1 = i then (p.1, d) else p) else kvs ++ [(i, d)]
theorem DicAll.get {G : Hp} : ∀ {xs : List (Key × V)} {kvs : List (Int × PyData)} {i : Int} {d : PyData}, DicAll G xs kvs → dget kvs i = some d → ∃ v, valV xs (Sum.inl i : Key) = some v ∧ Rp G v d
  | [], [], i, d, _, h => by simp [dget] at h
  | (k, v) :: r, (j, e) :: q, i, d, ⟨hk, hr, ht⟩, h => by
    subst hk
    by_cases hj : j = i
    · subst hj
      have : e = d := by simpa [dget, List.find?_cons] using h
      subst this
      exact ⟨v, valV_pos rfl, hr⟩
    · have h' : dget q i = some d := by simpa [dget, List.find?_cons, hj] using h
      obtain ⟨w, h1, h2⟩ := DicAll.get ht h'
      exact ⟨w, by rw [valV_neg (fun z => hj (Sum.inl.inj z))]; exact h1, h2⟩
  | [], _ :: _, _, _, h, _ => h.elim
  | _ :: _, [], _, _, h, _ => h.elim
theorem DicAll.len {G : Hp} : ∀ {xs : List (Key × V)} {kvs : List (Int × PyData)}, DicAll G xs kvs → xs.length = kvs.length
  | [], [], _ => rfl
  | _ :: r, _ :: q, h => by rw [List.length_cons, List.length_cons, DicAll.len h.2.2]
  | [], _ :: _, h => h.elim
  | _ :: _, [], h => h.elim
theorem DicAll.keys {G : Hp} : ∀ {xs : List (Key × V)} {kvs : List (Int × PyData)}, DicAll G xs kvs → xs.map (·.1) = (kvs.map (·.1)).map Sum.inl
  | [], [], _ => rfl
  | (k, v) :: r, (j, e) :: q, h => by
    rw [List.map_cons, List.map_cons, List.map_cons, ← DicAll.keys h.2.2, ← h.1]
  | [], _ :: _, h => h.elim
  | _ :: _, [], h => h.elim
theorem DicAll.app {G : Hp} {v : V} {d : PyData} {i : Int} (r : Rp G v d) : ∀ {xs : List (Key × V)} {kvs : List (Int × PyData)}, DicAll G xs kvs → DicAll G (xs ++ [(Sum.inl i, v)]) (kvs ++ [(i, d)])
  | [], [], _ => ⟨rfl, r, trivial⟩
  | _ :: _, _ :: _, h => ⟨h.1, h.2.1, DicAll.app r h.2.2⟩
  | [], _ :: _, h => h.elim
  | _ :: _, [], h => h.elim
theorem DicAll.over {G : Hp} {v : V} {d : PyData} {i : Int} (r : Rp G v d) : ∀ {xs : List (Key × V)} {kvs : List (Int × PyData)}, DicAll G xs kvs → DicAll G (xs.map fun kv => if kv.1 = (Sum.inl i : Key) then (kv.1, v) else kv) (kvs.map fun p => if p.1 = i then (p.1, d) else p)
  | [], [], _ => trivial
  | (k, u) :: t, (j, e) :: q, h => by
    obtain ⟨hk, hr, ht⟩ := h
    subst hk
    show DicAll G ((if (Sum.inl j : Key) = Sum.inl i then ((Sum.inl j : Key), v) else (Sum.inl j, u)) :: _) ((if j = i then (j, d) else (j, e)) :: _)
    by_cases hj : j = i
    · subst hj
      rw [if_pos rfl, if_pos rfl]
      exact ⟨rfl, r, DicAll.over r ht⟩
    · rw [if_neg (fun z => hj (Sum.inl.inj z)), if_neg hj]
      exact ⟨rfl, hr, DicAll.over r ht⟩
  | [], _ :: _, h => h.elim
  | _ :: _, [], h => h.elim
theorem DicAll.any {G : Hp} {i : Int} : ∀ {xs : List (Key × V)} {kvs : List (Int × PyData)}, DicAll G xs kvs → (xs.any fun kv => decide (kv.1 = (Sum.inl i : Key))) = kvs.any fun p => decide (p.1 = i)
  | [], [], _ => rfl
  | (k, u) :: t, (j, e) :: q, h => by
    obtain ⟨hk, hr, ht⟩ := h
    subst hk
    rw [List.any_cons, List.any_cons, DicAll.any ht]
    congr 1
    by_cases hj : j = i
    · subst hj; simp
    · rw [decide_eq_false hj, decide_eq_false (fun z => hj (Sum.inl.inj z))]
  | [], _ :: _, h => h.elim
  | _ :: _, [], h => h.elim
theorem DicAll.put {G : Hp} {v : V} {d : PyData} {i : Int} (r : Rp G v d) {xs : List (Key × V)} {kvs : List (Int × PyData)} (h : DicAll G xs kvs) : DicAll G (putK xs (Sum.inl i : Key) v) (dput kvs i d) := by
  unfold putK dput
  rw [h.any]
  split
  · exact h.over r
  · exact h.app r
theorem x_dget {i : Nat} {a : Addr} {j : Int} {kvs0 kvs : List (Int × PyData)} (h : Γ[i]? = some (.dic a kvs0)) (hb : Ev tb Γ Γ2 (.int j)) (h2 : Γ2[i]? = some (.dic a kvs)) (hd : dget kvs j = some d) : Ev (tDGet (tVar i) tb) Γ Γ2 d := ⟨hb.own, fun σ G H e s Q q => by
  obtain ⟨o, e1, rfl, _⟩ := s.at_ i _ h
  refine ⟨_, e1, hb.run σ G H e s _ fun v G2 H2 n2 s2 r2 => ?_⟩
  obtain ⟨o, e2, rfl, ng, xs, hx, ra⟩ := s2.at_ i _ h2
  obtain ⟨w, hw, rw_⟩ := ra.get hd
  rw [r2.intE]
  exact ⟨a, w, rfl, by rw [← hw]; exact DGet.k (k := Sum.inl j) hx, q w G2 H2 n2 s2 rw_⟩⟩
theorem owns_dic {i : Nat} {a : Addr} {ss ss' : List (Int × PyData)} (hs : Γ[i]? = some (.dic a ss)) : ∀ b, b ∈ owns (Γ.set i (.dic a ss')) → b ∈ owns Γ := fun b hb => by
  rcases owns_set_sub hb with z | z
  · have : b = a := by simpa [own1] using z
    subst this
    exact own_mem hs (by simp [own1])
  · exact z
theorem s_dnew {P : Ed} {i : Nat} (hi : i < Γ.length) (p : ∀ a, P.nx (Γ.set i (.dic a []))) : StD (tAsg tDNewK (gName i)) Γ P := fun σ G H D e s k1 _ _ _ => fun a ha =>
  k1 _ _ G _ (p a) ⟨new_own e ha _, fun x m => by
    rcases owns_set_sub m with z | z
    · have : x = a := by simpa [own1] using z
      subst this
      exact .inr ha
    · exact .inl z, (s.ownNew e ha _).own ⟨rfl, same_none e ha, [], upd_same, trivial⟩ hi rfl (s.fresh ha)⟩
theorem s_dput {P : Ed} {i : Nat} {a : Addr} {j : Int} {kvs0 kvs : List (Int × PyData)} (h : Ev te Γ Γ1 d) (h0 : Γ1[i]? = some (.dic a kvs0)) (hb : Ev tb Γ1 Γ2 (.int j)) (hc : Γ2[i]? = some (.dic a kvs)) (hl : kvs.length < 1000000) (p : P.nx (Γ2.set i (.dic a (dput kvs j d)))) :
    StD (sDPut (tVar i) tb te) Γ P := fun σ G H D e s k1 _ _ _ => h.run σ G H e s _ fun v G2 H2 n s2 r => by
  obtain ⟨o, e1, rfl, _⟩ := s2.at_ i _ h0
  refine ⟨_, e1, hb.run σ G2 H2 n.i s2 _ fun w G3 H3 n3 s3 r3 => ?_⟩
  obtain ⟨o, e2, rfl, ng, xs, hx, ra⟩ := s3.at_ i _ hc
  have hm : a ∈ owns Γ2 := own_mem hc (by simp [own1])
  have s4 : Sd G3 (upd H3 a (.dK (putK xs (Sum.inl j : Key) v))) σ (Γ2.set i (.dic a (dput kvs j d))) := s3.put hc rfl rfl fun o z => ⟨z.1, z.2.1, _, upd_same, ra.put (r.mono n3.g)⟩
  rw [r3.intE]
  refine ⟨a, _, rfl, DPut.k (k := Sum.inl j) hx (sl_lt (by rw [ra.len]; exact hl)), k1 _ σ G3 _ p ⟨?_, fun x m => .inl (h.own x (hb.own x (owns_dic hc x m))), s4⟩⟩
  exact (n.trans n3 (mo h.own)).trans (new_set (M := fun x => x = a) n3.i ng rfl _) fun x m => by subst m; exact .inl (h.own _ (hb.own _ hm))
theorem keysV (ks : List Int) : ((ks.map Sum.inl : List Key).map fun k => kV k) = ks.map V.int := by
  rw [List.map_map]
  rfl
/-- list(d) -/
theorem ec_listD {i : Nat} {a : Addr} {kvs : List (Int × PyData)} (h : Γ[i]? = some (.dic a kvs)) : EvC (tCB rListD (tCons (tVar i) tNil)) Γ Γ ((kvs.map (·.1)).map .int) := ⟨fun _ z => z, fun σ G H e s Q q => by
  obtain ⟨o, e1, rfl, ng, xs, hx, ra⟩ := s.at_ i _ h
  refine ⟨_, e1, a, xs, rfl, hx, fun l hl => q l _ G _ (new_own e hl _) (s.ownNew e hl _) hl (same_none e hl) upd_same ?_⟩
  have : (xs.map fun kv => kV kv.1) = (kvs.map (·.1)).map V.int := by
    rw [← keysV, ← ra.keys, List.map_map]
    rfl
  rw [this]
  exact RpAll.of_ints⟩
/-- a def that reads a dict of one's own, its first argument -/
def spD (pre : List (Int × PyData) → List PyData → PyData → Prop) : Sp := fun vs H Q _ => ∃ (G : Hp) (a : Addr) (us : List V) (xs : List (Key × V)) (kvs : List (Int × PyData)) (ds : List PyData) (d : PyData), vs = .ref a :: us ∧ Same G H ∧ G a = none ∧ H a = some (.dK xs) ∧ DicAll G xs kvs ∧ RpAll G us ds ∧ pre kvs ds d ∧
  ∀ v G2 H2, New G H G2 H2 → Rp G2 v d → Q v H2
theorem ev_callD {pre : List (Int × PyData) → List PyData → PyData → Prop} {E : XK} {tr : TA} {i : Nat} {a : Addr} {ss0 ss : List (Int × PyData)} (h0 : Γ[i]? = some (.dic a ss0)) (ha : EvA tr Γ Γ1 es) (hs : Γ1[i]? = some (.dic a ss)) (h : pre ss es d) : Ev (tCall (spD pre) [] E (tCons (tVar i) tr)) Γ Γ1 d :=
  ⟨ha.own, fun σ G H e s Q q => by
    obtain ⟨o, e1, rfl, _⟩ := s.at_ i _ h0
    refine ⟨_, e1, ha.run σ G H e s _ fun us G1 H1 n1 s1 r1 => ?_⟩
    obtain ⟨o, e2, rfl, ng, xs, hx, ra⟩ := s1.at_ i _ hs
    exact ⟨G1, a, us, xs, ss, es, d, by rw [List.append_nil], n1.i, ng, hx, ra, r1, h, fun v G2 H2 n2 rv => q v G2 H2 (n1.trans n2 fun _ z => z.elim) (s1.new n2) rv⟩⟩

/-! ### for k in d, d a dict of one's own: it is locked while the loop runs -/
def without (G : Hp) (a : Addr) : Hp := fun b => if b = a then none else G b
theorem without_ne {G : Hp} {a b : Addr} (h : b ≠ a) : without G a b = G b := if_neg h
mutual
theorem rpOff {G : Hp} {a : Addr} {o : Obj} {u : HO} (ha : G a = some (.frz o u)) : ∀ {v : V} {d : PyData}, Rp G v d → Rp (without G a) v d
  | _, _, .non => .non
  | _, _, .bl b => .bl b
  | _, _, .int i => .int i
  | _, _, .str x => .str x
  | _, _, .lst h1 h2 => .lst (by rw [without_ne (ne_of h1 ha (by intro z; cases z))]; exact h1) (rpsOff ha h2)
  | _, _, .tup h1 h2 => .tup (by rw [without_ne (ne_of h1 ha (by intro z; cases z))]; exact h1) (rpsOff ha h2)
  | _, _, .obj h1 h2 => .obj (by rw [without_ne (ne_of h1 ha (by intro z; cases z))]; exact h1) (rpfOff ha h2)
theorem rpsOff {G : Hp} {a : Addr} {o : Obj} {u : HO} (ha : G a = some (.frz o u)) : ∀ {vs : List V} {ds : List PyData}, RpAll G vs ds → RpAll (without G a) vs ds
  | _, _, .nil => .nil
  | _, _, .cons h1 h2 => .cons (rpOff ha h1) (rpsOff ha h2)
theorem rpfOff {G : Hp} {a : Addr} {o : Obj} {u : HO} (ha : G a = some (.frz o u)) : ∀ {vs : List (Str × V)} {ds : List (PyData × PyData)}, RpF G vs ds → RpF (without G a) vs ds
  | _, _, .nil => .nil
  | _, _, .cons h1 h2 => .cons (rpOff ha h1) (rpfOff ha h2)
end
theorem dicOff {G : Hp} {a : Addr} {o : Obj} {u : HO} (ha : G a = some (.frz o u)) : ∀ {xs : List (Key × V)} {ds : List (Int × PyData)}, DicAll G xs ds → DicAll (without G a) xs ds
  | [], [], _ => trivial
  | (k, v) :: r, (i, d) :: q, h => ⟨h.1, rpOff ha h.2.1, dicOff ha h.2.2⟩
  | [], _ :: _, h => h.elim
  | _ :: _, [], h => h.elim
theorem getK {G : Hp} : ∀ {xs : List (Key × V)} {kvs : List (Int × PyData)} {j : Nat} {k : Int}, DicAll G xs kvs → (kvs.map (·.1))[j]? = some k → ∃ v, xs[j]? = some (Sum.inl k, v)
  | (k', v) :: r, (i, d) :: q, 0, k, h, e => by
    have : i = k := by simpa using e
    subst this
    exact ⟨v, by rw [h.1]; rfl⟩
  | (k', v) :: r, (i, d) :: q, j + 1, k, h, e => by
    obtain ⟨u, hu⟩ := getK (j := j) (k := k) h.2.2 (by simpa using e)
    exact ⟨u, by simpa using hu⟩
  | [], [], _, _, _, e => by simp at e
  | [], _ :: _, _, _, h, _ => h.elim
  | _ :: _, [], _, _, h, _ => h.elim
theorem itk_walk {G : Hp} {a : Addr} {od : Obj} {xs : List (Key × V)} {kvs : List (Int × PyData)} (ha : G a = some (.frz od (.dK xs))) (hd : DicAll G xs kvs) : WalkOf (Itk a od xs) G ((kvs.map (·.1)).map .int) := fun i G' H' e1 e2 => by
  have ha' : H' a = some (.frz od (.dK xs)) := e2 _ _ (e1 _ _ ha)
  refine ⟨fun h => ⟨ha', by rw [h, List.length_map, List.length_map, hd.len]; exact Nat.le_refl _⟩, fun d hdi => ?_⟩
  rw [List.getElem?_map] at hdi
  obtain ⟨k, hk, rfl⟩ := Option.map_eq_some_iff.mp hdi
  obtain ⟨v, hv⟩ := getK hd hk
  refine ⟨⟨ha', (List.getElem?_eq_some_iff.mp hv).1⟩, fun x H'' y => ?_⟩
  obtain ⟨rfl, k', v', hk', rfl⟩ := y
  rw [hv] at hk'
  cases hk'
  exact ⟨G', NewM.refl e2, .int k⟩
def lokFree (Γ : En) : Bool := Γ.all fun s => match s with | .lok _ _ _ => false | .hld _ _ => false | _ => true
theorem st_keys {t : TS} {g : TG} {P : Ed} {i : Nat} {a : Addr} {kvs : List (Int × PyData)} (h : Γ[i]? = some (.dic a kvs)) (I : Nat → En → Prop) (h0 : ∀ od, I 0 (Γ.set i (.lok a od kvs))) (hs : ∀ j k Γi, (kvs.map (·.1))[j]? = some k → I j Γi → ∃ Γt is, Tg g is (.int k) Γi Γt ∧ StD t Γt { nx := I (j + 1), ct := I (j + 1), rt := fun _ _ => False })
    (hd : ∀ Γi, I kvs.length Γi → (∃ od, Γi[i]? = some (.lok a od kvs)) ∧ lokFree (Γi.set i .un) = true ∧ P.nx (Γi.set i (.dic a kvs))) : StD (tLock (tFor (iKeys (tVar i)) g t)) Γ P := fun σ G H D e s k1 _ _ _ => by
  obtain ⟨o, e1, rfl, ng, xs, hx, ra⟩ := s.at_ i _ h
  have hi : i < Γ.length := (List.getElem?_eq_some_iff.mp h).1
  have ham : a ∈ owns Γ := own_mem h (by simp [own1])
  refine ⟨a, _, hx, trivial, fun od => ?_⟩
  have hG1 : upd G a (.frz od (.dK xs)) a = some (.frz od (.dK xs)) := upd_same
  have eG : Same G (upd G a (.frz od (.dK xs))) := fun b u q => by rw [upd_ne (ne_of_none q ng)]; exact q
  have e2 : Same (upd G a (.frz od (.dK xs))) (upd H a (.frz od (.dK xs))) := fun b u q => by
    by_cases hb : b = a
    · subst hb; rw [upd_same] at q ⊢; exact q
    · rw [upd_ne hb] at q ⊢; exact e b u q
  have nom : ∀ x, x ∈ owns (Γ.set i (.lok a od kvs)) → x ∈ owns Γ ∧ x ≠ a := fun x hx' => by
    refine ⟨owns_dat rfl x hx', fun z => ?_⟩
    subst z
    obtain ⟨t', ht', hxt⟩ := List.mem_flatMap.mp hx'
    obtain ⟨j, hj⟩ := List.getElem?_of_mem ht'
    by_cases hij : i = j
    · subst hij
      rw [List.getElem?_set_self hi] at hj
      cases hj
      simp [own1] at hxt
    · rw [List.getElem?_set_ne hij] at hj
      exact hij (nd_own s.nd h hj (by simp [own1]) hxt)
  have s1 : Sd (upd G a (.frz od (.dK xs))) (upd H a (.frz od (.dK xs))) σ (Γ.set i (.lok a od kvs)) := by
    refine ⟨by simp [s.len], fun j t' hj => ?_, nodup_set s.nd (by simp [own1]) fun b hb => by simp [own1] at hb⟩
    by_cases hij : i = j
    · subst hij
      rw [List.getElem?_set_self hi] at hj
      cases hj
      exact ⟨_, e1, rfl, xs, hG1, ra.mono eG⟩
    · rw [List.getElem?_set_ne hij] at hj
      obtain ⟨o, e3, z⟩ := s.at_ j t' hj
      refine ⟨o, e3, ?_⟩
      have hne : ∀ b, b ∈ own1 t' → b ≠ a := fun b hb q => hij (nd_own s.nd h hj (by simp [own1]) (q ▸ hb))
      cases t' with
      | un => trivial
      | dat d => obtain ⟨v, e4, r⟩ := z; exact ⟨v, e4, r.mono eG⟩
      | val v => exact z
      | cell b ds => obtain ⟨e4, n4, ys, hy, r⟩ := z; exact ⟨e4, by rw [upd_ne (hne b (by simp [own1]))]; exact n4, ys, by rw [upd_ne (hne b (by simp [own1]))]; exact hy, r.mono eG⟩
      | dic b ds => obtain ⟨e4, n4, ys, hy, r⟩ := z; exact ⟨e4, by rw [upd_ne (hne b (by simp [own1]))]; exact n4, ys, by rw [upd_ne (hne b (by simp [own1]))]; exact hy, r.mono eG⟩
      | nst b bs rows => obtain ⟨e4, n4, hy, r⟩ := z; exact ⟨e4, by rw [upd_ne (hne b (by simp [own1]))]; exact n4, by rw [upd_ne (hne b (by simp [own1]))]; exact hy, r.to eG (fun x hx q _ => by rw [upd_ne (hne x (by simp [own1, hx]))]; exact q) fun x o hx q => by rw [upd_ne (hne x (by simp [own1, hx]))]; exact q⟩
      | ob b C ks => obtain ⟨e4, n4, dx, fs, hy, r⟩ := z; exact ⟨e4, by rw [upd_ne (hne b (by simp [own1]))]; exact n4, dx, fs, by rw [upd_ne (hne b (by simp [own1]))]; exact hy, r.mono eG⟩
      | lok b od' ds => obtain ⟨e4, ys, hy, r⟩ := z; exact ⟨e4, ys, eG _ _ hy, r.mono eG⟩
      | hld φ m => obtain ⟨v, e4, r⟩ := z; exact ⟨v, e4, m _ _ _ eG r⟩
  refine ⟨_, e1, a, od, rfl, .inl ⟨xs, upd_same, ?_⟩⟩
  have walk := itk_walk hG1 (ra.mono eG)
  refine ⟨fun j m σ' H' => m = kvs.length - j ∧ j ≤ kvs.length ∧ ∃ Γi G', I j Γi ∧ Lv (Γ.set i (.lok a od kvs)) Γi (upd G a (.frz od (.dK xs))) (upd H a (.frz od (.dK xs))) G' H' σ', ⟨_, rfl, Nat.zero_le _, _, _, h0 od, Lv.refl e2 s1⟩, ?_⟩
  rintro j m σ' H' ⟨rfl, hj, Γi, G', p, l⟩
  obtain ⟨wstop, wgo⟩ := walk j G' H' l.n.g l.n.i
  by_cases hlt : j < kvs.length
  · have hk : (kvs.map (·.1))[j]? = some kvs[j].1 := by rw [List.getElem?_map, List.getElem?_eq_getElem hlt]; rfl
    obtain ⟨go, yld⟩ := wgo (.int kvs[j].1) (by rw [List.getElem?_map, hk]; rfl)
    refine .inr ⟨go, fun σ'' H'' => j + 1 ≤ kvs.length ∧ ∃ Γi G', I (j + 1) Γi ∧ Lv (Γ.set i (.lok a od kvs)) Γi (upd G a (.frz od (.dK xs))) (upd H a (.frz od (.dK xs))) G' H'' σ'', fun σ'' H'' q => ⟨kvs.length - (j + 1), by omega, rfl, q.1, q.2⟩, fun x H2 y => ?_⟩
    obtain ⟨G2, n3, rx⟩ := yld x H2 y
    obtain ⟨Γt, is, tg, body⟩ := hs j _ Γi hk p
    refine tg.run σ' G2 H2 x n3.i (l.s.new n3) rx _ fun σ'' _ _ s4 => ?_
    have l4 := l.trans (⟨n3.mono fun _ z => z.elim, fun b m => .inl (tg.own b m), s4⟩ : Lv Γi Γt G' H' G2 H2 σ'')
    exact body σ'' G2 H2 _ n3.i s4 (fun Γ' σ3 G3 H3 q l' => ⟨hlt, Γ', G3, q, l4.trans l'⟩) (fun _ _ _ _ _ _ q => q.elim) (fun _ _ _ _ q => q.elim) fun Γ' σ3 G3 H3 q l' => ⟨hlt, Γ', G3, q, l4.trans l'⟩
  · have ej : j = kvs.length := by omega
    subst ej
    obtain ⟨⟨od', hΓi⟩, hfree, hP⟩ := hd Γi p
    have hGa : G' a = some (.frz od (.dK xs)) := l.n.g _ _ hG1
    have hHa : H' a = some (.frz od (.dK xs)) := l.n.i _ _ hGa
    have hii : i < Γi.length := (List.getElem?_eq_some_iff.mp hΓi).1
    refine .inl ⟨wstop (by rw [List.length_map, List.length_map]), hHa, k1 _ σ' (without G' a) _ hP ?_⟩
    obtain ⟨o2, e5, rfl, xs2, hx2, ra2⟩ := l.s.at_ i _ hΓi
    have hxs : xs2 = xs := by
      rw [hGa] at hx2
      cases hx2
      rfl
    subst hxs
    refine ⟨⟨fun b u q => ?_, fun b u q => ?_, fun b u nb q => ?_, fun b q => ?_, fun b nb q z => ?_⟩, fun x m => ?_, ?_⟩
    · rw [without_ne (ne_of_none q ng)]
      exact l.n.g _ _ (eG _ _ q)
    · by_cases hb : b = a
      · subst hb
        unfold without at q
        rw [if_pos rfl] at q
        cases q
      · rw [without_ne hb] at q
        rw [upd_ne hb]
        exact l.n.i _ _ q
    · have hb : b ≠ a := fun z => nb (z ▸ ham)
      rw [upd_ne hb]
      exact l.n.h b u (fun m => nb (nom b m).1) (by rw [upd_ne hb]; exact q)
    · by_cases hb : b = a
      · subst hb; rw [upd_same]; intro z; cases z
      · rw [upd_ne hb]
        exact l.n.t b (by rw [upd_ne hb]; exact q)
    · have hb : b ≠ a := fun z => nb (z ▸ ham)
      rw [without_ne hb]
      exact l.n.f b (fun m => nb (nom b m).1) (by rw [upd_ne hb]; exact q) (by rw [upd_ne hb]; exact z)
    · rcases owns_set_sub m with z | z
      · have : x = a := by simpa [own1] using z
        subst this
        exact .inl ham
      · rcases l.o x z with q | q
        · exact .inl (nom x q).1
        · by_cases hxa : x = a
          · subst hxa; rw [upd_same] at q; cases q
          · rw [upd_ne hxa] at q
            exact .inr q
    · refine ⟨by simp [l.s.len], fun j t' hj => ?_, nodup_set l.s.nd (by simp [own1]) fun b hb j t' hj hbt => ?_⟩
      · by_cases hij : i = j
        · subst hij
          rw [List.getElem?_set_self hii] at hj
          cases hj
          exact ⟨_, e5, rfl, if_pos rfl, xs2, upd_same, dicOff hGa ra2⟩
        · rw [List.getElem?_set_ne hij] at hj
          obtain ⟨o, e3, z⟩ := l.s.at_ j t' hj
          refine ⟨o, e3, ?_⟩
          cases t' with
          | un => trivial
          | dat d => obtain ⟨v, e4, r⟩ := z; exact ⟨v, e4, rpOff hGa r⟩
          | val v => exact z
          | cell b ds =>
            obtain ⟨e4, n4, ys, hy, r⟩ := z
            have hb : b ≠ a := fun q => by subst q; rw [hGa] at n4; cases n4
            exact ⟨e4, by rw [without_ne hb]; exact n4, ys, by rw [upd_ne hb]; exact hy, rpsOff hGa r⟩
          | dic b ds =>
            obtain ⟨e4, n4, ys, hy, r⟩ := z
            have hb : b ≠ a := fun q => by subst q; rw [hGa] at n4; cases n4
            exact ⟨e4, by rw [without_ne hb]; exact n4, ys, by rw [upd_ne hb]; exact hy, dicOff hGa r⟩
          | nst b bs rows =>
            obtain ⟨e4, n4, hy, r⟩ := z
            have hb : b ≠ a := fun q => by subst q; rw [hGa] at n4; cases n4
            refine ⟨e4, by rw [without_ne hb]; exact n4, by rw [upd_ne hb]; exact hy, r.1, fun k x ds h1 h2 => ?_⟩
            obtain ⟨q1, xs, q2, q3⟩ := r.2 k x ds h1 h2
            have hx : x ≠ a := fun q => by subst q; rw [hGa] at q1; cases q1
            exact ⟨by rw [without_ne hx]; exact q1, xs, by rw [upd_ne hx]; exact q2, rpsOff hGa q3⟩
          | ob b C ks =>
            obtain ⟨e4, n4, dx, fs, hy, r⟩ := z
            have hb : b ≠ a := fun q => by subst q; rw [hGa] at n4; cases n4
            exact ⟨e4, by rw [without_ne hb]; exact n4, dx, fs, by rw [upd_ne hb]; exact hy, rpfOff hGa r⟩
          | lok b od3 ds =>
            have hno := hfree
            unfold lokFree at hno
            rw [List.all_eq_true] at hno
            exact absurd (hno (.lok b od3 ds) (List.mem_of_getElem? (i := j) (by rw [List.getElem?_set_ne hij]; exact hj))) (fun z => Bool.noConfusion z)
          | hld φ m =>
            have hno := hfree
            unfold lokFree at hno
            rw [List.all_eq_true] at hno
            exact absurd (hno (.hld φ m) (List.mem_of_getElem? (i := j) (by rw [List.getElem?_set_ne hij]; exact hj))) (fun z => Bool.noConfusion z)
      · have : b = a := by simpa [own1] using hb
        subst this
        obtain ⟨o3, e6, z⟩ := l.s.at_ j t' hj
        cases t' with
        | cell c ds =>
          have : b = c := by simpa [own1] using hbt
          subst this
          obtain ⟨_, n4, _⟩ := z
          rw [hGa] at n4; cases n4
        | dic c ds =>
          have : b = c := by simpa [own1] using hbt
          subst this
          obtain ⟨_, n4, _⟩ := z
          rw [hGa] at n4; cases n4
        | nst c bs rows =>
          obtain ⟨_, n4, hy, r⟩ := z
          have hbt : b = c ∨ b ∈ bs := by simpa [own1] using hbt
          rcases hbt with hbt | hbt
          · subst hbt
            rw [hGa] at n4; cases n4
          · obtain ⟨k, hk⟩ := List.getElem?_of_mem hbt
            have hk2 := (List.getElem?_eq_some_iff.mp hk).1
            obtain ⟨q1, _⟩ := r.2 k b _ hk (List.getElem?_eq_getElem (by rw [← r.1]; exact hk2))
            rw [hGa] at q1; cases q1
        | ob c C ks =>
          have : b = c := by simpa [own1] using hbt
          subst this
          obtain ⟨_, n4, _⟩ := z
          rw [hGa] at n4; cases n4
        | _ => simp [own1] at hbt
theorem x_dgetL {i : Nat} {a : Addr} {od : Obj} {j : Int} {kvs : List (Int × PyData)} (h : Γ[i]? = some (.lok a od kvs)) (hb : Ev tb Γ Γ (.int j)) (hd : dget kvs j = some d) : Ev (tDGet (tVar i) tb) Γ Γ d := ⟨hb.own, fun σ G H e s Q q => by
  obtain ⟨o, e1, rfl, xs, hx, ra⟩ := s.at_ i _ h
  refine ⟨_, e1, hb.run σ G H e s _ fun v G2 H2 n2 s2 r2 => ?_⟩
  obtain ⟨w, hw, rw_⟩ := ra.get hd
  rw [r2.intE]
  exact ⟨a, w, rfl, .inl ⟨xs, Sum.inl j, .inr ⟨od, n2.i _ _ (n2.g _ _ hx)⟩, rfl, hw.symm⟩, q w G2 H2 n2 s2 (rw_.mono n2.g)⟩⟩
theorem sd_startD {G H : Hp} {N : List Str} {us : List V} {xs : List (Key × V)} {a : Addr} {ss : List (Int × PyData)} {m : Nat} (r : RpAll G us ds) (ng : G a = none) (hx : H a = some (.dK xs)) (rx : DicAll G xs ss) (hm : m = N.length - (us.length + 1)) :
    Sd G H (L2.start N (.ref a :: us)) (.dic a ss :: (ds.map .dat ++ List.replicate m .un)) := by
  subst hm
  have s := sd_start (N := N.tail) (H := H) (m := N.length - (us.length + 1)) r (by cases N <;> simp <;> omega)
  have e : L2.start N (.ref a :: us) = some (.ref a) :: L2.start N.tail us := by
    unfold L2.start
    rw [List.map_cons, List.cons_append]
    congr 2
    cases N <;> simp <;> omega
  rw [e]
  refine ⟨by rw [List.length_cons, List.length_cons, s.len], fun i t h => ?_, ?_⟩
  · cases i with
    | zero =>
      cases h
      exact ⟨_, rfl, rfl, ng, xs, hx, rx⟩
    | succ i => exact s.at_ i t h
  · have : owns (Sl.dic a ss :: (ds.map Sl.dat ++ List.replicate (N.length - (us.length + 1)) .un)) = [a] := by
      show [a] ++ owns (ds.map Sl.dat ++ List.replicate (N.length - (us.length + 1)) .un) = [a]
      rw [owns_dats]
      rfl
    rw [this]
    simp
/-- a def that reads a dict of one's own, its first argument, and leaves it: what it leaves is told by NewM alone -/
def spDm (pre : List (Int × PyData) → List PyData → PyData → Prop) : Sp := fun vs H Q _ => ∃ (G : Hp) (a : Addr) (us : List V) (xs : List (Key × V)) (kvs : List (Int × PyData)) (ds : List PyData) (d : PyData), vs = .ref a :: us ∧ Same G H ∧ G a = none ∧ H a = some (.dK xs) ∧ DicAll G xs kvs ∧ RpAll G us ds ∧ pre kvs ds d ∧
  ∀ v G2 H2 ys, NewM (fun x => x = a) G H G2 H2 → G2 a = none → H2 a = some (.dK ys) → DicAll G2 ys kvs → Rp G2 v d → Q v H2
theorem defD_ok {PP : Program} {w : World} {mg : Str → Option Value} {base : Heap} {x qual : Str} {st : Stmt} {f : Addr} {fd : FuncData} {N ps : List Str} {k : Nat} {pre : List (Int × PyData) → List PyData → PyData → Prop} (F : Fun K x qual st f fd) (S : FnScope N ps (defScope st)) (len : ∀ ss ds d, pre ss ds d → ds.length + 1 = ps.length)
    (hbody : ∀ (cdv : Value) (A : Around) (outer : List Env) (s : Shared) (H : Hp) (E : XK), Room k (A.deeper (envOfC qual (defScope st) s.heap.objs.size f cdv)) →
      ∃ t, PSs (cxOf CX0 PP w K mg base N qual (defScope st) f cdv A outer s H E).nox (defBody st) t ∧ ∀ a ss ds d, pre ss ds d → StD t (.dic a ss :: (ds.map .dat ++ List.replicate (N.length - ps.length) .un)) { nx := fun Γ => d = .none ∧ Γ[0]? = some (.dic a ss), rt := fun Γ e => e = d ∧ Γ[0]? = some (.dic a ss) }) :
    FnOk PP w K mg base CX0 (k + 1) f fd ps (spDm pre) := by
  refine F.ok S (fun vs H Q E h => ?_) fun cdv A outer s H vs Q E hr h => ?_
  · obtain ⟨G, a, us, xs, ss, ds, d, rfl, e, ng, hx, rx, r, p, _⟩ := h
    rw [List.length_cons, r.len, len ss ds d p]
  · obtain ⟨G, a, us, xs, ss, ds, d, rfl, e, ng, hx, rx, r, p, q⟩ := h
    obtain ⟨t, ht, hs⟩ := hbody cdv A outer s H E hr
    have hM : ∀ m x, Mo (Sl.dic a ss :: (ds.map Sl.dat ++ List.replicate m .un)) x → x = a := fun m x h => by
      have h : x ∈ [a] ++ owns (ds.map Sl.dat ++ List.replicate m .un) := h
      rw [owns_dats] at h
      simpa using h
    refine ⟨t, ht, hs a ss ds d p (L2.start N (.ref a :: us)) G H _ e (sd_startD r ng hx rx (by rw [r.len, len ss ds d p])) (fun Γ' σ' G2 H2 z l => ?_) (fun Γ' d' σ' v G2 H2 z l rv => ?_) (fun _ _ _ _ z => z.elim) fun _ _ _ _ z => z.elim⟩
    · obtain ⟨z, zz⟩ := z
      subst z
      obtain ⟨o, _, _, ng2, ys, hy, ry⟩ := l.s.at_ 0 _ zz
      exact q .non G2 H2 ys (l.n.mono (hM _)) ng2 hy ry .non
    · obtain ⟨z, zz⟩ := z
      subst z
      obtain ⟨o, _, _, ng2, ys, hy, ry⟩ := l.s.at_ 0 _ zz
      exact q v G2 H2 ys (l.n.mono (hM _)) ng2 hy ry rv
/-- .. called -/
theorem ev_callDm {pre : List (Int × PyData) → List PyData → PyData → Prop} {E : XK} {tr : TA} {i : Nat} {a : Addr} {ss0 ss : List (Int × PyData)} (h0 : Γ[i]? = some (.dic a ss0)) (ha : EvA tr Γ Γ1 es) (hs : Γ1[i]? = some (.dic a ss)) (h : pre ss es d) : Ev (tCall (spDm pre) [] E (tCons (tVar i) tr)) Γ Γ1 d :=
  ⟨ha.own, fun σ G H e s Q q => by
    obtain ⟨o, e1, rfl, _⟩ := s.at_ i _ h0
    refine ⟨_, e1, ha.run σ G H e s _ fun us G1 H1 n1 s1 r1 => ?_⟩
    obtain ⟨o, e2, rfl, ng, xs, hx, ra⟩ := s1.at_ i _ hs
    refine ⟨G1, a, us, xs, ss, es, d, by rw [List.append_nil], n1.i, ng, hx, ra, r1, h, fun v G2 H2 ys n2 g2 h2 ry rv => ?_⟩
    have hi : i < Γ1.length := (List.getElem?_eq_some_iff.mp hs).1
    have s2 : Sd G2 H2 σ Γ1 := ⟨s1.len, fun j t e => by
      by_cases hj : i = j
      · subst hj
        rw [hs] at e
        cases e
        exact ⟨_, e2, rfl, g2, ys, h2, ry⟩
      · obtain ⟨v, e1, z⟩ := s1.at_ j t e
        exact ⟨v, e1, z.stay n2 fun b hb e2 => hj (nd_own s1.nd hs e (by simp [own1]) (e2 ▸ hb))⟩, s1.nd⟩
    exact q v G2 H2 (n1.trans n2 fun x e => by subst e; exact .inl (ha.own _ (own_mem hs (by simp [own1])))) s2 rv⟩

/-! ### isinstance(x, tuple) and the like -/
def tyD : PyData → String
  | .none => "NoneType"
  | .bool _ => "bool"
  | .int _ => "int"
  | .str _ => "str"
  | .list _ => "list"
  | .tuple _ => "tuple"
  | _ => ""
theorem Rp.ty {H H' : Hp} {v : V} {d : PyData} {K : PySem.W.Frag} (h : Rp H v d) (e : Same H H') (hd : tyD d ≠ "") : TyX K H' v (.type (tyD d)) := by
  cases h with
  | non => exact .base .non
  | bl b => exact .base (.bl b)
  | int i => exact .base (.int i)
  | str x => exact .base (.str x)
  | lst h1 h2 => exact .base (.lst (e _ _ h1))
  | tup h1 h2 => exact .base (.tup (e _ _ h1))
  | obj h1 h2 => exact absurd rfl hd
theorem kitB_0 {n : String} {b : Bool} (hn : n ≠ "") (h : kitB "" n = some b) : False := by
  unfold kitB at h
  have h1 : (Value.type "" == Value.type n) = false := by
    rw [beq_eq_false_iff_ne]
    intro z
    cases z
    exact hn rfl
  rw [h1] at h
  have h2 : PySem.fastBuiltinMro "" = none := by decide +kernel
  rw [h2, if_neg Bool.false_ne_true] at h
  split at h <;> cases h
theorem ev_isi {n : String} {b : Bool} (ha : Ev ta Γ Γ1 d) (h : kitB (tyD d) n = some b) (hn : n ≠ "" := by decide) : Ev (tCB (rIsi K) (tCons ta (tCons (tC (.ty n)) tNil))) Γ Γ1 (.bool b) := ⟨ha.own, fun σ G H e s Q q => ha.run σ G H e s _ fun v G1 H1 n1 s1 r1 =>
  ⟨v, .ty n, _, _, b, rfl, .ty n, r1.ty n1.i (fun z => kitB_0 hn (z ▸ h)), kit_ty h, q _ G1 H1 n1 s1 (.bl b)⟩⟩
theorem k_isi {X : Cx} (h : X.K = K) : CallR X (.builtin "isinstance") (rIsi K) := by subst h; exact call_isi
end
end Fd

set_option Elab.async false
set_option maxRecDepth 100000
set_option maxHeartbeats 2000000
/-! Fd8: sorted(x): numbers, and rows of numbers of one length, any number of them. -/
namespace Fd
open PySem PySem.Spec PyProof.Rows L2

/-! ### two sorted lists of the same items -/
theorem perm_one {α : Type} {le : α → α → Prop} (anti : ∀ a b, le a b → le b a → a = b) : ∀ {l m : List α}, l.Perm m → l.Pairwise le → m.Pairwise le → l = m
  | [], m, p, _, _ => by rw [List.Perm.nil_eq p]
  | a :: l, [], p, _, _ => absurd p.length_eq (by simp)
  | a :: l, b :: m, p, hl, hm => by
    have hab : a = b := by
      rcases List.mem_cons.mp (p.mem_iff.mp (List.mem_cons_self (a := a) (l := l))) with h | h
      · exact h
      · rcases List.mem_cons.mp (p.mem_iff.mpr (List.mem_cons_self (a := b) (l := m))) with h' | h'
        · exact h'.symm
        · exact anti a b ((List.pairwise_cons.mp hl).1 b h') ((List.pairwise_cons.mp hm).1 a h)
    subst hab
    rw [perm_one anti p.cons_inv (List.pairwise_cons.mp hl).2 (List.pairwise_cons.mp hm).2]
def sortI (ks : List Int) : List Int := ks.mergeSort
theorem sortI_perm (ks : List Int) : (sortI ks).Perm ks := List.mergeSort_perm ks _
theorem sortI_le (ks : List Int) : (sortI ks).Pairwise (· ≤ ·) := by
  have h := List.pairwise_mergeSort (le := fun a b : Int => decide (a ≤ b)) (fun a b c h1 h2 => by simp at h1 h2 ⊢; omega) (fun a b => by simp; omega) ks
  exact h.imp fun h => by simpa using h
theorem sortI_of {ks ys : List Int} (p : ys.Perm ks) (s : ys.Pairwise (· ≤ ·)) : ys = sortI ks := perm_one (fun a b h1 h2 => Int.le_antisymm h1 h2) (p.trans (sortI_perm ks).symm) s (sortI_le ks)

/-! ### sorted(d) of a dict of one's own -/
abbrev rSortD : List V → Hp → VK → Prop := fun xs H Q => ∃ (a : Addr) (kvs : List (Key × V)) (ks : List Int), xs = [.ref a] ∧ Rd H a (.dK kvs) ∧ kvs.map (·.1) = ks.map Sum.inl ∧ ks.length < 64 ∧ ∀ (ys : List Int) (p : Addr), ys.Perm ks → ys.Pairwise (· ≤ ·) → H p = none → Q (.ref p) (upd H p (.lst (ys.map V.int)))
theorem k_sortD {X : Cx} (h : X.calm = true) : CallR X (.builtin "sorted") rSortD := call_sortedDI h
section
variable {Γ Γ' Γ1 Γ2 : En} {ta tb tl te : TE} {d : PyData} {ds es : List PyData} {K : PySem.W.Frag}
theorem ec_sortD {i : Nat} {a : Addr} {kvs : List (Int × PyData)} (h : Γ[i]? = some (.dic a kvs)) (hl : kvs.length < 64) : EvC (tCB rSortD (tCons (tVar i) tNil)) Γ Γ ((sortI (kvs.map (·.1))).map .int) := ⟨fun _ z => z, fun σ G H e s Q q => by
  obtain ⟨o, e1, rfl, ng, xs, hx, ra⟩ := s.at_ i _ h
  refine ⟨_, e1, a, xs, kvs.map (·.1), rfl, .inl hx, ra.keys, by rw [List.length_map]; exact hl, fun ys l p so hl => ?_⟩
  rw [sortI_of p so]
  exact q l _ G _ (new_own e hl _) (s.ownNew e hl _) hl (same_none e hl) upd_same RpAll.of_ints⟩
end

/-! ### sorted of a list of rows of n numbers from 0 to B - 1 -/
def Bd (B : Int) (v : List Int) : Prop := ∀ x, x ∈ v → 0 ≤ x ∧ x < B
/-- a row as one number -/
def cod (B : Int) (v : List Int) : Int := TS.code B v
def leR (B : Int) (v w : List Int) : Prop := cod B v ≤ cod B w
def sortR (B : Int) (rs : List (List Int)) : List (List Int) := rs.mergeSort fun v w => decide (cod B v ≤ cod B w)
theorem sortR_perm (B : Int) (rs : List (List Int)) : (sortR B rs).Perm rs := List.mergeSort_perm rs _
theorem sortR_le (B : Int) (rs : List (List Int)) : (sortR B rs).Pairwise (leR B) := by
  have h := List.pairwise_mergeSort (le := fun v w : List Int => decide (cod B v ≤ cod B w)) (fun a b c h1 h2 => by simp at h1 h2 ⊢; omega) (fun a b => by simp; omega) rs
  exact h.imp fun h => by simpa [leR] using h
theorem cod_inj {B : Int} : ∀ {v w : List Int}, v.length = w.length → Bd B v → Bd B w → cod B v = cod B w → v = w
  | [], [], _, _, _, _ => rfl
  | a :: v, b :: w, hl, h1, h2, e => by
    have hl' : v.length = w.length := by simpa using hl
    have b1 : Bd B v := fun x hx => h1 x (List.mem_cons_of_mem _ hx)
    have b2 : Bd B w := fun x hx => h2 x (List.mem_cons_of_mem _ hx)
    have hab : a = b := by
      rcases Int.lt_trichotomy a b with h | h | h
      · have := TS.code_lt (B := B) hl' b1 b2 h
        unfold cod at e
        omega
      · exact h
      · have := TS.code_lt (B := B) hl'.symm b2 b1 h
        unfold cod at e
        omega
    subst hab
    have e2 : cod B v = cod B w := by
      have x := TS.code_same (B := B) (d := a) hl'
      have y := TS.code_same (B := B) (d := a) hl'.symm
      unfold cod at e ⊢
      omega
    rw [cod_inj hl' b1 b2 e2]
end Fd
namespace Fd
open PySem PySem.Spec PyProof.Rows L2
section
variable {prog : Program} {w : World} {A : Around} {E : Value → Shared → Prop} {s : Shared}
/-- v before u: by the numbers of their rows -/
abbrev ltk (B : Int) {α : Type} (k : α → List Int) (v u : α) : Bool := decide (cod B (k v) < cod B (k u))
theorem ltk_swo {α : Type} (B : Int) (k : α → List Int) : SrtO.Swo (ltk B k) := ⟨fun x y h => by
  have h := of_decide_eq_true h
  exact decide_eq_false (by omega), fun x y z h1 h2 => by
  have h1 := of_decide_eq_false h1
  have h2 := of_decide_eq_false h2
  exact decide_eq_false (by omega)⟩
def RowsOk (h : Heap) (n : Nat) (B : Int) (vs : List Value) (k : Value → List Int) : Prop := ∀ v, v ∈ vs → TS.TupInts h v (k v) ∧ (k v).length = n ∧ TS.Bd B (k v)
theorem rows_cmp {n : Nat} {B : Int} {vs : List Value} {k : Value → List Int} (x : RowsOk s.heap n B vs k) : SrtO.Cmp prog w A s (tuples' true) (fun p => p.1 ∈ vs) (SrtO.lt2 (ltk B k)) := by
  intro p q hp hq
  obtain ⟨tp, lp, bp⟩ := x _ hp
  obtain ⟨tq, lq, bq⟩ := x _ hq
  show wpAny (model prog w) A (keyLt' (tuples' true) p.1 q.1) (fun r s' => s' = s ∧ r = decide (TS.code B (k p.1) < TS.code B (k q.1))) (fun _ _ => False) s
  generalize k p.1 = ns at tp lp bp ⊢
  generalize k q.1 = ms at tq lq bq ⊢
  obtain ⟨a, xs, e1, ⟨o, ho, hc, m, hdt⟩, i⟩ := tp
  obtain ⟨a', ys, e2, ⟨o', ho', hc', m', hdt'⟩, i'⟩ := tq
  rw [e1, e2]
  refine PySem.W.kat_lt ho hdt ho' hdt' ?_
  have l1 := i.length
  have l2 := i'.length
  rw [Array.length_toList] at l1 l2
  rw [decide_eq_false (show ¬ xs.size < ys.size by omega)]
  exact TS.lex_ints 0 i i' (by omega) bp bq ⟨rfl, rfl⟩
theorem rows_sortable {a : Addr} {n : Nat} {B : Int} {vs : List Value} {k : Value → List Int} (hn : 1 ≤ n) (h0 : 0 < vs.length) (x : RowsOk s.heap n B vs k) (ha : ∀ o, s.heap.get? a = some o → o.cls ≠ .type "tuple") : SrtO.SortableO prog w A s a vs (ltk B k) := by
  intro h' keep
  have x' : RowsOk h' n B vs k := fun v hv => by
    obtain ⟨t, l, b⟩ := x v hv
    exact ⟨t.keeps fun b o e c => keep b o (fun z => by subst z; exact ha o e c) e, l, b⟩
  obtain ⟨fs, k1, k2, k3⟩ := TS.firsts_of (h := h') (B := B) hn vs fun v hv => ⟨_, x' v hv⟩
  refine ⟨tuples' true, fun Q E hq => ?_, rows_cmp (s := { s with heap := h' }) x'⟩
  refine PySem.W.kat_kind (T := .type "int") k1 (by omega) (fun f hf => ?_) rfl ?_
  · obtain ⟨m, t, rfl⟩ := k3 f hf
    exact PySem.W.Looks.of_pure rfl
  · rw [show (Value.type "int" != Value.type "tuple") = true from by first | rfl | decide +kernel | decide]
    exact hq
theorem sorted_rows {l : Addr} {n : Nat} {B : Int} {vs : List Value} {k : Value → List Int} {Q : Value → Shared → Prop} (hn : 1 ≤ n ∨ vs.length < 2) (hl : s.heap.IsList l vs.toArray) (hz : vs.length ≤ sizeLine) (x : RowsOk s.heap n B vs k)
    (h : ∀ (h' : Heap) (d : Addr) (out : List Value), SrtO.Srtd (ltk B k) out → SrtO.Stb (ltk B k) out vs → (∀ b o, s.heap.get? b = some o → h'.get? b = some o) → s.heap.objs.size ≤ d → (∃ m, h'.get? d = some (seqObj "list" out.toArray m)) → Q (.ref d) { s with heap := h' }) :
    wpAny (model prog w) A (call (.builtin "sorted") [.ref l]) Q E s := by
  refine SrtO.sorted_ord (ltk_swo B k) hl hz (fun h2 h₁ a ha kk => ?_) fun out hs hb => ?_
  · refine rows_sortable (n := n) (s := { s with heap := h₁ }) (by omega) (by omega) (fun v hv => ?_) fun o e => ?_
    · obtain ⟨t, l, b⟩ := x v hv
      exact ⟨t.keeps fun b o e _ => (kk b o e).2, l, b⟩
    · have e' : some o = some (seqObj "list" vs.toArray 0) := e.symm.trans ha
      cases e'
      exact fun c => absurd (Value.type.inj c) (by decide)
  · exact h _ _ out hs hb (fun b o e => sortedAll_old e) (Nat.le_succ _) (sortedAll_at s.heap vs out.toArray)
end
end Fd
namespace Fd
open PySem PySem.Spec PyProof.Rows L2
/-- the numbers of the row at a value, read off the heap -/
def rowV : V → Int
  | .int i => i
  | _ => 0
def rowAt (H : Hp) : V → List Int
  | .ref t => match H t with
    | some (.tup vs) => vs.map rowV
    | _ => []
  | _ => []
theorem rowAt_of {H : Hp} {t : Addr} {r : List Int} (h : H t = some (.tup (r.map V.int))) : rowAt H (.ref t) = r := by
  show (match H t with | some (.tup vs) => vs.map rowV | _ => []) = r
  rw [h]
  show (r.map V.int).map rowV = r
  rw [List.map_map]
  exact (List.map_congr_left fun _ _ => rfl).trans (List.map_id _)
def rSortT (K : PySem.W.Frag) : List V → Hp → VK → Prop := fun vs H Q => ∃ (a : Addr) (xs : List V) (n : Nat) (B : Int), vs = [V.ref a] ∧ SqL K H a xs ∧ (1 ≤ n ∨ xs.length < 2) ∧ (∀ x ∈ xs, ∃ t r, x = V.ref t ∧ H t = some (.tup (r.map V.int)) ∧ r.length = n ∧ Bd B r) ∧
  ∀ ys p, SrtO.Srtd (ltk B (rowAt H)) ys → ys.Perm xs → H p = none → Q (.ref p) (upd H p (.lst ys))
theorem intsAre_of {its : List Value} : ∀ {r : List Int}, Vals (r.map V.int) its → IntsAre its r := fun {r} h => by
  induction r generalizing its with
  | nil => cases h; exact .nil
  | cons x r ih =>
    cases h with
    | cons a b =>
      obtain ⟨t, rfl⟩ := a
      exact .cons x t (ih b)
theorem k_sortT {X : Cx} {K : PySem.W.Frag} (hk : X.K = K) : CallR X (.builtin "sorted") (rSortT K) := by
  subst hk
  intro pins s σ H vs us Q I r h
  obtain ⟨a, xs, n, B, rfl, hs, hn, hx, q⟩ := h
  obtain ⟨its, rv, hl, hz⟩ := I.list hs
  obtain ⟨u, rfl, ru⟩ := vals1 r
  obtain rfl : u = Value.ref a := ru
  obtain ⟨e1, e2⟩ := refs_back rv fun x m => by
    obtain ⟨t, _, e, _⟩ := hx x m
    exact ⟨t, e⟩
  have hlen := rv.length
  refine sorted_rows (n := n) (B := B) (k := fun u => rowAt H (backV u)) (by omega) hl.isList (by omega) (fun v hv => ?_) fun h' d out h1 h2 kp hd hm => ?_
  · obtain ⟨t, rfl⟩ := e2 v hv
    have hm : V.ref t ∈ xs := by
      rw [e1]
      exact List.mem_map.mpr ⟨_, hv, rfl⟩
    obtain ⟨t', rr, e, ht, hr, hb⟩ := hx _ hm
    cases e
    obtain ⟨_, its2, r2, o, ho, hc, m, hdd⟩ := I.hok _ _ ht
    have er : rowAt H (backV (.ref t)) = rr := rowAt_of ht
    show TS.TupInts s.heap (.ref t) (rowAt H (backV (.ref t))) ∧ (rowAt H (backV (.ref t))).length = n ∧ TS.Bd B (rowAt H (backV (.ref t)))
    rw [er]
    exact ⟨⟨t, its2.toArray, rfl, ⟨o, ho, hc, m, hdd⟩, intsAre_of r2⟩, hr, hb⟩
  · have h3 : ∀ u ∈ out, ∃ a, u = Value.ref a := fun u hu => e2 u (h2.perm.mem_iff.mp hu)
    obtain ⟨m, hm⟩ := hm
    have hb : (out.map backV).Perm xs := by
      rw [e1]
      exact h2.perm.map _
    refine ⟨.ref d, upd H d (.lst (out.map backV)), I.laid (t' := s.toks) kp hd ⟨?_, out, m, vals_back h3, hm⟩, rfl, q _ d (SrtO.srtd_map h1) hb (I.hok.fresh hd)⟩
    rw [hb.length_eq]
    exact hz
theorem perm_oneP {α : Type} {le : α → α → Prop} (P : α → Prop) (anti : ∀ a b, P a → P b → le a b → le b a → a = b) : ∀ {l m : List α}, (∀ a ∈ l, P a) → l.Perm m → l.Pairwise le → m.Pairwise le → l = m
  | [], m, _, p, _, _ => by rw [List.Perm.nil_eq p]
  | a :: l, [], _, p, _, _ => absurd p.length_eq (by simp)
  | a :: l, b :: m, hP, p, hl, hm => by
    have hab : a = b := by
      rcases List.mem_cons.mp (p.mem_iff.mp (List.mem_cons_self (a := a) (l := l))) with h | h
      · exact h
      · rcases List.mem_cons.mp (p.mem_iff.mpr (List.mem_cons_self (a := b) (l := m))) with h' | h'
        · exact h'.symm
        · exact anti a b (hP a (by simp)) (hP b (List.mem_cons_of_mem _ h')) ((List.pairwise_cons.mp hl).1 b h') ((List.pairwise_cons.mp hm).1 a h)
    subst hab
    rw [perm_oneP P anti (fun x hx => hP x (List.mem_cons_of_mem _ hx)) p.cons_inv (List.pairwise_cons.mp hl).2 (List.pairwise_cons.mp hm).2]
theorem sortR_of {n : Nat} {B : Int} {rs ys : List (List Int)} (hr : ∀ r ∈ rs, r.length = n ∧ Bd B r) (p : ys.Perm rs) (s : ys.Pairwise (leR B)) : ys = sortR B rs := by
  have hy : ∀ r ∈ ys, r.length = n ∧ Bd B r := fun r h => hr r (p.mem_iff.mp h)
  exact perm_oneP (fun r => r.length = n ∧ Bd B r) (fun a b ha hb h1 h2 => cod_inj (ha.1.trans hb.1.symm) ha.2 hb.2 (Int.le_antisymm h1 h2)) hy (p.trans (sortR_perm B rs).symm) s (sortR_le B rs)
theorem RpAll.rowsV {G : Hp} : ∀ {xs : List V} {rows : List (List Int)}, RpAll G xs (rows.map dR) → (∀ x ∈ xs, ∃ (t : Addr) (r : List Int), x = V.ref t ∧ G t = some (.tup (r.map V.int)) ∧ r ∈ rows) ∧ xs.map (rowAt G) = rows
  | [], [], _ => ⟨fun x h => by simp at h, rfl⟩
  | x :: xs, r :: rows, h => by
    cases h with
    | cons h1 h2 =>
      obtain ⟨t, vs, rfl, ht, hv⟩ := h1.tupE
      rw [hv.ints] at ht
      obtain ⟨i1, i2⟩ := RpAll.rowsV h2
      refine ⟨fun y hy => ?_, ?_⟩
      · rcases List.mem_cons.mp hy with rfl | hy
        · exact ⟨t, r, rfl, ht, by simp⟩
        · obtain ⟨t', r', e, e2, e3⟩ := i1 y hy
          exact ⟨t', r', e, e2, List.mem_cons_of_mem _ e3⟩
      · rw [List.map_cons, i2, rowAt_of ht]
theorem RpAll.ofRows {G : Hp} : ∀ {xs : List V}, (∀ x ∈ xs, ∃ (t : Addr) (r : List Int), x = V.ref t ∧ G t = some (.tup (r.map V.int))) → RpAll G xs ((xs.map (rowAt G)).map dR)
  | [], _ => .nil
  | x :: xs, h => by
    obtain ⟨t, r, rfl, ht⟩ := h x (by simp)
    rw [List.map_cons, List.map_cons]
    refine .cons ?_ (RpAll.ofRows fun y hy => h y (List.mem_cons_of_mem _ hy))
    rw [rowAt_of ht]
    exact .tup ht RpAll.of_ints
section
variable {Γ Γ' Γ1 Γ2 : En} {ta tb tl te : TE} {K : PySem.W.Frag}
theorem ec_sortT {n : Nat} {B : Int} {rows : List (List Int)} (ha : Ev ta Γ Γ1 (dRs rows)) (hr : ∀ r ∈ rows, r.length = n ∧ Bd B r) (hn : 1 ≤ n ∨ rows.length < 2) : EvC (tCB (rSortT K) (tCons ta tNil)) Γ Γ1 ((sortR B rows).map dR) := ⟨ha.own, fun σ G H e s Q q => ha.run σ G H e s _ fun v G1 H1 n1 s1 r1 => by
  obtain ⟨a, xs, rfl, hx, rx⟩ := r1.lstE
  obtain ⟨f1, f2⟩ := rx.rowsV
  have hlen : xs.length = rows.length := by rw [← f2, List.length_map]
  have erow : ∀ x ∈ xs, rowAt H1 x = rowAt G1 x := fun x hx => by
    obtain ⟨t, r, rfl, ht, _⟩ := f1 x hx
    rw [rowAt_of ht, rowAt_of (n1.i _ _ ht)]
  refine ⟨a, xs, n, B, rfl, SqL.of (n1.i _ _ hx), by omega, fun x hx => ?_, fun ys p so pm hp => ?_⟩
  · obtain ⟨t, r, e, ht, hm⟩ := f1 x hx
    exact ⟨t, r, e, n1.i _ _ ht, (hr r hm).1, (hr r hm).2⟩
  · have hys : ∀ y ∈ ys, y ∈ xs := fun y h => pm.mem_iff.mp h
    have e1 : ys.map (rowAt G1) = sortR B rows := by
      refine sortR_of hr (by rw [← f2]; exact pm.map _) ?_
      rw [List.pairwise_map]
      refine List.Pairwise.imp_of_mem (fun {x y} hx hy h => ?_) so
      have h := of_decide_eq_false h
      rw [erow x (hys x hx), erow y (hys y hy)] at h
      show cod B _ ≤ cod B _
      omega
    have rr : RpAll G1 ys ((sortR B rows).map dR) := by
      rw [← e1]
      exact RpAll.ofRows fun y hy => by
        obtain ⟨t, r, e, ht, _⟩ := f1 y (hys y hy)
        exact ⟨t, r, e, ht⟩
    exact q p ys G1 _ (n1.trans (new_own (M := M0) n1.i hp _) fun _ z => z.elim) (s1.ownNew n1.i hp _) (none_back n1 hp) (same_none n1.i hp) upd_same rr⟩
end
end Fd

set_option Elab.async false
set_option maxRecDepth 100000
set_option maxHeartbeats 2000000
/-! Fd9: t[::-1] of a tuple. -/
namespace Fd
open PySem PySem.Spec PyProof.Rows L2
section
variable {prog : Program} {w : World} {A : Around} {E : Value → Shared → Prop} {s : Shared}
theorem back_places (n : Nat) : Builtin.Slice.slicePlaces ((n : Int) - 1) (-1) (-1) = n := by
  unfold Builtin.Slice.slicePlaces
  rw [if_neg (by decide)]
  by_cases h : (n : Int) - 1 > -1
  · rw [if_pos h]
    have e : -(-1 : Int) = 1 := by decide
    rw [e, Int.ediv_one]
    omega
  · rw [if_neg h]
    omega
theorem back_pick (xs : Array Value) : ((List.range xs.size).filterMap fun (k : Nat) => xs[(((xs.size : Int) - 1) + (k : Int) * (-1)).toNat]?) = xs.toList.reverse := by
  have e : ∀ k, k ∈ List.range xs.size → xs[(((xs.size : Int) - 1) + (k : Int) * (-1)).toNat]? = xs[xs.size - 1 - k]? := fun k hk => by
    have := List.mem_range.mp hk
    congr 1
    omega
  have fc : ∀ (l : List Nat), (∀ k, k ∈ l → k ∈ List.range xs.size) → l.filterMap (fun (k : Nat) => xs[(((xs.size : Int) - 1) + (k : Int) * (-1)).toNat]?) = l.filterMap fun k => xs[xs.size - 1 - k]? := fun l => by
    induction l with
    | nil => intro _; rfl
    | cons a l ih =>
      intro h
      rw [List.filterMap_cons, List.filterMap_cons, e a (h a (by simp)), ih fun k hk => h k (List.mem_cons_of_mem _ hk)]
  rw [fc _ fun _ h => h]
  have h2 := PySem.W.krv_range xs.size
  have h3 : ((List.range xs.size).map fun k => xs.size - 1 - k).filterMap (xs[·]?) = (List.range xs.size).filterMap fun k => xs[xs.size - 1 - k]? := by
    rw [List.filterMap_map]
    rfl
  rw [← h3, h2, List.filterMap_reverse, PySem.W.krv_all]
theorem back_parts {sl : Addr} {vl vu vs : Value} {n : Nat} {Q : Int × Int × Nat → Shared → Prop} (hs : s.heap.IsSliceOf sl vl vu vs) (pl : IsPart vl none) (pu : IsPart vu none) (ps : IsPart vs (some (-1))) (h : Q ((n : Int) - 1, -1, n) s) :
    wpAny (model prog w) A (Builtin.Slice.sliceApplied (.ref sl) (pure (n : Int))) Q E s := by
  obtain ⟨os, hos, hcs, hds⟩ := id hs
  unfold Builtin.Slice.sliceApplied Builtin.Slice.sliceFields
  refine wpAny_bind (wpAny_bind (wpAny_field hos hds (x := vl) rfl (wpAny_bind (wpAny_field hos hds (x := vu) rfl (wpAny_bind (wpAny_field hos hds (x := vs) rfl (wpAny_pure (wpAny_bind (HT.slicePart_ ps ?_)))))))))
  show wpAny (model prog w) A (if ((-1 : Int) == 0) = true then _ else _) Q E s
  rw [if_neg (by decide)]
  refine wpAny_bind (HT.slicePart_ pl (wpAny_bind (HT.slicePart_ pu (wpAny_bind (wpAny_pure ?_)))))
  have e : Builtin.Slice.sliceAdjust none none (-1) (n : Int) = ((n : Int) - 1, -1) := rfl
  show wpAny (model prog w) A (match Builtin.Slice.sliceAdjust none none (-1) (n : Int) with | (lo, hi) => pure (lo, (-1 : Int), Builtin.Slice.slicePlaces lo hi (-1))) Q E s
  rw [e]
  show wpAny (model prog w) A (pure ((n : Int) - 1, (-1 : Int), Builtin.Slice.slicePlaces ((n : Int) - 1) (-1) (-1))) Q E s
  rw [back_places]
  exact wpAny_pure h
theorem getItem_tuple_back {t sl : Addr} {items : Array Value} {vl vu vs : Value} {Q : Value → Shared → Prop} (ht : IsTup s.heap t items) (hs : s.heap.IsSliceOf sl vl vu vs) (pl : IsPart vl none) (pu : IsPart vu none) (ps : IsPart vs (some (-1)))
    (h : Q (.ref s.heap.objs.size) { s with heap := s.heap.push { cls := .type "tuple", data := .seq items.toList.reverse.toArray } }) (hsz : items.size ≤ sizeLine) : wpAny (model prog w) A (getItem (.ref t) (.ref sl)) Q E s := by
  have hok : sizeOk (.seq items.toList.reverse.toArray) := by
    show items.toList.reverse.toArray.size ≤ sizeLine
    rw [List.size_toArray, List.length_reverse, Array.length_toList]
    exact hsz
  obtain ⟨os, hos, hcs, hds⟩ := id hs
  have hTs : s.TypeIs (.ref sl) "slice" := ⟨os, hos, hcs⟩
  unfold getItem
  try with_reducible refine wpAny_holding ?_
  first | refine wpAny_bind (wpAny_pure ?_) | skip
  refine wpAny_bind (wpAny_sequenceKey ht.typeIs (by decide) (wpAny_bind (wpAny_callSpecial?_slot (name := Str.ofString "__getitem__") ht.typeIs slot_tuple_getitem (wpAny_call_entry slot_tuple_getitem ht.typeIs entry_tuple_getitem ?_ (args_tuple_getitem _ _)))))
  show wpAny (model prog w) _ (Builtin.Tuple.tupleItemsOf (.ref t) >>= _) _ _ s
  refine wpAny_bind (tupleItemsOf_ ht (wpAny_bind (wpAny_typeOf hTs ?_)))
  rw [if_pos (by decide)]
  refine wpAny_bind (back_parts hs pl pu ps ?_)
  have hno : ¬ ((((items.size : Int) - 1) == 0 && (-1 : Int) == 1 && items.size == items.size) = true) := by
    rw [show ((-1 : Int) == 1) = false from rfl, Bool.and_false, Bool.false_and]
    exact Bool.false_ne_true
  show wpAny (model prog w) _ (if (((items.size : Int) - 1) == 0 && (-1 : Int) == 1 && items.size == items.size) = true then _ else _) _ _ s
  rw [if_neg hno, back_pick]
  first
    | exact wpAny_bind (m := Builtin.Tuple.tupleExact _) (wpAny_newObj_type (wpAny_pure ⟨_, rfl, wpAny_pure h⟩) hok)
    | exact wpAny_bind (m := Builtin.Tuple.tupleExact _) (wpAny_newObj_type (wpAny_bind (wpAny_pure (wpAny_pure ⟨_, rfl, wpAny_pure h⟩))) hok)
    | exact wpAny_bind (wpAny_bind (m := Builtin.Tuple.tupleExact _) (wpAny_newObj_type (wpAny_pure (wpAny_pure ⟨_, rfl, wpAny_pure h⟩)) hok))
    | exact wpAny_bind (wpAny_bind (m := Builtin.Tuple.tupleExact _) (wpAny_newObj_type (wpAny_pure ⟨_, rfl, wpAny_pure h⟩) hok))
end
def tBackT (K : PySem.W.Frag) (te : TE) : TE := fun σ H Q => te σ H fun x H1 => ∃ a xs, x = .ref a ∧ SqT K H1 a xs ∧ ∀ p, H1 p = none → Q (.ref p) (upd H1 p (.tup xs.reverse))
theorem pe_backT {X : Cx} {K : PySem.W.Frag} {e : Expr} {te : TE} {k : Nat} {p1 p2 p3 pos : Pos} (hK : X.K = K) (he : PE X e te) : PE X (.Subscript e (.Slice none none (some (.UnaryOp .USub (.Constant (.int 1) k p1) p2)) p3) pos) (tBackT K te) := by
  subst hK
  refine ⟨fun pins s σ H Q I h => Subscript_ (thn (he.run pins s σ H _ I h) fun v s1 ⟨x, H1, I1, r1, a, xs, ex, hx, q⟩ => ?_)⟩
  subst ex
  cases r1
  have hst : PO X (some (.UnaryOp .USub (.Constant (.int 1) k p1) p2)) (tPart (tUn (rU fun i => .int (-i)) (tC (.int 1)))) := po_some (pe_un un_neg pe_int)
  refine wpAny_Slice (thn (po_none.run pins s1 σ H1 (fun o H2 => o = none ∧ H2 = H1) I1 ⟨rfl, rfl⟩) fun vl s2 ⟨l, H2, I2, pl, el, e2⟩ => ?_)
  subst el e2
  refine thn (po_none.run pins s2 σ H2 (fun o H3 => o = none ∧ H3 = H2) I2 ⟨rfl, rfl⟩) fun vu s3 ⟨u, H3, I3, pu, eu, e3⟩ => ?_
  subst eu e3
  refine thn (hst.run pins s3 σ H3 (fun o H4 => o = some (-1) ∧ H4 = H3) I3 ⟨1, rfl, -1, rfl, rfl, rfl⟩) fun vs s4 ⟨o, H4, I4, ps, eo, e4⟩ => ?_
  subst eo e4
  have I5 : Inv X pins σ H4 { s4 with heap := s4.heap.push { cls := .type "slice", data := .fields #[vl, vu, vs] } } := I4.kept (t' := s4.toks) fun b ob q => Heap.get?_push_of_some _ q
  obtain ⟨its, r, ht, hz⟩ := I5.tuple hx
  have hlen := r.length
  refine tail_any (ops := [.ref a, .ref s4.heap.objs.size]) ht.typeIs (slot_tuple_getitem.lookup) ?_ (by with_unfolding_all rfl)
  refine getItem_tuple_back ht (Heap.IsSliceOf.new _ vl vu vs) pl pu ps ?_ (by rw [List.size_toArray]; omega)
  refine ⟨.ref _, _, I5.laid (t' := s4.toks) (o := .tup xs.reverse) (fun b ob q => Heap.get?_push_of_some _ q) (Nat.le_refl _) ?_, rfl, q _ (I5.hok.fresh (Nat.le_refl _))⟩
  exact ⟨by rw [List.length_reverse]; exact hz, _, r.reverse, ⟨_, Heap.get?_push_size _ rfl, rfl, _, rfl⟩⟩
theorem ev_backT {Γ Γ1 : En} {ta : TE} {ds : List PyData} {K : PySem.W.Frag} (ha : Ev ta Γ Γ1 (.tuple ds)) : Ev (tBackT K ta) Γ Γ1 (.tuple ds.reverse) := ⟨ha.own, fun σ G H e s Q q => ha.run σ G H e s _ fun v G1 H1 n1 s1 r1 => by
  obtain ⟨a, xs, rfl, hx, rx⟩ := r1.tupE
  exact ⟨a, xs, rfl, SqT.of (n1.i _ _ hx), fun l hl => q _ _ _ (n1.trans (new_dat (M := M0) n1.i hl _) fun _ z => z.elim) (s1.datNew n1.i hl _) (.tup upd_same (rx.rev.mono (new_dat (M := M0) n1.i hl _).g))⟩⟩
end Fd
namespace Fd
open PySem PySem.Spec PyProof.Rows L2
theorem hu65 {A : Around} {k : Nat} (hr : Room k A) : A.units + 65 < cLine := by
  have := hr.un
  omega
theorem hu64 {A : Around} {k : Nat} (hr : Room k A) : A.units + 64 < cLine := by
  have := hr.un
  omega
end Fd

set_option maxHeartbeats 1000000
/-! Lin1: rows of numbers modulo p, the rows that some rows span, reduced tables. Plain Lean. -/
namespace Lin

abbrev Row := List Int
def Cg (p a b : Int) : Prop := ∃ t, a - b = p * t
theorem Cg.refl (p a : Int) : Cg p a a := ⟨0, by grind⟩
theorem Cg.symm {p a b : Int} (h : Cg p a b) : Cg p b a := by obtain ⟨t, h⟩ := h; exact ⟨-t, by grind⟩
theorem Cg.trans {p a b c : Int} (h : Cg p a b) (k : Cg p b c) : Cg p a c := by obtain ⟨t, h⟩ := h; obtain ⟨u, k⟩ := k; exact ⟨t + u, by grind⟩
theorem Cg.mod (p a : Int) : Cg p (a % p) a := ⟨-(a / p), by have := Int.emod_add_mul_ediv a p; grind⟩
theorem Cg.add {p a b c d : Int} (h : Cg p a b) (k : Cg p c d) : Cg p (a + c) (b + d) := by obtain ⟨t, h⟩ := h; obtain ⟨u, k⟩ := k; exact ⟨t + u, by grind⟩
theorem Cg.sub {p a b c d : Int} (h : Cg p a b) (k : Cg p c d) : Cg p (a - c) (b - d) := by obtain ⟨t, h⟩ := h; obtain ⟨u, k⟩ := k; exact ⟨t - u, by grind⟩
theorem Cg.mul {p a b c d : Int} (h : Cg p a b) (k : Cg p c d) : Cg p (a * c) (b * d) := by obtain ⟨t, h⟩ := h; obtain ⟨u, k⟩ := k; exact ⟨t * c + b * u, by grind⟩
theorem Cg.of_eq {p a b : Int} (h : a = b) : Cg p a b := h ▸ Cg.refl p a
theorem Cg.eq {p a b : Int} (h : Cg p a b) (h0 : 0 ≤ a) (h1 : a < p) (h2 : 0 ≤ b) (h3 : b < p) : a = b := by
  obtain ⟨t, h⟩ := h
  rcases Int.lt_trichotomy t 0 with ht | ht | ht
  · have : p * t ≤ p * (-1) := Int.mul_le_mul_of_nonneg_left (by omega) (by omega)
    omega
  · subst ht; omega
  · have : p * 1 ≤ p * t := Int.mul_le_mul_of_nonneg_left (by omega) (by omega)
    omega
theorem Cg.emod {p a b : Int} (hp : 0 < p) (h : Cg p a b) : a % p = b % p :=
  Cg.eq ((Cg.mod p a).trans (h.trans (Cg.mod p b).symm)) (Int.emod_nonneg _ (by omega)) (Int.emod_lt_of_pos _ hp) (Int.emod_nonneg _ (by omega)) (Int.emod_lt_of_pos _ hp)
theorem Cg.of_emod {p a b : Int} (h : a % p = b % p) : Cg p a b := (Cg.mod p a).symm.trans (h ▸ Cg.mod p b)
theorem Cg.zero {p a : Int} (hp : 0 < p) (h : Cg p a 0) : a % p = 0 := by have := h.emod hp; simpa using this

/-- one of the primes -/
def Pr (p : Int) : Prop := p = 2 ∨ p = 3 ∨ p = 5 ∨ p = 7
theorem Pr.pos {p : Int} (h : Pr p) : 1 < p := by rcases h with h | h | h | h <;> omega
theorem Pr.le {p : Int} (h : Pr p) : p ≤ 7 := by rcases h with h | h | h | h <;> omega
theorem Pr.inv {p : Int} (h : Pr p) {a : Int} (ha : a % p ≠ 0) : ∃ b, 1 ≤ b ∧ b < p ∧ (a * b) % p = 1 := by
  rcases h with rfl | rfl | rfl | rfl
  · exact ⟨1, by omega, by omega, by omega⟩
  · rcases (by omega : a % 3 = 1 ∨ a % 3 = 2) with e | e
    · exact ⟨1, by omega, by omega, by omega⟩
    · exact ⟨2, by omega, by omega, by omega⟩
  · rcases (by omega : a % 5 = 1 ∨ a % 5 = 2 ∨ a % 5 = 3 ∨ a % 5 = 4) with e | e | e | e
    · exact ⟨1, by omega, by omega, by omega⟩
    · exact ⟨3, by omega, by omega, by omega⟩
    · exact ⟨2, by omega, by omega, by omega⟩
    · exact ⟨4, by omega, by omega, by omega⟩
  · rcases (by omega : a % 7 = 1 ∨ a % 7 = 2 ∨ a % 7 = 3 ∨ a % 7 = 4 ∨ a % 7 = 5 ∨ a % 7 = 6) with e | e | e | e | e | e
    · exact ⟨1, by omega, by omega, by omega⟩
    · exact ⟨4, by omega, by omega, by omega⟩
    · exact ⟨5, by omega, by omega, by omega⟩
    · exact ⟨2, by omega, by omega, by omega⟩
    · exact ⟨3, by omega, by omega, by omega⟩
    · exact ⟨6, by omega, by omega, by omega⟩

/-! ### rows -/
/-- the k-th item -/
def at_ (v : Row) (k : Nat) : Int := v.getD k 0
structure Rw (p : Int) (n : Nat) (v : Row) : Prop where
  len : v.length = n
  bd : ∀ x, x ∈ v → 0 ≤ x ∧ x < p
theorem at_mem {v : Row} {k : Nat} (h : k < v.length) : at_ v k ∈ v := by
  unfold at_
  rw [List.getD_eq_getElem?_getD, List.getElem?_eq_getElem h]
  exact List.getElem_mem h
theorem Rw.at {p : Int} {n : Nat} {v : Row} (h : Rw p n v) {k : Nat} (hk : k < n) : 0 ≤ at_ v k ∧ at_ v k < p := h.bd _ (at_mem (by rw [h.len]; exact hk))
theorem at_out {v : Row} {k : Nat} (h : v.length ≤ k) : at_ v k = 0 := by
  unfold at_
  rw [List.getD_eq_getElem?_getD, List.getElem?_eq_none h]
  rfl
theorem row_ext {p : Int} {n : Nat} {v w : Row} (hv : Rw p n v) (hw : Rw p n w) (h : ∀ k, k < n → at_ v k = at_ w k) : v = w := by
  refine List.ext_getElem (by rw [hv.len, hw.len]) fun k h1 h2 => ?_
  have := h k (by rw [← hv.len]; exact h1)
  unfold at_ at this
  rw [List.getD_eq_getElem?_getD, List.getD_eq_getElem?_getD, List.getElem?_eq_getElem h1, List.getElem?_eq_getElem h2] at this
  exact this
/-- v is the row of f, modulo p -/
structure Is (p : Int) (n : Nat) (v : Row) (f : Nat → Int) : Prop where
  rw_ : Rw p n v
  cg : ∀ k, k < n → Cg p (at_ v k) (f k)
theorem Is.self {p : Int} {n : Nat} {v : Row} (h : Rw p n v) : Is p n v (at_ v) := ⟨h, fun k _ => Cg.refl p _⟩
theorem Is.eq {p : Int} {n : Nat} {v w : Row} {f g : Nat → Int} (h : Is p n v f) (k : Is p n w g) (e : ∀ i, i < n → Cg p (f i) (g i)) : v = w :=
  row_ext h.rw_ k.rw_ fun i hi => Cg.eq ((h.cg i hi).trans ((e i hi).trans (k.cg i hi).symm)) (h.rw_.at hi).1 (h.rw_.at hi).2 (k.rw_.at hi).1 (k.rw_.at hi).2
theorem Is.to {p : Int} {n : Nat} {v : Row} {f g : Nat → Int} (h : Is p n v f) (e : ∀ i, i < n → Cg p (f i) (g i)) : Is p n v g := ⟨h.rw_, fun k hk => (h.cg k hk).trans (e k hk)⟩
/-- the row of f -/
def mk (n : Nat) (f : Nat → Int) : Row := (List.range n).map f
theorem mk_at {n k : Nat} {f : Nat → Int} (h : k < n) : at_ (mk n f) k = f k := by
  unfold at_ mk
  rw [List.getD_eq_getElem?_getD, List.getElem?_map, List.getElem?_range h]
  rfl
theorem mk_is {p : Int} (hp : 0 < p) {n : Nat} {f : Nat → Int} : Is p n (mk n fun k => f k % p) f := ⟨⟨by simp [mk], fun x hx => by
  obtain ⟨k, _, rfl⟩ := List.mem_map.mp hx
  exact ⟨Int.emod_nonneg _ (by omega), Int.emod_lt_of_pos _ hp⟩⟩, fun k hk => by rw [mk_at hk]; exact Cg.mod p _⟩
theorem mk_of {n : Nat} {v : Row} {f : Nat → Int} (hl : v.length = n) (h : ∀ k, k < n → at_ v k = f k) : v = mk n f := by
  refine List.ext_getElem (by simp [mk, hl]) fun k h1 h2 => ?_
  have := h k (by omega)
  unfold at_ at this
  rw [List.getD_eq_getElem?_getD, List.getElem?_eq_getElem h1] at this
  simpa [mk] using this

/-! the program's and the law's words -/
def sumR (v w : Row) (p : Int) : Row := (List.range v.length).map fun k => (v.getD k 0 + w.getD k 0) % p
def scaleL (v : Row) (a p : Int) : Row := v.map fun x => x * a % p
def scaledR (v : Row) (a p : Int) : Row := v.map fun b => a * b % p
def lessR (v w : Row) (a p : Int) : Row := (v.zip w).map fun e => (e.1 - a * e.2) % p
def zeroR (n : Nat) : Row := (List.range n).map fun _ => 0
def ax (p : Int) (x r : Row) (a : Int) : Row := sumR x (scaleL r a p) p
section
variable {p : Int} {n : Nat} {v w x y r : Row} {f g : Nat → Int}
theorem sum_is (hp : 0 < p) (h : Is p n v f) (k : Is p n w g) : Is p n (sumR v w p) fun i => f i + g i := by
  have e : sumR v w p = mk n fun i => (at_ v i + at_ w i) % p := by
    unfold sumR mk at_
    rw [h.rw_.len]
  rw [e]
  exact (mk_is hp).to fun i hi => (h.cg i hi).add (k.cg i hi)
theorem map_at {f : Int → Int} {k : Nat} (hk : k < v.length) : at_ (v.map f) k = f (at_ v k) := by
  unfold at_
  rw [List.getD_eq_getElem?_getD, List.getElem?_map, List.getD_eq_getElem?_getD, List.getElem?_eq_getElem hk]
  rfl
theorem scaleL_is (hp : 0 < p) (h : Is p n v f) (a : Int) : Is p n (scaleL v a p) fun i => a * f i := by
  have e : scaleL v a p = mk n fun i => (a * at_ v i) % p := mk_of (by simp [scaleL, h.rw_.len]) fun k hk => by
    unfold scaleL
    rw [map_at (by rw [h.rw_.len]; exact hk), Int.mul_comm]
  rw [e]
  exact (mk_is hp).to fun i hi => (Cg.refl p a).mul (h.cg i hi)
theorem scaled_is (hp : 0 < p) (h : Is p n v f) (a : Int) : Is p n (scaledR v a p) fun i => a * f i := by
  have e : scaledR v a p = mk n fun i => (a * at_ v i) % p := mk_of (by simp [scaledR, h.rw_.len]) fun k hk => by
    unfold scaledR
    rw [map_at (by rw [h.rw_.len]; exact hk)]
  rw [e]
  exact (mk_is hp).to fun i hi => (Cg.refl p a).mul (h.cg i hi)
theorem less_is (hp : 0 < p) (h : Is p n v f) (k : Is p n w g) (a : Int) : Is p n (lessR v w a p) fun i => f i - a * g i := by
  have e : lessR v w a p = mk n fun i => (at_ v i - a * at_ w i) % p := mk_of (by simp [lessR, h.rw_.len, k.rw_.len]) fun i hi => by
    have h1 : i < v.length := by rw [h.rw_.len]; exact hi
    have h2 : i < w.length := by rw [k.rw_.len]; exact hi
    unfold lessR at_
    rw [List.getD_eq_getElem?_getD, List.getElem?_map, List.getElem?_eq_getElem (by rw [List.length_zip]; omega), List.getElem_zip, List.getD_eq_getElem?_getD, List.getD_eq_getElem?_getD, List.getElem?_eq_getElem h1, List.getElem?_eq_getElem h2]
    rfl
  rw [e]
  exact (mk_is hp).to fun i hi => (h.cg i hi).sub ((Cg.refl p a).mul (k.cg i hi))
theorem zero_at {k : Nat} : at_ (zeroR n) k = 0 := by
  by_cases h : k < n
  · exact mk_at (f := fun _ => 0) h
  · exact at_out (by simp [zeroR]; omega)
theorem zero_is (hp : 0 < p) : Is p n (zeroR n) fun _ => 0 := ⟨⟨by simp [zeroR], fun x hx => by
  obtain ⟨k, _, rfl⟩ := List.mem_map.mp hx
  omega⟩, fun k _ => by rw [zero_at]; exact Cg.refl p 0⟩
theorem ax_is (hp : 0 < p) (h : Is p n x f) (k : Is p n r g) (a : Int) : Is p n (ax p x r a) fun i => f i + a * g i := sum_is hp h (scaleL_is hp k a)
end

/-! ### the span -/
inductive Sp (p : Int) (n : Nat) (R : Row → Prop) : Row → Prop
  | zero : Sp p n R (zeroR n)
  | step {x r : Row} (a : Int) : Sp p n R x → R r → Sp p n R (ax p x r a)
section
variable {p : Int} {n : Nat} {R S : Row → Prop} {x y r : Row}
theorem Sp.rw_ (hp : 0 < p) (hR : ∀ r, R r → Rw p n r) (h : Sp p n R x) : Rw p n x := by
  induction h with
  | zero => exact (zero_is hp).rw_
  | step a hx hr ih => exact (ax_is hp (Is.self ih) (Is.self (hR _ hr)) a).rw_
theorem Sp.ax (hp : 0 < p) (hR : ∀ r, R r → Rw p n r) (hx : Sp p n R x) (hy : Sp p n R y) (a : Int) : Sp p n R (Lin.ax p x y a) := by
  have rx := hx.rw_ hp hR
  induction hy with
  | zero =>
    have : Lin.ax p x (zeroR n) a = x := (ax_is hp (Is.self rx) (zero_is hp) a).eq (Is.self rx) fun i _ => Cg.of_eq (by grind)
    rw [this]
    exact hx
  | @step y' r b hy' hr ih =>
    have ry := hy'.rw_ hp hR
    have rr := hR _ hr
    have : Lin.ax p x (Lin.ax p y' r b) a = Lin.ax p (Lin.ax p x y' a) r (a * b) := (ax_is hp (Is.self rx) (ax_is hp (Is.self ry) (Is.self rr) b) a).eq (ax_is hp (ax_is hp (Is.self rx) (Is.self ry) a) (Is.self rr) (a * b)) fun i _ => Cg.of_eq (by grind)
    rw [this]
    exact .step _ ih hr
theorem Sp.of (hp : 0 < p) (hR : ∀ r, R r → Rw p n r) (h : R r) : Sp p n R r := by
  have : Lin.ax p (zeroR n) r 1 = r := (ax_is hp (zero_is hp) (Is.self (hR r h)) 1).eq (Is.self (hR r h)) fun i _ => Cg.of_eq (by grind)
  rw [← this]
  exact .step 1 .zero h
theorem Sp.le (hp : 0 < p) (hS : ∀ r, S r → Rw p n r) (h : ∀ r, R r → Sp p n S r) (hx : Sp p n R x) : Sp p n S x := by
  induction hx with
  | zero => exact .zero
  | step a hx hr ih => exact ih.ax hp hS (h _ hr) a
/-- any row that is, modulo p, a sum of a row of the span and a multiple of another -/
theorem Sp.lin (hp : 0 < p) (hR : ∀ r, R r → Rw p n r) (hx : Sp p n R x) (hy : Sp p n R y) (a : Int) {z : Row} {h : Nat → Int} (hz : Is p n z h) (e : ∀ k, k < n → Cg p (h k) (at_ x k + a * at_ y k)) : Sp p n R z := by
  have : z = Lin.ax p x y a := hz.eq (ax_is hp (Is.self (hx.rw_ hp hR)) (Is.self (hy.rw_ hp hR)) a) e
  rw [this]
  exact hx.ax hp hR hy a
end
end Lin

set_option maxHeartbeats 1000000
/-! Lin2: the list of all rows of a span; clearing by a reduced table. Plain Lean. -/
namespace Lin

/-! ### all rows of a span, one by one -/
def grow (p : Int) (found : List Row) (row : Row) : List Row := if row ∈ found then found else found.flatMap fun word => (List.range p.toNat).map fun (a : Nat) => ax p word row (a : Int)
def foundL (p : Int) (n : Nat) (rows : List Row) : List Row := rows.foldl (grow p) [zeroR n]
structure All (p : Int) (n : Nat) (R : Row → Prop) (l : List Row) : Prop where
  mem : ∀ x, x ∈ l ↔ Sp p n R x
  nd : l.Nodup
theorem nodup_flat {α β : Type} {f : α → List β} : ∀ {l : List α}, l.Nodup → (∀ a, a ∈ l → (f a).Nodup) → (∀ a b, a ∈ l → b ∈ l → a ≠ b → ∀ x, x ∈ f a → x ∈ f b → False) → (l.flatMap f).Nodup
  | [], _, _, _ => List.nodup_nil
  | a :: l, nd, h1, h2 => by
    rw [List.flatMap_cons, List.nodup_append]
    obtain ⟨na, nl⟩ := List.nodup_cons.mp nd
    refine ⟨h1 a (by simp), nodup_flat nl (fun b hb => h1 b (List.mem_cons_of_mem _ hb)) fun b c hb hc => h2 b c (List.mem_cons_of_mem _ hb) (List.mem_cons_of_mem _ hc), fun x hx y hy e => ?_⟩
    subst e
    obtain ⟨b, hb, hxb⟩ := List.mem_flatMap.mp hy
    exact h2 a b (by simp) (List.mem_cons_of_mem _ hb) (fun z => na (z ▸ hb)) x hx hxb
theorem nodup_map {α β : Type} {f : α → β} : ∀ {l : List α}, l.Nodup → (∀ a b, a ∈ l → b ∈ l → f a = f b → a = b) → (l.map f).Nodup
  | [], _, _ => List.nodup_nil
  | a :: l, nd, h => by
    obtain ⟨na, nl⟩ := List.nodup_cons.mp nd
    rw [List.map_cons, List.nodup_cons]
    refine ⟨fun hm => ?_, nodup_map nl fun b c hb hc => h b c (List.mem_cons_of_mem _ hb) (List.mem_cons_of_mem _ hc)⟩
    obtain ⟨b, hb, e⟩ := List.mem_map.mp hm
    have := h b a (List.mem_cons_of_mem _ hb) (by simp) e
    exact na (this ▸ hb)
theorem nd_count {l : List Row} {x : Row} (nd : l.Nodup) (h : x ∈ l) : l.count x = 1 := by
  have h1 := List.nodup_iff_count.mp nd x
  have h2 := List.count_pos_iff.mpr h
  omega
section
variable {p : Int} {n : Nat} {R S : Row → Prop} {x y r row : Row} {l : List Row}
/-- two words and two multiples that give the same row -/
theorem same_word (hp : Pr p) (hR : ∀ r, R r → Rw p n r) (hrow : Rw p n row) (hno : ¬ Sp p n R row) (hx : Sp p n R x) (hy : Sp p n R y) {a b : Int} (ha : 0 ≤ a ∧ a < p) (hb : 0 ≤ b ∧ b < p) (e : ax p x row a = ax p y row b) : a = b ∧ x = y := by
  have h0 : 0 < p := by have := hp.pos; omega
  have rx := hx.rw_ h0 hR
  have ry := hy.rw_ h0 hR
  have cg : ∀ k, k < n → Cg p (at_ x k + a * at_ row k) (at_ y k + b * at_ row k) := fun k hk => by
    have h1 := (ax_is h0 (Is.self rx) (Is.self hrow) a).cg k hk
    have h2 := (ax_is h0 (Is.self ry) (Is.self hrow) b).cg k hk
    rw [e] at h1
    exact h1.symm.trans h2
  have hab : a = b := by
    by_cases h : (a - b) % p = 0
    · obtain ⟨t, ht⟩ := Cg.of_emod (p := p) (a := a - b) (b := 0) (by rw [h]; simp)
      exact Cg.eq (p := p) ⟨t, by grind⟩ ha.1 ha.2 hb.1 hb.2
    · obtain ⟨c, _, _, hc⟩ := hp.inv h
      refine absurd ?_ hno
      have hc' : Cg p ((a - b) * c) 1 := Cg.of_emod (by rw [hc]; have := hp.pos; rw [Int.emod_eq_of_lt (by omega) (by omega)])
      -- row is c times (y - x)
      refine (Sp.ax h0 hR (Sp.ax h0 hR .zero hy c) hx (-c)).lin h0 hR .zero 0 (Is.self hrow) fun k hk => ?_
      have h3 := (ax_is h0 (ax_is h0 (zero_is h0) (Is.self ry) c) (Is.self rx) (-c)).cg k hk
      obtain ⟨s, hs⟩ := cg k hk
      obtain ⟨t, ht⟩ := hc'
      obtain ⟨u, hu⟩ := h3
      exact ⟨-(at_ row k) * t + c * s - u, by grind⟩
  refine ⟨hab, ?_⟩
  subst hab
  exact (Is.self rx).eq (Is.self ry) fun k hk => by
    obtain ⟨t, ht⟩ := cg k hk
    exact ⟨t, by grind⟩
theorem grow_all (hp : Pr p) (hR : ∀ r, R r → Rw p n r) (hrow : Rw p n row) (h : All p n R l) : All p n (fun r => R r ∨ r = row) (grow p l row) := by
  have h0 : 0 < p := by have := hp.pos; omega
  have hR' : ∀ r, R r ∨ r = row → Rw p n r := fun r hr => by
    rcases hr with hr | rfl
    · exact hR r hr
    · exact hrow
  unfold grow
  split
  · rename_i hm
    have hs := (h.mem row).mp hm
    refine ⟨fun x => ⟨fun hx => ?_, fun hx => ?_⟩, h.nd⟩
    · exact Sp.le h0 hR' (fun r hr => Sp.of h0 hR' (.inl hr)) ((h.mem x).mp hx)
    · refine (h.mem x).mpr (Sp.le h0 hR (fun r hr => ?_) hx)
      rcases hr with hr | rfl
      · exact Sp.of h0 hR hr
      · exact hs
  · rename_i hm
    have hno : ¬ Sp p n R row := fun q => hm ((h.mem row).mpr q)
    have chr : ∀ x, x ∈ (l.flatMap fun word => (List.range p.toNat).map fun (a : Nat) => ax p word row (a : Int)) ↔ ∃ w, Sp p n R w ∧ ∃ a : Int, 0 ≤ a ∧ a < p ∧ x = ax p w row a := fun x => by
      rw [List.mem_flatMap]
      constructor
      · rintro ⟨w, hw, hx⟩
        obtain ⟨a, ha, rfl⟩ := List.mem_map.mp hx
        have := List.mem_range.mp ha
        exact ⟨w, (h.mem w).mp hw, a, by omega, by omega, rfl⟩
      · rintro ⟨w, hw, a, ha, hb, rfl⟩
        exact ⟨w, (h.mem w).mpr hw, List.mem_map.mpr ⟨a.toNat, List.mem_range.mpr (by omega), by rw [Int.toNat_of_nonneg ha]⟩⟩
    refine ⟨fun x => ?_, ?_⟩
    · rw [chr]
      constructor
      · rintro ⟨w, hw, a, _, _, rfl⟩
        exact .step a (Sp.le h0 hR' (fun r hr => Sp.of h0 hR' (.inl hr)) hw) (.inr rfl)
      · intro hx
        have key : ∃ w, Sp p n R w ∧ ∃ a : Int, x = ax p w row a := by
          induction hx with
          | zero => exact ⟨_, .zero, 0, ((ax_is h0 (zero_is h0) (Is.self hrow) 0).eq (zero_is h0) fun k _ => Cg.of_eq (by grind)).symm⟩
          | @step y r c hy hr ih =>
            obtain ⟨w, hw, b, rfl⟩ := ih
            have rw1 := hw.rw_ h0 hR
            rcases hr with hr | rfl
            · refine ⟨ax p w r c, .step c hw hr, b, ?_⟩
              exact (ax_is h0 (ax_is h0 (Is.self rw1) (Is.self hrow) b) (Is.self (hR r hr)) c).eq (ax_is h0 (ax_is h0 (Is.self rw1) (Is.self (hR r hr)) c) (Is.self hrow) b) fun k _ => Cg.of_eq (by grind)
            · refine ⟨w, hw, b + c, ?_⟩
              exact (ax_is h0 (ax_is h0 (Is.self rw1) (Is.self hrow) b) (Is.self hrow) c).eq (ax_is h0 (Is.self rw1) (Is.self hrow) (b + c)) fun k _ => Cg.of_eq (by grind)
        obtain ⟨w, hw, a, rfl⟩ := key
        refine ⟨w, hw, a % p, Int.emod_nonneg _ (by omega), Int.emod_lt_of_pos _ h0, ?_⟩
        exact (ax_is h0 (Is.self (hw.rw_ h0 hR)) (Is.self hrow) a).eq (ax_is h0 (Is.self (hw.rw_ h0 hR)) (Is.self hrow) (a % p)) fun k _ => (Cg.refl p _).add ((Cg.mod p a).symm.mul (Cg.refl p _))
    · refine nodup_flat h.nd (fun w hw => nodup_map List.nodup_range fun a b ha hb e => ?_) fun v w hv hw hne x hxv hxw => ?_
      · have h1 := List.mem_range.mp ha
        have h2 := List.mem_range.mp hb
        have := (same_word hp hR hrow hno ((h.mem w).mp hw) ((h.mem w).mp hw) ⟨by omega, by omega⟩ ⟨by omega, by omega⟩ e).1
        omega
      · obtain ⟨a, ha, rfl⟩ := List.mem_map.mp hxv
        obtain ⟨b, hb, e⟩ := List.mem_map.mp hxw
        have h1 := List.mem_range.mp ha
        have h2 := List.mem_range.mp hb
        exact hne (same_word hp hR hrow hno ((h.mem v).mp hv) ((h.mem w).mp hw) ⟨by omega, by omega⟩ ⟨by omega, by omega⟩ e.symm).2
theorem all_congr (h : All p n R l) (e : ∀ r, R r ↔ S r) : All p n S l := by
  have : R = S := funext fun r => propext (e r)
  rw [← this]
  exact h
theorem all_zero (hp : 0 < p) : All p n (fun _ => False) [zeroR n] := ⟨fun x => ⟨fun h => by
  have : x = zeroR n := by simpa using h
  subst this
  exact .zero, fun h => by
  cases h with
  | zero => simp
  | step a _ hr => exact hr.elim⟩, by simp⟩
theorem found_all (hp : Pr p) : ∀ (rows done : List Row) (l : List Row), (∀ r, r ∈ done ++ rows → Rw p n r) → All p n (· ∈ done) l → All p n (· ∈ done ++ rows) (rows.foldl (grow p) l)
  | [], done, l, _, h => by
    rw [List.append_nil]
    exact h
  | row :: rows, done, l, hr, h => by
    have e : done ++ row :: rows = (done ++ [row]) ++ rows := by simp
    rw [e] at hr ⊢
    exact found_all hp rows (done ++ [row]) _ hr (all_congr (grow_all hp (fun r hr' => hr r (by simp [hr'])) (hr row (by simp)) h) fun r => by simp)
theorem foundL_all (hp : Pr p) {rows : List Row} (hr : ∀ r, r ∈ rows → Rw p n r) : All p n (· ∈ rows) (foundL p n rows) := by
  have h0 : 0 < p := by have := hp.pos; omega
  exact found_all hp rows [] _ (by simpa using hr) (all_congr (all_zero h0) fun r => by simp)
theorem all_perm {l m : List Row} (h : All p n R l) (k : All p n S m) (e : ∀ x, Sp p n R x ↔ Sp p n S x) : l.Perm m := by
  refine List.perm_iff_count.mpr fun x => ?_
  have this : x ∈ l ↔ x ∈ m := by rw [h.mem, k.mem, e]
  by_cases hx : x ∈ l
  · rw [nd_count h.nd hx, nd_count k.nd (this.mp hx)]
  · rw [List.count_eq_zero_of_not_mem hx, List.count_eq_zero_of_not_mem fun z => hx (this.mpr z)]
end
theorem flat_len (p : Int) (row : Row) : ∀ l : List Row, (l.flatMap fun word => (List.range p.toNat).map fun (a : Nat) => ax p word row (a : Int)).length = l.length * p.toNat
  | [] => by simp
  | a :: l => by
    rw [List.flatMap_cons, List.length_append, flat_len p row l, List.length_map, List.length_range, List.length_cons, Nat.add_mul, Nat.one_mul, Nat.add_comm]
theorem grow_len (p : Int) (l : List Row) (row : Row) : (grow p l row).length = l.length * p.toNat ∨ (grow p l row).length = l.length := by
  unfold grow
  split
  · exact .inr rfl
  · exact .inl (flat_len p row l)
end Lin

set_option maxHeartbeats 1000000
/-! Lin3: reduced tables: clearing a row, taking a row in. Plain Lean. -/
namespace Lin
abbrev Dic := List (Nat × Row)
def fpR (row : Row) : Nat := row.findIdx fun a => decide (a ≠ 0)
def clr (p : Int) (x : Row) (e : Nat × Row) : Row := if at_ x e.1 ≠ 0 then lessR x e.2 (at_ x e.1) p else x
def clearedR (D : Dic) (x : Row) (p : Int) : Row := D.foldl (clr p) x
structure Red (p : Int) (n : Nat) (D : Dic) : Prop where
  ok : ∀ e, e ∈ D → e.1 < n ∧ Rw p n e.2 ∧ at_ e.2 e.1 = 1 ∧ ∀ k, k < e.1 → at_ e.2 k = 0
  off : ∀ e, e ∈ D → ∀ f, f ∈ D → e.1 ≠ f.1 → at_ e.2 f.1 = 0
  nd : (D.map (·.1)).Nodup
def rowsOf (D : Dic) : Row → Prop := fun r => ∃ e, e ∈ D ∧ e.2 = r
theorem Red.rows {p : Int} {n : Nat} {D : Dic} (h : Red p n D) : ∀ r, rowsOf D r → Rw p n r := fun r ⟨e, he, e2⟩ => e2 ▸ (h.ok e he).2.1
/-! the first place that is not 0 -/
theorem fpR_le (v : Row) : fpR v ≤ v.length := List.findIdx_le_length
theorem fpR_at {v : Row} (h : fpR v < v.length) : at_ v (fpR v) ≠ 0 := by
  have := List.findIdx_getElem (p := fun a : Int => decide (a ≠ 0)) (xs := v) (w := h)
  unfold at_
  rw [List.getD_eq_getElem?_getD, List.getElem?_eq_getElem h]
  simpa [fpR] using this
theorem fpR_lt {v : Row} {k : Nat} (h : k < fpR v) : at_ v k = 0 := by
  have := List.not_of_lt_findIdx h
  have hl : k < v.length := Nat.lt_of_lt_of_le h (fpR_le v)
  unfold at_
  rw [List.getD_eq_getElem?_getD, List.getElem?_eq_getElem hl]
  simpa using this
theorem fpR_eq {v : Row} {k : Nat} (hk : k < v.length) (h : at_ v k ≠ 0) (h0 : ∀ j, j < k → at_ v j = 0) : fpR v = k := by
  have h1 : ¬ fpR v < k := fun q => fpR_at (Nat.lt_trans q hk) (h0 _ q)
  have h2 : ¬ k < fpR v := fun q => h (fpR_lt q)
  omega
theorem fpR_zero {v : Row} {k : Nat} (h : fpR v = v.length) : at_ v k = 0 := by
  by_cases hk : k < v.length
  · exact fpR_lt (by omega)
  · exact at_out (by omega)
section
variable {p : Int} {n : Nat} {D : Dic} {x v r : Row} {e : Nat × Row}
theorem clr_is (hp : 0 < p) (hx : Rw p n x) (he : Rw p n e.2) : Is p n (clr p x e) fun k => at_ x k - at_ x e.1 * at_ e.2 k := by
  unfold clr
  split
  · exact less_is hp (Is.self hx) (Is.self he) _
  · rename_i h
    have h : at_ x e.1 = 0 := by simpa using h
    exact (Is.self hx).to fun k _ => Cg.of_eq (by rw [h]; grind)
/-- what clearing leaves: 0 at the places, and the rest is a row of the span -/
theorem clear_all (hp : 0 < p) (hr : Red p n D) : ∀ (todo done : Dic) (x : Row), D = done ++ todo → Rw p n x → (∀ f, f ∈ done → at_ x f.1 = 0) → (∃ s, Sp p n (rowsOf D) s ∧ ∀ k, k < n → Cg p (at_ v k) (at_ x k + at_ s k)) →
    Rw p n (todo.foldl (clr p) x) ∧ (∀ f, f ∈ D → at_ (todo.foldl (clr p) x) f.1 = 0) ∧ ∃ s, Sp p n (rowsOf D) s ∧ ∀ k, k < n → Cg p (at_ v k) (at_ (todo.foldl (clr p) x) k + at_ s k)
  | [], done, x, hD, hx, h0, hs => by
    rw [List.append_nil] at hD
    subst hD
    exact ⟨hx, h0, hs⟩
  | e :: todo, done, x, hD, hx, h0, ⟨s, hs, hv⟩ => by
    have heD : e ∈ D := by rw [hD]; simp
    obtain ⟨he1, he2, he3, he4⟩ := hr.ok e heD
    have hc := clr_is hp hx he2
    refine clear_all hp hr todo (done ++ [e]) (clr p x e) (by rw [hD]; simp) hc.rw_ (fun f hf => ?_) ⟨ax p s e.2 (at_ x e.1), .step _ hs ⟨e, heD, rfl⟩, fun k hk => ?_⟩
    · rcases List.mem_append.mp hf with hf | hf
      · have hfD : f ∈ D := by rw [hD]; exact List.mem_append_left _ hf
        have hne : e.1 ≠ f.1 := fun q => by
          have nd := hr.nd
          rw [hD, List.map_append, List.map_cons, List.nodup_append] at nd
          exact nd.2.2 f.1 (List.mem_map.mpr ⟨f, hf, rfl⟩) e.1 (by simp) q.symm
        have hfl := (hr.ok f hfD).1
        have h1 := hc.cg f.1 hfl
        rw [h0 f hf, hr.off e heD f hfD hne] at h1
        refine Cg.eq (h1.trans (Cg.of_eq (by grind))) (hc.rw_.at hfl).1 (hc.rw_.at hfl).2 (by omega) hp
      · have : f = e := by simpa using hf
        subst this
        have h1 := hc.cg f.1 he1
        rw [he3] at h1
        exact Cg.eq (h1.trans (Cg.of_eq (by grind))) (hc.rw_.at he1).1 (hc.rw_.at he1).2 (by omega) hp
    · have h1 := hc.cg k hk
      have rs := hs.rw_ hp hr.rows
      have h2 := (ax_is hp (Is.self rs) (Is.self he2) (at_ x e.1)).cg k hk
      obtain ⟨a, ha⟩ := hv k hk
      obtain ⟨b, hb⟩ := h1
      obtain ⟨c, hc⟩ := h2
      exact ⟨a - b - c, by grind⟩
theorem cleared_spec (hp : 0 < p) (hr : Red p n D) (hv : Rw p n v) : Rw p n (clearedR D v p) ∧ (∀ f, f ∈ D → at_ (clearedR D v p) f.1 = 0) ∧ ∃ s, Sp p n (rowsOf D) s ∧ ∀ k, k < n → Cg p (at_ v k) (at_ (clearedR D v p) k + at_ s k) :=
  clear_all hp hr D [] v rfl hv (fun f hf => by simp at hf) ⟨zeroR n, .zero, fun k _ => Cg.of_eq (by rw [zero_at]; grind)⟩
/-! a row of the span with 0 at all places is 0 -/
def proj (D : Dic) (x : Row) (k : Nat) : Int := (D.map fun e => at_ x e.1 * at_ e.2 k).sum
theorem proj_lin (hp : 0 < p) (hx : Rw p n x) (hv : Rw p n v) (a : Int) (k : Nat) : ∀ D : Dic, (∀ e, e ∈ D → e.1 < n) → Cg p (proj D (ax p x v a) k) (proj D x k + a * proj D v k)
  | [], _ => Cg.of_eq (by simp [proj])
  | e :: D, h => by
    have ih := proj_lin hp hx hv a k D fun f hf => h f (List.mem_cons_of_mem _ hf)
    have h1 := (ax_is hp (Is.self hx) (Is.self hv) a).cg e.1 (h e (by simp))
    have h2 := h1.mul (Cg.refl p (at_ e.2 k))
    have e1 : ∀ y, proj (e :: D) y k = at_ y e.1 * at_ e.2 k + proj D y k := fun y => by unfold proj; rw [List.map_cons, List.sum_cons]
    rw [e1, e1, e1]
    exact (h2.add ih).trans (Cg.of_eq (by grind))
theorem proj_none (k : Nat) : ∀ D : Dic, (∀ e, e ∈ D → at_ x e.1 = 0) → proj D x k = 0
  | [], _ => rfl
  | e :: D, h => by
    have ih := proj_none k D fun f hf => h f (List.mem_cons_of_mem _ hf)
    unfold proj at ih ⊢
    rw [List.map_cons, List.sum_cons, ih, h e (by simp)]
    simp
theorem proj_one (k : Nat) : ∀ (D : Dic) (e : Nat × Row), e ∈ D → (D.map (·.1)).Nodup → at_ e.2 e.1 = 1 → (∀ f, f ∈ D → e.1 ≠ f.1 → at_ e.2 f.1 = 0) → proj D e.2 k = at_ e.2 k
  | f :: D, e, he, nd, h1, h0 => by
    rw [List.map_cons, List.nodup_cons] at nd
    have e1 : proj (f :: D) e.2 k = at_ e.2 f.1 * at_ f.2 k + proj D e.2 k := by unfold proj; rw [List.map_cons, List.sum_cons]
    rw [e1]
    rcases List.mem_cons.mp he with rfl | he
    · rw [h1, proj_none k D fun g hg => h0 g (List.mem_cons_of_mem _ hg) fun q => nd.1 (List.mem_map.mpr ⟨g, hg, q.symm⟩)]
      grind
    · have hne : e.1 ≠ f.1 := fun q => nd.1 (List.mem_map.mpr ⟨e, he, q⟩)
      rw [h0 f (by simp) hne, proj_one k D e he nd.2 h1 fun g hg => h0 g (List.mem_cons_of_mem _ hg)]
      grind
theorem proj_sp (hp : 0 < p) (hr : Red p n D) (hx : Sp p n (rowsOf D) x) : ∀ k, k < n → Cg p (at_ x k) (proj D x k) := by
  have hl : ∀ e, e ∈ D → e.1 < n := fun e he => (hr.ok e he).1
  induction hx with
  | zero =>
    intro k _
    rw [proj_none k D fun e _ => zero_at, zero_at]
    exact Cg.refl p 0
  | @step x r a hx hr' ih =>
    intro k hk
    obtain ⟨e, he, rfl⟩ := hr'
    have rx := hx.rw_ hp hr.rows
    have re := (hr.ok e he).2.1
    have h1 := (ax_is hp (Is.self rx) (Is.self re) a).cg k hk
    have h2 := proj_lin hp rx re a k D hl
    rw [proj_one k D e he hr.nd (hr.ok e he).2.2.1 fun f hf => hr.off e he f hf] at h2
    exact h1.trans (((ih k hk).add (Cg.refl p (a * at_ e.2 k))).trans h2.symm)
theorem sp_zero (hp : 0 < p) (hr : Red p n D) (hx : Sp p n (rowsOf D) x) (h0 : ∀ e, e ∈ D → at_ x e.1 = 0) : x = zeroR n :=
  (Is.self (hx.rw_ hp hr.rows)).eq (zero_is hp) fun k hk => by
    have := proj_sp hp hr hx k hk
    rwa [proj_none k D h0] at this
/-- what is cleared to 0 is the span -/
theorem cleared_zero (hp : 0 < p) (hr : Red p n D) (hv : Rw p n v) : clearedR D v p = zeroR n ↔ Sp p n (rowsOf D) v := by
  obtain ⟨h1, h2, s, hs, h3⟩ := cleared_spec hp hr hv
  have rs := hs.rw_ hp hr.rows
  constructor
  · intro e
    rw [e] at h3
    have : v = s := (Is.self hv).eq (Is.self rs) fun k hk => (h3 k hk).trans (Cg.of_eq (by rw [zero_at]; grind))
    rw [this]
    exact hs
  · intro q
    refine sp_zero hp hr (q.lin hp hr.rows hs (-1) (Is.self h1) fun k hk => ?_) h2
    obtain ⟨t, ht⟩ := h3 k hk
    exact ⟨-t, by grind⟩

/-! ### a row is taken in -/
def inv (a p : Int) : Int := (((List.range p.toNat).map fun (i : Nat) => (i : Int)).find? fun b => decide (1 ≤ b ∧ a * b % p = 1)).getD 0
theorem inv_spec (hp : Pr p) {a : Int} (ha : a % p ≠ 0) : 1 ≤ inv a p ∧ inv a p < p ∧ a * inv a p % p = 1 := by
  obtain ⟨b, h1, h2, h3⟩ := hp.inv ha
  unfold inv
  cases e : ((List.range p.toNat).map fun (i : Nat) => (i : Int)).find? fun b => decide (1 ≤ b ∧ a * b % p = 1) with
  | none =>
    have := List.find?_eq_none.mp e b (List.mem_map.mpr ⟨b.toNat, List.mem_range.mpr (by omega), by omega⟩)
    exact absurd (decide_eq_true (And.intro h1 h3)) this
  | some c =>
    have h4 := List.find?_some e
    have h4 : 1 ≤ c ∧ a * c % p = 1 := of_decide_eq_true h4
    obtain ⟨i, hi, rfl⟩ := List.mem_map.mp (List.mem_of_find?_eq_some e)
    have := List.mem_range.mp hi
    exact ⟨h4.1, by show (i : Int) < p; omega, h4.2⟩
theorem inv_uniq (hp : Pr p) {a b c : Int} (hb : 1 ≤ b ∧ b < p) (hc : 1 ≤ c ∧ c < p) (h1 : a * b % p = 1) (h2 : a * c % p = 1) : b = c := by
  have p1 := hp.pos
  have e1 : Cg p (a * b) 1 := Cg.of_emod (by rw [h1, Int.emod_eq_of_lt (by omega) (by omega)])
  have e2 : Cg p (a * c) 1 := Cg.of_emod (by rw [h2, Int.emod_eq_of_lt (by omega) (by omega)])
  refine Cg.eq (p := p) ?_ (by omega) hb.2 (by omega) hc.2
  obtain ⟨s, hs⟩ := e1
  obtain ⟨t, ht⟩ := e2
  exact ⟨c * s - b * t, by grind⟩
def takeIn (p : Int) (n : Nat) (D : Dic) (row : Row) : Dic :=
  let left := clearedR D row p
  if fpR left < n then (D.map fun e => (e.1, lessR e.2 (scaledR left (inv (at_ left (fpR left)) p) p) (at_ e.2 (fpR left)) p)) ++ [(fpR left, scaledR left (inv (at_ left (fpR left)) p) p)] else D
theorem takeIn_red (hp : Pr p) (hr : Red p n D) {row : Row} (hrow : Rw p n row) : Red p n (takeIn p n D row) ∧ ∀ x, Sp p n (rowsOf (takeIn p n D row)) x ↔ Sp p n (fun r => rowsOf D r ∨ r = row) x := by
  have h0 : 0 < p := by have := hp.pos; omega
  have p1 := hp.pos
  obtain ⟨hl, hz, s, hs, hv⟩ := cleared_spec h0 hr hrow
  unfold takeIn
  generalize hleft : clearedR D row p = left at hl hz hv ⊢
  have hR' : ∀ r, rowsOf D r ∨ r = row → Rw p n r := fun r h => by
    rcases h with h | rfl
    · exact hr.rows r h
    · exact hrow
  have sub : ∀ {x}, Sp p n (rowsOf D) x → Sp p n (fun r => rowsOf D r ∨ r = row) x := fun h => Sp.le h0 hR' (fun r q => Sp.of h0 hR' (.inl q)) h
  -- left is a row of the wider span
  have sl : Sp p n (fun r => rowsOf D r ∨ r = row) left := (Sp.of h0 hR' (.inr rfl)).lin h0 hR' (sub hs) (-1) (Is.self hl) fun k hk => by
    obtain ⟨t, ht⟩ := hv k hk
    exact ⟨-t, by grind⟩
  dsimp only
  by_cases hlt : fpR left < n
  · rw [if_pos hlt]
    generalize hpl : fpR left = pl at hlt ⊢
    have hne : at_ left pl ≠ 0 := by rw [← hpl]; exact fpR_at (by rw [hpl, hl.len]; exact hlt)
    have hlead : ∀ k, k < pl → at_ left k = 0 := fun k hk => fpR_lt (by rw [hpl]; exact hk)
    have hlp := hl.at hlt
    obtain ⟨i1, i2, i3⟩ := inv_spec hp (a := at_ left pl) (by rw [Int.emod_eq_of_lt hlp.1 hlp.2]; exact hne)
    generalize inv (at_ left pl) p = c at i1 i2 i3 ⊢
    have hni := scaled_is h0 (Is.self hl) c
    have hnew := hni.rw_
    generalize hnw : scaledR left c p = new at hni hnew ⊢
    have new0 : ∀ {k}, k < n → at_ left k = 0 → at_ new k = 0 := fun {k} hk q => by
      have := hni.cg k hk
      rw [q] at this
      exact Cg.eq (this.trans (Cg.of_eq (by grind))) (hnew.at hk).1 (hnew.at hk).2 (by omega) h0
    have new1 : at_ new pl = 1 := by
      have h1 := hni.cg pl hlt
      have h2 : Cg p (c * at_ left pl) 1 := Cg.of_emod (by rw [Int.mul_comm, i3, Int.emod_eq_of_lt (by omega) (by omega)])
      exact Cg.eq (h1.trans h2) (hnew.at hlt).1 (hnew.at hlt).2 (by omega) (by omega)
    have hpn : ∀ e, e ∈ D → e.1 ≠ pl := fun e he q => hne (by rw [← q]; exact hz e he)
    have upd : ∀ e, e ∈ D → Is p n (lessR e.2 new (at_ e.2 pl) p) fun k => at_ e.2 k - at_ e.2 pl * at_ new k := fun e he => less_is h0 (Is.self (hr.ok e he).2.1) (Is.self hnew) _
    have val : ∀ e, e ∈ D → ∀ k, k < n → ∀ z, at_ e.2 k - at_ e.2 pl * at_ new k = z → 0 ≤ z → z < p → at_ (lessR e.2 new (at_ e.2 pl) p) k = z := fun e he k hk z hz z0 z1 =>
      Cg.eq (((upd e he).cg k hk).trans (Cg.of_eq hz)) ((upd e he).rw_.at hk).1 ((upd e he).rw_.at hk).2 z0 z1
    have red' : Red p n ((D.map fun e => (e.1, lessR e.2 new (at_ e.2 pl) p)) ++ [(pl, new)]) := by
      refine ⟨fun e he => ?_, fun e he f hf hef => ?_, ?_⟩
      · rcases List.mem_append.mp he with he | he
        · obtain ⟨g, hg, rfl⟩ := List.mem_map.mp he
          obtain ⟨g1, g2, g3, g4⟩ := hr.ok g hg
          refine ⟨g1, (upd g hg).rw_, val g hg _ g1 1 ?_ (by omega) (by omega), fun k hk => ?_⟩
          · rw [g3, new0 g1 (hz g hg)]
            grind
          · have hk : k < g.1 := hk
            refine val g hg k (by omega) 0 ?_ (by omega) h0
            rw [g4 k hk]
            by_cases hkp : k < pl
            · rw [new0 (by omega) (hlead k hkp)]
              grind
            · have : at_ g.2 pl = 0 := g4 pl (by have := hpn g hg; omega)
              rw [this]
              grind
        · have : e = (pl, new) := by simpa using he
          subst this
          exact ⟨hlt, hnew, new1, fun k hk => new0 (Nat.lt_trans hk hlt) (hlead k hk)⟩
      · rcases List.mem_append.mp he with he | he <;> rcases List.mem_append.mp hf with hf | hf
        · obtain ⟨g, hg, rfl⟩ := List.mem_map.mp he
          obtain ⟨g', hg', rfl⟩ := List.mem_map.mp hf
          refine val g hg g'.1 (hr.ok g' hg').1 0 ?_ (by omega) h0
          rw [hr.off g hg g' hg' hef, new0 (hr.ok g' hg').1 (hz g' hg')]
          grind
        · obtain ⟨g, hg, rfl⟩ := List.mem_map.mp he
          have : f = (pl, new) := by simpa using hf
          subst this
          refine val g hg pl hlt 0 ?_ (by omega) h0
          rw [new1]
          grind
        · have : e = (pl, new) := by simpa using he
          subst this
          obtain ⟨g', hg', rfl⟩ := List.mem_map.mp hf
          exact new0 (hr.ok g' hg').1 (hz g' hg')
        · have h1 : e = (pl, new) := by simpa using he
          have h2 : f = (pl, new) := by simpa using hf
          subst h1 h2
          exact absurd rfl hef
      · rw [List.map_append, List.map_map, List.nodup_append]
        refine ⟨hr.nd, by simp, fun a ha b hb q => ?_⟩
        obtain ⟨g, hg, rfl⟩ := List.mem_map.mp ha
        have : b = pl := by simpa using hb
        exact hpn g hg (by rw [← this]; exact q)
    refine ⟨red', fun x => ⟨fun h => Sp.le h0 hR' (fun r hr' => ?_) h, fun h => Sp.le h0 red'.rows (fun r hr' => ?_) h⟩⟩
    · have snew : Sp p n (fun r => rowsOf D r ∨ r = row) new := (Sp.zero).lin h0 hR' sl c hni fun k hk => Cg.of_eq (by rw [zero_at]; grind)
      obtain ⟨e, he, rfl⟩ := hr'
      rcases List.mem_append.mp he with he | he
      · obtain ⟨g, hg, rfl⟩ := List.mem_map.mp he
        exact (sub (Sp.of h0 hr.rows ⟨g, hg, rfl⟩)).lin h0 hR' snew (-(at_ g.2 pl)) (upd g hg) fun k hk => Cg.of_eq (by grind)
      · have : e = (pl, new) := by simpa using he
        subst this
        exact snew
    · -- the old rows and the new one come back
      have snew : Sp p n (rowsOf ((D.map fun e => (e.1, lessR e.2 new (at_ e.2 pl) p)) ++ [(pl, new)])) new := Sp.of h0 red'.rows ⟨(pl, new), by simp, rfl⟩
      have sold : ∀ r, rowsOf D r → Sp p n (rowsOf ((D.map fun e => (e.1, lessR e.2 new (at_ e.2 pl) p)) ++ [(pl, new)])) r := fun r ⟨g, hg, e⟩ => by
        subst e
        have s1 : Sp p n (rowsOf ((D.map fun e => (e.1, lessR e.2 new (at_ e.2 pl) p)) ++ [(pl, new)])) (lessR g.2 new (at_ g.2 pl) p) :=
          Sp.of h0 red'.rows ⟨(g.1, lessR g.2 new (at_ g.2 pl) p), List.mem_append_left _ (List.mem_map.mpr ⟨g, hg, rfl⟩), rfl⟩
        refine s1.lin h0 red'.rows snew (at_ g.2 pl) (Is.self (hr.ok g hg).2.1) fun k hk => ?_
        obtain ⟨t, ht⟩ := (upd g hg).cg k hk
        exact ⟨-t, by grind⟩
      rcases hr' with hr' | rfl
      · exact sold r hr'
      · -- row = left + s, left = (at_ left pl) * new
        have ss := Sp.le h0 red'.rows sold hs
        refine ss.lin h0 red'.rows snew (at_ left pl) (Is.self hrow) fun k hk => ?_
        obtain ⟨t, ht⟩ := hv k hk
        obtain ⟨u, hu⟩ := hni.cg k hk
        have h2 : Cg p (at_ left pl * c) 1 := Cg.of_emod (by rw [i3, Int.emod_eq_of_lt (by omega) (by omega)])
        obtain ⟨w, hw⟩ := h2
        exact ⟨t - at_ left pl * u - w * at_ left k, by grind⟩
  · rw [if_neg hlt]
    refine ⟨hr, fun x => ⟨sub, fun h => Sp.le h0 hr.rows (fun r hr' => ?_) h⟩⟩
    rcases hr' with hr' | rfl
    · exact Sp.of h0 hr.rows hr'
    · have hf : fpR left = left.length := by have := fpR_le left; rw [hl.len] at this ⊢; omega
      have : r = s := (Is.self hrow).eq (Is.self (hs.rw_ h0 hr.rows)) fun k hk => (hv k hk).trans (Cg.of_eq (by rw [fpR_zero hf]; grind))
      rw [this]
      exact hs
end
end Lin

set_option maxHeartbeats 1000000
/-! Lin4: reduced tables in order; reducing anew; what remains of a row. Plain Lean. -/
namespace Lin
def sortN (ks : List Nat) : List Nat := ks.mergeSort
theorem sortN_perm (ks : List Nat) : (sortN ks).Perm ks := List.mergeSort_perm ks _
theorem sortN_le (ks : List Nat) : (sortN ks).Pairwise (· ≤ ·) := by
  have h := List.pairwise_mergeSort (le := fun a b : Nat => decide (a ≤ b)) (fun a b c h1 h2 => by simp at h1 h2 ⊢; omega) (fun a b => by simp; omega) ks
  exact h.imp fun h => by simpa using h
theorem perm_eq : ∀ {l m : List Nat}, l.Perm m → l.Pairwise (· ≤ ·) → m.Pairwise (· ≤ ·) → l = m
  | [], m, p, _, _ => by rw [List.Perm.nil_eq p]
  | a :: l, [], p, _, _ => absurd p.length_eq (by simp)
  | a :: l, b :: m, p, hl, hm => by
    have hab : a = b := by
      rcases List.mem_cons.mp (p.mem_iff.mp (List.mem_cons_self (a := a) (l := l))) with h | h
      · exact h
      · rcases List.mem_cons.mp (p.mem_iff.mpr (List.mem_cons_self (a := b) (l := m))) with h' | h'
        · exact h'.symm
        · exact Nat.le_antisymm ((List.pairwise_cons.mp hl).1 b h') ((List.pairwise_cons.mp hm).1 a h)
    subst hab
    rw [perm_eq p.cons_inv (List.pairwise_cons.mp hl).2 (List.pairwise_cons.mp hm).2]
def lookD (D : Dic) (q : Nat) : Row := ((D.find? fun e => decide (e.1 = q)).map (·.2)).getD []
def sortD (D : Dic) : Dic := (sortN (D.map (·.1))).map fun q => (q, lookD D q)
theorem lookD_of : ∀ {D : Dic} {e : Nat × Row}, (D.map (·.1)).Nodup → e ∈ D → lookD D e.1 = e.2
  | f :: D, e, nd, he => by
    rw [List.map_cons, List.nodup_cons] at nd
    unfold lookD
    by_cases h : f.1 = e.1
    · rcases List.mem_cons.mp he with rfl | he
      · simp
      · exact absurd (List.mem_map.mpr ⟨e, he, h.symm⟩) nd.1
    · rcases List.mem_cons.mp he with rfl | he
      · exact absurd rfl h
      · rw [List.find?_cons_of_neg (by simpa using h)]
        exact lookD_of nd.2 he
theorem keys_look {D : Dic} (nd : (D.map (·.1)).Nodup) : (D.map (·.1)).map (fun q => (q, lookD D q)) = D := by
  rw [List.map_map]
  have : ∀ e, e ∈ D → ((fun q => (q, lookD D q)) ∘ (·.1)) e = id e := fun e he => by
    show (e.1, lookD D e.1) = e
    rw [lookD_of nd he]
  rw [List.map_congr_left this, List.map_id]
theorem sortD_perm {D : Dic} (nd : (D.map (·.1)).Nodup) : (sortD D).Perm D := by
  have h := (sortN_perm (D.map (·.1))).map fun q => (q, lookD D q)
  rw [keys_look nd] at h
  exact h
theorem sortD_keys (D : Dic) : (sortD D).map (·.1) = sortN (D.map (·.1)) := by
  unfold sortD
  rw [List.map_map]
  exact (List.map_congr_left fun _ _ => rfl).trans (List.map_id _)
theorem sortD_same {D E : Dic} (nd : (D.map (·.1)).Nodup) (h : D.Perm E) : sortD D = sortD E := by
  have ne : (E.map (·.1)).Nodup := (h.map _).nodup_iff.mp nd
  unfold sortD
  rw [perm_eq ((sortN_perm _).trans ((h.map _).trans (sortN_perm _).symm)) (sortN_le _) (sortN_le _)]
  refine List.map_congr_left fun q hq => ?_
  obtain ⟨e, he, rfl⟩ := List.mem_map.mp ((sortN_perm _).mem_iff.mp hq)
  rw [lookD_of ne he, lookD_of nd (h.mem_iff.mpr he)]
theorem sortD_id {D : Dic} (nd : (D.map (·.1)).Nodup) (h : (D.map (·.1)).Pairwise (· ≤ ·)) : sortD D = D := by
  unfold sortD
  rw [perm_eq (sortN_perm _) (sortN_le _) h, keys_look nd]
section
variable {p : Int} {n : Nat} {D E : Dic} {x v r : Row} {e : Nat × Row}
theorem Red.perm (h : Red p n D) (q : E.Perm D) : Red p n E := ⟨fun e he => h.ok e (q.mem_iff.mp he), fun e he f hf => h.off e (q.mem_iff.mp he) f (q.mem_iff.mp hf), (q.map _).nodup_iff.mpr h.nd⟩
theorem rowsOf_perm (q : E.Perm D) : rowsOf E = rowsOf D := funext fun r => propext ⟨fun ⟨e, he, h⟩ => ⟨e, q.mem_iff.mp he, h⟩, fun ⟨e, he, h⟩ => ⟨e, q.mem_iff.mpr he, h⟩⟩
def dicOf (p : Int) (n : Nat) (rows : List Row) : Dic := rows.foldl (takeIn p n) []
theorem red_nil : Red p n [] := ⟨fun e he => by simp at he, fun e he => by simp at he, by simp⟩
theorem fold_red (hp : Pr p) : ∀ (rows : List Row) (D : Dic) (R : Row → Prop), (∀ r, r ∈ rows → Rw p n r) → (∀ r, R r → Rw p n r) → Red p n D → (∀ x, Sp p n (rowsOf D) x ↔ Sp p n R x) →
    Red p n (rows.foldl (takeIn p n) D) ∧ ∀ x, Sp p n (rowsOf (rows.foldl (takeIn p n) D)) x ↔ Sp p n (fun r => R r ∨ r ∈ rows) x
  | [], D, R, _, _, hD, hs => ⟨hD, fun x => by
    have : (fun r => R r ∨ r ∈ ([] : List Row)) = R := funext fun r => by simp
    rw [this]
    exact hs x⟩
  | row :: rows, D, R, hr, hR, hD, hs => by
    have h0 : 0 < p := by have := hp.pos; omega
    have hrow := hr row (by simp)
    obtain ⟨h1, h2⟩ := takeIn_red hp hD hrow
    have hR1 : ∀ r, R r ∨ r = row → Rw p n r := fun r h => by
      rcases h with h | rfl
      · exact hR r h
      · exact hrow
    have hR2 : ∀ r, rowsOf D r ∨ r = row → Rw p n r := fun r h => by
      rcases h with h | rfl
      · exact hD.rows r h
      · exact hrow
    have h3 : ∀ x, Sp p n (rowsOf (takeIn p n D row)) x ↔ Sp p n (fun r => R r ∨ r = row) x := fun x => by
      rw [h2]
      constructor
      · refine fun h => Sp.le h0 hR1 (fun r hr => ?_) h
        rcases hr with hr | rfl
        · exact Sp.le h0 hR1 (fun r hr => Sp.of h0 hR1 (.inl hr)) ((hs r).mp (Sp.of h0 hD.rows hr))
        · exact Sp.of h0 hR1 (.inr rfl)
      · refine fun h => Sp.le h0 hR2 (fun r hr => ?_) h
        rcases hr with hr | rfl
        · exact Sp.le h0 hR2 (fun r hr => Sp.of h0 hR2 (.inl hr)) ((hs r).mpr (Sp.of h0 hR hr))
        · exact Sp.of h0 hR2 (.inr rfl)
    obtain ⟨h4, h5⟩ := fold_red hp rows (takeIn p n D row) (fun r => R r ∨ r = row) (fun r h => hr r (List.mem_cons_of_mem _ h)) hR1 h1 h3
    refine ⟨h4, fun x => ?_⟩
    have : (fun r => R r ∨ r ∈ row :: rows) = fun r => (R r ∨ r = row) ∨ r ∈ rows := funext fun r => by simp [or_assoc]
    rw [this]
    exact h5 x
theorem dicOf_red (hp : Pr p) {rows : List Row} (hr : ∀ r, r ∈ rows → Rw p n r) : Red p n (dicOf p n rows) ∧ ∀ x, Sp p n (rowsOf (dicOf p n rows)) x ↔ Sp p n (· ∈ rows) x := by
  have h := fold_red hp rows [] (fun _ => False) hr (fun _ h => h.elim) red_nil fun x => by
    have : rowsOf [] = fun _ => False := funext fun r => propext ⟨fun ⟨e, he, _⟩ => by simp at he, fun h => h.elim⟩
    rw [this]
  refine ⟨h.1, fun x => ?_⟩
  have e : (fun r => False ∨ r ∈ rows) = fun r => r ∈ rows := funext fun r => by simp
  have := h.2 x
  rw [e] at this
  exact this
/-- the table, with its pivots -/
def tabR (p : Int) (n : Nat) (rows : List Row) : Dic := sortD (dicOf p n rows)
theorem tabR_red (hp : Pr p) {rows : List Row} (hr : ∀ r, r ∈ rows → Rw p n r) : Red p n (tabR p n rows) ∧ ((tabR p n rows).map (·.1)).Pairwise (· ≤ ·) ∧ ∀ x, Sp p n (rowsOf (tabR p n rows)) x ↔ Sp p n (· ∈ rows) x := by
  obtain ⟨h1, h2⟩ := dicOf_red hp hr
  have hq := sortD_perm h1.nd
  refine ⟨h1.perm hq, ?_, fun x => ?_⟩
  · unfold tabR
    rw [sortD_keys]
    exact sortN_le _
  · unfold tabR
    rw [rowsOf_perm hq]
    exact h2 x
/-! ### reducing a reduced table -/
theorem less_zero (hp : 0 < p) (hv : Rw p n v) (hr : Rw p n r) : lessR v r 0 p = v := (less_is hp (Is.self hv) (Is.self hr) 0).eq (Is.self hv) fun k _ => Cg.of_eq (by grind)
theorem scaled_one (hp : 0 < p) (hv : Rw p n v) : scaledR v 1 p = v := (scaled_is hp (Is.self hv) 1).eq (Is.self hv) fun k _ => Cg.of_eq (by grind)
theorem cleared_none : ∀ (D : Dic) (x : Row), (∀ e, e ∈ D → at_ x e.1 = 0) → clearedR D x p = x
  | [], x, _ => rfl
  | e :: D, x, h => by
    have h1 : clr p x e = x := by
      unfold clr
      rw [if_neg (by rw [h e (by simp)]; simp)]
    show D.foldl (clr p) (clr p x e) = x
    rw [h1]
    exact cleared_none D x fun f hf => h f (List.mem_cons_of_mem _ hf)
theorem takeIn_next (hp : Pr p) (h : Red p n (D ++ [e])) : takeIn p n D e.2 = D ++ [e] := by
  have h0 : 0 < p := by have := hp.pos; omega
  have p1 := hp.pos
  obtain ⟨e1, e2, e3, e4⟩ := h.ok e (by simp)
  have nd := h.nd
  rw [List.map_append, List.nodup_append] at nd
  have hne : ∀ f, f ∈ D → f.1 ≠ e.1 := fun f hf => nd.2.2 f.1 (List.mem_map.mpr ⟨f, hf, rfl⟩) e.1 (by simp)
  have hc : clearedR D e.2 p = e.2 := cleared_none D e.2 fun f hf => h.off e (by simp) f (List.mem_append_left _ hf) (hne f hf).symm
  have hf : fpR e.2 = e.1 := fpR_eq (by rw [e2.len]; exact e1) (by rw [e3]; decide) e4
  have hi : inv 1 p = 1 := by
    obtain ⟨i1, i2, i3⟩ := inv_spec hp (a := 1) (by rw [Int.emod_eq_of_lt (by omega) (by omega)]; decide)
    exact inv_uniq hp (a := 1) ⟨i1, i2⟩ ⟨by omega, p1⟩ i3 (by rw [Int.mul_one, Int.emod_eq_of_lt (by omega) (by omega)])
  unfold takeIn
  dsimp only
  rw [hc, hf, if_pos e1, e3, hi, scaled_one h0 e2]
  congr 1
  have : ∀ f, f ∈ D → (fun f : Nat × Row => (f.1, lessR f.2 e.2 (at_ f.2 e.1) p)) f = id f := fun f hf => by
    have h1 := h.off f (List.mem_append_left _ hf) e (by simp) (hne f hf)
    show (f.1, lessR f.2 e.2 (at_ f.2 e.1) p) = f
    rw [h1, less_zero h0 (h.ok f (List.mem_append_left _ hf)).2.1 e2]
  rw [List.map_congr_left this, List.map_id]
theorem dicOf_red_self (hp : Pr p) : ∀ (todo done : Dic), Red p n (done ++ todo) → (todo.map (·.2)).foldl (takeIn p n) done = done ++ todo
  | [], done, _ => by simp
  | e :: todo, done, h => by
    have e1 : done ++ e :: todo = (done ++ [e]) ++ todo := by simp
    rw [e1] at h ⊢
    have h1 : Red p n (done ++ [e]) := ⟨fun f hf => h.ok f (List.mem_append_left _ hf), fun f hf g hg => h.off f (List.mem_append_left _ hf) g (List.mem_append_left _ hg), by
      have := h.nd
      rw [List.map_append, List.nodup_append] at this
      exact this.1⟩
    rw [List.map_cons, List.foldl_cons, takeIn_next hp h1]
    exact dicOf_red_self hp todo (done ++ [e]) h
/-- the rows of a reduced table, in any order, give this table again -/
theorem tabR_again (hp : Pr p) (h : Red p n D) (hs : (D.map (·.1)).Pairwise (· ≤ ·)) (q : E.Perm D) : tabR p n (E.map (·.2)) = D := by
  have hE := h.perm q
  have : dicOf p n (E.map (·.2)) = E := by
    have := dicOf_red_self hp E [] (by simpa using hE)
    rw [List.nil_append] at this
    exact this
  unfold tabR
  rw [this, sortD_same hE.nd q, sortD_id h.nd hs]
/-! ### what remains of a row -/
def restR (space : List Row) (v : Row) (p : Int) : Row := space.foldl (fun v row => lessR v row (at_ v (fpR row)) p) v
theorem rest_cleared (hp : 0 < p) : ∀ (todo : Dic) (v : Row), Rw p n v → (∀ e, e ∈ todo → e.1 < n ∧ Rw p n e.2 ∧ at_ e.2 e.1 = 1 ∧ ∀ k, k < e.1 → at_ e.2 k = 0) → restR (todo.map (·.2)) v p = clearedR todo v p
  | [], _, _, _ => rfl
  | e :: todo, v, hv, h => by
    obtain ⟨e1, e2, e3, e4⟩ := h e (by simp)
    have hf : fpR e.2 = e.1 := fpR_eq (by rw [e2.len]; exact e1) (by rw [e3]; decide) e4
    have hs : lessR v e.2 (at_ v (fpR e.2)) p = clr p v e := by
      rw [hf]
      unfold clr
      split
      · rfl
      · rename_i z
        have z : at_ v e.1 = 0 := by simpa using z
        rw [z, less_zero hp hv e2]
    show restR (todo.map (·.2)) (lessR v e.2 (at_ v (fpR e.2)) p) p = clearedR todo (clr p v e) p
    rw [hs]
    exact rest_cleared hp todo _ (clr_is hp hv e2).rw_ fun f hf => h f (List.mem_cons_of_mem _ hf)
theorem rest_spec (hp : Pr p) (h : Red p n D) (hv : Rw p n v) : Rw p n (restR (D.map (·.2)) v p) ∧ (∀ f, f ∈ D → at_ (restR (D.map (·.2)) v p) f.1 = 0) ∧ Sp p n (rowsOf D) (sumR v (scaleL (restR (D.map (·.2)) v p) (-1) p) p) ∧ (restR (D.map (·.2)) v p = zeroR n ↔ Sp p n (rowsOf D) v) := by
  have h0 : 0 < p := by have := hp.pos; omega
  rw [rest_cleared h0 D v hv h.ok]
  obtain ⟨h1, h2, s, hs, h3⟩ := cleared_spec h0 h hv
  refine ⟨h1, h2, ?_, cleared_zero h0 h hv⟩
  have : sumR v (scaleL (clearedR D v p) (-1) p) p = s := (sum_is h0 (Is.self hv) (scaleL_is h0 (Is.self h1) (-1))).eq (Is.self (hs.rw_ h0 h.rows)) fun k hk => by
    obtain ⟨t, ht⟩ := h3 k hk
    exact ⟨t, by grind⟩
  rw [this]
  exact hs
theorem fpR_zeroR : fpR (zeroR n) = n := by
  have h1 : fpR (zeroR n) ≤ n := by
    have := fpR_le (zeroR n)
    simpa [zeroR] using this
  have h2 : ¬ fpR (zeroR n) < n := fun q => fpR_at (v := zeroR n) (by simpa [zeroR] using q) zero_at
  omega
theorem fpR_full (hp : 0 < p) (hv : Rw p n v) : fpR v = n ↔ v = zeroR n := by
  constructor
  · intro h
    exact row_ext hv (zero_is hp).rw_ fun k _ => by rw [fpR_zero (by rw [h, hv.len]), zero_at]
  · rintro rfl
    exact fpR_zeroR
end
end Lin

set_option Elab.async false
set_option maxRecDepth 100000
set_option maxHeartbeats 2000000
/-! Fd10: equality of data that stand for rows; small rules. -/
namespace Fd
open PySem PySem.Spec PyProof.Rows L2

structure Shd (k : Nat) (d : PyData) : Prop where
  c : d.canLay0 = true
  d : d.depth ≤ k
theorem Shd.shaped {k : Nat} {d : PyData} (h : Shd k d) (hk : k ≤ 64) : SeqAt.shaped d = true := by
  unfold SeqAt.shaped
  rw [h.c, Bool.true_and]
  exact decide_eq_true (Nat.le_trans h.d hk)
theorem Shd.mono {k j : Nat} {d : PyData} (h : Shd k d) (hk : k ≤ j) : Shd j d := ⟨h.c, Nat.le_trans h.d hk⟩
theorem shd_all {k : Nat} : ∀ {ds : List PyData}, (∀ d, d ∈ ds → Shd k d) → PyData.canLayAll0 ds = true ∧ PyData.depthAll ds ≤ k
  | [], _ => ⟨rfl, Nat.zero_le _⟩
  | d :: ds, h => by
    obtain ⟨h1, h2⟩ := shd_all (ds := ds) fun e he => h e (List.mem_cons_of_mem _ he)
    have h3 := h d (by simp)
    refine ⟨by simp only [PyData.canLayAll0, h3.c, h1, Bool.and_self], ?_⟩
    simp only [PyData.depthAll]
    exact Nat.max_le.mpr ⟨h3.d, h2⟩
theorem shd_list {k : Nat} {ds : List PyData} (h : ∀ d, d ∈ ds → Shd k d) : Shd (k + 1) (.list ds) := by
  obtain ⟨h1, h2⟩ := shd_all h
  exact ⟨by simp only [PyData.canLay0, h1], by simp only [PyData.depth]; omega⟩
theorem shd_tup {k : Nat} {ds : List PyData} (h : ∀ d, d ∈ ds → Shd k d) : Shd (k + 1) (.tuple ds) := by
  obtain ⟨h1, h2⟩ := shd_all h
  exact ⟨by simp only [PyData.canLay0, h1], by simp only [PyData.depth]; omega⟩
theorem shd_int (i : Int) : Shd 0 (.int i) := ⟨by simp only [PyData.canLay0], by simp [PyData.depth]⟩
theorem shd_non : Shd 0 .none := ⟨by simp only [PyData.canLay0], by simp [PyData.depth]⟩
theorem shd_bl (b : Bool) : Shd 0 (.bool b) := ⟨by simp only [PyData.canLay0], by simp [PyData.depth]⟩
theorem shd_map {α : Type} {k : Nat} {enc : α → PyData} (h : ∀ a, Shd k (enc a)) (xs : List α) : ∀ d, d ∈ xs.map enc → Shd k d := fun d hd => by
  obtain ⟨a, _, rfl⟩ := List.mem_map.mp hd
  exact h a
theorem shd_R (v : List Int) : Shd 1 (dR v) := shd_tup (shd_map shd_int v)
theorem shd_Rs (rs : List (List Int)) : Shd 2 (dRs rs) := shd_list (shd_map shd_R rs)
theorem shd_Rt (rs : List (List Int)) : Shd 2 (dRt rs) := shd_tup (shd_map shd_R rs)
theorem shd_two {k : Nat} {a b : PyData} (h1 : Shd k a) (h2 : Shd k b) : Shd (k + 1) (.tuple [a, b]) := shd_tup fun d hd => by
  simp only [List.mem_cons, List.not_mem_nil, or_false] at hd
  rcases hd with rfl | rfl <;> assumption
/-- an encoding of which == tells the things apart -/
def Tells {α : Type} [DecidableEq α] (enc : α → PyData) : Prop := ∀ a b, PyData.eqv (enc a) (enc b) = decide (a = b)
theorem tells_all {α : Type} [DecidableEq α] {enc : α → PyData} (h : Tells enc) : ∀ xs ys : List α, PyData.eqvAll (xs.map enc) (ys.map enc) = decide (xs = ys)
  | [], [] => rfl
  | [], y :: ys => by simp [PyData.eqvAll]
  | x :: xs, [] => by simp [PyData.eqvAll]
  | x :: xs, y :: ys => by
    rw [List.map_cons, List.map_cons]
    simp only [PyData.eqvAll]
    rw [h x y, tells_all h xs ys]
    by_cases e1 : x = y
    · by_cases e2 : xs = ys
      · simp [e1, e2]
      · simp [e1, e2]
    · simp [e1]
theorem tells_int : Tells PyData.int := fun a b => by
  simp only [PyData.eqv]
  by_cases e : a = b
  · simp [e]
  · simp [e]
theorem tells_list {α : Type} [DecidableEq α] {enc : α → PyData} (h : Tells enc) : Tells fun xs : List α => PyData.list (xs.map enc) := fun a b => by
  simp only [PyData.eqv]
  exact tells_all h a b
theorem tells_tup {α : Type} [DecidableEq α] {enc : α → PyData} (h : Tells enc) : Tells fun xs : List α => PyData.tuple (xs.map enc) := fun a b => by
  simp only [PyData.eqv]
  exact tells_all h a b
theorem tells_R : Tells dR := tells_tup tells_int
theorem tells_Rs : Tells dRs := tells_list tells_R
theorem tells_Rt : Tells dRt := tells_tup tells_R
theorem any_tells {α : Type} [DecidableEq α] {enc : α → PyData} (h : Tells enc) (x : α) (xs : List α) : ((xs.map enc).any fun z => PyData.eqv z (enc x)) = decide (x ∈ xs) := by
  induction xs with
  | nil => simp
  | cons y ys ih =>
    rw [List.map_cons, List.any_cons, ih, h y x]
    by_cases e : y = x
    · simp [e]
    · have : ¬ x = y := fun z => e z.symm
      simp [e, this]
section
variable {Γ Γ' Γ1 Γ2 : En} {ta tb tl te : TE} {d x y : PyData} {ds es : List PyData} {K : PySem.W.Frag}
theorem ev_eqB {a b : Bool} (ha : Ev ta Γ Γ1 (.bool a)) (hb : Ev tb Γ1 Γ2 (.bool b)) : Ev (tOp rEq ta tb) Γ Γ2 (.bool (decide (a = b))) :=
  ev_op ha hb fun G H u v _ r1 r2 Q q => by
    rw [r1.blE, r2.blE]
    refine ⟨rfl, ?_⟩
    have e : decide (V.bl a = V.bl b) = decide (a = b) := by simp
    rw [e]
    exact q _ fun _ => .bl _
/-- == of encoded things -/
theorem ev_eqT {α : Type} [DecidableEq α] {enc : α → PyData} (h : Tells enc) {k : Nat} (hs : ∀ a, Shd k (enc a)) (hk : k ≤ 64) {a b : α} (ha : Ev ta Γ Γ1 (enc a)) (hb : Ev tb Γ1 Γ2 (enc b)) : Ev (tOp (rEqD K) ta tb) Γ Γ2 (.bool (decide (a = b))) :=
  (ev_eqD ha hb ((hs a).shaped hk) ((hs b).shaped hk)).is (by rw [h a b])
theorem ev_neT {α : Type} [DecidableEq α] {enc : α → PyData} (h : Tells enc) {k : Nat} (hs : ∀ a, Shd k (enc a)) (hk : k ≤ 64) {a b : α} (ha : Ev ta Γ Γ1 (enc a)) (hb : Ev tb Γ1 Γ2 (enc b)) : Ev (tOp (rNeD K) ta tb) Γ Γ2 (.bool (!decide (a = b))) :=
  (ev_neD ha hb ((hs a).shaped hk) ((hs b).shaped hk)).is (by rw [h a b])
theorem ev_inT {α : Type} [DecidableEq α] {enc : α → PyData} (h : Tells enc) {k : Nat} (hs : ∀ a, Shd k (enc a)) (hk : k < 64) {a : α} {xs : List α} (ha : Ev ta Γ Γ1 (enc a)) (hb : Ev tb Γ1 Γ2 (.list (xs.map enc))) : Ev (tOp (rInD K) ta tb) Γ Γ2 (.bool (decide (a ∈ xs))) :=
  (ev_inD ha hb ((hs a).shaped (by omega)) ((shd_list (shd_map hs xs)).shaped hk)).is (by rw [any_tells h])
theorem ev_notInT {α : Type} [DecidableEq α] {enc : α → PyData} (h : Tells enc) {k : Nat} (hs : ∀ a, Shd k (enc a)) (hk : k < 64) {a : α} {xs : List α} (ha : Ev ta Γ Γ1 (enc a)) (hb : Ev tb Γ1 Γ2 (.list (xs.map enc))) : Ev (tOp (rNotInD K) ta tb) Γ Γ2 (.bool (!decide (a ∈ xs))) :=
  (ev_notInD ha hb ((hs a).shaped (by omega)) ((shd_list (shd_map hs xs)).shaped hk)).is (by rw [any_tells h])
/-- != of things that are the same -/
theorem ev_neSame {k : Nat} (hs : Shd k x) (hk : k ≤ 64) (ha : Ev ta Γ Γ1 x) (hb : Ev tb Γ1 Γ2 x) : Ev (tOp (rNeD K) ta tb) Γ Γ2 (.bool false) :=
  (ev_neD ha hb (hs.shaped hk) (hs.shaped hk)).is (by rw [SeqAt.eqv_refl x hs.c]; rfl)
theorem ev_eqSame {k : Nat} (hs : Shd k x) (hk : k ≤ 64) (ha : Ev ta Γ Γ1 x) (hb : Ev tb Γ1 Γ2 x) : Ev (tOp (rEqD K) ta tb) Γ Γ2 (.bool true) :=
  (ev_eqD ha hb (hs.shaped hk) (hs.shaped hk)).is (by rw [SeqAt.eqv_refl x hs.c])
/-- the slices of a list -/
theorem ec_slL {lo hi : Option Int} {tl th : TO} (ha : Ev ta Γ Γ1 (.list ds)) (h1 : EvO tl Γ1 Γ2 lo) (h2 : EvO th Γ2 Γ' hi) (hc : ∀ {α : Type} (xs : List α), True) : True := trivial
end
end Fd
namespace Fd
open PySem PySem.Spec PyProof.Rows L2
/-! a list or a tuple, walked -/
def iSeq (K : PySem.W.Frag) (tl : TE) : TI := fun σ H R => iList K tl σ H R ∨ iTup K tl σ H R
theorem k_piS {X : Cx} {K : PySem.W.Frag} {tg l : Expr} {tl : TE} (h : X.K = K) (hl : PE X l tl) : PI X tg l (iSeq K tl) := ⟨fun pins s σ H R I q => by
  rcases q with q | q
  · exact (k_piL h hl).run pins s σ H R I q
  · exact (k_piT h hl).run pins s σ H R I q⟩
theorem wk_seq {Γ Γ1 : En} {tl : TE} {ds : List PyData} {K : PySem.W.Frag} {t : Bool} (h : Ev tl Γ Γ1 (dSeq t ds)) : Wk (iSeq K tl) Γ Γ1 ds := by
  cases t
  · exact (wk_list (K := K) h).orL
  · exact (wk_tup (K := K) h).orR
/-! dicts that stand for tables -/
def encD (D : List (Nat × List Int)) : List (Int × PyData) := D.map fun e => ((e.1 : Int), dR e.2)
theorem encD_keys (D : List (Nat × List Int)) : (encD D).map (·.1) = (D.map (·.1)).map fun (k : Nat) => (k : Int) := by
  unfold encD
  rw [List.map_map, List.map_map]
  rfl
theorem encD_len (D : List (Nat × List Int)) : (encD D).length = D.length := by simp [encD]
theorem dget_enc : ∀ {D : List (Nat × List Int)} {e : Nat × List Int}, (D.map (·.1)).Nodup → e ∈ D → dget (encD D) (e.1 : Int) = some (dR e.2)
  | f :: D, e, nd, he => by
    rw [List.map_cons, List.nodup_cons] at nd
    show dget (((f.1 : Int), dR f.2) :: encD D) (e.1 : Int) = _
    unfold dget
    by_cases h : f.1 = e.1
    · rcases List.mem_cons.mp he with rfl | he
      · simp
      · exact absurd (List.mem_map.mpr ⟨e, he, h.symm⟩) nd.1
    · rcases List.mem_cons.mp he with rfl | he
      · exact absurd rfl h
      · rw [List.find?_cons_of_neg (by simp; omega)]
        exact dget_enc nd.2 he
theorem dput_new {D : List (Nat × List Int)} {q : Nat} {r : List Int} (h : ∀ e, e ∈ D → e.1 ≠ q) : dput (encD D) (q : Int) (dR r) = encD (D ++ [(q, r)]) := by
  unfold dput
  have : ((encD D).any fun p => decide (p.1 = (q : Int))) = false := by
    rw [List.any_eq_false]
    intro p hp
    obtain ⟨e, he, rfl⟩ := List.mem_map.mp hp
    have := h e he
    simp
    omega
  rw [this, if_neg Bool.false_ne_true]
  unfold encD
  rw [List.map_append]
  rfl
theorem dput_old : ∀ {A B : List (Nat × List Int)} {q : Nat} {r r' : List Int}, ((A ++ (q, r) :: B).map (·.1)).Nodup → dput (encD (A ++ (q, r) :: B)) (q : Int) (dR r') = encD (A ++ (q, r') :: B) := fun {A B q r r'} nd => by
  unfold dput
  have : ((encD (A ++ (q, r) :: B)).any fun p => decide (p.1 = (q : Int))) = true := by
    rw [List.any_eq_true]
    exact ⟨((q : Int), dR r), by unfold encD; rw [List.map_append]; simp, by simp⟩
  rw [this, if_pos rfl]
  have hA : ∀ e, e ∈ A → e.1 ≠ q := fun e he h => by
    rw [List.map_append, List.nodup_append] at nd
    exact nd.2.2 e.1 (List.mem_map.mpr ⟨e, he, rfl⟩) q (by simp) h
  have hB : ∀ e, e ∈ B → e.1 ≠ q := fun e he h => by
    rw [List.map_append, List.map_cons, List.nodup_append] at nd
    exact (List.nodup_cons.mp nd.2.1).1 (List.mem_map.mpr ⟨e, he, h⟩)
  have same : ∀ C : List (Nat × List Int), (∀ e, e ∈ C → e.1 ≠ q) → (encD C).map (fun p => if p.1 = (q : Int) then (p.1, dR r') else p) = encD C := fun C hC => by
    unfold encD
    rw [List.map_map]
    refine List.map_congr_left fun e he => ?_
    show (if (e.1 : Int) = (q : Int) then _ else _) = _
    rw [if_neg (by have := hC e he; omega)]
  have e1 : encD (A ++ (q, r) :: B) = encD A ++ ((q : Int), dR r) :: encD B := by unfold encD; rw [List.map_append, List.map_cons]
  have e2 : encD (A ++ (q, r') :: B) = encD A ++ ((q : Int), dR r') :: encD B := by unfold encD; rw [List.map_append, List.map_cons]
  rw [e1, e2, List.map_append, List.map_cons, same A hA, same B hB, if_pos rfl]
theorem sortI_cast (ks : List Nat) : sortI (ks.map fun (k : Nat) => (k : Int)) = (Lin.sortN ks).map fun (k : Nat) => (k : Int) := by
  refine (sortI_of ((Lin.sortN_perm ks).map _) ?_).symm
  rw [List.pairwise_map]
  exact (Lin.sortN_le ks).imp fun h => by omega
end Fd

set_option Elab.async false
set_option maxRecDepth 100000
set_option maxHeartbeats 2000000
/-! Fd11: the first call of a law: a pair of numbers from the script; draws, one after another. -/
namespace Fd
open PySem PyProof.Rows L2
section
variable {Γ Γ' Γ1 Γ2 : En} {t : TS} {P : Ed} {ds : List PyData} {K : PySem.W.Frag}
/-- as st_for, at one heap: what is walked is known at this heap alone -/
theorem st_forAt {wi : TI} {g : TG} {σ : L2.St} {H G1 H1 : Hp} {D : Ends} {J : It} (hw : ∀ R : It → Hp → Prop, R J H1 → wi σ H R) (e1 : Same G1 H1) (s1 : Sd G1 H1 σ Γ1) (wk : WalkOf J G1 ds) (I : Nat → En → Prop) (h0 : I 0 Γ1)
    (hs : ∀ i d Γi, ds[i]? = some d → I i Γi → ∃ Γt is, Tg g is d Γi Γt ∧ StD t Γt { nx := I (i + 1), ct := I (i + 1), rt := fun _ _ => False })
    (k1 : ∀ Γ' σ' G2 H2, I ds.length Γ' → Lv Γ1 Γ' G1 H1 G2 H2 σ' → D.nx σ' H2) : tFor wi g t D σ H := by
  refine hw _ ?_
  refine ⟨fun i m σ' H' => m = ds.length - i ∧ i ≤ ds.length ∧ ∃ Γi G', I i Γi ∧ Lv Γ1 Γi G1 H1 G' H' σ', ⟨_, rfl, Nat.zero_le _, Γ1, G1, h0, Lv.refl e1 s1⟩, ?_⟩
  rintro i m σ' H' ⟨rfl, hi, Γi, G', p, l⟩
  obtain ⟨wstop, wgo⟩ := wk i G' H' l.n.g l.n.i
  by_cases hlt : i < ds.length
  · have hdi : ds[i]? = some ds[i] := List.getElem?_eq_getElem hlt
    obtain ⟨go, yld⟩ := wgo _ hdi
    refine .inr ⟨go, fun σ'' H'' => i + 1 ≤ ds.length ∧ ∃ Γi G', I (i + 1) Γi ∧ Lv Γ1 Γi G1 H1 G' H'' σ'', fun σ'' H'' q => ⟨ds.length - (i + 1), by omega, rfl, q.1, q.2⟩, fun x H2 y => ?_⟩
    obtain ⟨G2, n3, rx⟩ := yld x H2 y
    obtain ⟨Γt, is, tg, body⟩ := hs i _ Γi hdi p
    refine tg.run σ' G2 H2 x n3.i (l.s.new n3) rx _ fun σ'' _ _ s4 => ?_
    have l4 : Lv Γ1 Γt G1 H1 G2 H2 σ'' := l.trans ⟨n3.mono fun _ z => z.elim, fun a m => .inl (tg.own a m), s4⟩
    exact body σ'' G2 H2 _ n3.i s4 (fun Γ' σ3 G3 H3 q l' => ⟨hlt, Γ', G3, q, l4.trans l'⟩) (fun Γ' d σ3 v G3 H3 q l' r => q.elim)
      (fun Γ' σ3 G3 H3 q l' => q.elim) fun Γ' σ3 G3 H3 q l' => ⟨hlt, Γ', G3, q, l4.trans l'⟩
  · have ei : i = ds.length := by omega
    subst ei
    exact .inl ⟨wstop rfl, k1 Γi σ' G' H' p l⟩
end
def tStateB : TS := tSeq (tAsg (tOp (rI0 fun i j => V.int (i + j)) (tOp (rI CMul fun i j => V.int (i * j)) (tVar 1) (tC (V.int 1000003))) (tCB rAbs (tCons (tVar 3) tNil))) (gName 1))
  (tAsg (tOp (rI (fun x j => 0 < j) fun i j => V.int (i % j)) (tCB rInt1 (tCons (tOp (rI0 fun i j => V.int (i + j)) (tOp (rI CMul fun i j => V.int (i * j)) (tVar 2) (tC (V.int 48271))) (tVar 3)) tNil)) (tC (V.int 2147483647))) (gName 2))
def tStateF (K : PySem.W.Frag) : TS := tFor (iList K (tSl (rSlL K) (tVar 0) tNoPart (tPart (tC (V.int 63))))) (gName 3) tStateB
def tStateR : TS := tRet (tLst (tCons (tVar 1) (tCons (tVar 2) tNil)))
def tState (K : PySem.W.Frag) : TS := tSeq (tAsg (tC (V.int 0)) (gName 1)) (tSeq (tAsg (tC (V.int 1)) (gName 2)) (tSeq (tStateF K) tStateR))
def hp0 : Hp := fun _ => none
theorem same0 {H : Hp} : Same hp0 H := fun _ _ q => by cases q
def spState (K : PySem.W.Frag) : Sp := fun vs H Q _ => ∃ (a : Addr) (ns : List Int), vs = [.ref a] ∧ SqL K H a (ns.map V.int) ∧ ns.length ≤ 63 ∧ ∀ (x y : Int) (l : Addr) (H2 : Hp), H2 l = some (.lst [.int x, .int y]) → Q (.ref l) H2
theorem cut63 {ns : List Int} (h : ns.length ≤ 63) : cutV (ns.map V.int) none (some 63) = ns.map V.int := by
  have e : HT.sIx (ns.map V.int).length 0 none = 0 := rfl
  have e2 : HT.sIx (ns.map V.int).length (ns.map V.int).length (some 63) = ns.length := by
    rw [List.length_map]
    simp only [HT.sIx]
    rw [if_neg (by decide)]
    omega
  unfold cutV
  rw [e, e2, List.drop_zero, Nat.sub_zero, List.take_of_length_le (by simp)]
theorem tState_ok {K : PySem.W.Frag} {H : Hp} {Q : VK} {a : Addr} {ns : List Int} (hS : SqL K H a (ns.map V.int)) (hlen : ns.length ≤ 63) (k : ∀ (x y : Int) (l : Addr) (H2 : Hp), H2 l = some (.lst [.int x, .int y]) → Q (.ref l) H2) :
    tState K { nx := fun _ H' => Q .non H', rt := Q } [some (.ref a), none, none, none] H := by
  show (tSeq (tStateF K) tStateR) { nx := fun _ H' => Q .non H', rt := Q } [some (.ref a), some (.int 0), some (.int 1), none] H
  show tStateF K _ _ _
  unfold tStateF
  show tSl (rSlL K) (tVar 0) tNoPart (tPart (tC (V.int 63))) _ _ _
  refine ⟨_, rfl, 63, rfl, a, _, rfl, hS, fun p hp => ?_⟩
  rw [cut63 hlen]
  have hx : upd H p (.lst (ns.map V.int)) p = some (.lst (ns.map V.int)) := upd_same
  refine ⟨p, rfl, ⟨_, SqL.of hx⟩, ?_⟩
  have e1 : Same (upd hp0 p (.lst (ns.map V.int))) (upd H p (.lst (ns.map V.int))) := fun b u q => by
    by_cases hb : b = p
    · subst hb; rw [upd_same] at q ⊢; exact q
    · rw [upd_ne hb] at q; cases q
  have s1 : Sd (upd hp0 p (.lst (ns.map V.int))) (upd H p (.lst (ns.map V.int))) [some (.ref a), some (.int 0), some (.int 1), none] [.un, .dat (.int 0), .dat (.int 1), .un] := ⟨rfl, fun i s e => by
    match i, e with
    | 0, e => cases e; exact ⟨_, rfl, trivial⟩
    | 1, e => cases e; exact ⟨_, rfl, _, rfl, .int 0⟩
    | 2, e => cases e; exact ⟨_, rfl, _, rfl, .int 1⟩
    | 3, e => cases e; exact ⟨_, rfl, trivial⟩, by simp [owns, own1]⟩
  refine st_forAt (wi := fun _ _ R => R (Itl K p) (upd H p (.lst (ns.map V.int)))) (σ := [some (.ref a), some (.int 0), some (.int 1), none]) (H := H) (ds := ns.map .int) (fun R hR => hR) e1 s1 (fun i G' H' e1' e2 => ?_) (fun i Γ => ∃ x y c, Γ = [.un, .dat (.int x), .dat (.int y), c]) ⟨_, _, _, rfl⟩ ?_ ?_
  · have ha' : SqL K H' p (ns.map V.int) := SqL.of (e2 _ _ (e1' _ _ upd_same))
    refine ⟨fun hl => ⟨_, ha', by rw [hl]; simp⟩, fun d hd => ?_⟩
    rw [List.getElem?_map] at hd
    obtain ⟨n, hn, rfl⟩ := Option.map_eq_some_iff.mp hd
    refine ⟨⟨_, .int n, ha', by rw [List.getElem?_map, hn]; rfl⟩, fun x H'' y => ?_⟩
    obtain ⟨rfl, y⟩ := y
    have := y _ ha'
    rw [List.getElem?_map, hn] at this
    cases this
    exact ⟨G', NewM.refl e2, .int n⟩
  · rintro i d _ hd ⟨x, y, c, rfl⟩
    rw [List.getElem?_map] at hd
    obtain ⟨n, hn, rfl⟩ := Option.map_eq_some_iff.mp hd
    refine ⟨_, _, tg_name (by simp), st_then (st_set (ev_I0 (ev_I (ev_var rfl) ev_int (Or.inr ⟨by decide, by decide⟩)) (ev_abs (ev_var rfl))) (by simp) rfl) (st_set (ev_I (ev_toInt (ev_I0 (ev_I (ev_var rfl) ev_int (Or.inr ⟨by decide, by decide⟩)) (ev_var rfl))) ev_int (by decide)) (by simp) ⟨_, _, _, rfl⟩)⟩
  · rintro _ σ' G2 H2 ⟨x, y, c, rfl⟩ l
    have hr := ec_lst (Γ := [.un, .dat (.int x), .dat (.int y), c]) (ea_2 (ev_var (i := 1) rfl) (ev_var (i := 2) rfl)) (by simp)
    refine hr.run σ' G2 H2 l.n.i l.s _ fun b xs G3 H3 n3 s3 hp3 g3 h3 r3 => ?_
    obtain ⟨v, u, rfl, r1, r2⟩ := r3.e2
    rw [r1.intE, r2.intE] at h3
    exact k x y b H3 h3
/-- the law's: a list of at most 63 numbers is handed in, True comes out -/
def spLaw (K : PySem.W.Frag) : Sp := fun vs H Q _ => ∃ (a : Addr) (ns : List Int), vs = [.ref a] ∧ SqL K H a (ns.map V.int) ∧ ns.length ≤ 63 ∧ ∀ H', Q (.bl true) H'
theorem law_run {t : TS} {Γ : En} {σ : L2.St} {H : Hp} {Q : VK} (h : StD t Γ (Gives (.bool true))) (s : Sd hp0 H σ Γ) (k : ∀ H', Q (.bl true) H') : t { nx := fun _ H' => Q .non H', rt := Q } σ H :=
  h σ hp0 H _ same0 s (fun _ _ _ _ z => nomatch z) (fun _ d _ v _ H2 z _ r => by
    have z : d = .bool true := z
    subst z
    rw [r.blE]
    exact k H2) (fun _ _ _ _ z => z.elim) fun _ _ _ _ z => z.elim
/-! ### draws -/
/-- one draw -/
def take (st : Int × Int) (m : Int) : Int × (Int × Int) :=
  if 0 < st.1 then (st.1 % m, (st.1 / m, st.2)) else ((st.2 * 48271 + 11) % 2147483647 / 7 % m, (st.1, (st.2 * 48271 + 11) % 2147483647))
theorem take_bd (st : Int × Int) {m : Int} (h : 0 < m) : 0 ≤ (take st m).1 ∧ (take st m).1 < m := by
  unfold take
  split
  · exact ⟨Int.emod_nonneg _ (by omega), Int.emod_lt_of_pos _ h⟩
  · exact ⟨Int.emod_nonneg _ (by omega), Int.emod_lt_of_pos _ h⟩
abbrev dS (st : Int × Int) : List PyData := [.int st.1, .int st.2]
def preTake : List PyData → List PyData → PyData → List PyData → Prop := fun ss ds d ss' => ∃ st m, 0 < m ∧ m < 1073741824 ∧ ss = dS st ∧ ds = [.int m] ∧ d = .int (take st m).1 ∧ ss' = dS (take st m).2
/-- the state behind k steps -/
def stepS {α S : Type} (f : S → α × S) : Nat → S → S
  | 0, s => s
  | k + 1, s => (f (stepS f k s)).2
def stepV {α S : Type} (f : S → α × S) (n : Nat) (s : S) : List α := (List.range n).map fun i => (f (stepS f i s)).1
def steps {α S : Type} (f : S → α × S) (n : Nat) (s : S) : List α × S := (stepV f n s, stepS f n s)
theorem stepV_len {α S : Type} (f : S → α × S) (n : Nat) (s : S) : (stepV f n s).length = n := by simp [stepV]
theorem stepV_mem {α S : Type} {f : S → α × S} {n : Nat} {s : S} {x : α} (h : x ∈ stepV f n s) : ∃ s', (f s').1 = x := by
  obtain ⟨i, _, rfl⟩ := List.mem_map.mp h
  exact ⟨_, rfl⟩
theorem owns_law {l : Addr} {ds : List PyData} (m : Nat) : owns (.un :: .cell l ds :: List.replicate m .un) = [l] := by
  show [] ++ ([l] ++ owns (List.replicate m .un)) = [l]
  have : owns (List.replicate m .un) = [] := owns_dats [] m
  rw [this]
  rfl
theorem sd_law {a l : Addr} {H : Hp} {x y : Int} {m : Nat} (hl : H l = some (.lst [.int x, .int y])) : Sd hp0 H (some (.ref a) :: some (.ref l) :: List.replicate m none) (.un :: .cell l (dS (x, y)) :: List.replicate m .un) := by
  refine ⟨by simp, fun i s e => ?_, by rw [owns_law]; simp⟩
  match i, e with
  | 0, e => cases e; exact ⟨_, rfl, trivial⟩
  | 1, e => cases e; exact ⟨_, rfl, rfl, rfl, _, hl, .cons (.int x) (.cons (.int y) .nil)⟩
  | i + 2, e =>
    have e : (List.replicate m Sl.un)[i]? = some s := e
    rw [List.getElem?_replicate] at e
    by_cases h : i < m
    · rw [if_pos h] at e
      cases e
      refine ⟨none, ?_, trivial⟩
      show (List.replicate m (none : Option V))[i]? = some none
      rw [List.getElem?_replicate, if_pos h]
    · rw [if_neg h] at e
      cases e
theorem law_start {rest : TS} {K : PySem.W.Frag} {H : Hp} {Q : VK} {a : Addr} {ns : List Int} {m : Nat} (hS : SqL K H a (ns.map V.int)) (hlen : ns.length ≤ 63) (k : ∀ H', Q (.bl true) H') (h : ∀ l st, StD rest (.un :: .cell l (dS st) :: List.replicate m .un) (Gives (.bool true))) :
    tSeq (tAsg (tCall (spState K) [] E0 (tCons (tVar 0) tNil)) (gName 1)) rest { nx := fun _ H' => Q .non H', rt := Q } (some (.ref a) :: none :: List.replicate m none) H := by
  refine ⟨_, rfl, ?_⟩
  refine ⟨a, ns, rfl, hS, hlen, fun x y l H2 hl => ?_⟩
  exact law_run (h l (x, y)) (sd_law hl) k
/-- a comprehension whose item draws: f the item and the state behind it -/
theorem ec_draws {Γ Γ1 : En} {α S : Type} {f : S → α × S} {enc : α → PyData} {n : Nat} {s0 : S} {wi : TI} {te : TE} {iv : Nat} (E : S → Sl → En) (hw : Wk wi Γ Γ1 ((List.range n).map fun (i : Nat) => PyData.int (i : Int))) (h0 : Γ1 = E s0 .un) (hl : n ≤ 1000000)
    (hi : ∀ s x y, iv < (E s x).length ∧ (E s x).set iv y = E s y) (he : ∀ s d, Ev te (E s d) (E (f s).2 d) (enc (f s).1)) : EvC (tLc wi (gName iv) tYes te [iv]) Γ (E (stepS f n s0) .un) ((stepV f n s0).map enc) := by
  subst h0
  have hu : ∀ s, wipeΓ (E s .un) [iv] = E s .un := fun s => (hi s .un .un).2
  have hd : ∀ {s : S} {x : Sl}, wipeΓ (E s x) [iv] = E s .un := fun {s x} => (hi s x .un).2
  have := ec_lc (ds := (List.range n).map fun (i : Nat) => PyData.int (i : Int)) (te := te) (tt := tYes) (g := gName iv) (vs := [iv]) (is := [iv]) hw (hu s0) (fun i h => h) (by simpa using hl) (fun i => E (stepS f i s0) .un) (fun i => E (stepS f i s0) (.dat (.int i))) (fun i => E (stepS f i s0) (.dat (.int i))) (fun i => E (stepS f (i + 1) s0) (.dat (.int i)))
    (fun _ => true) (fun i => enc (f (stepS f i s0)).1) rfl (fun i d h => ?_) (fun i d h => et_yes) (fun i d h _ => he _ _) (fun i d h => hd.symm)
  · rw [List.length_map, List.length_range, kept_all] at this
    unfold stepV
    rw [List.map_map]
    exact this
  · rw [List.getElem?_map] at h
    obtain ⟨k, hk, rfl⟩ := Option.map_eq_some_iff.mp h
    have : i = k := by
      have := List.getElem?_eq_some_iff.mp hk
      obtain ⟨_, h2⟩ := this
      rw [List.getElem_range] at h2
      exact h2
    subst this
    have t := tg_name (Γ := E (stepS f i s0) .un) (d := .int (i : Int)) (hi _ .un .un).1
    rw [(hi _ _ _).2] at t
    exact t
end Fd

set_option Elab.async false
set_option maxRecDepth 100000
set_option maxHeartbeats 2000000
/-! Fd12: tuples joined, a number in a tuple, the sum of a list. -/
namespace Fd
open PySem PyProof.Rows L2
section
variable {Γ Γ' Γ1 Γ2 : En} {ta tb tl te : TE} {d : PyData} {ds es : List PyData} {K : PySem.W.Frag}
theorem ev_catT (ha : Ev ta Γ Γ1 (.tuple ds)) (hb : Ev tb Γ1 Γ2 (.tuple es)) (hl : ds.length + es.length ≤ 1000000) : Ev (tOp (rCatA K) ta tb) Γ Γ2 (.tuple (ds ++ es)) :=
  ⟨fun a m => ha.own a (hb.own a m), fun σ G H e s Q q => ha.run σ G H e s _ fun u G1 H1 n1 s1 r1 => hb.run σ G1 H1 n1.i s1 _ fun v G2 H2 n2 s2 r2 => by
    obtain ⟨p, xs, rfl, hp, ra⟩ := (r1.mono n2.g).tupE
    obtain ⟨p', ys, rfl, hp', ra'⟩ := r2.tupE
    have n12 := n1.trans n2 (mo ha.own)
    refine ⟨p, p', xs, ys, rfl, rfl, SqT.of (n2.i _ _ hp), SqT.of (n2.i _ _ hp'), sl_of (by rw [ra.len, ra'.len]; exact hl), fun h => ?_, fun h1 h2 => ?_, fun h1 h2 l hl => ?_⟩
    · subst h
      cases ra
      exact q _ G2 H2 n12 s2 (.tup hp' ra')
    · subst h2
      cases ra'
      exact q _ G2 H2 n12 s2 (.tup hp (by rw [List.append_nil]; exact ra))
    · have nd := new_dat (M := M0) n2.i hl (.tup (xs ++ ys))
      exact q _ _ _ (n12.trans nd fun _ z => z.elim) (s2.datNew n2.i hl _) (.tup upd_same ((ra.append ra').mono nd.g))⟩
theorem flat_ints (ns : List Int) : (ns.map V.int).all flatV = true := by
  rw [List.all_map]
  exact List.all_eq_true.mpr fun _ _ => rfl
theorem inV_ints (i : Int) (ns : List Int) : inV (V.int i) (ns.map V.int) = decide (i ∈ ns) := by
  unfold inV
  rw [List.any_map]
  induction ns with
  | nil => simp
  | cons n ns ih =>
    rw [List.any_cons, ih]
    have : ((fun y => eqV y (V.int i)) ∘ V.int) n = decide (n = i) := by
      show eqV (.int n) (.int i) = _
      simp only [eqV]
      rfl
    rw [this]
    by_cases h : n = i
    · subst h; simp
    · have : ¬ i = n := fun z => h z.symm
      simp [h, this]
theorem ev_notInTi {i : Int} {ns : List Int} (ha : Ev ta Γ Γ1 (.int i)) (hb : Ev tb Γ1 Γ2 (dR ns)) : Ev (tOp (rIn K true) ta tb) Γ Γ2 (.bool (!decide (i ∈ ns))) :=
  ⟨fun a m => ha.own a (hb.own a m), fun σ G H e s Q q => ha.run σ G H e s _ fun u G1 H1 n1 s1 r1 => hb.run σ G1 H1 n1.i s1 _ fun v G2 H2 n2 s2 r2 => by
    obtain ⟨p, xs, rfl, hp, ra⟩ := r2.tupE
    rw [r1.intE]
    have := ra.ints
    subst this
    refine ⟨p, _, rfl, .inr (SqT.of (n2.i _ _ hp)), rfl, flat_ints ns, ?_⟩
    rw [if_pos rfl, inV_ints]
    exact q _ G2 H2 (n1.trans n2 (mo ha.own)) s2 (.bl _)⟩
theorem ev_sum {ns : List Int} (ha : Ev ta Γ Γ1 (.list (ns.map .int))) : Ev (tCB (rSum K) (tCons ta tNil)) Γ Γ1 (.int ns.sum) := ⟨ha.own, fun σ G H e s Q q => ha.run σ G H e s _ fun v G1 H1 n1 s1 r1 => by
  obtain ⟨p, xs, rfl, hp, ra⟩ := r1.lstE
  have := ra.ints
  subst this
  exact ⟨p, ns, rfl, SqL.of (n1.i _ _ hp), q _ G1 H1 n1 s1 (.int _)⟩⟩
theorem k_catA {X : Cx} (h : X.K = K) : OpR X (binaryOp .Add) (rCatA K) := by subst h; exact op_catA
theorem k_notInT {X : Cx} (h : X.K = K) : OpR X (compareOp .NotIn) (rIn K true) := by subst h; exact op_notIn_seq
theorem k_inT {X : Cx} (h : X.K = K) : OpR X (compareOp .In) (rIn K false) := by subst h; exact op_in_seq
theorem k_sum {X : Cx} (h : X.K = K) (hc : X.calm = true) : CallR X (.builtin "sum") (rSum K) := by subst h; exact cr_sum hc
end
end Fd

set_option maxHeartbeats 1000000
/-! Lin5: sums over places, rows with product 0, their table; the reduced table is told by its span. Plain Lean. -/
namespace Lin
/-! ### sums -/
def S : Nat → (Nat → Int) → Int
  | 0, _ => 0
  | n + 1, f => S n f + f n
theorem S_eq (n : Nat) (f : Nat → Int) : ((List.range n).map f).sum = S n f := by
  induction n with
  | zero => rfl
  | succ n ih => rw [List.range_succ, List.map_append, List.sum_append, ih]; show S n f + (f n + 0) = S n f + f n; omega
theorem S_congr {n : Nat} {f g : Nat → Int} (h : ∀ k, k < n → f k = g k) : S n f = S n g := by
  induction n with
  | zero => rfl
  | succ n ih => show S n f + f n = S n g + g n; rw [ih fun k hk => h k (by omega), h n (by omega)]
theorem S_cg {p : Int} {n : Nat} {f g : Nat → Int} (h : ∀ k, k < n → Cg p (f k) (g k)) : Cg p (S n f) (S n g) := by
  induction n with
  | zero => exact Cg.refl p 0
  | succ n ih => exact (ih fun k hk => h k (by omega)).add (h n (by omega))
theorem S_add (n : Nat) (f g : Nat → Int) : S n (fun k => f k + g k) = S n f + S n g := by
  induction n with
  | zero => rfl
  | succ n ih => show S n (fun k => f k + g k) + (f n + g n) = (S n f + f n) + (S n g + g n); rw [ih]; omega
theorem S_mul (n : Nat) (a : Int) (f : Nat → Int) : S n (fun k => a * f k) = a * S n f := by
  induction n with
  | zero => show (0 : Int) = a * 0; omega
  | succ n ih => show S n (fun k => a * f k) + a * f n = a * (S n f + f n); rw [ih]; grind
theorem S_none {n : Nat} {f : Nat → Int} (h : ∀ k, k < n → f k = 0) : S n f = 0 := by
  rw [S_congr (g := fun _ => 0) h]
  induction n with
  | zero => rfl
  | succ n ih => show S n (fun _ => 0) + 0 = 0; rw [ih fun k hk => h k (by omega)]; rfl
theorem S_drop {n q : Nat} (f : Nat → Int) (hq : q < n) : S n f = f q + S n (fun k => if k = q then 0 else f k) := by
  induction n with
  | zero => omega
  | succ n ih =>
    show S n f + f n = f q + (S n (fun k => if k = q then 0 else f k) + if n = q then 0 else f n)
    by_cases h : q = n
    · subst h
      rw [if_pos rfl, S_congr (n := q) (f := fun k => if k = q then 0 else f k) (g := f) fun k hk => by rw [if_neg (by omega)]]
      omega
    · rw [ih (by omega), if_neg (by omega)]
      omega
theorem S_flt (n : Nat) (P : Nat → Bool) (g : Nat → Int) : S n (fun k => if P k then g k else 0) = (((List.range n).filter P).map g).sum := by
  induction n with
  | zero => rfl
  | succ n ih =>
    rw [List.range_succ, List.filter_append, List.map_append, List.sum_append, ← ih]
    show S n _ + _ = S n _ + _
    congr 1
    by_cases h : P n
    · simp [h]
    · simp [h]
theorem S_keys {n : Nat} : ∀ (D : Dic) (f : Nat → Int), (∀ e, e ∈ D → e.1 < n) → (D.map (·.1)).Nodup → (∀ k, k < n → ¬ k ∈ D.map (·.1) → f k = 0) → S n f = (D.map fun e => f e.1).sum
  | [], f, _, _, h => S_none fun k hk => h k hk (by simp)
  | e :: D, f, hl, nd, h => by
    rw [List.map_cons, List.nodup_cons] at nd
    rw [S_drop f (hl e (by simp)), S_keys D _ (fun e he => hl e (List.mem_cons_of_mem _ he)) nd.2 fun k hk hn => ?_, List.map_cons, List.sum_cons]
    · congr 2
      refine List.map_congr_left fun d hd => ?_
      rw [if_neg fun q => nd.1 (List.mem_map.mpr ⟨d, hd, q⟩)]
    · by_cases hke : k = e.1
      · rw [if_pos hke]
      · rw [if_neg hke]
        refine h k hk fun q => ?_
        rcases List.mem_cons.mp q with q | q
        · exact hke q
        · exact hn q
theorem sum_none {α : Type} {g : α → Int} : ∀ {l : List α}, (∀ x, x ∈ l → g x = 0) → (l.map g).sum = 0
  | [], _ => rfl
  | x :: l, h => by rw [List.map_cons, List.sum_cons, h x (by simp), sum_none fun y hy => h y (List.mem_cons_of_mem _ hy)]; rfl
theorem sum_one {α : Type} {g : α → Int} {q : α} : ∀ {l : List α}, l.Nodup → q ∈ l → (∀ x, x ∈ l → x ≠ q → g x = 0) → (l.map g).sum = g q
  | x :: l, nd, hq, h => by
    rw [List.nodup_cons] at nd
    rw [List.map_cons, List.sum_cons]
    rcases List.mem_cons.mp hq with rfl | hq
    · rw [sum_none fun y hy => h y (List.mem_cons_of_mem _ hy) fun z => nd.1 (z ▸ hy)]
      omega
    · rw [h x (by simp) (fun z => nd.1 (z ▸ hq)), sum_one nd.2 hq fun y hy => h y (List.mem_cons_of_mem _ hy)]
      omega
theorem sum_cg {α : Type} {p : Int} {g h : α → Int} : ∀ {l : List α}, (∀ x, x ∈ l → Cg p (g x) (h x)) → Cg p (l.map g).sum (l.map h).sum
  | [], _ => Cg.refl p _
  | x :: l, q => by
    rw [List.map_cons, List.map_cons, List.sum_cons, List.sum_cons]
    exact (q x (by simp)).add (sum_cg fun y hy => q y (List.mem_cons_of_mem _ hy))
theorem sum_neg {α : Type} (g : α → Int) : ∀ l : List α, (l.map fun x => -g x).sum = -(l.map g).sum
  | [] => rfl
  | x :: l => by rw [List.map_cons, List.map_cons, List.sum_cons, List.sum_cons, sum_neg g l]; omega
/-! ### tables with 1 at one's own place and 0 at the others' -/
structure Ech (p : Int) (n : Nat) (D : Dic) : Prop where
  ok : ∀ e, e ∈ D → e.1 < n ∧ Rw p n e.2 ∧ at_ e.2 e.1 = 1
  off : ∀ e, e ∈ D → ∀ f, f ∈ D → e.1 ≠ f.1 → at_ e.2 f.1 = 0
  nd : (D.map (·.1)).Nodup
section
variable {p : Int} {n : Nat} {D E : Dic} {x v w r : Row} {R R' : Row → Prop}
theorem Red.ech (h : Red p n D) : Ech p n D := ⟨fun e he => ⟨(h.ok e he).1, (h.ok e he).2.1, (h.ok e he).2.2.1⟩, h.off, h.nd⟩
theorem Ech.rows (h : Ech p n D) : ∀ r, rowsOf D r → Rw p n r := fun r ⟨e, he, e2⟩ => e2 ▸ (h.ok e he).2.1
theorem nd_of (h : (D.map (·.1)).Nodup) : D.Nodup := by
  induction D with
  | nil => exact List.nodup_nil
  | cons e D ih =>
    rw [List.map_cons, List.nodup_cons] at h
    rw [List.nodup_cons]
    exact ⟨fun q => h.1 (List.mem_map.mpr ⟨e, q, rfl⟩), ih h.2⟩
theorem key_inj (h : (D.map (·.1)).Nodup) {e f : Nat × Row} (he : e ∈ D) (hf : f ∈ D) (q : e.1 = f.1) : e = f := by
  have h1 := lookD_of h he
  have h2 := lookD_of h hf
  rw [q] at h1
  exact Prod.ext q (h1.symm.trans h2)
def freeL (n : Nat) (D : Dic) : List Nat := (List.range n).filter fun k => !decide (k ∈ D.map (·.1))
theorem free_mem {k : Nat} : k ∈ freeL n D ↔ k < n ∧ ¬ k ∈ D.map (·.1) := by
  unfold freeL
  rw [List.mem_filter, List.mem_range]
  simp
theorem free_nd : (freeL n D).Nodup := List.nodup_range.sublist List.filter_sublist
theorem S_split (hl : ∀ e, e ∈ D → e.1 < n) (nd : (D.map (·.1)).Nodup) (g : Nat → Int) : S n g = ((freeL n D).map g).sum + (D.map fun e => g e.1).sum := by
  have h1 : S n g = S n (fun k => (if (!decide (k ∈ D.map (·.1))) = true then g k else 0) + if k ∈ D.map (·.1) then g k else 0) := S_congr fun k _ => by
    by_cases h : k ∈ D.map (·.1)
    · rw [if_pos h, decide_eq_true h]; simp
    · rw [if_neg h, decide_eq_false h]; simp
  rw [h1, S_add, S_flt, S_keys D _ hl nd fun k hk hn => by rw [if_neg hn]]
  congr 1
  congr 1
  refine List.map_congr_left fun e he => ?_
  rw [if_pos (List.mem_map.mpr ⟨e, he, rfl⟩)]
theorem free_len (hl : ∀ e, e ∈ D → e.1 < n) (nd : (D.map (·.1)).Nodup) : (freeL n D).length + D.length = n := by
  have h := S_split hl nd fun _ => 1
  have h1 : ∀ {α : Type} (l : List α), (l.map fun _ => (1 : Int)).sum = l.length := fun l => by
    induction l with
    | nil => rfl
    | cons a l ih => rw [List.map_cons, List.sum_cons, ih, List.length_cons]; omega
  have h2 : S n (fun _ => 1) = n := by rw [← S_eq, h1, List.length_range]
  rw [h2, h1, h1] at h
  omega
/-! ### products -/
def dt (n : Nat) (v w : Row) : Int := S n fun k => at_ v k * at_ w k
theorem dt_comm : dt n v w = dt n w v := S_congr fun k _ => Int.mul_comm _ _
theorem dt_cg {f : Nat → Int} (h : Is p n x f) : Cg p (dt n r x) (S n fun k => at_ r k * f k) := S_cg fun k hk => (Cg.refl p _).mul (h.cg k hk)
theorem dt_ax (hp : 0 < p) (hx : Rw p n x) (hv : Rw p n v) (a : Int) : Cg p (dt n r (ax p x v a)) (dt n r x + a * dt n r v) := by
  refine (dt_cg (ax_is hp (Is.self hx) (Is.self hv) a)).trans (Cg.of_eq ?_)
  rw [S_congr (g := fun k => at_ r k * at_ x k + a * (at_ r k * at_ v k)) fun k _ => by grind, S_add, S_mul]
  rfl
def Ker (p : Int) (n : Nat) (R : Row → Prop) (v : Row) : Prop := Rw p n v ∧ ∀ r, R r → Cg p (dt n r v) 0
theorem dt_zero : dt n r (zeroR n) = 0 := S_none fun k _ => by rw [zero_at]; omega
theorem ker_sp (hp : 0 < p) (hR : ∀ r, R r → Rw p n r) (h : Ker p n R v) (hx : Sp p n R x) : Cg p (dt n x v) 0 := by
  induction hx with
  | zero => rw [dt_comm, dt_zero]; exact Cg.refl p 0
  | @step x r a hx hr ih =>
    rw [dt_comm] at ih ⊢
    have h1 := h.2 r hr
    rw [dt_comm] at h1
    refine (dt_ax hp (hx.rw_ hp hR) (hR r hr) a).trans ((ih.add ((Cg.refl p a).mul h1)).trans (Cg.of_eq (by omega)))
theorem ker_le (hp : 0 < p) (hR : ∀ r, R r → Rw p n r) (e : ∀ x, R' x → Sp p n R x) (h : Ker p n R v) : Ker p n R' v := ⟨h.1, fun r hr => ker_sp hp hR h (e r hr)⟩
theorem sp_ker (hp : 0 < p) (hR : ∀ r, R r → Ker p n R' r) (hx : Sp p n R x) : Ker p n R' x := by
  induction hx with
  | zero => exact ⟨(zero_is hp).rw_, fun r _ => by rw [dt_zero]; exact Cg.refl p 0⟩
  | @step x r a hx hr ih =>
    refine ⟨(ax_is hp (Is.self ih.1) (Is.self (hR r hr).1) a).rw_, fun s hs => (dt_ax hp ih.1 (hR r hr).1 a).trans (((ih.2 s hs).add ((Cg.refl p a).mul ((hR r hr).2 s hs))).trans (Cg.of_eq (by omega)))⟩
/-! ### sums of rows of a span -/
theorem sp_sum (hp : 0 < p) (hR : ∀ r, R r → Rw p n r) : ∀ L : List (Int × Row), (∀ c, c ∈ L → R c.2) → Sp p n R (mk n fun k => (L.map fun c => c.1 * at_ c.2 k).sum % p)
  | [], _ => by
    have : (mk n fun k => (([] : List (Int × Row)).map fun c => c.1 * at_ c.2 k).sum % p) = zeroR n := (mk_is hp).eq (zero_is hp) fun k _ => Cg.refl p 0
    rw [this]
    exact .zero
  | c :: L, h => by
    have ih := sp_sum hp hR L fun d hd => h d (List.mem_cons_of_mem _ hd)
    refine ih.lin hp hR (Sp.of hp hR (h c (by simp))) c.1 (mk_is hp) fun k hk => ?_
    rw [mk_at hk, List.map_cons, List.sum_cons]
    exact (((Cg.mod p _).symm).add (Cg.refl p (c.1 * at_ c.2 k))).symm.symm.trans (Cg.refl p _) |> fun q => (Cg.of_eq (by omega)).trans q
theorem sp_proj (hp : 0 < p) (h : Ech p n D) (hv : Rw p n v) (e : ∀ k, k < n → Cg p (at_ v k) (proj D v k)) : Sp p n (rowsOf D) v := by
  have h1 := sp_sum hp h.rows (D.map fun e => (at_ v e.1, e.2)) fun c hc => by
    obtain ⟨e, he, rfl⟩ := List.mem_map.mp hc
    exact ⟨e, he, rfl⟩
  have h2 : v = mk n fun k => ((D.map fun e => (at_ v e.1, e.2)).map fun c => c.1 * at_ c.2 k).sum % p := (Is.self hv).eq (mk_is hp) fun k hk => by
    rw [List.map_map]
    exact e k hk
  rw [h2]
  exact h1
end
end Lin

set_option maxHeartbeats 1000000
/-! Lin6: the rows with product 0 by one row a free place; how many; uniqueness; as many columns as rows. Plain Lean. -/
namespace Lin
section
variable {p : Int} {n : Nat} {D E : Dic} {x v w r : Row} {R R' : Row → Prop}
def nulR (p : Int) (n : Nat) (D : Dic) (f : Nat) : Row := mk n fun k => if k = f then 1 else if k ∈ D.map (·.1) then -(at_ (lookD D k) f) % p else 0
theorem nul_rw (hp : 1 < p) (f : Nat) : Rw p n (nulR p n D f) := ⟨by simp [nulR, mk], fun x hx => by
  obtain ⟨k, _, rfl⟩ := List.mem_map.mp hx
  split
  · omega
  · split
    · exact ⟨Int.emod_nonneg _ (by omega), Int.emod_lt_of_pos _ (by omega)⟩
    · omega⟩
theorem nul_one {f : Nat} (hf : f < n) : at_ (nulR p n D f) f = 1 := by
  unfold nulR
  rw [mk_at hf, if_pos rfl]
theorem nul_off {f k : Nat} (hk : k < n) (h : k ≠ f) (hn : ¬ k ∈ D.map (·.1)) : at_ (nulR p n D f) k = 0 := by
  unfold nulR
  rw [mk_at hk, if_neg h, if_neg hn]
theorem nul_piv {f : Nat} (h : Ech p n D) {e : Nat × Row} (he : e ∈ D) (hf : ¬ f ∈ D.map (·.1)) : at_ (nulR p n D f) e.1 = -(at_ e.2 f) % p := by
  have hm : e.1 ∈ D.map (·.1) := List.mem_map.mpr ⟨e, he, rfl⟩
  unfold nulR
  rw [mk_at (h.ok e he).1, if_neg (fun q : e.1 = f => hf (q ▸ hm)), if_pos hm, lookD_of h.nd he]
def nulT (p : Int) (n : Nat) (D : Dic) : Dic := (freeL n D).map fun f => (f, nulR p n D f)
theorem nulT_keys : (nulT p n D).map (·.1) = freeL n D := by
  unfold nulT
  rw [List.map_map]
  exact (List.map_congr_left fun _ _ => rfl).trans (List.map_id _)
theorem nulT_ech (hp : 1 < p) : Ech p n (nulT p n D) := ⟨fun e he => by
  obtain ⟨f, hf, rfl⟩ := List.mem_map.mp he
  obtain ⟨h1, h2⟩ := free_mem.mp hf
  exact ⟨h1, nul_rw hp f, nul_one h1⟩, fun e he g hg hne => by
  obtain ⟨f, hf, rfl⟩ := List.mem_map.mp he
  obtain ⟨f', hf', rfl⟩ := List.mem_map.mp hg
  obtain ⟨h1, h2⟩ := free_mem.mp hf'
  exact nul_off h1 (fun q => hne q.symm) h2, by rw [nulT_keys]; exact free_nd⟩
theorem nul_ker (hp : 1 < p) (h : Ech p n D) {f : Nat} (hf : f ∈ freeL n D) : Ker p n (rowsOf D) (nulR p n D f) := by
  obtain ⟨h1, h2⟩ := free_mem.mp hf
  refine ⟨nul_rw hp f, ?_⟩
  rintro _ ⟨e, he, rfl⟩
  unfold dt
  rw [S_split (fun e he => (h.ok e he).1) h.nd, sum_one free_nd hf fun k hk hne => ?_, sum_one (q := e) (nd_of h.nd) he fun g hg hne => ?_]
  · rw [nul_one h1, nul_piv h he h2, (h.ok e he).2.2]
    exact ((Cg.refl p _).add ((Cg.refl p 1).mul (Cg.mod p _))).trans (Cg.of_eq (by omega))
  · rw [h.off e he g hg fun q => hne (key_inj h.nd hg he q.symm)]
    omega
  · obtain ⟨k1, k2⟩ := free_mem.mp hk
    rw [nul_off k1 hne k2]
    omega
theorem ker_nul (hp : 1 < p) (h : Ech p n D) : Ker p n (rowsOf D) v ↔ Sp p n (rowsOf (nulT p n D)) v := by
  have h0 : 0 < p := by omega
  constructor
  · intro hk
    refine sp_proj h0 (nulT_ech hp) hk.1 fun k hkn => ?_
    unfold proj nulT
    rw [List.map_map]
    show Cg p (at_ v k) ((freeL n D).map fun f => at_ v f * at_ (nulR p n D f) k).sum
    by_cases hm : k ∈ D.map (·.1)
    · obtain ⟨e, he, rfl⟩ := List.mem_map.mp hm
      have h1 := hk.2 e.2 ⟨e, he, rfl⟩
      unfold dt at h1
      rw [S_split (fun e he => (h.ok e he).1) h.nd, sum_one (q := e) (nd_of h.nd) he fun g hg hne => by
        rw [h.off e he g hg fun q => hne (key_inj h.nd hg he q.symm)]; omega, (h.ok e he).2.2] at h1
      have h2 : Cg p ((freeL n D).map fun f => at_ v f * at_ (nulR p n D f) e.1).sum ((freeL n D).map fun f => -(at_ e.2 f * at_ v f)).sum := sum_cg fun f hf => by
        rw [nul_piv h he (free_mem.mp hf).2]
        exact ((Cg.refl p _).mul (Cg.mod p _)).trans (Cg.of_eq (by grind))
      rw [sum_neg] at h2
      refine Cg.trans ?_ h2.symm
      obtain ⟨t, ht⟩ := h1
      exact ⟨t, by omega⟩
    · have hf : k ∈ freeL n D := free_mem.mpr ⟨hkn, hm⟩
      rw [sum_one free_nd hf fun f hf hne => by rw [nul_off hkn (fun q => hne q.symm) hm]; omega, nul_one hkn]
      exact Cg.of_eq (by omega)
  · exact sp_ker h0 fun r ⟨e, he, q⟩ => by
      obtain ⟨f, hf, rfl⟩ := List.mem_map.mp he
      rw [← q]
      exact nul_ker hp h hf
/-- what has product 0 with all that has product 0 is the span -/
theorem ker_ker (hp : 1 < p) (h : Ech p n D) : Ker p n (rowsOf (nulT p n D)) v ↔ Sp p n (rowsOf D) v := by
  have h0 : 0 < p := by omega
  constructor
  · intro hk
    refine sp_proj h0 h hk.1 fun k hkn => ?_
    unfold proj
    by_cases hm : k ∈ D.map (·.1)
    · obtain ⟨e, he, rfl⟩ := List.mem_map.mp hm
      rw [sum_one (q := e) (nd_of h.nd) he fun g hg hne => by rw [h.off g hg e he fun q => hne (key_inj h.nd hg he q)]; omega, (h.ok e he).2.2]
      exact Cg.of_eq (by omega)
    · have hf : k ∈ freeL n D := free_mem.mpr ⟨hkn, hm⟩
      have h1 := hk.2 (nulR p n D k) ⟨(k, nulR p n D k), List.mem_map.mpr ⟨k, hf, rfl⟩, rfl⟩
      unfold dt at h1
      rw [S_split (fun e he => (h.ok e he).1) h.nd, sum_one free_nd hf fun f hf hne => by
        obtain ⟨k1, k2⟩ := free_mem.mp hf
        rw [nul_off k1 hne k2]; omega, nul_one hkn] at h1
      have h2 : Cg p (D.map fun e => at_ (nulR p n D k) e.1 * at_ v e.1).sum (D.map fun e => -(at_ v e.1 * at_ e.2 k)).sum := sum_cg fun e he => by
        rw [nul_piv h he hm]
        exact ((Cg.mod p _).mul (Cg.refl p _)).trans (Cg.of_eq (by grind))
      rw [sum_neg] at h2
      obtain ⟨t, ht⟩ := h1
      obtain ⟨u, hu⟩ := h2
      exact ⟨t - u, by grind⟩
  · refine sp_ker h0 fun r ⟨e, he, q⟩ => ⟨by rw [← q]; exact (h.ok e he).2.1, fun s ⟨g, hg, q2⟩ => ?_⟩
    obtain ⟨f, hf, rfl⟩ := List.mem_map.mp hg
    rw [← q, ← q2, dt_comm]
    exact (nul_ker hp h hf).2 e.2 ⟨e, he, rfl⟩
/-! ### how many -/
theorem sp_at0 (hp : 0 < p) (hR : ∀ r, R r → Rw p n r) {q : Nat} (hq : q < n) (h : ∀ r, R r → at_ r q = 0) (hx : Sp p n R x) : at_ x q = 0 := by
  induction hx with
  | zero => exact zero_at
  | @step x r a hx hr ih =>
    have rx := hx.rw_ hp hR
    have h1 := (ax_is hp (Is.self rx) (Is.self (hR r hr)) a).cg q hq
    rw [ih, h r hr] at h1
    have h2 := (ax_is hp (Is.self rx) (Is.self (hR r hr)) a).rw_.at hq
    exact (h1.trans (Cg.of_eq (show (0 : Int) + a * 0 = 0 by omega))).eq h2.1 h2.2 (by omega) hp
theorem len_indep (hp : Pr p) (rows : List Row) (hR : ∀ r, r ∈ rows → Rw p n r) (h : ∀ i r, rows[i]? = some r → ¬ Sp p n (· ∈ rows.take i) r) : (foundL p n rows).length = p.toNat ^ rows.length := by
  have key : ∀ i, i ≤ rows.length → (foundL p n (rows.take i)).length = p.toNat ^ i := fun i => by
    induction i with
    | zero => intro _; rfl
    | succ i ih =>
      intro hi
      have e1 : rows[i]? = some rows[i] := List.getElem?_eq_getElem (by omega)
      have e2 : rows.take (i + 1) = rows.take i ++ [rows[i]] := by rw [List.take_succ, e1]; rfl
      have ih := ih (by omega)
      have e3 : foundL p n (rows.take i ++ [rows[i]]) = grow p (foundL p n (rows.take i)) rows[i] := by
        unfold foundL
        rw [List.foldl_append]
        rfl
      rw [e2, e3]
      unfold grow
      rw [if_neg fun q => h i _ e1 (((foundL_all hp fun r hr => hR r (List.mem_of_mem_take hr)).mem _).mp q), flat_len, ih, Nat.pow_succ]
  have := key rows.length (Nat.le_refl _)
  rwa [List.take_length] at this
theorem len_ech (hp : Pr p) (h : Ech p n D) : (foundL p n (D.map (·.2))).length = p.toNat ^ D.length := by
  have h0 : 0 < p := by have := hp.pos; omega
  have hR : ∀ r, r ∈ D.map (·.2) → Rw p n r := fun r hr => by
    obtain ⟨e, he, rfl⟩ := List.mem_map.mp hr
    exact (h.ok e he).2.1
  rw [len_indep hp _ hR fun i r hi hs => ?_, List.length_map]
  rw [List.getElem?_map] at hi
  obtain ⟨e, he, rfl⟩ := Option.map_eq_some_iff.mp hi
  have hem := List.mem_of_getElem? he
  have h1 := sp_at0 h0 (fun r hr => hR r (List.mem_of_mem_take hr)) (h.ok e hem).1 (fun r hr => ?_) hs
  · rw [(h.ok e hem).2.2] at h1
    omega
  · rw [← List.map_take] at hr
    obtain ⟨g, hg, rfl⟩ := List.mem_map.mp hr
    refine h.off g (List.mem_of_mem_take hg) e hem fun q => ?_
    have := key_inj h.nd (List.mem_of_mem_take hg) hem q
    subst this
    obtain ⟨j, hj⟩ := List.getElem?_of_mem hg
    rw [List.getElem?_take] at hj
    split at hj
    · obtain ⟨a1, a2⟩ := List.getElem?_eq_some_iff.mp he
      obtain ⟨b1, b2⟩ := List.getElem?_eq_some_iff.mp hj
      have nd := List.pairwise_iff_getElem.mp (nd_of h.nd) j i b1 a1 (by omega)
      exact nd (b2.trans a2.symm)
    · cases hj
theorem len_same (hp : Pr p) {A B : List Row} (hA : ∀ r, r ∈ A → Rw p n r) (hB : ∀ r, r ∈ B → Rw p n r) (e : ∀ x, Sp p n (· ∈ A) x ↔ Sp p n (· ∈ B) x) : (foundL p n A).length = (foundL p n B).length :=
  (all_perm (foundL_all hp hA) (foundL_all hp hB) e).length_eq
theorem pow_inj (hp : Pr p) {a b : Nat} (h : p.toNat ^ a = p.toNat ^ b) : a = b := by
  have h1 : 1 < p.toNat := by have := hp.pos; omega
  exact (Nat.pow_right_inj h1).mp h
theorem rows_is : (fun r => r ∈ D.map (·.2)) = rowsOf D := funext fun r => propext ⟨fun h => by
  obtain ⟨e, he, h⟩ := List.mem_map.mp h
  exact ⟨e, he, h⟩, fun ⟨e, he, h⟩ => List.mem_map.mpr ⟨e, he, h⟩⟩
theorem ech_len (hp : Pr p) (h : Ech p n D) (k : Ech p n E) (e : ∀ x, Sp p n (rowsOf D) x ↔ Sp p n (rowsOf E) x) : D.length = E.length := by
  have hm : ∀ {D : Dic}, Ech p n D → ∀ r, r ∈ D.map (·.2) → Rw p n r := fun h r hr => by
    obtain ⟨e, he, rfl⟩ := List.mem_map.mp hr
    exact (h.ok e he).2.1
  refine pow_inj hp ?_
  rw [← len_ech hp h, ← len_ech hp k]
  exact len_same hp (hm h) (hm k) fun x => by rw [rows_is, rows_is]; exact e x
/-! ### uniqueness -/
theorem keys_sub (hp : Pr p) (h : Red p n D) (k : Red p n E) (e : ∀ x, Sp p n (rowsOf D) x → Sp p n (rowsOf E) x) {q : Nat} (hq : q ∈ D.map (·.1)) : q ∈ E.map (·.1) := by
  have h0 : 0 < p := by have := hp.pos; omega
  have h1 := hp.pos
  obtain ⟨d, hd, rfl⟩ := List.mem_map.mp hq
  obtain ⟨d1, d2, d3, d4⟩ := h.ok d hd
  refine Classical.byContradiction fun hn => ?_
  have hs := proj_sp h0 k (e _ (Sp.of h0 h.rows ⟨d, hd, rfl⟩)) d.1 d1
  have : proj E d.2 d.1 = 0 := sum_none fun f hf => by
    have f1 := k.ok f hf
    by_cases hlt : f.1 < d.1
    · rw [d4 f.1 hlt]; omega
    · by_cases heq : f.1 = d.1
      · exact absurd (List.mem_map.mpr ⟨f, hf, heq⟩) hn
      · rw [f1.2.2.2 d.1 (by omega)]; omega
  rw [this, d3] at hs
  have := hs.eq (by omega) (by omega) (by omega) (by omega)
  omega
theorem red_uniq (hp : Pr p) (h : Red p n D) (k : Red p n E) (sD : (D.map (·.1)).Pairwise (· ≤ ·)) (sE : (E.map (·.1)).Pairwise (· ≤ ·)) (e : ∀ x, Sp p n (rowsOf D) x ↔ Sp p n (rowsOf E) x) : D = E := by
  have h0 : 0 < p := by have := hp.pos; omega
  have hk : D.map (·.1) = E.map (·.1) := perm_eq ((List.perm_ext_iff_of_nodup h.nd k.nd).mpr fun q => ⟨keys_sub hp h k fun x => (e x).mp, keys_sub hp k h fun x => (e x).mpr⟩) sD sE
  rw [← keys_look h.nd, ← keys_look k.nd, hk]
  refine List.map_congr_left fun q hq => ?_
  have hq' := hq
  rw [← hk] at hq'
  obtain ⟨f, hf, rfl⟩ := List.mem_map.mp hq
  obtain ⟨d, hd, hdf⟩ := List.mem_map.mp hq'
  rw [lookD_of k.nd hf, ← hdf, lookD_of h.nd hd]
  congr 1
  obtain ⟨d1, d2, d3, d4⟩ := h.ok d hd
  refine (Is.self d2).eq (Is.self (k.ok f hf).2.1) fun j hj => ?_
  have hs := proj_sp h0 k ((e _).mp (Sp.of h0 h.rows ⟨d, hd, rfl⟩)) j hj
  unfold proj at hs
  rw [sum_one (q := f) (nd_of k.nd) hf fun g hg hne => ?_] at hs
  · rw [← hdf, d3] at hs
    exact hs.trans (Cg.of_eq (by omega))
  · have hgd : g.1 ∈ D.map (·.1) := by rw [hk]; exact List.mem_map.mpr ⟨g, hg, rfl⟩
    obtain ⟨c, hc, hcg⟩ := List.mem_map.mp hgd
    rw [← hcg, h.off d hd c hc fun q => hne (key_inj k.nd hg hf (hcg ▸ hdf ▸ q.symm))]
    omega
end
end Lin

set_option maxHeartbeats 1000000
/-! Lin7: the table of the rows with product 0; as many independent columns as rows. Plain Lean. -/
namespace Lin
section
variable {p : Int} {n : Nat} {D E : Dic} {x v w r : Row} {rows : List Row} {R R' : Row → Prop}
/-- the table of all rows whose product with each of the rows is 0 -/
def kerT (p : Int) (n : Nat) (rows : List Row) : Dic := tabR p n ((nulT p n (tabR p n rows)).map (·.2))
theorem ech_rw (h : Ech p n D) : ∀ r, r ∈ D.map (·.2) → Rw p n r := fun r hr => by
  obtain ⟨e, he, rfl⟩ := List.mem_map.mp hr
  exact (h.ok e he).2.1
theorem ker_same (hp : 0 < p) (hR : ∀ r, R r → Rw p n r) (hR' : ∀ r, R' r → Rw p n r) (e : ∀ x, Sp p n R x ↔ Sp p n R' x) : Ker p n R v ↔ Ker p n R' v :=
  ⟨ker_le hp hR fun x hx => (e x).mpr (Sp.of hp hR' hx), ker_le hp hR' fun x hx => (e x).mp (Sp.of hp hR hx)⟩
theorem kerT_red (hp : Pr p) (hr : ∀ r, r ∈ rows → Rw p n r) : Red p n (kerT p n rows) ∧ ((kerT p n rows).map (·.1)).Pairwise (· ≤ ·) ∧ (∀ x, Sp p n (rowsOf (kerT p n rows)) x ↔ Ker p n (· ∈ rows) x) ∧ (kerT p n rows).length + (tabR p n rows).length = n := by
  have h1 := hp.pos
  have h0 : 0 < p := by omega
  obtain ⟨t1, t2, t3⟩ := tabR_red hp hr
  obtain ⟨k1, k2, k3⟩ := tabR_red hp (ech_rw (nulT_ech (D := tabR p n rows) (n := n) h1))
  refine ⟨k1, k2, fun x => ?_, ?_⟩
  · refine (k3 x).trans ?_
    rw [rows_is]
    exact (ker_nul h1 t1.ech).symm.trans (ker_same h0 t1.rows hr t3)
  · have h2 : (kerT p n rows).length = (nulT p n (tabR p n rows)).length := ech_len hp k1.ech (nulT_ech h1) fun x => by
      have := k3 x
      rw [rows_is] at this
      exact this
    rw [h2]
    unfold nulT
    rw [List.length_map]
    exact free_len (fun e he => (t1.ok e he).1) t1.nd
theorem kerT_again (hp : Pr p) (hr : ∀ r, r ∈ rows → Rw p n r) : kerT p n ((kerT p n rows).map (·.2)) = tabR p n rows := by
  have h1 := hp.pos
  have h0 : 0 < p := by omega
  obtain ⟨t1, t2, t3⟩ := tabR_red hp hr
  obtain ⟨k1, k2, k3, _⟩ := kerT_red hp hr
  obtain ⟨m1, m2, m3, _⟩ := kerT_red hp (ech_rw k1.ech)
  refine red_uniq hp m1 t1 m2 t2 fun x => ?_
  refine (m3 x).trans ?_
  rw [rows_is]
  refine Iff.trans ?_ (ker_ker h1 t1.ech)
  refine ker_same h0 k1.rows (nulT_ech h1).rows fun y => ?_
  exact (k3 y).trans ((ker_same h0 t1.rows hr t3).symm.trans (ker_nul h1 t1.ech))
/-! ### columns -/
def colR (rows : List Row) (k : Nat) : Row := rows.map fun r => at_ r k
def colsL (n : Nat) (rows : List Row) : List Row := (List.range n).map (colR rows)
def row_ (rows : List Row) (i : Nat) : Row := rows.getD i []
theorem row_mem {i : Nat} (h : i < rows.length) : row_ rows i ∈ rows := by
  unfold row_
  rw [List.getD_eq_getElem?_getD, List.getElem?_eq_getElem h]
  exact List.getElem_mem h
theorem col_at {i k : Nat} (h : i < rows.length) : at_ (colR rows k) i = at_ (row_ rows i) k := by
  unfold colR row_
  conv => lhs; unfold at_
  rw [List.getD_eq_getElem?_getD, List.getElem?_map, List.getD_eq_getElem?_getD, List.getElem?_eq_getElem h]
  rfl
theorem col_rw (hr : ∀ r, r ∈ rows → Rw p n r) {k : Nat} (hk : k < n) : Rw p rows.length (colR rows k) := ⟨by simp [colR], fun x hx => by
  obtain ⟨r, h, rfl⟩ := List.mem_map.mp hx
  exact (hr r h).at hk⟩
theorem cols_rw (hr : ∀ r, r ∈ rows → Rw p n r) : ∀ c, c ∈ colsL n rows → Rw p rows.length c := fun c hc => by
  obtain ⟨k, hk, rfl⟩ := List.mem_map.mp hc
  exact col_rw hr (List.mem_range.mp hk)
/-- what a row of the span is made of -/
theorem sp_comb (hp : 0 < p) (hr : ∀ r, r ∈ rows → Rw p n r) (hx : Sp p n (· ∈ rows) x) : ∃ w : Nat → Int, ∀ j, j < n → Cg p (at_ x j) (S rows.length fun i => w i * at_ (row_ rows i) j) := by
  induction hx with
  | zero => exact ⟨fun _ => 0, fun j _ => by rw [zero_at, S_none fun k _ => Int.zero_mul _]; exact Cg.refl p 0⟩
  | @step x r a hx hrr ih =>
    obtain ⟨w, hw⟩ := ih
    obtain ⟨q, hq⟩ := List.getElem?_of_mem hrr
    obtain ⟨hq1, hq2⟩ := List.getElem?_eq_some_iff.mp hq
    refine ⟨fun i => w i + if i = q then a else 0, fun j hj => ?_⟩
    have h1 := (ax_is hp (Is.self (hx.rw_ hp hr)) (Is.self (hr r hrr)) a).cg j hj
    refine h1.trans (((hw j hj).add (Cg.refl p (a * at_ r j))).trans (Cg.of_eq ?_))
    rw [S_congr (f := fun i => (w i + if i = q then a else 0) * at_ (row_ rows i) j) (g := fun i => w i * at_ (row_ rows i) j + if i = q then a * at_ (row_ rows i) j else 0) fun k _ => by
      by_cases h : k = q
      · rw [if_pos h, if_pos h]; grind
      · rw [if_neg h, if_neg h]; grind, S_add]
    congr 1
    rw [S_drop _ hq1, if_pos rfl, S_none fun k _ => by
      by_cases h : k = q
      · rw [if_pos h]
      · rw [if_neg h, if_neg h]]
    have : row_ rows q = r := by
      unfold row_
      rw [List.getD_eq_getElem?_getD, hq]
      rfl
    rw [this]
    omega
theorem cols_len (hp : Pr p) (hr : ∀ r, r ∈ rows → Rw p n r) : (tabR p rows.length (colsL n rows)).length = (tabR p n rows).length := by
  have h1 := hp.pos
  have h0 : 0 < p := by omega
  obtain ⟨t1, t2, t3⟩ := tabR_red hp hr
  obtain ⟨c1, c2, c3⟩ := tabR_red hp (cols_rw hr)
  generalize tabR p n rows = D at t1 t2 t3 ⊢
  have hC : ∀ c, c ∈ D.map (fun e => colR rows e.1) → Rw p rows.length c := fun c hc => by
    obtain ⟨e, he, rfl⟩ := List.mem_map.mp hc
    exact col_rw hr (t1.ok e he).1
  have same : ∀ x, Sp p rows.length (· ∈ colsL n rows) x ↔ Sp p rows.length (· ∈ D.map fun e => colR rows e.1) x := fun x => by
    constructor
    · refine Sp.le h0 hC fun c hc => ?_
      obtain ⟨k, hk, rfl⟩ := List.mem_map.mp hc
      have hk := List.mem_range.mp hk
      have h2 := sp_sum h0 hC (D.map fun e => (at_ e.2 k, colR rows e.1)) fun c hc => by
        obtain ⟨e, he, rfl⟩ := List.mem_map.mp hc
        exact List.mem_map.mpr ⟨e, he, rfl⟩
      have h3 : colR rows k = mk rows.length fun i => ((D.map fun e => (at_ e.2 k, colR rows e.1)).map fun c => c.1 * at_ c.2 i).sum % p := (Is.self (col_rw hr hk)).eq (mk_is h0) fun i hi => by
        rw [List.map_map, col_at hi]
        refine (proj_sp h0 t1 ((t3 _).mpr (Sp.of h0 hr (row_mem hi))) k hk).trans (Cg.of_eq ?_)
        unfold proj
        congr 1
        refine List.map_congr_left fun e he => ?_
        show at_ (row_ rows i) e.1 * at_ e.2 k = at_ e.2 k * at_ (colR rows e.1) i
        rw [col_at hi]
        exact Int.mul_comm _ _
      rw [h3]
      exact h2
    · refine Sp.le h0 (cols_rw hr) fun c hc => Sp.of h0 (cols_rw hr) ?_
      obtain ⟨e, he, rfl⟩ := List.mem_map.mp hc
      exact List.mem_map.mpr ⟨e.1, List.mem_range.mpr (t1.ok e he).1, rfl⟩
  refine pow_inj hp ?_
  rw [← len_ech hp c1.ech]
  refine (len_same hp (ech_rw c1.ech) hC fun x => ?_).trans ?_
  · rw [rows_is]
    exact (c3 x).trans (same x)
  · rw [len_indep hp _ hC fun i c hi hs => ?_, List.length_map]
    rw [List.getElem?_map] at hi
    obtain ⟨e, he, rfl⟩ := Option.map_eq_some_iff.mp hi
    have hem := List.mem_of_getElem? he
    obtain ⟨e1, e2, e3, e4⟩ := t1.ok e hem
    obtain ⟨w, hw⟩ := sp_comb h0 hr ((t3 _).mp (Sp.of h0 t1.rows ⟨e, hem, rfl⟩))
    have wi := mk_is (p := p) h0 (n := rows.length) (f := w)
    generalize mk rows.length (fun i => w i % p) = wr at wi
    have hdt : ∀ k, k < n → Cg p (dt rows.length (colR rows k) wr) (at_ e.2 k) := fun k hk => by
      refine (dt_cg wi).trans (Cg.trans (Cg.of_eq ?_) (hw k hk).symm)
      exact S_congr fun i hi => by rw [col_at hi]; exact Int.mul_comm _ _
    have hker : Ker p rows.length (· ∈ (D.map fun e => colR rows e.1).take i) wr := ⟨wi.rw_, fun c hc => by
      rw [← List.map_take] at hc
      obtain ⟨g, hg, rfl⟩ := List.mem_map.mp hc
      have hgm := List.mem_of_mem_take hg
      refine (hdt g.1 (t1.ok g hgm).1).trans (Cg.of_eq (t1.off e hem g hgm fun q => ?_))
      have := key_inj t1.nd hem hgm q
      subst this
      obtain ⟨j, hj⟩ := List.getElem?_of_mem hg
      rw [List.getElem?_take] at hj
      split at hj
      · obtain ⟨a1, a2⟩ := List.getElem?_eq_some_iff.mp he
        obtain ⟨b1, b2⟩ := List.getElem?_eq_some_iff.mp hj
        have nd := List.pairwise_iff_getElem.mp (nd_of t1.nd) j i b1 a1 (by omega)
        exact nd (b2.trans a2.symm)
      · cases hj⟩
    have h5 := ker_sp h0 (fun c hc => hC c (List.mem_of_mem_take hc)) hker hs
    have h6 := (hdt e.1 e1).symm.trans h5
    rw [e3] at h6
    have := h6.eq (by omega) (by omega) (by omega) (by omega)
    omega
/-! ### sums of rows by weights -/
def totR (p : Int) (n : Nat) (rows : List Row) (w : Row) : Nat → Row
  | 0 => zeroR n
  | k + 1 => ax p (totR p n rows w k) (row_ rows k) (at_ w k)
theorem tot_is (hp : 0 < p) (hr : ∀ r, r ∈ rows → Rw p n r) : ∀ k, k ≤ rows.length → Is p n (totR p n rows w k) fun j => S k fun i => at_ w i * at_ (row_ rows i) j
  | 0, _ => zero_is hp
  | k + 1, h => ax_is hp (tot_is hp hr k (by omega)) (Is.self (hr _ (row_mem (by omega)))) (at_ w k)
theorem tot_zero (hp : 0 < p) (hr : ∀ r, r ∈ rows → Rw p n r) (hw : Rw p rows.length w) : totR p n rows w rows.length = zeroR n ↔ Ker p rows.length (· ∈ colsL n rows) w := by
  have h := tot_is (w := w) hp hr rows.length (Nat.le_refl _)
  have hd : ∀ k, k < n → Cg p (at_ (totR p n rows w rows.length) k) (dt rows.length (colR rows k) w) := fun k hk => (h.cg k hk).trans (Cg.of_eq (S_congr fun i hi => by rw [col_at hi]; exact Int.mul_comm _ _))
  constructor
  · intro e
    refine ⟨hw, fun c hc => ?_⟩
    obtain ⟨k, hk, rfl⟩ := List.mem_map.mp hc
    have := hd k (List.mem_range.mp hk)
    rw [e, zero_at] at this
    exact this.symm
  · intro k
    refine h.eq (zero_is hp) fun j hj => ?_
    refine (h.cg j hj).symm.trans ((hd j hj).trans (k.2 _ (List.mem_map.mpr ⟨j, List.mem_range.mpr hj, rfl⟩)))
end
end Lin

set_option Elab.async false
set_option maxRecDepth 100000
set_option maxHeartbeats 1000000
/-! Fd13: all rows, ascending. -/
namespace Fd
open PySem Lin
def allL (p : Int) : Nat → List Row
  | 0 => [[]]
  | n + 1 => (allL p n).flatMap fun w => (List.range p.toNat).map fun (a : Nat) => w ++ [(a : Int)]
theorem all_len (p : Int) : ∀ n, (allL p n).length = p.toNat ^ n
  | 0 => rfl
  | n + 1 => by
    have : ∀ l : List Row, (l.flatMap fun w => (List.range p.toNat).map fun (a : Nat) => w ++ [(a : Int)]).length = l.length * p.toNat := fun l => by
      induction l with
      | nil => simp
      | cons w l ih => rw [List.flatMap_cons, List.length_append, ih, List.length_map, List.length_range, List.length_cons, Nat.succ_mul]; omega
    rw [allL, this, all_len p n, Nat.pow_succ]
theorem all_mem {p : Int} (hp : 0 < p) : ∀ {n : Nat} {v : Row}, v ∈ allL p n ↔ Rw p n v
  | 0, v => by
    constructor
    · intro h
      rw [show v = [] by simpa [allL] using h]
      exact ⟨rfl, fun x hx => by cases hx⟩
    · intro h
      have := List.length_eq_zero_iff.mp h.len
      subst this
      simp [allL]
  | n + 1, v => by
    rw [allL, List.mem_flatMap]
    constructor
    · rintro ⟨w, hw, hv⟩
      obtain ⟨a, ha, rfl⟩ := List.mem_map.mp hv
      have h1 := (all_mem hp).mp hw
      have h2 := List.mem_range.mp ha
      refine ⟨by rw [List.length_append, h1.len]; rfl, fun x hx => ?_⟩
      rcases List.mem_append.mp hx with h | h
      · exact h1.bd x h
      · rw [List.mem_singleton.mp h]; omega
    · intro h
      have hne : v ≠ [] := fun q => by have := h.len; rw [q] at this; simp at this
      have hl := h.bd _ (List.getLast_mem hne)
      refine ⟨v.dropLast, (all_mem hp).mpr ⟨by rw [List.length_dropLast, h.len]; rfl, fun x hx => h.bd x (List.dropLast_subset v hx)⟩, List.mem_map.mpr ⟨(v.getLast hne).toNat, List.mem_range.mpr (by omega), ?_⟩⟩
      rw [Int.toNat_of_nonneg hl.1]
      exact List.dropLast_concat_getLast hne
theorem cod_app1 {p a b : Int} (hab : a < b) (ha : 0 ≤ a ∧ a < p) (hb : 0 ≤ b ∧ b < p) : ∀ v : Row, Bd p v → cod p (v ++ [a]) < cod p (v ++ [b])
  | [], _ => TS.code_lt (r := []) (q := []) rfl (fun x hx => by cases hx) (fun x hx => by cases hx) hab
  | x :: v, h => (TS.code_same (B := p) (d := x) (r := v ++ [a]) (q := v ++ [b]) (by simp)).mpr (cod_app1 hab ha hb v fun y hy => h y (List.mem_cons_of_mem _ hy))
theorem bd_app {p a : Int} {v : Row} (h : Bd p v) (ha : 0 ≤ a ∧ a < p) : TS.Bd p (v ++ [a]) := fun x hx => by
  rcases List.mem_append.mp hx with q | q
  · exact h x q
  · rw [List.mem_singleton.mp q]; exact ha
theorem cod_app2 {p a b : Int} (ha : 0 ≤ a ∧ a < p) (hb : 0 ≤ b ∧ b < p) : ∀ {v w : Row}, v.length = w.length → Bd p v → Bd p w → cod p v < cod p w → cod p (v ++ [a]) < cod p (w ++ [b])
  | [], [], _, _, _, h => absurd h (by unfold cod; omega)
  | x :: v, y :: w, hl, h1, h2, h => by
    have hl' : v.length = w.length := by simpa using hl
    have b1 : Bd p v := fun z hz => h1 z (List.mem_cons_of_mem _ hz)
    have b2 : Bd p w := fun z hz => h2 z (List.mem_cons_of_mem _ hz)
    rcases Int.lt_trichotomy x y with q | q | q
    · exact TS.code_lt (r := v ++ [a]) (q := w ++ [b]) (by simp [hl']) (bd_app b1 ha) (bd_app b2 hb) q
    · subst q
      exact (TS.code_same (B := p) (d := x) (r := v ++ [a]) (q := w ++ [b]) (by simp [hl'])).mpr (cod_app2 ha hb hl' b1 b2 ((TS.code_same hl').mp h))
    · have := TS.code_lt (B := p) hl'.symm b2 b1 q
      unfold cod at h
      omega
theorem pw_flat {α : Type} {P : α → α → Prop} {f : Row → List α} : ∀ {l : List Row}, (∀ w, w ∈ l → (f w).Pairwise P) → l.Pairwise (fun v w => ∀ x, x ∈ f v → ∀ y, y ∈ f w → P x y) → (l.flatMap f).Pairwise P
  | [], _, _ => by simp
  | w :: l, h, hl => by
    rw [List.pairwise_cons] at hl
    rw [List.flatMap_cons, List.pairwise_append]
    refine ⟨h w (by simp), pw_flat (fun v hv => h v (List.mem_cons_of_mem _ hv)) hl.2, fun x hx y hy => ?_⟩
    obtain ⟨v, hv, hy⟩ := List.mem_flatMap.mp hy
    exact hl.1 v hv x hx y hy
theorem all_sorted {p : Int} (hp : 0 < p) : ∀ n, (allL p n).Pairwise fun v w => cod p v < cod p w
  | 0 => by simp [allL]
  | n + 1 => by
    rw [allL]
    refine pw_flat (fun w hw => ?_) ?_
    · have hr := (all_mem hp).mp hw
      rw [List.pairwise_map]
      refine List.Pairwise.imp_of_mem ?_ (List.pairwise_lt_range)
      intro a b ha hb hab
      have := List.mem_range.mp ha
      have := List.mem_range.mp hb
      exact cod_app1 (by omega) (by omega) (by omega) w hr.bd
    · refine List.Pairwise.imp_of_mem ?_ (all_sorted hp n)
      intro v w hv hw h x hx y hy
      obtain ⟨a, ha, rfl⟩ := List.mem_map.mp hx
      obtain ⟨b, hb, rfl⟩ := List.mem_map.mp hy
      have h1 := (all_mem hp).mp hv
      have h2 := (all_mem hp).mp hw
      have := List.mem_range.mp ha
      have := List.mem_range.mp hb
      exact cod_app2 (by omega) (by omega) (h1.len.trans h2.len.symm) h1.bd h2.bd h
/-- all rows of a span, ascending -/
theorem all_due {p : Int} {n : Nat} (hp : Pr p) {rows : List Row} (hr : ∀ r, r ∈ rows → Rw p n r) {f : Row → Bool} (h : ∀ v, Rw p n v → (f v = true ↔ Lin.Sp p n (· ∈ rows) v)) : (allL p n).filter f = sortR p (foundL p n rows) := by
  have h0 : 0 < p := by have := hp.pos; omega
  have hs := all_sorted h0 n
  have nd : (allL p n).Nodup := hs.imp fun q e => by subst e; omega
  refine sortR_of (n := n) (fun r q => ?_) ?_ ?_
  · have := (((foundL_all hp hr).mem r).mp q).rw_ h0 hr
    exact ⟨this.len, this.bd⟩
  · refine (List.perm_ext_iff_of_nodup (nd.sublist List.filter_sublist) (foundL_all hp hr).nd).mpr fun v => ?_
    rw [List.mem_filter, all_mem h0, (foundL_all hp hr).mem]
    constructor
    · rintro ⟨h1, h2⟩
      exact (h v h1).mp h2
    · intro h1
      have := h1.rw_ h0 hr
      exact ⟨this, (h v this).mpr h1⟩
  · refine List.Pairwise.imp ?_ (hs.sublist List.filter_sublist)
    intro a b q
    show cod p a ≤ cod p b
    omega
end Fd

set_option maxHeartbeats 1000000
/-! Lin8: solutions, by the table of the rows with their right sides behind. Plain Lean. -/
namespace Lin
section
variable {p : Int} {n : Nat} {D E : Dic} {x v w r : Row} {rows : List Row} {R R' : Row → Prop}
/-- the rows with the right sides behind -/
def widerL (p : Int) (rows : List Row) (right : List Int) : List Row := (rows.zip right).map fun e => e.1 ++ [e.2 % p]
theorem wider_rw (hp : 0 < p) (hr : ∀ r, r ∈ rows → Rw p n r) (right : List Int) : ∀ r, r ∈ widerL p rows right → Rw p (n + 1) r := fun r h => by
  obtain ⟨e, he, rfl⟩ := List.mem_map.mp h
  have h1 := hr e.1 (List.of_mem_zip he).1
  refine ⟨by rw [List.length_append, h1.len]; rfl, fun x hx => ?_⟩
  rcases List.mem_append.mp hx with q | q
  · exact h1.bd x q
  · rw [List.mem_singleton.mp q]
    exact ⟨Int.emod_nonneg _ (by omega), Int.emod_lt_of_pos _ hp⟩
theorem at_app {k : Nat} {b : Int} (h : k < v.length) : at_ (v ++ [b]) k = at_ v k := by
  unfold at_
  rw [List.getD_eq_getElem?_getD, List.getD_eq_getElem?_getD, List.getElem?_append_left h]
theorem at_last {b : Int} : at_ (v ++ [b]) v.length = b := by
  unfold at_
  rw [List.getD_eq_getElem?_getD, List.getElem?_append_right (Nat.le_refl _)]
  simp
/-- v has the product with r that stands behind r -/
def Fit (p : Int) (n : Nat) (v r : Row) : Prop := Cg p (S n fun k => at_ r k * at_ v k) (at_ r n)
theorem fit_sp (hp : 0 < p) (hR : ∀ r, R r → Rw p (n + 1) r) (h : ∀ r, R r → Fit p n v r) (hx : Sp p (n + 1) R x) : Fit p n v x := by
  induction hx with
  | zero => unfold Fit; rw [S_none fun k _ => by rw [zero_at]; exact Int.zero_mul _, zero_at]; exact Cg.refl p 0
  | @step x r a hx hr ih =>
    have hi := ax_is hp (Is.self (hx.rw_ hp hR)) (Is.self (hR r hr)) a
    unfold Fit at ih ⊢
    have h1 : Cg p (S n fun k => at_ (ax p x r a) k * at_ v k) (S n (fun k => at_ x k * at_ v k) + a * S n fun k => at_ r k * at_ v k) := by
      rw [← S_mul, ← S_add]
      exact S_cg fun k hk => ((hi.cg k (by omega)).mul (Cg.refl p (at_ v k))).trans (Cg.of_eq (by grind))
    exact h1.trans ((ih.add ((Cg.refl p a).mul (h r hr))).trans (hi.cg n (by omega)).symm)
theorem fit_wider (hp : 0 < p) (hr : ∀ r, r ∈ rows → Rw p n r) {right : List Int} (hl : right.length = rows.length) : (∀ r, r ∈ widerL p rows right → Fit p n v r) ↔ ∀ i, i < rows.length → dt n (row_ rows i) v % p = right.getD i 0 % p := by
  have key : ∀ i (hi : i < rows.length), (widerL p rows right)[i]? = some (row_ rows i ++ [right.getD i 0 % p]) := fun i hi => by
    unfold widerL row_
    rw [List.getElem?_map, List.getElem?_eq_getElem (by rw [List.length_zip]; omega), List.getElem_zip, List.getD_eq_getElem?_getD, List.getD_eq_getElem?_getD, List.getElem?_eq_getElem hi, List.getElem?_eq_getElem (by omega)]
    rfl
  have fit : ∀ i, i < rows.length → (Fit p n v (row_ rows i ++ [right.getD i 0 % p]) ↔ dt n (row_ rows i) v % p = right.getD i 0 % p) := fun i hi => by
    have hrr := hr _ (row_mem hi)
    unfold Fit
    have e1 : (S n fun k => at_ (row_ rows i ++ [right.getD i 0 % p]) k * at_ v k) = dt n (row_ rows i) v := S_congr fun k hk => by rw [at_app (by rw [hrr.len]; exact hk)]
    have e2 : at_ (row_ rows i ++ [right.getD i 0 % p]) n = right.getD i 0 % p := by
      have := at_last (v := row_ rows i) (b := right.getD i 0 % p)
      rwa [hrr.len] at this
    rw [e1, e2]
    constructor
    · intro q
      have := q.emod hp
      rwa [Int.emod_emod] at this
    · intro q
      rw [← q]
      exact (Cg.mod p _).symm
  constructor
  · exact fun h i hi => (fit i hi).mp (h _ (List.mem_of_getElem? (key i hi)))
  · intro h r hr'
    obtain ⟨i, hi⟩ := List.getElem?_of_mem hr'
    have hlt : i < rows.length := by
      have := (List.getElem?_eq_some_iff.mp hi).1
      unfold widerL at this
      rw [List.length_map, List.length_zip] at this
      omega
    rw [key i hlt] at hi
    cases hi
    exact (fit i hlt).mpr (h i hlt)
/-- the row with what stands behind each row of the table at its pivot -/
def solR (n : Nat) (D : Dic) : Row := mk n fun k => if k ∈ D.map (·.1) then at_ (lookD D k) n else 0
theorem sol_rw (hp : 0 < p) (h : Ech p (n + 1) D) : Rw p n (solR n D) := ⟨by simp [solR, mk], fun x hx => by
  obtain ⟨k, hk, rfl⟩ := List.mem_map.mp hx
  by_cases hm : k ∈ D.map (·.1)
  · rw [if_pos hm]
    obtain ⟨e, he, rfl⟩ := List.mem_map.mp hm
    rw [lookD_of h.nd he]
    exact (h.ok e he).2.1.at (by omega)
  · rw [if_neg hm]; omega⟩
theorem sol_piv (h : Ech p (n + 1) D) {e : Nat × Row} (he : e ∈ D) (hn : e.1 < n) : at_ (solR n D) e.1 = at_ e.2 n := by
  unfold solR
  rw [mk_at hn, if_pos (List.mem_map.mpr ⟨e, he, rfl⟩), lookD_of h.nd he]
theorem sol_off {k : Nat} (hk : k < n) (hm : ¬ k ∈ D.map (·.1)) : at_ (solR n D) k = 0 := by
  unfold solR
  rw [mk_at hk, if_neg hm]
/-- what a row with 0 at the free places has as product with a row of the table -/
theorem prod_piv (h : Ech p (n + 1) D) (hl : ∀ e, e ∈ D → e.1 < n) (h0 : ∀ k, k < n → ¬ k ∈ D.map (·.1) → at_ v k = 0) {e : Nat × Row} (he : e ∈ D) : (S n fun k => at_ e.2 k * at_ v k) = at_ v e.1 := by
  rw [S_split hl h.nd, sum_none fun k hk => by
    obtain ⟨h1, h2⟩ := free_mem.mp hk
    rw [h0 k h1 h2]; omega, sum_one (q := e) (nd_of h.nd) he fun g hg hne => by rw [h.off e he g hg fun q => hne (key_inj h.nd hg he q.symm)]; omega, (h.ok e he).2.2]
  omega
theorem sol_fits (hp : 0 < p) (h : Ech p (n + 1) D) (hl : ∀ e, e ∈ D → e.1 < n) : ∀ r, rowsOf D r → Fit p n (solR n D) r := fun r ⟨e, he, q⟩ => by
  rw [← q]
  unfold Fit
  rw [prod_piv h hl (fun k hk hm => sol_off hk hm) he, sol_piv h he (hl e he)]
  exact Cg.refl p _
theorem sol_one (hp : 0 < p) (h : Ech p (n + 1) D) (hl : ∀ e, e ∈ D → e.1 < n) (hv : Rw p n v) (h0 : ∀ k, k < n → ¬ k ∈ D.map (·.1) → at_ v k = 0) (hf : ∀ r, rowsOf D r → Fit p n v r) : v = solR n D :=
  row_ext hv (sol_rw hp h) fun k hk => by
    by_cases hm : k ∈ D.map (·.1)
    · obtain ⟨e, he, rfl⟩ := List.mem_map.mp hm
      have h1 := hf e.2 ⟨e, he, rfl⟩
      unfold Fit at h1
      rw [prod_piv h hl h0 he] at h1
      rw [sol_piv h he hk]
      have a1 := hv.at hk
      have a2 := (h.ok e he).2.1.at (show n < n + 1 by omega)
      exact h1.eq a1.1 a1.2 a2.1 a2.2
    · rw [h0 k hk hm, sol_off hk hm]
/-- a pivot behind all places: nothing fits -/
theorem no_fit (hp : Pr p) (h : Red p (n + 1) D) {e : Nat × Row} (he : e ∈ D) (hn : e.1 = n) (hf : Fit p n v e.2) : False := by
  have h1 := hp.pos
  obtain ⟨e1, e2, e3, e4⟩ := h.ok e he
  unfold Fit at hf
  rw [S_none fun k hk => by rw [e4 k (by omega)]; exact Int.zero_mul _] at hf
  rw [← hn, e3] at hf
  have := hf.eq (by omega) (by omega) (by omega) (by omega)
  omega
/-! ### the pivots of the rows without what stands behind -/
def cutD (D : Dic) : Dic := D.map fun e => (e.1, e.2.dropLast)
theorem at_cut {k : Nat} (h : v.length = n + 1) (hk : k < n) : at_ v.dropLast k = at_ v k := by
  unfold at_
  rw [List.getD_eq_getElem?_getD, List.getD_eq_getElem?_getD, List.getElem?_dropLast, if_pos (by omega)]
theorem cut_rw (h : Rw p (n + 1) v) : Rw p n v.dropLast := ⟨by rw [List.length_dropLast, h.len]; rfl, fun x hx => h.bd x (List.dropLast_subset v hx)⟩
theorem cut_ax (hp : 0 < p) (hx : Rw p (n + 1) x) (hv : Rw p (n + 1) v) (a : Int) : (ax p x v a).dropLast = ax p x.dropLast v.dropLast a := by
  have h1 := ax_is hp (Is.self hx) (Is.self hv) a
  have h2 := ax_is hp (Is.self (cut_rw hx)) (Is.self (cut_rw hv)) a
  refine (Is.self (cut_rw h1.rw_)).eq h2 fun k hk => ?_
  rw [at_cut h1.rw_.len hk, at_cut hx.len hk, at_cut hv.len hk]
  exact h1.cg k (by omega)
theorem cut_zero : (zeroR (n + 1)).dropLast = zeroR n := by
  unfold zeroR
  rw [List.range_succ, List.map_append]
  exact List.dropLast_concat
theorem cut_sp (hp : 0 < p) (hR : ∀ r, R r → Rw p (n + 1) r) (h : ∀ r, R r → R' r.dropLast) (hx : Sp p (n + 1) R x) : Sp p n R' x.dropLast := by
  induction hx with
  | zero => rw [cut_zero]; exact .zero
  | @step x r a hx hr ih => rw [cut_ax hp (hx.rw_ hp hR) (hR r hr)]; exact .step a ih (h r hr)
theorem sp_cut (hp : 0 < p) (hR : ∀ r, R r → Rw p (n + 1) r) (h : ∀ r, R' r → ∃ s, R s ∧ s.dropLast = r) (hx : Sp p n R' x) : ∃ y, Sp p (n + 1) R y ∧ y.dropLast = x := by
  induction hx with
  | zero => exact ⟨_, .zero, cut_zero⟩
  | @step x r a hx hr ih =>
    obtain ⟨y, hy, rfl⟩ := ih
    obtain ⟨s, hs, rfl⟩ := h r hr
    exact ⟨_, .step a hy hs, cut_ax hp (hy.rw_ hp hR) (hR s hs) a⟩
theorem cut_red (hp : 0 < p) (h : Red p (n + 1) D) (hl : ∀ e, e ∈ D → e.1 < n) : Red p n (cutD D) := ⟨fun e he => by
  obtain ⟨f, hf, rfl⟩ := List.mem_map.mp he
  obtain ⟨f1, f2, f3, f4⟩ := h.ok f hf
  have hlt := hl f hf
  exact ⟨hlt, cut_rw f2, by show at_ f.2.dropLast f.1 = 1; rw [at_cut f2.len hlt, f3], fun k hk => by have hk : k < f.1 := hk; show at_ f.2.dropLast k = 0; rw [at_cut f2.len (by omega), f4 k hk]⟩, fun e he g hg hne => by
  obtain ⟨f, hf, rfl⟩ := List.mem_map.mp he
  obtain ⟨f', hf', rfl⟩ := List.mem_map.mp hg
  show at_ f.2.dropLast f'.1 = 0
  rw [at_cut (h.ok f hf).2.1.len (hl f' hf'), h.off f hf f' hf' hne], by
  have : (cutD D).map (·.1) = D.map (·.1) := by unfold cutD; rw [List.map_map]; rfl
  rw [this]
  exact h.nd⟩
theorem cut_keys : (cutD D).map (·.1) = D.map (·.1) := by unfold cutD; rw [List.map_map]; rfl
theorem wider_cut (hr : ∀ r, r ∈ rows → Rw p n r) {right : List Int} (hl : right.length = rows.length) : (widerL p rows right).map List.dropLast = rows := by
  unfold widerL
  rw [List.map_map]
  have : ((List.dropLast ∘ fun e : Row × Int => e.1 ++ [e.2 % p])) = Prod.fst := funext fun e => List.dropLast_concat
  rw [this, List.map_fst_zip (by omega)]
/-- where something fits, the pivots are those of the rows alone -/
theorem wider_keys (hp : Pr p) (hr : ∀ r, r ∈ rows → Rw p n r) {right : List Int} (hl : right.length = rows.length) (hn : ∀ e, e ∈ tabR p (n + 1) (widerL p rows right) → e.1 < n) : (tabR p (n + 1) (widerL p rows right)).map (·.1) = (tabR p n rows).map (·.1) := by
  have h0 : 0 < p := by have := hp.pos; omega
  have hw := wider_rw h0 hr right
  obtain ⟨t1, t2, t3⟩ := tabR_red hp hw
  obtain ⟨u1, u2, u3⟩ := tabR_red hp hr
  have hc := cut_red h0 t1 hn
  rw [← cut_keys]
  refine congrArg (List.map _) (red_uniq hp hc u1 (by rw [cut_keys]; exact t2) u2 fun x => ?_)
  refine Iff.trans ?_ (u3 x).symm
  constructor
  · intro hx
    obtain ⟨y, hy, rfl⟩ := sp_cut (R := rowsOf (tabR p (n + 1) (widerL p rows right))) h0 t1.rows (fun r ⟨e, he, q⟩ => by
      obtain ⟨f, hf, rfl⟩ := List.mem_map.mp he
      exact ⟨f.2, ⟨f, hf, rfl⟩, q⟩) hx
    refine cut_sp h0 hw (fun r hr' => ?_) ((t3 y).mp hy)
    rw [← wider_cut hr hl]
    exact List.mem_map.mpr ⟨r, hr', rfl⟩
  · intro hx
    obtain ⟨y, hy, rfl⟩ := sp_cut (R := (· ∈ widerL p rows right)) h0 hw (fun r hr' => by
      have hr' : r ∈ rows := hr'
      rw [← wider_cut hr hl] at hr'
      obtain ⟨s, hs, q⟩ := List.mem_map.mp hr'
      exact ⟨s, hs, q⟩) hx
    exact cut_sp h0 t1.rows (fun r ⟨e, he, q⟩ => ⟨(e.1, e.2.dropLast), List.mem_map.mpr ⟨e, he, rfl⟩, by rw [← q]⟩) ((t3 y).mpr hy)
/-- what `solve` tells -/
def solve? (p : Int) (n : Nat) (rows : List Row) (right : List Int) : Option Row := if n ∈ (tabR p (n + 1) (widerL p rows right)).map (·.1) then none else some (solR n (tabR p (n + 1) (widerL p rows right)))
/-- v has the right products -/
def Has (p : Int) (n : Nat) (rows : List Row) (right : List Int) (v : Row) : Prop := Rw p n v ∧ ∀ i, i < rows.length → dt n (row_ rows i) v % p = right.getD i 0 % p
theorem solve_none (hp : Pr p) (hr : ∀ r, r ∈ rows → Rw p n r) {right : List Int} (hl : right.length = rows.length) (h : solve? p n rows right = none) (hv : Has p n rows right v) : False := by
  have h0 : 0 < p := by have := hp.pos; omega
  obtain ⟨t1, t2, t3⟩ := tabR_red hp (wider_rw h0 hr right)
  unfold solve? at h
  split at h
  · next q =>
    obtain ⟨e, he, hen⟩ := List.mem_map.mp q
    exact no_fit hp t1 he hen (fit_sp h0 (wider_rw h0 hr right) ((fit_wider h0 hr hl).mpr hv.2) ((t3 _).mp (Sp.of h0 t1.rows ⟨e, he, rfl⟩)))
  · cases h
theorem solve_some (hp : Pr p) (hr : ∀ r, r ∈ rows → Rw p n r) {right : List Int} (hl : right.length = rows.length) (h : solve? p n rows right = some x) :
    Has p n rows right x ∧ (∀ k, k < n → ¬ k ∈ (tabR p n rows).map (·.1) → at_ x k = 0) ∧ ∀ v, Has p n rows right v → (∀ k, k < n → ¬ k ∈ (tabR p n rows).map (·.1) → at_ v k = 0) → v = x := by
  have h0 : 0 < p := by have := hp.pos; omega
  have hw := wider_rw h0 hr right
  obtain ⟨t1, t2, t3⟩ := tabR_red hp hw
  unfold solve? at h
  split at h
  · cases h
  · next q =>
    cases h
    have hlt : ∀ e, e ∈ tabR p (n + 1) (widerL p rows right) → e.1 < n := fun e he => by
      have h1 := (t1.ok e he).1
      have h2 : e.1 ≠ n := fun z => q (List.mem_map.mpr ⟨e, he, z⟩)
      omega
    rw [← wider_keys hp hr hl hlt]
    refine ⟨⟨sol_rw h0 t1.ech, (fit_wider h0 hr hl).mp fun r hr' => fit_sp h0 t1.rows (sol_fits h0 t1.ech hlt) ((t3 _).mpr (Sp.of h0 hw hr'))⟩, fun k hk hm => sol_off hk hm, fun v hv hz => ?_⟩
    exact sol_one h0 t1.ech hlt hv.1 hz fun r ⟨e, he, q2⟩ => by
      rw [← q2]
      exact fit_sp h0 hw ((fit_wider h0 hr hl).mpr hv.2) ((t3 _).mp (Sp.of h0 t1.rows ⟨e, he, rfl⟩))
end
end Lin

set_option Elab.async false
set_option maxRecDepth 100000
set_option maxHeartbeats 2000000
/-! Fd14: stars, parameters that are lists or tuples, all, is, chains, slices of tuples, one's own list looked at. -/
namespace Fd
open PySem PyProof.Rows L2 StX
section
variable {Γ Γ' Γ1 Γ2 : En} {ta tb tc tl te : TE} {tr : TA} {d x y : PyData} {ds es : List PyData} {K : PySem.W.Frag}
theorem ea_star {t : Bool} (ha : Ev te Γ Γ1 (dSeq t ds)) (hb : EvA tr Γ1 Γ2 es) : EvA (tStar K te tr) Γ Γ2 (ds ++ es) := ⟨fun a m => ha.own a (hb.own a m), fun σ G H e s Q q => ha.run σ G H e s _ fun v G1 H1 n1 s1 r1 => by
  obtain ⟨a, xs, rfl, hq, ra⟩ := r1.seqE
  refine ⟨a, xs, rfl, ?_, hb.run σ G1 H1 n1.i s1 _ fun us G2 H2 n2 s2 r2 => q _ G2 H2 (n1.trans n2 (mo ha.own)) s2 ((ra.mono n2.g).append r2)⟩
  have := hq K H1 n1.i
  cases t
  · exact .inr this
  · exact .inl this⟩
/-! either of two ways to walk, either of two ways to take an item -/
def iOr (w1 w2 : TI) : TI := fun σ H R => w1 σ H R ∨ w2 σ H R
theorem pi_or {X : Cx} {tg l : Expr} {w1 w2 : TI} (h1 : PI X tg l w1) (h2 : PI X tg l w2) : PI X tg l (iOr w1 w2) := ⟨fun pins s σ H R I q => by
  rcases q with q | q
  · exact h1.run pins s σ H R I q
  · exact h2.run pins s σ H R I q⟩
theorem wk_or {w : Bool → TI} (t : Bool) (h : Wk (w t) Γ Γ1 ds) : Wk (iOr (w false) (w true)) Γ Γ1 ds := ⟨h.own, fun σ G H e s R q => by
  have := h.run σ G H e s R q
  cases t
  · exact .inl this
  · exact .inr this⟩
def rIxS (K : PySem.W.Frag) : R2 := fun x y H Q => rIxL K x y H Q ∨ rIxT K x y H Q
theorem k_ixS {X : Cx} (h : X.K = K) : IxR X (rIxS K) := fun value slice pins s σ H x y v u Q I r1 r2 q e => by
  rcases q with q | q
  · exact k_ixL h value slice pins s σ H x y v u Q I r1 r2 q e
  · exact k_ixT h value slice pins s σ H x y v u Q I r1 r2 q e
theorem x_ixS {t : Bool} {j : Int} (ha : Ev ta Γ Γ1 (dSeq t ds)) (hb : Ev tb Γ1 Γ2 (.int j)) (h0 : 0 ≤ j) (hd : ds[j.toNat]? = some d) : Ev (tOp (rIxS K) ta tb) Γ Γ2 d := by
  cases t
  · have h := x_ixL (K := K) ha hb h0 hd
    exact ⟨h.own, fun σ G H e s Q q => ha.run σ G H e s _ fun v G1 H1 n1 s1 r1 => hb.run σ G1 H1 n1.i s1 _ fun u G2 H2 n2 s2 r2 => .inl (by
        obtain ⟨p, xs, rfl, hp, ra⟩ := (r1.mono n2.g).lstE
        obtain ⟨w, hw, rw_⟩ := ra.get hd
        exact ⟨p, xs, j, w, rfl, r2.intE, SqL.of (n2.i _ _ hp), by rw [← Int.toNat_of_nonneg h0]; exact atI_nat hw, q w G2 H2 (n1.trans n2 (mo ha.own)) s2 rw_⟩)⟩
  · have h := x_ixT (K := K) ha hb h0 hd
    exact ⟨h.own, fun σ G H e s Q q => ha.run σ G H e s _ fun v G1 H1 n1 s1 r1 => hb.run σ G1 H1 n1.i s1 _ fun u G2 H2 n2 s2 r2 => .inr (by
        obtain ⟨p, xs, rfl, hp, ra⟩ := (r1.mono n2.g).tupE
        obtain ⟨w, hw, rw_⟩ := ra.get hd
        exact ⟨p, xs, j, w, rfl, r2.intE, SqT.of (n2.i _ _ hp), by rw [← Int.toNat_of_nonneg h0]; exact atI_nat hw, q w G2 H2 (n1.trans n2 (mo ha.own)) s2 rw_⟩)⟩
/-! all of a list of booleans; is; chains -/
theorem RpAll.bls {H : Hp} : ∀ {vs : List V} {bs : List Bool}, RpAll H vs (bs.map PyData.bool) → vs = bs.map V.bl
  | [], [], _ => rfl
  | v :: vs, b :: bs, h => by
    cases h with
    | cons h1 h2 =>
      rw [List.map_cons, ← RpAll.bls h2, h1.blE]
  | [], _ :: _, h => by cases h
  | _ :: _, [], h => by cases h
theorem ev_all {bs : List Bool} (ha : Ev ta Γ Γ1 (.list (bs.map .bool))) : Ev (tCB (rAll K) (tCons ta tNil)) Γ Γ1 (.bool (bs.all id)) := ⟨ha.own, fun σ G H e s Q q => ha.run σ G H e s _ fun v G1 H1 n1 s1 r1 => by
  obtain ⟨p, xs, rfl, hp, ra⟩ := r1.lstE
  have := ra.bls
  subst this
  exact ⟨p, bs, rfl, SqL.of (n1.i _ _ hp), q _ G1 H1 n1 s1 (.bl _)⟩⟩
theorem k_all {X : Cx} (h : X.K = K) (hc : X.calm = true) : CallR X (.builtin "all") (rAll K) := by subst h; exact cr_all hc
theorem ev_isB {a b : Bool} (ha : Ev ta Γ Γ1 (.bool a)) (hb : Ev tb Γ1 Γ2 (.bool b)) : Ev (tOp rIsB ta tb) Γ Γ2 (.bool (decide (a = b))) :=
  ⟨fun x m => ha.own x (hb.own x m), fun σ G H e s Q q => ha.run σ G H e s _ fun v G1 H1 n1 s1 r1 => hb.run σ G1 H1 n1.i s1 _ fun u G2 H2 n2 s2 r2 => ⟨a, b, r1.blE, r2.blE, q _ G2 H2 (n1.trans n2 (mo ha.own)) s2 (.bl _)⟩⟩
def isNo : PyData → Bool
  | .none => true
  | _ => false
theorem Rp.isNo {G : Hp} {v : V} {d : PyData} (h : Rp G v d) : decide (v = .non) = isNo d := by
  cases h <;> simp [Fd.isNo]
theorem ev_isN (ha : Ev ta Γ Γ1 d) : Ev (tOp (fun x y H Q => y = .non ∧ Q (.bl (decide (x = .non))) H) ta (tC .non)) Γ Γ1 (.bool (isNo d)) := ⟨ha.own, fun σ G H e s Q q => ha.run σ G H e s _ fun v G1 H1 n1 s1 r1 => ⟨rfl, by
  have := q (.bl (decide (v = .non))) G1 H1 n1 s1 (by rw [r1.isNo]; exact .bl _)
  exact this⟩⟩
theorem ev_notN (ha : Ev ta Γ Γ1 d) : Ev (tOp (fun x y H Q => y = .non ∧ Q (.bl (!decide (x = .non))) H) ta (tC .non)) Γ Γ1 (.bool (!isNo d)) := ⟨ha.own, fun σ G H e s Q q => ha.run σ G H e s _ fun v G1 H1 n1 s1 r1 => ⟨rfl, by
  have := q (.bl (!decide (v = .non))) G1 H1 n1 s1 (by rw [r1.isNo]; exact .bl _)
  exact this⟩⟩
theorem ev_chain {g h : Int → Int → Bool} {i j k : Int} (ha : Ev ta Γ Γ1 (.int i)) (hb : Ev tb Γ1 Γ2 (.int j)) (hc : Ev tc Γ2 Γ2 (.int k)) : Ev (tChain (rI0 fun i j => .bl (g i j)) (rI0 fun i j => .bl (h i j)) ta tb tc) Γ Γ2 (.bool (g i j && h j k)) :=
  ⟨fun x m => ha.own x (hb.own x m), fun σ G H e s Q q => ha.run σ G H e s _ fun v G1 H1 n1 s1 r1 => hb.run σ G1 H1 n1.i s1 _ fun u G2 H2 n2 s2 r2 => by
    have n12 := n1.trans n2 (mo ha.own)
    refine ⟨i, j, (r1.mono n2.g).intE, r2.intE, g i j, rfl, ?_⟩
    cases hg : g i j with
    | false => exact q _ G2 H2 n12 s2 (by rw [hg]; exact .bl _)
    | true =>
      refine hc.run σ G2 H2 n12.i s2 _ fun w G3 H3 n3 s3 r3 => ?_
      refine ⟨j, k, (r2.mono n3.g).intE, r3.intE, ?_⟩
      exact q _ G3 H3 (n12.trans n3 (mo fun x m => ha.own x (hb.own x m))) s3 (by rw [hg]; exact .bl _)⟩
/-- t[:-1] -/
theorem ev_slA {tlo thi : TO} (ha : Ev ta Γ Γ1 (.tuple ds)) (h1 : EvO tlo Γ1 Γ1 none) (h2 : EvO thi Γ1 Γ1 (some (-1))) : Ev (tSl (rSlA K) ta tlo thi) Γ Γ1 (.tuple (ds.take (ds.length - 1))) := ⟨ha.own, fun σ G H e s Q q => ha.run σ G H e s _ fun v G1 H1 n1 s1 r1 => h1.run σ G1 H1 n1.i s1 _ fun G2 H2 n2 s2 => h2.run σ G2 H2 n2.i s2 _ fun G3 H3 n3 s3 => by
  obtain ⟨p, xs, rfl, hp, ra⟩ := ((r1.mono n2.g).mono n3.g).tupE
  have n13 := (n1.trans n2 (mo ha.own)).trans n3 (mo ha.own)
  have e1 : HT.sIx xs.length 0 none = 0 := rfl
  have e2 : HT.sIx xs.length xs.length (some (-1)) = xs.length - 1 := by
    simp only [HT.sIx]
    rw [if_pos (by decide)]
    omega
  have ec : cutV xs none (some (-1)) = xs.take (xs.length - 1) := by
    unfold cutV
    rw [e1, e2, List.drop_zero, Nat.sub_zero]
  refine ⟨p, xs, rfl, SqT.of (n3.i _ _ hp), fun h => ?_, fun h l hl => ?_⟩
  · rw [e1, e2] at h
    have hx : xs = [] := List.length_eq_zero_iff.mp (by omega)
    subst hx
    cases ra
    exact q _ G3 H3 n13 s3 (.tup hp .nil)
  · rw [ec]
    have nd := new_dat (M := M0) n3.i hl (.tup (xs.take (xs.length - 1)))
    exact q _ _ _ (n13.trans nd fun _ z => z.elim) (s3.datNew n3.i hl _) (.tup upd_same (by rw [← ra.len]; exact (ra.take _).mono nd.g))⟩
/-- one's own list looked at as data by a test, the only thing that is one's own -/
theorem et_look {te : TT} {i : Nat} {a : Addr} {b : Bool} (hi : Γ[i]? = some (.cell a ds)) (ho : owns (Γ.set i .un) = []) (h : EvT te (Γ.set i (.dat (.list ds))) (Γ.set i (.dat (.list ds))) b) : EvT te Γ Γ b := ⟨fun _ z => z, fun σ G H e s Q q => by
  obtain ⟨G1, n1, s1⟩ := s.frz e hi
  have hc := s.at_ i _ hi
  refine h.run σ G1 H n1.i s1 _ fun G2 H2 n2 s2 => ?_
  obtain ⟨o, e1, rfl, ng, xs, hx, ra⟩ := hc
  have hil : i < Γ.length := (List.getElem?_eq_some_iff.mp hi).1
  have hno : ∀ x, ¬ Mo (Γ.set i (.dat (.list ds))) x := fun x m => by
    have m : x ∈ owns (Γ.set i (.dat (.list ds))) := m
    have : owns (Γ.set i (.dat (.list ds))) = owns (Γ.set i .un) := by
      unfold owns
      have : ∀ (l : List Sl) (k : Nat), (l.set k (.dat (.list ds))).flatMap own1 = (l.set k .un).flatMap own1 := fun l => by
        induction l with
        | nil => intro k; rfl
        | cons z l ih =>
          intro k
          cases k with
          | zero => rfl
          | succ k => rw [List.set_cons_succ, List.set_cons_succ, List.flatMap_cons, List.flatMap_cons, ih k]
      exact this Γ i
    rw [this, ho] at m
    cases m
  have hh : ∀ x o, H x = some o → H2 x = some o := fun x o q => n2.h x o (hno x) q
  have ee : Same G H2 := fun x u q => hh x u (e x u q)
  refine q G H2 ⟨fun _ _ z => z, ee, fun x o _ z => hh x o z, n2.t, fun _ _ _ z => z⟩ ⟨s.len, fun j w q => ?_, s.nd⟩
  obtain ⟨o, e2, z⟩ := s.at_ j w q
  refine ⟨o, e2, ?_⟩
  cases w with
  | un => trivial
  | dat d => exact z
  | val v => exact z
  | cell x zs => obtain ⟨z1, z2, ys, hy, r3⟩ := z; exact ⟨z1, z2, ys, hh _ _ hy, r3⟩
  | dic x zs => obtain ⟨z1, z2, ys, hy, r3⟩ := z; exact ⟨z1, z2, ys, hh _ _ hy, r3⟩
  | nst x bs rows => obtain ⟨z1, z2, hy, r3⟩ := z; exact ⟨z1, z2, hh _ _ hy, r3.to (Same.refl G) (fun b _ q _ => q) fun b o _ q => hh _ _ q⟩
  | ob x C ks => obtain ⟨z1, z2, dx, fs, hy, r3⟩ := z; exact ⟨z1, z2, dx, fs, hh _ _ hy, r3⟩
  | lok x od zs => exact z
  | hld φ m => exact z⟩
/-- a comprehension whose item draws, over any data -/
theorem ec_drawsD {α S : Type} {f : S → α × S} {enc : α → PyData} {s0 : S} {wi : TI} {te : TE} {iv : Nat} (E : S → Sl → En) (hw : Wk wi Γ Γ1 ds) (h0 : Γ1 = E s0 .un) (hl : ds.length ≤ 1000000)
    (hi : ∀ s x y, iv < (E s x).length ∧ (E s x).set iv y = E s y) (he : ∀ s d, Ev te (E s d) (E (f s).2 d) (enc (f s).1)) : EvC (tLc wi (gName iv) tYes te [iv]) Γ (E (stepS f ds.length s0) .un) ((stepV f ds.length s0).map enc) := by
  subst h0
  have hd : ∀ {s : S} {x : Sl}, wipeΓ (E s x) [iv] = E s .un := fun {s x} => (hi s x .un).2
  have := ec_lc (ds := ds) (te := te) (tt := tYes) (g := gName iv) (vs := [iv]) (is := [iv]) hw (hi s0 .un .un).2 (fun i h => h) hl (fun i => E (stepS f i s0) .un) (fun i => E (stepS f i s0) (.dat (ds.getD i .none))) (fun i => E (stepS f i s0) (.dat (ds.getD i .none))) (fun i => E (stepS f (i + 1) s0) (.dat (ds.getD i .none)))
    (fun _ => true) (fun i => enc (f (stepS f i s0)).1) rfl (fun i d h => ?_) (fun i d h => et_yes) (fun i d h _ => he _ _) (fun i d h => hd.symm)
  · rw [kept_all] at this
    unfold stepV
    rw [List.map_map]
    exact this
  · have hg : ds.getD i .none = d := by rw [List.getD_eq_getElem?_getD, h]; rfl
    rw [hg]
    have t := tg_name (Γ := E (stepS f i s0) .un) (d := d) (hi _ .un .un).1
    rw [(hi _ _ _).2] at t
    exact t
end
end Fd
namespace Fd
open PySem PyProof.Rows L2 StX
section
variable {Γ Γ1 Γ2 : En} {ta tb : TE} {K : PySem.W.Frag}
theorem ev_inTi {i : Int} {ns : List Int} (ha : Ev ta Γ Γ1 (.int i)) (hb : Ev tb Γ1 Γ2 (dR ns)) : Ev (tOp (rIn K false) ta tb) Γ Γ2 (.bool (decide (i ∈ ns))) :=
  ⟨fun a m => ha.own a (hb.own a m), fun σ G H e s Q q => ha.run σ G H e s _ fun u G1 H1 n1 s1 r1 => hb.run σ G1 H1 n1.i s1 _ fun v G2 H2 n2 s2 r2 => by
    obtain ⟨p, xs, rfl, hp, ra⟩ := r2.tupE
    rw [r1.intE]
    have := ra.ints
    subst this
    refine ⟨p, _, rfl, .inr (SqT.of (n2.i _ _ hp)), rfl, flat_ints ns, ?_⟩
    rw [if_neg (by decide), inV_ints]
    exact q _ G2 H2 (n1.trans n2 (mo ha.own)) s2 (.bl _)⟩
theorem ev_isNB {a b : Bool} (ha : Ev ta Γ Γ1 (.bool a)) (hb : Ev tb Γ1 Γ2 (.bool b)) : Ev (tOp rNotB ta tb) Γ Γ2 (.bool (!decide (a = b))) :=
  ⟨fun x m => ha.own x (hb.own x m), fun σ G H e s Q q => ha.run σ G H e s _ fun v G1 H1 n1 s1 r1 => hb.run σ G1 H1 n1.i s1 _ fun u G2 H2 n2 s2 r2 => ⟨a, b, r1.blE, r2.blE, q _ G2 H2 (n1.trans n2 (mo ha.own)) s2 (.bl _)⟩⟩
/-- data that a value of the laws can be: no dict -/
def plain : PyData → Bool
  | .dict _ => false
  | _ => true
def isI : PyData → Bool
  | .int _ => true
  | _ => false
def inR (p : Int) : PyData → Bool
  | .int i => decide (0 ≤ i) && decide (i < p)
  | _ => false
def isRow (p : Int) (n : Nat) : PyData → Bool
  | .tuple xs => decide (xs.length = n) && xs.all (inR p)
  | _ => false
end
end Fd
namespace Lin
theorem zip_mk {n : Nat} {v w : Row} (hv : v.length = n) (hw : w.length = n) (g : Int → Int → Int) : ((v.zip w).map fun e => g e.1 e.2) = mk n fun k => g (at_ v k) (at_ w k) := by
  refine mk_of (by rw [List.length_map, List.length_zip]; omega) fun k hk => ?_
  unfold at_
  rw [List.getD_eq_getElem?_getD, List.getElem?_map, List.getElem?_eq_getElem (by rw [List.length_zip]; omega), List.getElem_zip, List.getD_eq_getElem?_getD, List.getD_eq_getElem?_getD, List.getElem?_eq_getElem (by omega), List.getElem?_eq_getElem (by omega)]
  rfl
theorem zip_sum {n : Nat} {v w : Row} (hv : v.length = n) (hw : w.length = n) : ((v.zip w).map fun e => e.1 * e.2).sum = dt n v w := by
  rw [zip_mk hv hw fun a b => a * b, mk, S_eq]
  rfl
theorem add_sum {p : Int} {n : Nat} {v w : Row} (hp : 0 < p) (hv : Rw p n v) (hw : Rw p n w) : ((v.zip w).map fun e => (e.1 + e.2) % p) = sumR v w p := by
  rw [zip_mk hv.len hw.len fun a b => (a + b) % p]
  exact (mk_is hp).eq (sum_is hp (Is.self hv) (Is.self hw)) fun k _ => Cg.refl p _
theorem add_ax {p : Int} {n : Nat} {v w : Row} (hp : 0 < p) (hv : Rw p n v) (hw : Rw p n w) (a : Int) : ((v.zip w).map fun e => (e.1 + a * e.2) % p) = ax p v w a := by
  rw [zip_mk hv.len hw.len fun b c => (b + a * c) % p]
  exact (mk_is hp).eq (ax_is hp (Is.self hv) (Is.self hw) a) fun k _ => Cg.refl p _
theorem ax_none {p : Int} {n : Nat} {v w : Row} (hp : 0 < p) (hv : Rw p n v) (hw : Rw p n w) {a : Int} (ha : a % p = 0) : ax p v w a = v := by
  refine (ax_is hp (Is.self hv) (Is.self hw) a).eq (Is.self hv) fun k _ => ?_
  have h := Cg.mod p a
  rw [ha] at h
  exact ((Cg.refl p (at_ v k)).add (h.symm.mul (Cg.refl p (at_ w k)))).trans (Cg.of_eq (by grind))
/-! ### rows, each not in the span of the ones before it -/
def Ind (p : Int) (n : Nat) (rows : List Row) : Prop := ∀ i r, rows[i]? = some r → ¬ Sp p n (· ∈ rows.take i) r
theorem ind_app {p : Int} {n : Nat} {rows : List Row} {r : Row} (h : Ind p n rows) (hn : ¬ Sp p n (· ∈ rows) r) : Ind p n (rows ++ [r]) := fun i x hx => by
  by_cases hi : i < rows.length
  · rw [List.getElem?_append_left hi] at hx
    rw [List.take_append_of_le_length (by omega)]
    exact h i x hx
  · rw [List.getElem?_append_right (by omega)] at hx
    have : i = rows.length := by
      have := (List.getElem?_eq_some_iff.mp hx).1
      simp at this
      omega
    subst this
    rw [Nat.sub_self] at hx
    cases hx
    rw [List.take_left']
    · exact hn
    · rfl
/-- of independent rows every place of the columns is a pivot -/
theorem ind_keys {p : Int} {n : Nat} (hp : Pr p) {rows : List Row} (hr : ∀ r, r ∈ rows → Rw p n r) (h : Ind p n rows) {k : Nat} (hk : k < rows.length) : k ∈ (tabR p rows.length (colsL n rows)).map (·.1) := by
  obtain ⟨t1, t2, t3⟩ := tabR_red hp hr
  obtain ⟨c1, c2, c3⟩ := tabR_red hp (cols_rw hr)
  have h1 : (tabR p n rows).length = rows.length := pow_inj hp (by
    rw [← len_ech hp t1.ech, ← len_indep hp rows hr h]
    exact len_same hp (ech_rw t1.ech) hr fun x => by rw [rows_is]; exact t3 x)
  have h2 := cols_len hp hr
  have h3 := free_len (fun e he => (c1.ok e he).1) c1.nd
  refine Classical.byContradiction fun hn => ?_
  have := List.length_pos_of_mem (free_mem.mpr ⟨hk, hn⟩)
  omega
theorem tot_has {p : Int} {n : Nat} (hp : 0 < p) {rows : List Row} (hr : ∀ r, r ∈ rows → Rw p n r) {v w : Row} (hv : Rw p n v) (hw : Rw p rows.length w) : totR p n rows w rows.length = v ↔ Has p rows.length (colsL n rows) v w := by
  have h := tot_is (w := w) hp hr rows.length (Nat.le_refl _)
  have hd : ∀ k, k < n → Cg p (at_ (totR p n rows w rows.length) k) (dt rows.length (colR rows k) w) := fun k hk => (h.cg k hk).trans (Cg.of_eq (S_congr fun i hi => by rw [col_at hi]; exact Int.mul_comm _ _))
  have hc : ∀ k, k < n → row_ (colsL n rows) k = colR rows k := fun k hk => by
    unfold row_ colsL
    rw [List.getD_eq_getElem?_getD, List.getElem?_map, List.getElem?_range hk]
    rfl
  have hl : (colsL n rows).length = n := by simp [colsL]
  constructor
  · intro e
    refine ⟨hw, fun k hk => ?_⟩
    rw [hl] at hk
    rw [hc k hk]
    have := hd k hk
    rw [e] at this
    exact (this.emod hp).symm
  · rintro ⟨_, q⟩
    refine h.rw_ |> fun hrw => (Is.self hrw).eq (Is.self hv) fun k hk => ?_
    have := q k (by rw [hl]; exact hk)
    rw [hc k hk] at this
    exact (hd k hk).trans (Cg.of_emod this)
end Lin
namespace Fd
open PySem PyProof.Rows L2 StX
section
variable {X : Cx} {K : PySem.W.Frag}
theorem k_slA (h : X.K = K) : SlR X (rSlA K) := by subst h; exact sl_tupA
theorem k_star {e : Expr} {p : Pos} {es : List Expr} {te : TE} {t : TA} (h : X.K = K) (he : PE X e te) (hr : PA X es t) : PA X (.Starred e p :: es) (tStar K te t) := by subst h; exact pa_star he hr
end
end Fd

set_option Elab.async false
set_option maxRecDepth 100000
set_option maxHeartbeats 2000000
/-! Fd15: reversed(range(n)), n.bit_length(). -/
namespace Fd
open PySem PyProof.Rows L2
section
variable {Γ Γ1 : En} {ta : TE} {K : PySem.W.Frag}
def rgDown (n : Nat) : List PyData := (List.range n).map fun (i : Nat) => PyData.int ((n : Int) - 1 - (i : Int))
theorem wk_revR {n : Nat} (h : Ev ta Γ Γ1 (.int (n : Nat))) (hn : n < 1000000) : Wk (iRevR (tRg1 ta)) Γ Γ1 (rgDown n) := ⟨h.own, fun σ G H e s R q => h.run σ G H e s _ fun v G1 H1 n1 s1 r1 => by
  refine ⟨(n : Int), r1.intE, by omega, by omega, by omega, by omega, ?_⟩
  have e1 : ((n : Int) - 0).toNat = n := by omega
  rw [e1]
  refine q _ G1 H1 n1 s1 fun i G' H' e2 e3 => ⟨fun hl => ?_, fun d hd => ?_⟩
  · rw [show (rgDown n).length = n by simp [rgDown]] at hl
    show n ≤ i
    omega
  · have hi : i < n := by
      have := (List.getElem?_eq_some_iff.mp hd).1
      simpa [rgDown] using this
    unfold rgDown at hd
    rw [List.getElem?_map, List.getElem?_range hi] at hd
    cases hd
    refine ⟨hi, fun x H'' y => ?_⟩
    obtain ⟨rfl, rfl⟩ := y
    refine ⟨G', NewM.refl e3, ?_⟩
    have : (0 : Int) + (n : Int) - 1 + (i : Int) * -1 = (n : Int) - 1 - (i : Int) := by omega
    rw [this]
    exact .int _⟩
theorem ev_bits {i : Int} (h : Ev ta Γ Γ1 (.int i)) : Ev (tBits ta) Γ Γ1 (.int (Builtin.Int.intBits i : Nat)) := ⟨h.own, fun σ G H e s Q q => h.run σ G H e s _ fun v G1 H1 n1 s1 r1 => ⟨i, r1.intE, q _ G1 H1 n1 s1 (.int _)⟩⟩
theorem bits_lt (k : Nat) : k < 2 ^ Builtin.Int.intBits (k : Int) := by
  unfold Builtin.Int.intBits
  by_cases h : k = 0
  · subst h; simp
  · have h2 : ((k : Int) == 0) = false := by simp; omega
    rw [h2]
    show k < 2 ^ ((k : Int).natAbs.log2 + 1)
    rw [Int.natAbs_natCast]
    exact Nat.lt_log2_self
end
end Fd

set_option Elab.async false
set_option maxRecDepth 100000
set_option maxHeartbeats 2000000
/-! Fd16: xs[::-1] of a list. -/
namespace Fd
open PySem PySem.Spec PyProof.Rows L2
def tBackL (K : PySem.W.Frag) (te : TE) : TE := fun σ H Q => te σ H fun x H1 => ∃ a xs, x = .ref a ∧ SqL K H1 a xs ∧ ∀ p, H1 p = none → Q (.ref p) (upd H1 p (.lst xs.reverse))
theorem pe_backL {X : Cx} {K : PySem.W.Frag} {e : Expr} {te : TE} {k : Nat} {p1 p2 p3 pos : Pos} (hK : X.K = K) (he : PE X e te) : PE X (.Subscript e (.Slice none none (some (.UnaryOp .USub (.Constant (.int 1) k p1) p2)) p3) pos) (tBackL K te) := by
  subst hK
  refine ⟨fun pins s σ H Q I h => Subscript_ (thn (he.run pins s σ H _ I h) fun v s1 ⟨x, H1, I1, r1, a, xs, ex, hx, q⟩ => ?_)⟩
  subst ex
  cases r1
  have hst : PO X (some (.UnaryOp .USub (.Constant (.int 1) k p1) p2)) (tPart (tUn (rU fun i => .int (-i)) (tC (.int 1)))) := po_some (pe_un un_neg pe_int)
  refine wpAny_Slice (thn (po_none.run pins s1 σ H1 (fun o H2 => o = none ∧ H2 = H1) I1 ⟨rfl, rfl⟩) fun vl s2 ⟨l, H2, I2, pl, el, e2⟩ => ?_)
  subst el e2
  refine thn (po_none.run pins s2 σ H2 (fun o H3 => o = none ∧ H3 = H2) I2 ⟨rfl, rfl⟩) fun vu s3 ⟨u, H3, I3, pu, eu, e3⟩ => ?_
  subst eu e3
  refine thn (hst.run pins s3 σ H3 (fun o H4 => o = some (-1) ∧ H4 = H3) I3 ⟨1, rfl, -1, rfl, rfl, rfl⟩) fun vs s4 ⟨o, H4, I4, ps, eo, e4⟩ => ?_
  subst eo e4
  have I5 : Inv X pins σ H4 { s4 with heap := s4.heap.push { cls := .type "slice", data := .fields #[vl, vu, vs] } } := I4.kept (t' := s4.toks) fun b ob q => Heap.get?_push_of_some _ q
  obtain ⟨its, r, ht, hz⟩ := I5.list hx
  have hlen := r.length
  refine tail_any (ops := [.ref a, .ref s4.heap.objs.size]) ht.isList.typeIs (slot_list_getitem.lookup) ?_ (by with_unfolding_all rfl)
  refine wpAny_getItem_list_slice ht.isList (Heap.IsSliceOf.new _ vl vu vs) pl pu ps (by decide) ?_ (by rw [List.size_toArray] <;> omega)
  rw [PySem.W.krv_pick]
  refine ⟨.ref _, _, I5.laid (t' := s4.toks) (o := .lst xs.reverse) (fun b ob q => Heap.get?_push_of_some _ q) (Nat.le_refl _) ?_, rfl, q _ (I5.hok.fresh (Nat.le_refl _))⟩
  exact ⟨by rw [List.length_reverse]; exact hz, _, 0, r.reverse, Heap.get?_push_size _ rfl⟩
theorem ev_backC {Γ : En} {i : Nat} {a : Addr} {ds : List PyData} {K : PySem.W.Frag} (h : Γ[i]? = some (.cell a ds)) : Ev (tBackL K (tVar i)) Γ Γ (.list ds.reverse) := ⟨fun _ z => z, fun σ G H e s Q q => by
  obtain ⟨o, e1, rfl, ng, xs, hx, rx⟩ := s.at_ i _ h
  exact ⟨_, e1, a, xs, rfl, SqL.of hx, fun l hl => q _ _ _ (new_dat e hl _) (s.datNew e hl _) (.lst upd_same (rx.rev.mono (new_dat (M := M0) e hl _).g))⟩⟩
end Fd

set_option Elab.async false
set_option maxRecDepth 100000
set_option maxHeartbeats 2000000
/-! Gn1: a for loop in a generator def's body. -/
namespace L2
open PySem PySem.Spec PyProof.Rows GenW
section
variable {prog : Program} {w : World} {A : Around} {R : GenEnd} {Y : Protocol} {n : Nat} {s₀ : Shared} {fs : List Frame} {s : Shared} {env : Env}
theorem seg_forLoop {tg : Expr} {it : Value} {body : List Stmt}
    (h : wpAny (model prog w) (A.over (.forLoop tg it body [] env) fs) (pyNext it) (fun r s1 => match r with
        | none => Seg (model prog w) A R Y n s₀ (.forLoop tg it body [] env) (.pure (.again (.block [] env))) fs s1
        | some v => wpAny (model prog w) (A.over (.forLoop tg it body [] env) fs) (letOwnedTupleGo tg it v) (fun _ s2 => wpAny (model prog w) (A.over (.forLoop tg it body [] env) fs) (assign tg env v) (fun _ s3 =>
            Seg (model prog w) A R Y n s₀ (.forLoop tg it body [] env) ((execs body env).wrap (fun f => match f with
              | .next | .cont => .pure (.again (.forLoop tg it body [] env))
              | .brk => .pure (.done .next)
              | .ret v => .pure (.done (.ret v))) (fun e => (do noteFrame e env; theTreesLotGoes e : Sem Unit).wrap (fun _ => .raise e) .raise id id) id id) fs s3)
              (fun x s' => Seg (model prog w) A R Y n s₀ (.forLoop tg it body [] env) ((do noteFrame x env; theTreesLotGoes x : Sem Unit).wrap (fun _ => .raise x) .raise id id) fs s') s2)
              (fun x s' => Seg (model prog w) A R Y n s₀ (.forLoop tg it body [] env) ((do noteFrame x env; theTreesLotGoes x : Sem Unit).wrap (fun _ => .raise x) .raise id id) fs s') s1)
      (fun x s' => Seg (model prog w) A R Y n s₀ (.forLoop tg it body [] env) ((do noteFrame x env; theTreesLotGoes x : Sem Unit).wrap (fun _ => .raise x) .raise id id) fs s') s) :
    Seg (model prog w) A R Y n s₀ (.forLoop tg it body [] env) ((model prog w).den (.forLoop tg it body [] env)) fs s := by
  show Seg _ A R Y n s₀ _ ((forTurn tg it body [] env).onRaise (fun x => do noteFrame x env; theTreesLotGoes x)) fs s
  unfold forTurn
  have ex : ∀ {x : Value} {s' : Shared}, Seg (model prog w) A R Y n s₀ (.forLoop tg it body [] env) ((do noteFrame x env; theTreesLotGoes x : Sem Unit).wrap (fun _ => .raise x) .raise id id) fs s' →
      Seg (model prog w) A R Y n s₀ (.forLoop tg it body [] env) ((do noteFrame x env; theTreesLotGoes x : Sem Unit).bind fun _ => (.raise x : Sem PySem.Fin)) fs s' := fun {x s'} hx => by
    rw [Sem.bind_eq_wrap]
    exact hx
  rw [Sem.onRaise_eq_wrap]
  refine seg_bind_wrap (wpAny_standAt ?_)
  refine seg_bind_wrap (wpAny_onRaise (wpAny_mono h (fun r s1 h1 => ?_) fun x s' hx => wpAny_standAt (ex hx)))
  cases r with
  | none => exact h1
  | some v =>
    refine seg_bind_wrap (wpAny_mono h1 (fun _ s2 h2 => ?_) fun x s' hx => ex hx)
    refine seg_bind_wrap (wpAny_mono h2 (fun _ s3 h3 => ?_) fun x s' hx => ex hx)
    rw [Sem.bind_eq_wrap', Sem.wrap_wrap]
    rw [Sem.wrap_congr (execs body env) _ _ (K' := fun f => match f with
            | .next | .cont => .pure (.again (.forLoop tg it body [] env))
            | .brk => .pure (.done .next)
            | .ret v => .pure (.done (.ret v))) (H' := (fun e => (do noteFrame e env; theTreesLotGoes e : Sem Unit).wrap (fun _ => .raise e) .raise id id))
        (fun f => by cases f <;> rfl)
        (fun e => by first | exact Sem.bind_eq_wrap _ _ | (show (do noteFrame e env; theTreesLotGoes e : Sem Unit).bind (fun _ => .raise e) = _; rw [Sem.bind_eq_wrap]))]
    exact h3
theorem seg_block0 (h : Seg (model prog w) A R Y n s₀ (.block [] env) (.pure (.done .next)) fs s) : Seg (model prog w) A R Y n s₀ (.block [] env) ((model prog w).den (.block [] env)) fs s := h
end
section
variable {X : Cx}
def tGFor (wi : TI) (g : TG) (tb : TGn) : TGn := fun D ys σ H => wi σ H fun J H1 => ∃ W : Nat → Nat → List V → St → Hp → Prop, (∃ m, W 0 m ys σ H1) ∧ ∀ i m ys σ H, W i m ys σ H →
  (J.stop i H ∧ D.nx ys σ H) ∨ (J.go i H ∧ ∃ N : List V → St → Hp → Prop, (∀ ys' σ' H', N ys' σ' H' → ∃ m', m' < m ∧ W (i + 1) m' ys' σ' H') ∧ ∀ x H', J.yld i H x H' → g x σ H' fun σ2 H2 => tb { D with nx := N, ct := N, bk := D.nx } ys σ2 H2)
theorem gs_for {tg iter : Expr} {body : List Stmt} {pos : Pos} {wi : TI} {g : TG} {tb : TGn} (hp : PassesOwn (model X.prog X.w) X.A X.env X.xe) (hc : X.calm = true) (hi : PI X tg iter wi) (hg : PG X tg g) (hb : GSs X body tb)
    (hs : ∀ x, foldedSetIterable iter X.env x = pure x := by intro _; rfl) : GS X (.For tg iter body [] pos) (tGFor wi g tb) := by
  refine ⟨fun A S ip R n ys s₀ c fs K J gd lv s σ H D gc hn k hI ht => ?_⟩
  obtain ⟨acc, cc, r, I⟩ := hI
  rw [exec_For]
  refine seg_bind_wrap (wpAny_standAt ?_)
  refine seg_bind_wrap ?_
  rw [gc.over]
  refine wpAny_mono (hi.run _ s σ H _ I ht) (fun v s1 h1 => ?_) fun x s' hx => k.exc n s₀ x s' hx
  refine seg_bind_wrap (wpAny_of_eq (hs v) ?_)
  refine seg_bind_wrap (wpAny_standAt ?_)
  refine seg_bind_wrap (wpAny_holding ?_)
  rw [gc.over]
  refine wpAny_mono h1 (fun itv s2 h2 => ?_) fun x s' hx => k.exc n s₀ x s' hx
  obtain ⟨it, fp, tn, J', H2, e, I2, T, st2, f2, W, ⟨m0, w0⟩, turn⟩ := h2
  subst e
  have stat : ∀ {acc' : Array Value} {c' : Nat} {H' : Hp}, (∀ b ∈ fp, H' b = none) → ∀ b ∈ fp, FpOk X ((S, lstObj acc' c') :: ip) H' b := fun {acc' c' H'} hn b hb => by
    obtain ⟨f0, f1, f2', f3, f4, f5⟩ := f2 b hb
    refine ⟨hn b hb, f1, f2', f3, f4, fun p hp => ?_⟩
    rcases List.mem_append.mp hp with hp | hp
    · exact f5 p (List.mem_append_left _ hp)
    · rcases List.mem_cons.mp hp with hp | hp
      · rw [hp]
        exact f5 (S, lstObj acc cc) (List.mem_append_right _ List.mem_cons_self)
      · exact f5 p (List.mem_append_right _ (List.mem_cons_of_mem _ hp))
  show Seg _ A R _ n s₀ c ((runOwn (.forLoop tg (.ref it) body [] X.env) X.env).wrap K J gd lv) fs s2
  refine seg_call fun p => ?_
  have gl := fun (kk : Result → Sem PySem.Fin) => gc_loop (k := kk) (c' := .forLoop tg (.ref it) body [] X.env) (l := lv []) (kp := []) (p := p) gc rfl rfl
  have loop : ∀ (m i n : Nat) (ys : List V) (s₀ s : Shared) (σ : St) (H : Hp), n + ys.length = sizeLine → W i m ys σ H → tn i s.heap → (∀ b ∈ fp, H b = none) → GI X S ip ys σ H s →
      Seg (model X.prog X.w) A R (GY X S) n s₀ (.forLoop tg (.ref it) body [] X.env) ((model X.prog X.w).den (.forLoop tg (.ref it) body [] X.env))
        (.ret (fun r => ((match r with | .ok f => (.pure f : Sem Flow) | .error e => .raise e).onRaise (cameBack X.env)).wrap K J gd lv) none (gd false) (lv []) c p [] :: fs) s := by
    intro m
    induction m using Nat.strongRecOn with
    | ind m ih =>
      intro i n ys s₀ s σ H hn w st fr hI
      have ee : ∀ (n : Nat) (s₀ : Shared) (x : Value) (s' : Shared), X.xe x s' → Seg (model X.prog X.w) A R (GY X S) n s₀ (.forLoop tg (.ref it) body [] X.env)
          ((do noteFrame x X.env; theTreesLotGoes x : Sem Unit).wrap (fun _ => .raise x) .raise id id)
          (.ret (fun r => ((match r with | .ok f => (.pure f : Sem Flow) | .error e => .raise e).onRaise (cameBack X.env)).wrap K J gd lv) none (gd false) (lv []) c p [] :: fs) s' := fun n s₀ x s' hx => by
        refine seg_wrap ?_
        rw [(gl _).over]
        refine wpAny_bind (wpAny_mono (hp x s' hx) (fun _ s'' hcb => wpAny_theTreesLotGoes ?_) fun y s'' hcb => ?_)
        · exact seg_leaf (.error x) (seg_cameBack gc k hcb)
        · exact seg_leaf (.error y) (seg_cameBack gc k hcb)
      refine seg_forLoop ?_
      rw [(gl _).over]
      obtain ⟨acc, cc, r, I⟩ := hI
      rcases turn i m ys σ H w with ⟨stop, qn⟩ | ⟨go, N, hN, step⟩
      · refine wpAny_mono (T.done X rfl rfl rfl hc i _ s σ H X.xe I (stat fr) st stop) (fun r' s4 h4 => ?_) fun x s' hx => ee n s₀ x s' hx
        obtain ⟨hr, I4⟩ := h4
        subst hr
        refine seg_again rfl (seg_block0 ?_)
        exact seg_leaf (.ok .next) (k.ok n ys s₀ s4 .next hn ⟨σ, H, ⟨acc, cc, r, I4⟩, qn⟩)
      · refine wpAny_mono (T.item X rfl rfl rfl hc i _ s σ H X.xe I (stat fr) st go) (fun r' s4 h4 => ?_) fun x s' hx => ee n s₀ x s' hx
        obtain ⟨u, hr, h4⟩ := h4
        subst hr
        refine wpAny_mono h4 (fun _ s5 h5 => ?_) fun x s' hx => ee n s₀ x s' hx
        obtain ⟨x, H5, I5, r5, y5, st5, fr5⟩ := h5
        have I5' := I5.pinned (stat fr5) (T.obj _ _ st5)
        refine wpAny_mono (hg.run _ s5 σ H5 x u _ I5' r5 (step x H5 y5)) (fun _ s6 h6 => ?_) fun x s' hx => ee n s₀ x s' hx
        obtain ⟨σ6, H6, I6, q6⟩ := h6
        have gl2 : GC X S (ip ++ pinsAt fp s5.heap) A (.forLoop tg (.ref it) body [] X.env) (.ret (fun r => ((match r with | .ok f => (.pure f : Sem Flow) | .error e => .raise e).onRaise (cameBack X.env)).wrap K J gd lv) none (gd false) (lv []) c p [] :: fs) id := by
          have z := gl fun r => ((match r with | .ok f => (.pure f : Sem Flow) | .error e => .raise e).onRaise (cameBack X.env)).wrap K J gd lv
          refine ⟨z.pn, fun p hp => ?_, z.apart, z.over, z.split, z.guard, z.gd⟩
          rcases List.mem_append.mp hp with hp | hp
          · exact z.ip p hp
          · obtain ⟨hb', _⟩ := of_pinsAt hp
            obtain ⟨_, _, _, _, _, f5⟩ := f2 p.1 hb'
            exact fun e => f5 (S, lstObj _ _) (List.mem_append_right _ List.mem_cons_self) e.symm
        have unp : ∀ {ys' : List V} {σ' : St} {H' : Hp} {s' : Shared}, GI X S (ip ++ pinsAt fp s5.heap) ys' σ' H' s' → GI X S ip ys' σ' H' s' ∧ tn (i + 1) s'.heap ∧ ∀ b ∈ fp, H' b = none := fun {ys' σ' H' s'} hg' => by
          obtain ⟨acc', cc', r', I'⟩ := hg'
          refine ⟨⟨acc', cc', r', I'.pins_of fun p hp => I'.pin p ?_⟩, T.keep _ _ _ st5 fun b hb o e => ?_, fun b hb => ?_⟩
          · rcases List.mem_cons.mp hp with hp | hp
            · rw [hp]; exact List.mem_append_right _ List.mem_cons_self
            · exact List.mem_append_right _ (List.mem_cons_of_mem _ (List.mem_append_left _ hp))
          · exact (I'.pin (b, o) (List.mem_append_right _ (List.mem_cons_of_mem _ (List.mem_append_right _ (mem_pinsAt hb e))))).1
          · obtain ⟨o, e, d⟩ := T.obj _ _ st5 b hb
            exact (I'.pin (b, o) (List.mem_append_right _ (List.mem_cons_of_mem _ (List.mem_append_right _ (mem_pinsAt hb e))))).2.1
        refine hb.run A S (ip ++ pinsAt fp s5.heap) R n ys s₀ _ _ _ _ id id s6 σ6 H6 { D with nx := N, ct := N, bk := D.nx } gl2 hn ⟨fun n' ys' s₀' s3 f hn' hs' => ?_, fun n' s₀' x s3 hx => ee n' s₀' x s3 hx⟩ ⟨acc, cc, r, I6⟩ q6
        cases f with
        | next =>
          obtain ⟨σ3, H3, I3, n3⟩ := hs'
          obtain ⟨m', hm, w3⟩ := hN ys' σ3 H3 n3
          obtain ⟨u1, u2, u3⟩ := unp I3
          exact seg_again rfl (ih m' hm (i + 1) n' ys' s₀' s3 σ3 H3 hn' w3 u2 u3 u1)
        | cont =>
          obtain ⟨σ3, H3, I3, n3⟩ := hs'
          obtain ⟨m', hm, w3⟩ := hN ys' σ3 H3 n3
          obtain ⟨u1, u2, u3⟩ := unp I3
          exact seg_again rfl (ih m' hm (i + 1) n' ys' s₀' s3 σ3 H3 hn' w3 u2 u3 u1)
        | brk =>
          obtain ⟨σ3, H3, I3, n3⟩ := hs'
          exact seg_leaf (.ok .next) (k.ok n' ys' s₀' s3 .next hn' ⟨σ3, H3, (unp I3).1, n3⟩)
        | ret v =>
          obtain ⟨v3, σ3, H3, I3, r3, n3⟩ := hs'
          exact seg_leaf (.ok (.ret v)) (k.ok n' ys' s₀' s3 (.ret v) hn' ⟨v3, σ3, H3, (unp I3).1, r3, n3⟩)
  exact loop m0 0 n ys s₀ s2 σ H2 hn w0 st2 (fun b hb => (f2 b hb).1) ⟨acc, cc, r, I2⟩
end
end L2

set_option Elab.async false
set_option maxRecDepth 100000
set_option maxHeartbeats 2000000
/-! Fd17: objects of classes of the text as data; generators as lists of data. -/
namespace Fd
open PySem PyProof.Rows L2
/-- an object of the class at C with these fields -/
abbrev dOb (C : Addr) (ks : List (PyData × PyData)) : PyData := .dict ((.int (C : Nat), .none) :: ks)
theorem Rp.obE {G : Hp} {v : V} {C : Addr} {ks : List (PyData × PyData)} (h : Rp G v (dOb C ks)) : ∃ a dx fs, v = .ref a ∧ G a = some (.ins C dx fs) ∧ RpF G fs ks := by
  generalize e : dOb C ks = d at h
  cases h with
  | obj h1 h2 =>
    rename_i a C' dx fs kvs
    simp only [PyData.dict.injEq, List.cons.injEq, Prod.mk.injEq, PyData.int.injEq, Int.ofNat_inj, and_true] at e
    obtain ⟨e1, e2⟩ := e
    subst e1 e2
    exact ⟨_, _, _, rfl, h1, h2⟩
  | _ => cases e
section
variable {Γ Γ' Γ1 Γ2 Γ3 : En} {ta tb te tx : TE} {tr : TA} {d e x y : PyData} {ds es : List PyData} {K : PySem.W.Frag} {C : Addr} {ks ks' : List (PyData × PyData)}
theorem ev_fld {f : Str} (ha : Ev ta Γ Γ1 (dOb C ks)) (c : Cls K C) (n : NoAttr K C f) (h : kvGet f ks = some d) : Ev (tFld K ta f) Γ Γ1 d := ⟨ha.own, fun σ G H e s Q q => ha.run σ G H e s _ fun u G1 H1 n1 s1 r1 => by
  obtain ⟨a, dx, fs, rfl, hg, hf⟩ := r1.obE
  obtain ⟨v, hv, rv⟩ := hf.get h
  exact ⟨a, C, dx, fs, v, rfl, n1.i _ _ hg, c, n, hv, q v G1 H1 n1 s1 rv⟩⟩
theorem ev_meth {m : Str} {pre : List PyData → PyData → Prop} {E : XK} (ha : Ev ta Γ Γ1 (dOb C ks)) (hm : kvGet m ks = none) (hr : EvA tr Γ1 Γ2 es) (h : pre (dOb C ks :: es) d) : Ev (tMeth C m (spP pre) [] E ta tr) Γ Γ2 d :=
  ⟨fun a m => ha.own a (hr.own a m), fun σ G H e s Q q => ha.run σ G H e s _ fun u G1 H1 n1 s1 r1 => by
    obtain ⟨a, dx, fs, rfl, hg, hf⟩ := r1.obE
    refine ⟨a, dx, fs, rfl, n1.i _ _ hg, hf.none hm, hr.run σ G1 H1 n1.i s1 _ fun vs G2 H2 n2 s2 r2 => ?_⟩
    have n12 := n1.trans n2 (mo ha.own)
    exact ⟨G2, dOb C ks :: es, d, n2.i, .cons (r1.mono n2.g) (by rw [List.append_nil]; exact r2), h, fun v G3 H3 n3 r3 => q v G3 H3 (n12.trans n3 fun _ z => z.elim) (s2.new n3) r3⟩⟩
/-! ### an object that is being made -/
theorem Sd.frzO {G H : Hp} {σ : L2.St} {a dx : Addr} {fs : List (Str × V)} (s : Sd G H σ Γ) (e : Same G H) (ng : G a = none) (hx : H a = some (.ins C dx fs)) (hn : ¬ a ∈ owns Γ) : Sd (upd G a (.ins C dx fs)) H σ Γ := by
  have n := new_frz (M := fun x => x = a) e hx ng rfl
  refine ⟨s.len, fun j t q => ?_, s.nd⟩
  obtain ⟨o, e1, z⟩ := s.at_ j t q
  exact ⟨o, e1, z.stay n fun b hb e2 => hn (e2 ▸ own_mem q hb)⟩
/-- __init__ of the class at C: from no fields to ks' -/
def spI (C : Addr) (pre : List PyData → List (PyData × PyData) → Prop) : Sp := fun vs H Q _ => ∃ (G : Hp) (a dx : Addr) (us : List V) (ds : List PyData) (ks : List (PyData × PyData)), vs = .ref a :: us ∧ Same G H ∧ G a = none ∧ H a = some (.ins C dx []) ∧ RpAll G us ds ∧ pre ds ks ∧
  ∀ G2 H2 dx' fs, NewM (fun x => x = a) G H G2 H2 → G2 a = none → H2 a = some (.ins C dx' fs) → RpF G2 fs ks → Q .non H2
theorem ev_make {pre : List PyData → List (PyData × PyData) → Prop} {E : XK} (hr : EvA tr Γ Γ1 es) (h : pre es ks) : Ev (tMake C (spI C pre) [] E tr) Γ Γ1 (dOb C ks) := ⟨hr.own, fun σ G H e s Q q => hr.run σ G H e s _ fun vs G1 H1 n1 s1 r1 => fun x dx hx hdx hne => by
  have na := new_own (M := M0) n1.i hdx (.own x)
  have hx2 : upd H1 dx (.own x) x = none := by rw [upd_ne (Ne.symm hne)]; exact hx
  have nb := new_own (M := M0) na.i hx2 (.ins C dx [])
  have nab := na.trans nb fun _ z => z.elim
  refine ⟨G1, x, dx, vs, es, ks, by rw [List.append_nil], nb.i, same_none n1.i hx, upd_same, r1, h, fun G2 H2 dx' fs n2 g2 h2 rf => ⟨rfl, ?_⟩⟩
  have nx : NewM M0 G1 H1 G2 H2 := nab.trans n2 fun y e => by subst e; exact .inr hx
  have n3 := new_frz (M := fun y => y = x) nx.i h2 g2 rfl
  have n13 : NewM M0 G1 H1 (upd G2 x (.ins C dx' fs)) H2 := nx.trans n3 fun y e => by subst e; exact .inr hx
  exact q _ _ _ (n1.trans n13 fun _ z => z.elim) (s1.new n13) (.obj upd_same (rf.mono n3.g))⟩
/-- self.f = e -/
theorem st_fld {P : Ed} {i : Nat} {a : Addr} {f : Str} (h : Ev te Γ Γ1 d) (hi : Γ1[i]? = some (.ob a C ks)) (c : Cls K C) (n : NoAttr K C f) (hl : ks.length < 900) (p : P.nx (Γ1.set i (.ob a C (kvPut f d ks)))) :
    StD (sFld K (tVar i) te f) Γ P := fun σ G H D e s k1 _ _ _ => h.run σ G H e s _ fun v G2 H2 n2 s2 r => by
  obtain ⟨o, e1, rfl, ng, dx, fs, hx, rf⟩ := s2.at_ i _ hi
  have hm : a ∈ owns Γ1 := own_mem hi (by simp [own1])
  have s4 : Sd G2 (upd H2 a (.ins C dx (putF f v fs))) σ (Γ1.set i (.ob a C (kvPut f d ks))) := s2.put hi rfl rfl fun o z => ⟨z.1, z.2.1, dx, _, upd_same, rf.put r⟩
  refine ⟨_, e1, a, C, dx, fs, rfl, hx, c, n, by rw [rf.len]; omega, k1 _ σ G2 _ p ⟨?_, fun x m => .inl (h.own x ?_), s4⟩⟩
  · exact n2.trans (new_set (M := fun x => x = a) n2.i ng rfl _) fun x m => by subst m; exact .inl (h.own _ hm)
  · rcases owns_set_sub m with z | z
    · have : x = a := by simpa [own1] using z
      subst this
      exact hm
    · exact z
theorem sd_startO {G H : Hp} {N : List Str} {us : List V} {a dx : Addr} {ds : List PyData} {m : Nat} (r : RpAll G us ds) (ng : G a = none) (hx : H a = some (.ins C dx [])) (hm : m = N.length - (us.length + 1)) :
    Sd G H (L2.start N (.ref a :: us)) (.ob a C [] :: (ds.map .dat ++ List.replicate m .un)) := by
  subst hm
  have s := sd_start (N := N.tail) (H := H) (m := N.length - (us.length + 1)) r (by cases N <;> simp <;> omega)
  have e : L2.start N (.ref a :: us) = some (.ref a) :: L2.start N.tail us := by
    unfold L2.start
    rw [List.map_cons, List.cons_append]
    congr 2
    cases N <;> simp <;> omega
  rw [e]
  refine ⟨by rw [List.length_cons, List.length_cons, s.len], fun i t h => ?_, ?_⟩
  · cases i with
    | zero =>
      cases h
      exact ⟨_, rfl, rfl, ng, dx, [], hx, .nil⟩
    | succ i => exact s.at_ i t h
  · have : owns (Sl.ob a C [] :: (ds.map Sl.dat ++ List.replicate (N.length - (us.length + 1)) .un)) = [a] := by
      show [a] ++ owns (ds.map Sl.dat ++ List.replicate (N.length - (us.length + 1)) .un) = [a]
      rw [owns_dats]
      rfl
    rw [this]
    simp
end
/-! ### whole defs -/
section
variable {PP : Program} {w : World} {K : PySem.W.Frag} {mg : Str → Option Value} {base : Heap}
theorem defI_ok {x qual : Str} {st : Stmt} {f C : Addr} {fd : FuncData} {N ps : List Str} {k : Nat} {pre : List PyData → List (PyData × PyData) → Prop} (F : Fun K x qual st f fd) (S : FnScope N ps (defScope st)) (len : ∀ ds ks, pre ds ks → ds.length + 1 = ps.length)
    (hbody : ∀ (cdv : Value) (A : Around) (outer : List Env) (s : Shared) (H : Hp) (E : XK), Room k (A.deeper (envOfC qual (defScope st) s.heap.objs.size f cdv)) →
      ∃ t, PSs (cxOf CX0 PP w K mg base N qual (defScope st) f cdv A outer s H E).nox (defBody st) t ∧ ∀ a ds ks, pre ds ks → StD t (.ob a C [] :: (ds.map .dat ++ List.replicate (N.length - ps.length) .un)) { nx := fun Γ => Γ[0]? = some (.ob a C ks), rt := fun _ _ => False }) : FnOk PP w K mg base CX0 (k + 1) f fd ps (spI C pre) := by
  refine F.ok S (fun vs H Q E h => ?_) fun cdv A outer s H vs Q E hr h => ?_
  · obtain ⟨G, a, dx, us, ds, ks, rfl, e, ng, hx, r, p, _⟩ := h
    rw [List.length_cons, r.len, len ds ks p]
  · obtain ⟨G, a, dx, us, ds, ks, rfl, e, ng, hx, r, p, q⟩ := h
    obtain ⟨t, ht, hs⟩ := hbody cdv A outer s H E hr
    have hM : ∀ m x, Mo (Sl.ob a C [] :: (ds.map Sl.dat ++ List.replicate m .un)) x → x = a := fun m x h => by
      have h : x ∈ [a] ++ owns (ds.map Sl.dat ++ List.replicate m .un) := h
      rw [owns_dats] at h
      simpa using h
    refine ⟨t, ht, hs a ds ks p (L2.start N (.ref a :: us)) G H _ e (sd_startO r ng hx (by rw [r.len, len ds ks p])) (fun Γ' σ' G2 H2 z l => ?_) (fun _ _ _ _ _ _ z => z.elim) (fun _ _ _ _ z => z.elim) fun _ _ _ _ z => z.elim⟩
    obtain ⟨o, _, _, ng2, dx', fs, hy, ry⟩ := l.s.at_ 0 _ z
    exact q G2 H2 dx' fs (l.n.mono (hM _)) ng2 hy ry
/-! ### generators -/
/-- a generator def: for arguments ds it hands out es -/
def spGP (pre : List PyData → List PyData → Prop) : SpG := fun vs H cont _ => ∃ G ds es, Same G H ∧ RpAll G vs ds ∧ pre ds es ∧ ∀ out G2 H2, New G H G2 H2 → RpAll G2 out es → cont out H2
theorem Fun.okG {x qual : Str} {st : Stmt} {f : Addr} {fd : FuncData} {N ps : List Str} {k : Nat} {sp : SpG} (F : Fun K x qual st f fd) (S : GScope N ps (defScope st)) (len : ∀ vs H Q E, sp vs H Q E → vs.length = ps.length)
    (hbody : ∀ (cdv : Value) (A : Around) (outer : List Env) (s : Shared) (H : Hp) (vs : List V) (Q : List V → Hp → Prop) (E : XK) (pn : List (Addr × Obj)), Room k (A.deeper (envOfC qual (defScope st) s.heap.objs.size f cdv)) → sp vs H Q E →
      ∃ t, GSs (gcxOf PP w K mg base N qual (defScope st) f cdv A outer s H E pn) (defBody st) t ∧ t { nx := fun ys _ H' => Q ys H', rt := fun ys v H' => v = .non ∧ Q ys H' } [] (start N vs) H) : GFn PP w K mg base (k + 1) f fd ps sp := by
  obtain ⟨oc, od, kV, doc, pm, an, cdv, ct, osl, rfl, lk, hcd⟩ := F.ex
  exact gfn_of lk hcd S len fun A outer s H vs Q E pn hr hsp => hbody cdv A outer s H vs Q E pn hr hsp
theorem defG_ok {x qual : Str} {st : Stmt} {f : Addr} {fd : FuncData} {N ps : List Str} {k : Nat} {pre : List PyData → List PyData → Prop} (F : Fun K x qual st f fd) (S : GScope N ps (defScope st)) (len : ∀ ds d, pre ds d → ds.length = ps.length)
    (hbody : ∀ (cdv : Value) (A : Around) (outer : List Env) (s : Shared) (H : Hp) (E : XK) (pn : List (Addr × Obj)), Room k (A.deeper (envOfC qual (defScope st) s.heap.objs.size f cdv)) →
      ∃ t, GSs (gcxOf PP w K mg base N qual (defScope st) f cdv A outer s H E pn) (defBody st) t ∧ ∀ ds es, pre ds es → ∀ (σ : L2.St) (G H : Hp), Same G H → Sd G H σ (ds.map .dat ++ List.replicate (N.length - ps.length) .un) → ∀ cont : List V → Hp → Prop,
        (∀ out G2 H2, New G H G2 H2 → RpAll G2 out es → cont out H2) → t { nx := fun ys _ H' => cont ys H', rt := fun ys v H' => v = .non ∧ cont ys H' } [] σ H) : GFn PP w K mg base (k + 1) f fd ps (spGP pre) := by
  refine Fun.okG F S (fun vs H Q E h => ?_) fun cdv A outer s H vs Q E pn hr h => ?_
  · obtain ⟨G, ds, es, e, r, p, _⟩ := h
    rw [r.len, len ds es p]
  · obtain ⟨G, ds, es, e, r, p, q⟩ := h
    obtain ⟨t, ht, hs⟩ := hbody cdv A outer s H E pn hr
    exact ⟨t, ht, hs ds es p (L2.start N vs) G H e (sd_start r (by rw [r.len, len ds es p])) Q q⟩
end
section
variable {Γ Γ' Γ1 Γ2 Γ3 : En} {ta tb te tx : TE} {tr : TA} {d e x y : PyData} {ds es : List PyData} {K : PySem.W.Frag}
/-- for g in wi: yield te -/
theorem g_for_yield {wi : TI} {g : TG} (hw : Wk wi Γ Γ1 ds) (Γs : Nat → En) (f : Nat → PyData) (h0 : Γs 0 = Γ1) (hl : ds.length ≤ 1000000) (ho : owns Γ1 = [])
    (hs : ∀ i d, ds[i]? = some d → ∃ Γt is, Tg g is d (Γs i) Γt ∧ Ev te Γt (Γs (i + 1)) (f i)) {σ : L2.St} {G H : Hp} (e : Same G H) (s : Sd G H σ Γ) (hn : owns Γ = []) {cont : List V → Hp → Prop}
    (k : ∀ out G2 H2, New G H G2 H2 → RpAll G2 out ((List.range ds.length).map f) → cont out H2) : tGThen (tGFor wi g (tGThen (tGYield te) tG0)) tG0 { nx := fun ys _ H' => cont ys H', rt := fun ys v H' => v = .non ∧ cont ys H' } [] σ H := by
  have mo0 : ∀ {Γ : En} {M : Addr → Prop}, owns Γ = [] → ∀ x, Mo Γ x → M x := fun {Γ M} h x m => by
    have m : x ∈ owns Γ := m
    rw [h] at m
    cases m
  have oi : ∀ i, i ≤ ds.length → owns (Γs i) = [] := fun i => by
    induction i with
    | zero => intro _; rw [h0]; exact ho
    | succ i ih =>
      intro hi
      obtain ⟨Γt, is, tg, ev⟩ := hs i _ (List.getElem?_eq_getElem (by omega : i < ds.length))
      refine List.eq_nil_iff_forall_not_mem.mpr fun a m => ?_
      have := tg.own a (ev.own a m)
      rw [ih (by omega)] at this
      cases this
  show wi σ H _
  refine hw.run σ G H e s _ fun J G1 H1 n1 s1 wk => ?_
  have n1' : New G H G1 H1 := n1.mono (mo0 hn)
  refine ⟨fun i m ys σ' H' => m = ds.length - i ∧ i ≤ ds.length ∧ ∃ G', New G1 H1 G' H' ∧ Sd G' H' σ' (Γs i) ∧ RpAll G' ys ((List.range i).map f), ⟨_, rfl, Nat.zero_le _, G1, NewM.refl n1.i, by rw [h0]; exact s1, .nil⟩, ?_⟩
  rintro i m ys σ' H' ⟨rfl, hi, G', n2, s2, ry⟩
  obtain ⟨wstop, wgo⟩ := wk i G' H' n2.g n2.i
  by_cases hlt : i < ds.length
  · have hd : ds[i]? = some ds[i] := List.getElem?_eq_getElem hlt
    obtain ⟨go, yld⟩ := wgo _ hd
    obtain ⟨Γt, is, tg, ev⟩ := hs i _ hd
    have ot : owns Γt = [] := List.eq_nil_iff_forall_not_mem.mpr fun a m => by
      have := tg.own a m
      rw [oi i hi] at this
      cases this
    refine .inr ⟨go, fun ys' σ'' H'' => i + 1 ≤ ds.length ∧ ∃ G', New G1 H1 G' H'' ∧ Sd G' H'' σ'' (Γs (i + 1)) ∧ RpAll G' ys' ((List.range (i + 1)).map f), fun ys' σ'' H'' q => ⟨ds.length - (i + 1), by omega, rfl, q⟩, fun x H2 y => ?_⟩
    obtain ⟨G2, n3, rx⟩ := yld x H2 y
    refine tg.run σ' G2 H2 x n3.i (s2.new n3) rx _ fun σ'' _ _ s4 => ?_
    refine ⟨?_, ev.run σ'' G2 H2 n3.i s4 _ fun v G3 H3 n5 s5 rv => ?_⟩
    · have e1 := ry.len
      rw [List.length_map, List.length_range] at e1
      exact sl_lt (by omega)
    · have n5' : New G2 H2 G3 H3 := n5.mono (mo0 ot)
      refine ⟨hlt, G3, (n2.trans n3 fun _ z => z.elim).trans n5' fun _ z => z.elim, s5, ?_⟩
      rw [List.range_succ, List.map_append]
      exact (ry.mono (n3.g.trans n5.g)).append (.one rv)
  · have ei : i = ds.length := by omega
    subst ei
    exact .inl ⟨wstop rfl, k ys G' H' (n1'.trans n2 fun _ z => z.elim) ry⟩
/-- list(f(..)), f a generator def -/
theorem ec_listG {pre : List PyData → List PyData → Prop} {E : XK} (ha : EvA tr Γ Γ1 ds) (h : pre ds es) : EvC (tListG (tCallG (spGP pre) [] E tr)) Γ Γ1 es := ⟨ha.own, fun σ G H e s Q q => ha.run σ G H e s _ fun vs G1 H1 n1 s1 r1 =>
  ⟨G1, ds, es, n1.i, by rw [List.append_nil]; exact r1, h, fun out G2 H2 n2 r2 p hp => by
    have s2 := s1.new n2
    have n12 := n1.trans n2 fun _ z => z.elim
    exact q p out G2 _ (n12.trans (new_own (M := M0) n2.i hp _) fun _ z => z.elim) (s2.ownNew n2.i hp _) (none_back n12 hp) (same_none n2.i hp) upd_same r2⟩⟩
/-- list(o.m()), m a generator method -/
theorem ec_listGM {C : Addr} {ks : List (PyData × PyData)} {m : Str} {pre : List PyData → List PyData → Prop} {E : XK} (ha : Ev ta Γ Γ1 (dOb C ks)) (hm : kvGet m ks = none) (hr : EvA tr Γ1 Γ2 ds) (h : pre (dOb C ks :: ds) es) : EvC (tListG (tMethG C m (spGP pre) [] E ta tr)) Γ Γ2 es :=
  ⟨fun a m => ha.own a (hr.own a m), fun σ G H e s Q q => ha.run σ G H e s _ fun u G1 H1 n1 s1 r1 => by
    obtain ⟨a, dx, fs, rfl, hg, hf⟩ := r1.obE
    refine ⟨a, dx, fs, rfl, n1.i _ _ hg, hf.none hm, hr.run σ G1 H1 n1.i s1 _ fun vs G2 H2 n2 s2 r2 => ?_⟩
    have n12 := n1.trans n2 (mo ha.own)
    refine ⟨G2, dOb C ks :: ds, es, n2.i, .cons (r1.mono n2.g) (by rw [List.append_nil]; exact r2), h, fun out G3 H3 n3 r3 p hp => ?_⟩
    have s3 := s2.new n3
    have n13 := n12.trans n3 fun _ z => z.elim
    exact q p out G3 _ (n13.trans (new_own (M := M0) n3.i hp _) fun _ z => z.elim) (s3.ownNew n3.i hp _) (none_back n13 hp) (same_none n3.i hp) upd_same r3⟩
end
end Fd

set_option Elab.async false
set_option maxRecDepth 100000
set_option maxHeartbeats 2000000
/-! Fd18: defs under other names, methods, generators: callees and their rules. -/
namespace Fd
open PySem PyProof.Rows L2
structure DfnA (K : PySem.W.Frag) (mg : Str → Option Value) (nm x : Str) (st : Stmt) : Prop where
  ex : ∃ f fd, Fun K x x st f fd ∧ mg nm = some (.ref f)
structure DfnM (K : PySem.W.Frag) (C : Addr) (m qual : Str) (st : Stmt) : Prop where
  ex : ∃ f fd, Fun K m qual st f fd ∧ Meth K C m f
structure DfnI (K : PySem.W.Frag) (C : Addr) (m qual : Str) (st : Stmt) : Prop where
  ex : ∃ f fd, Fun K m qual st f fd ∧ PySem.W.findIn K (.ref C) "__init__" = some (some (.ref f)) ∧ PySem.W.isFn K (.ref f) = true
structure CalM (PP : Program) (w : World) (K : PySem.W.Frag) (C : Addr) (mg : Str → Option Value) (base : Heap) (m : Str) (k : Nat) (ps : List Str) (sp : Sp) : Prop where
  ex : ∃ f fd, FnOk PP w K mg base CX0 k f fd ps sp ∧ Meth K C m f ∧ Binds K fd ps []
structure CalI (PP : Program) (w : World) (K : PySem.W.Frag) (C : Addr) (mg : Str → Option Value) (base : Heap) (k : Nat) (ps : List Str) (sp : Sp) : Prop where
  at_ : mg "Algebra" = some (.ref C)
  ex : ∃ f fd, FnOk PP w K mg base CX0 k f fd ps sp ∧ Mk K C f ∧ Binds K fd ps []
structure CalG (PP : Program) (w : World) (K : PySem.W.Frag) (mg : Str → Option Value) (base : Heap) (x : Str) (k : Nat) (ps : List Str) (sp : SpG) : Prop where
  ex : ∃ f fd, GFn PP w K mg base k f fd ps sp ∧ mg x = some (.ref f) ∧ PySem.W.keepIn K (.ref f) = true ∧ Binds K fd ps []
structure CalGM (PP : Program) (w : World) (K : PySem.W.Frag) (C : Addr) (mg : Str → Option Value) (base : Heap) (m : Str) (k : Nat) (ps : List Str) (sp : SpG) : Prop where
  ex : ∃ f fd, GFn PP w K mg base k f fd ps sp ∧ Meth K C m f ∧ Binds K fd ps []
/-- what the class Algebra of the text must have -/
structure AlgC (K : PySem.W.Frag) (mg : Str → Option Value) (C : Addr) : Prop where
  cl : Cls K C
  at_ : mg "Algebra" = some (.ref C)
  kp : PySem.W.keepIn K (.ref C) = true
  make : PySem.W.makesIn K C = true
  fp : NoAttr K C "p"
  fn : NoAttr K C "n"
  ft : NoAttr K C "table"
  fo : NoAttr K C "one"
  ca : PySem.W.findIn K (.ref C) "__class__" = some (some (.builtin "object.__class__"))
  cb : PySem.W.specialIn K (.builtin "object.__class__") "__get__" = some (some (.builtin "getset_descriptor.__get__"))
  cc : PySem.W.takesIn K (.builtin "object.__class__") = some true
  cd : PySem.W.mroIn K C (.type "object") = some true
theorem noStop0 {K : PySem.W.Frag} : NoStop K E0 := fun _ _ _ h => h.elim
section
variable {X : Cx} {x m : Str} {k : Nat} {ps : List Str} {sp : Sp} {sg : SpG} {e o : Expr} {es : List Expr} {p pos apos : Pos} {t : TA} {ta : TE} {C : Addr}
theorem pe_calM {pl : Sem Bool} (c : CalM X.prog X.w X.K C X.mg X.base m k ps sp) (cl : Cls X.K C) (hr : Room k X.A) (he : PE X o ta) (ha : PA X (e :: es) t)
    (hst : starEach (e :: es) X.env = (false, eval e X.env) :: starEach es X.env := by rfl) (hpl : (backTo pos (starEach es X.env)).any (·.1) = false := by rfl)
    (ht : eval (.Call (.Attribute o m apos) (e :: es) [] pos) X.env = (do
      let ov ← eval o X.env
      standAt apos.atName
      let (f, first) ← holding [ov] (getMethod ov m pl)
      callWith pos f first (backTo pos (starEach (e :: es) X.env)) (backToKw pos (keywordEach [] X.env))) := by rfl) : PE X (.Call (.Attribute o m apos) (e :: es) [] pos) (tMeth C m sp [] E0 ta t) := by
  obtain ⟨f, fd, F, hm, hb⟩ := c.ex
  exact pe_meth (pl := pl) he cl hm F hr hb .nil pass0 ha hst hpl ht
theorem pe_calM0 {pl : Sem Bool} (c : CalM X.prog X.w X.K C X.mg X.base m k ps sp) (cl : Cls X.K C) (hr : Room k X.A) (he : PE X o ta)
    (ht : eval (.Call (.Attribute o m apos) [] [] pos) X.env = (do
      let ov ← eval o X.env
      standAt apos.atName
      let (f, first) ← holding [ov] (getMethod ov m pl)
      callWith pos f first (backTo pos (starEach [] X.env)) (backToKw pos (keywordEach [] X.env))) := by rfl) : PE X (.Call (.Attribute o m apos) [] [] pos) (tMeth C m sp [] E0 ta tNil) := by
  obtain ⟨f, fd, F, hm, hb⟩ := c.ex
  exact pe_meth0 (pl := pl) he cl hm F hr hb .nil pass0 ht
theorem pe_calI (c : CalI X.prog X.w X.K C X.mg X.base k ps sp) (hr : Room (k + 1) X.A) (hg : Gl X "Algebra") (ha : PA X (e :: es) t)
    (he : starEach (e :: es) X.env = (false, eval e X.env) :: starEach es X.env := by rfl) (hpl : (backTo pos (starEach es X.env)).any (·.1) = false := by rfl) : PE X (.Call (.Name "Algebra" p) (e :: es) [] pos) (tMake C sp [] E0 t) := by
  obtain ⟨f, fd, F, hm, hb⟩ := c.ex
  exact pe_make hm F hr hg c.at_ hb .nil pass0 ha (by decide) he hpl
theorem pgen_cal (c : CalG X.prog X.w X.K X.mg X.base x k ps sg) (hr : Room k X.A) (hg : Gl X x) (ha : PA X (e :: es) t)
    (hdb : (x == ("__debug__" : Str)) = false := by decide) (he : starEach (e :: es) X.env = (false, eval e X.env) :: starEach es X.env := by rfl) (hpl : (backTo pos (starEach es X.env)).any (·.1) = false := by rfl) : PGen X k (.Call (.Name x p) (e :: es) [] pos) (tCallG sg [] E0 t) E0 := by
  obtain ⟨f, fd, F, hm, hk, hb⟩ := c.ex
  exact pgen_call F hr hg hm hk hb .nil ha hdb he hpl
theorem pgen_calM0 {pl : Sem Bool} (c : CalGM X.prog X.w X.K C X.mg X.base m k ps sg) (cl : Cls X.K C) (hr : Room k X.A) (he : PE X o ta)
    (ht : eval (.Call (.Attribute o m apos) [] [] pos) X.env = (do
      let ov ← eval o X.env
      standAt apos.atName
      let (f, first) ← holding [ov] (getMethod ov m pl)
      callWith pos f first (backTo pos (starEach [] X.env)) (backToKw pos (keywordEach [] X.env))) := by rfl) : PGen X k (.Call (.Attribute o m apos) [] [] pos) (tMethG C m sg [] E0 ta tNil) E0 := by
  obtain ⟨f, fd, F, hm, hb⟩ := c.ex
  exact pgen_meth0 (pl := pl) he cl hm F hr hb .nil ht
end
section
variable {Γ Γ' Γ1 Γ2 Γ3 : En} {ta tb te tx : TE} {tr : TA} {d e x y : PyData} {ds es : List PyData} {K : PySem.W.Frag}
theorem k_isiT {X : Cx} (h : X.K = K) : CallR X (.builtin "isinstance") (rIsiT K) := by subst h; exact call_isiT
/-- isinstance(x, (list, tuple)) -/
def isLT : PyData → Bool
  | .list _ => true
  | .tuple _ => true
  | _ => false
theorem ev_isiLT {b : Bool} (ha : Ev ta Γ Γ1 d) (hd : tyD d ≠ "") (h : isLT d = b) : Ev (tCB (rIsiT K) (tCons ta (tCons (tTup (tCons (tC (.ty "list")) (tCons (tC (.ty "tuple")) tNil))) tNil))) Γ Γ1 (.bool b) := ⟨ha.own, fun σ G H e s Q q => ha.run σ G H e s _ fun v G1 H1 n1 s1 r1 => ⟨by decide, fun p hp => by
  have n2 := new_own (M := M0) n1.i hp (.tup [.ty "list", .ty "tuple"])
  refine ⟨v, p, [.ty "list", .ty "tuple"], _, [.type "list", .type "tuple"], b, rfl, upd_same, .cons (.ty _) (.cons (.ty _) .nil), r1.ty n2.i hd, ?_, q _ G1 _ (n1.trans n2 fun _ z => z.elim) (s1.ownNew n1.i hp _) (.bl b)⟩
  subst h
  cases d with
  | dict => exact absurd rfl hd
  | _ => rfl⟩⟩
end
end Fd
namespace Fd
open PySem PySem.Spec PyProof.Rows L2
open AutoSeq1 (wpAny_loadPart')
open MeetsSeq MeetsSeq2 MeetsSeq3 SeqRoads2
/-- t * 1 is t itself -/
theorem tup_mul1 (l : Addr) (items : Array Value) (n : Nat) (dd : Option Addr) (sl : Array (Option Value)) (u : Tok) :
    Meets (Builtin.«tuple.__mul__» ⟨[.ref l, .int 1 u], []⟩) (fun _ R s => s.heap.get? l = some { cls := .type "tuple", dict := dd, data := .seq items n, slots := sl } ∧ R (.ok (.ret (Value.ref l))) s) :=
  .of_wp fun prog w A R s h => by
    obtain ⟨hp, g, d, tk, os⟩ := s
    obtain ⟨hl, h⟩ := h
    have f1 := AutoSeq1.idx_int
    have c1 : (items.isEmpty || (1 : Int) == 1) = true := by simp
    wp_walk using wpAny_loadPart' hl
    repeat (first
      | (refine wpAny_ite_false (decide_eq_false (by decide)) ?_; wp_walk using wpAny_loadPart' hl)
      | (refine wpAny_ite_true (decide_eq_true c1) ?_; wp_walk using wpAny_loadPart' hl))
    exact ⟨_, rfl, h⟩
def rRepU (K : PySem.W.Frag) : R2 := fun x y H Q => rRepT K x y H Q ∨ ∃ l xs, x = .ref l ∧ y = .int 1 ∧ SqT K H l xs ∧ Q (.ref l) H
section
variable {X : Cx} {K : PySem.W.Frag}
theorem op_repU : OpR X (binaryOp .Mult) (rRepU X.K) := by
  intro pins s σ H x y v u Q I rx ry h
  rcases h with h | ⟨l, xs, rfl, rfl, hT, q⟩
  · exact op_repT pins s σ H x y v u Q I rx ry h
  cases rx
  obtain ⟨t, rfl⟩ := ry
  obtain ⟨its, r, ⟨⟨cls, dd, data, sl⟩, ho, hc, n, hd⟩, hs⟩ := I.tuple hT
  simp only at hc hd
  subst hc hd
  refine wpAny_binaryOp_repeat_ref (T := "tuple") (U := "int") (by decide) ⟨_, ho, rfl⟩ (fun s' => typeIs_int s' 1 t) noFill_tuple_mul F.fills_int_mul F.slot_int_rmul repeat_tuple F.slot_int_index.lookup
    (call_meets F.slot_int_rmul (typeIs_int s 1 t) F.entry_int_rmul (F.args_int_rmul_2 _ _) (int_rmul_tuple 1 t l its.toArray n dd sl)
      ⟨ho, rfl, ⟨_, ho, rfl⟩, call_meets F.slot_tuple_mul ⟨_, ho, rfl⟩ F.entry_tuple_mul (F.args_tuple_mul_2 _ _) (tup_mul1 l its.toArray n dd sl t) ⟨ho, ?_⟩⟩)
  exact ⟨.ref l, H, I, rfl, q⟩
theorem k_repT (h : X.K = K) : OpR X (binaryOp .Mult) (rRepU K) := by subst h; exact op_repU
end
end Fd
namespace Fd
open PySem PyProof.Rows L2
section
variable {Γ Γ' Γ1 Γ2 Γ3 : En} {ta tb te tx : TE} {tr : TA} {d e x y : PyData} {ds es : List PyData} {K : PySem.W.Frag}
/-- xs.extend(e), xs one's own list -/
theorem st_ext {P : Ed} {i : Nat} {a : Addr} {ds0 : List PyData} (h0 : Γ[i]? = some (.cell a ds0)) (h : Ev te Γ Γ1 (.list es)) (hc : Γ1[i]? = some (.cell a ds)) (hl : ds.length + es.length ≤ 1000000) (p : P.nx (Γ1.set i (.cell a (ds ++ es)))) :
    StD (tDrop (tBM K "list" rExtend (tVar i) (tCons te tNil))) Γ P := fun σ G H D e s k1 _ _ _ => by
  obtain ⟨o, e1, rfl, _, xs0, hx0, _⟩ := s.at_ i _ h0
  refine ⟨_, e1, .inl ⟨rfl, xs0, SqL.of hx0⟩, h.run σ G H e s _ fun v G2 H2 n s2 r => ?_⟩
  obtain ⟨o, e2, rfl, ng, xs, hx, ra⟩ := s2.at_ i _ hc
  obtain ⟨b, zs, rfl, hb, rb⟩ := r.lstE
  have hm : a ∈ owns Γ1 := own_mem hc (by simp [own1])
  have s4 : Sd G2 (upd H2 a (.lst (xs ++ zs))) σ (Γ1.set i (.cell a (ds ++ es))) := s2.put hc rfl rfl fun o z => ⟨z.1, z.2.1, _, upd_same, ra.append rb⟩
  refine ⟨a, b, xs, zs, rfl, rfl, hx, n.i _ _ hb, sl_of (by rw [ra.len, rb.len]; exact hl), k1 _ σ G2 _ p ⟨?_, fun x m => .inl (h.own x (owns_cell hc x m)), s4⟩⟩
  exact n.trans (new_set (M := fun x => x = a) n.i ng rfl _) fun x m => by subst m; exact .inl (h.own _ hm)
/-- t * n, n from 1 on -/
theorem ev_repT {n : Int} (ha : Ev ta Γ Γ1 (.tuple [d])) (hb : Ev tb Γ1 Γ2 (.int n)) (h0 : 1 ≤ n) (h1 : n ≤ 1000) : Ev (tOp (rRepU K) ta tb) Γ Γ2 (.tuple (List.replicate n.toNat d)) :=
  ⟨fun a m => ha.own a (hb.own a m), fun σ G H e s Q q => ha.run σ G H e s _ fun u G1 H1 n1 s1 r1 => hb.run σ G1 H1 n1.i s1 _ fun v G2 H2 n2 s2 r2 => by
    obtain ⟨p, xs, rfl, hp, ra⟩ := (r1.mono n2.g).tupE
    obtain ⟨w, rfl, rw_⟩ := ra.e1
    have n12 := n1.trans n2 (mo ha.own)
    by_cases h : n = 1
    · subst h
      exact .inr ⟨p, [w], rfl, r2.intE, SqT.of (n2.i _ _ hp), q _ G2 H2 n12 s2 (.tup hp ra)⟩
    · refine .inl ⟨p, n, [w], rfl, r2.intE, SqT.of (n2.i _ _ hp), by simp, by omega, h1, by simp, fun l hl => ?_⟩
      have e1 : (List.replicate n.toNat [w]).flatten = List.replicate n.toNat w := by
        generalize n.toNat = k
        induction k with
        | zero => rfl
        | succ k ih => rw [List.replicate_succ, List.flatten_cons, ih, List.replicate_succ, List.singleton_append]
      rw [e1]
      exact q _ _ _ (n12.trans (new_dat (M := M0) n2.i hl _) fun _ z => z.elim) (s2.datNew n2.i hl _) (.tup upd_same ((RpAll.rep rw_ _).mono (new_dat (M := M0) n2.i hl _).g))⟩
end
end Fd
namespace Fd
open PySem PyProof.Rows L2
/-- a tuple of numbers that the top wrote under the name x -/
structure GTup (K : PySem.W.Frag) (mg : Str → Option Value) (x : Str) (A : Addr) (ns : List Int) : Prop where
  at_ : ∃ u, mg x = some u ∧ RelV (.ref A) u
  lk : ∃ (o : Obj) (its : Array Value) (n : Nat), K.lookup A = some o ∧ o.cls = .type "tuple" ∧ o.data = .seq its n ∧ its.size ≤ sizeLine ∧ Vals (ns.map V.int) its.toList
theorem ev_inK {Γ Γ1 : En} {ta : TE} {K : PySem.W.Frag} {mg : Str → Option Value} {x : Str} {A : Addr} {ns : List Int} {i : Int} (g : GTup K mg x A ns) (ha : Ev ta Γ Γ1 (.int i)) : Ev (tOp (rIn K false) ta (tC (.ref A))) Γ Γ1 (.bool (decide (i ∈ ns))) :=
  ⟨ha.own, fun σ G H e s Q q => ha.run σ G H e s _ fun u G1 H1 n1 s1 r1 => by
    rw [r1.intE]
    refine ⟨A, _, rfl, .inr (.inr g.lk), rfl, flat_ints ns, ?_⟩
    rw [if_neg (by decide), inV_ints]
    exact q _ G1 H1 n1 s1 (.bl _)⟩
end Fd
namespace Fd
open PySem PyProof.Rows L2
theorem k_fld {X : Cx} {K : PySem.W.Frag} {e : Expr} {f : Str} {pos : Pos} {ta : TE} (h : X.K = K) (he : PE X e ta) (hb : attributeBase e f X.env (eval e X.env) = eval e X.env) : PE X (.Attribute e f pos) (tFld K ta f) := by
  subst h
  exact pe_fld he hb
theorem kvPut_len (f : Str) (d : PyData) : ∀ ks : List (PyData × PyData), (kvPut f d ks).length ≤ ks.length + 1
  | [] => by simp [kvPut]
  | (k, e) :: r => by
    have := kvPut_len f d r
    unfold kvPut
    split
    · next h => cases h
    · next h =>
      split
      · simp at h; simp [h.2]; 
      · simp at h; simp [← h.2]; omega
    · next h => simp at h; simp [← h.2]; omega
end Fd

set_option Elab.async false
set_option maxRecDepth 100000
set_option maxHeartbeats 2000000
/-! Gn2: generators that a comprehension's block walks: beside the list at S the block's frame at C turns. -/
namespace L2
open PySem PySem.Spec PyProof.Rows GenW
/-- the object of a frame -/
def FrO (o : Obj) : Prop := ∃ es ep, o.data = .dict es ep ∧ StrKeys es
theorem FrO.ns {o : Obj} (h : FrO o) : ∃ m, ∀ (h' : Heap) (C : Addr), h'.get? C = some o → h'.Ns C m := let ⟨es, ep, d, k⟩ := h; ⟨nsFind es, fun _ _ e => ⟨o, es, ep, e, d, k, fun _ => rfl⟩⟩
theorem FrO.of {h : Heap} {C : Addr} {m : Str → Option Value} (n : h.Ns C m) : ∃ o, h.get? C = some o ∧ FrO o := let ⟨o, es, ep, e, d, k, _⟩ := n; ⟨o, e, es, ep, d, k⟩
theorem FrO.noCell {o : Obj} (h : FrO o) : ∀ v, o.data ≠ .cell v := fun v e => by
  obtain ⟨es, ep, d, _⟩ := h
  rw [d] at e
  cases e
structure Dz (S C : Addr) (v : Value) (s s' : Shared) : Prop where
  os : s'.os = s.os
  bare : AllBare s'.gens
  keep : ∀ b o, b ≠ S → b ≠ C → s.heap.get? b = some o → s'.heap.get? b = some o
  own : ∀ acc c, s.heap.get? S = some (lstObj acc c) → ∃ c', s'.heap.get? S = some (lstObj (acc.push v) c')
  frm : ∃ o, s'.heap.get? C = some o ∧ FrO o
def Gz (X : Cx) (S C : Addr) (ip : List (Addr × Obj)) (ys : List V) (σ : L2.St) (H : Hp) (s : Shared) : Prop :=
  ∃ (acc : Array Value) (c : Nat) (o : Obj), Vals ys acc.toList ∧ FrO o ∧ Inv X ((S, lstObj acc c) :: (C, o) :: ip) σ H s
structure CZ (X : Cx) (S C : Addr) (ip : List (Addr × Obj)) : Prop where
  pn : ∀ p ∈ X.pn, p.1 ≠ C
  ip : ∀ p ∈ ip, p.1 ≠ C
  apart : Apart X C
  ne : C ≠ S
theorem Gz.woken {X : Cx} {S C : Addr} {ip : List (Addr × Obj)} {ys : List V} {x : V} {v : Value} {σ : L2.St} {H : Hp} {s s' : Shared} (hpn : ∀ p ∈ X.pn, p.1 ≠ S) (hip : ∀ p ∈ ip, p.1 ≠ S) (hA : Apart X S) (z : CZ X S C ip) (h : Gz X S C ip ys σ H s) (rv : RelV x v) (d : Dz S C v s s') :
    Gz X S C ip (ys ++ [x]) σ H s' := by
  obtain ⟨acc, c, oC, r, fr, I⟩ := h
  obtain ⟨eS, hS0, hSL, hSf, _⟩ := I.pin (S, lstObj acc c) (List.mem_append_right _ List.mem_cons_self)
  obtain ⟨eC, hC0, hCL, hCf, _⟩ := I.pin (C, oC) (List.mem_append_right _ (List.mem_cons_of_mem _ List.mem_cons_self))
  have I0 : Inv X ip σ H s := I.pins_of fun p hp => I.pin p (List.mem_append_right _ (List.mem_cons_of_mem _ (List.mem_cons_of_mem _ hp)))
  have nt : ∀ b u, H b = some u → b ≠ S ∧ b ≠ C := fun b u q => ⟨fun e => (by rw [e, hS0] at q; cases q), fun e => (by rw [e, hC0] at q; cases q)⟩
  obtain ⟨z1, z2, z3, z4, o', z5, z6⟩ := d
  obtain ⟨c', eS'⟩ := z4 acc c eS
  obtain ⟨hh, g, dr, t, o⟩ := s'
  have ho : o = s.os := z1
  subst ho
  have nc : ∀ b, b ∉ [S, C] → b ≠ S ∧ b ≠ C := fun b hb => ⟨fun e => hb (by rw [e]; exact List.mem_cons_self), fun e => hb (by rw [e]; exact List.mem_cons_of_mem _ List.mem_cons_self)⟩
  have J : Inv X ip σ H { s with heap := hh, gens := g, drawn := dr, toks := t } := by
    refine I0.step (g' := g) (t' := t) (d' := dr) (ch := [S, C]) (fun b hb => ?_)
      (fun b ob _ _ hc q _ => z3 b ob (nc b hc).1 (nc b hc).2 q) (fun b ob _ _ hc q _ => ⟨ob.slots, z3 b ob (nc b hc).1 (nc b hc).2 q⟩) (fun _ _ _ _ n => n) (fun b ob hc q => ⟨ob, z3 b ob (nc b hc).1 (nc b hc).2 q⟩)
      (fun _ _ q => q) (fun _ _ _ q => q) (fun b ps q => ⟨#[], by rw [q]; simp⟩) (fun m hm => ?_) (fun b u q => ?_) z2
    · rcases List.mem_cons.mp hb with hb | hb
      · rw [hb]
        refine ⟨.inr hA.1, hA.2.1, hA.2.2, fun p hp => ?_⟩
        rcases List.mem_append.mp hp with hp | hp
        · exact hpn p hp
        · exact hip p hp
      · rw [List.mem_singleton.mp hb]
        refine ⟨.inr z.apart.1, z.apart.2.1, z.apart.2.2, fun p hp => ?_⟩
        rcases List.mem_append.mp hp with hp | hp
        · exact z.pn p hp
        · exact z.ip p hp
    · obtain ⟨ob, es, ep, ho, r⟩ := hm
      exact ⟨ob, es, ep, z3 _ ob (Ne.symm hSL) (Ne.symm hCL) ho, r⟩
    · refine (I0.hok b u q).stay (fun c v hc y => z3 c v ?_ ?_ y) (fun _ y => y) fun _ _ y => y
      · rcases hc with y | y
        · rw [y]; exact (nt b u q).1
        · exact (nt c _ y).1
      · rcases hc with y | y
        · rw [y]; exact (nt b u q).2
        · exact (nt c _ y).2
  refine ⟨acc.push v, c', o', ?_, z6, J.pins_of fun p hp => ?_⟩
  · rw [Array.toList_push]
    exact r.append (.cons rv .nil)
  · rcases List.mem_cons.mp hp with hp | hp
    · rw [hp]
      exact ⟨eS', hS0, hSL, hSf, fun v q => by cases q⟩
    · rcases List.mem_cons.mp hp with hp | hp
      · rw [hp]
        exact ⟨z5, hC0, hCL, hCf, z6.noCell⟩
      · exact J.pin p (List.mem_append_right _ hp)
def YZ (X : Cx) (S C : Addr) : Protocol := fun n s₀ v s kap =>
  ∃ ys x ip σ H, n + 1 + ys.length = sizeLine ∧ RelV x v ∧ Gz X S C ip ys σ H s ∧ ∀ s', Dz S C v s s' → kap (.send .none) s'
abbrev TZ := (List V → L2.St → Hp → Prop) → List V → L2.St → Hp → Prop
structure KZ (X : Cx) (S C : Addr) (ip : List (Addr × Obj)) (A : Around) (R : GenEnd) (c : Code) (fs : List Frame) (K : Flow → Sem PySem.Fin) (J : Value → Sem PySem.Fin) (nx : List V → L2.St → Hp → Prop) : Prop where
  ok : ∀ (n : Nat) (ys : List V) (s₀ s : Shared) (σ : L2.St) (H : Hp), n + ys.length = sizeLine → Gz X S C ip ys σ H s → nx ys σ H → Seg (model X.prog X.w) A R (YZ X S C) n s₀ c (K .next) fs s
  exc : ∀ (n : Nat) (s₀ : Shared) (e : Value) (s : Shared), X.xe e s → Seg (model X.prog X.w) A R (YZ X S C) n s₀ c (J e) fs s
structure ZS (X : Cx) (st : Stmt) (t : TZ) : Prop where
  run : ∀ (A : Around) (S C : Addr) (ip : List (Addr × Obj)) (R : GenEnd) (n : Nat) (ys : List V) (s₀ : Shared) (c : Code) (fs : List Frame) (K : Flow → Sem PySem.Fin) (J : Value → Sem PySem.Fin) (gd : Bool → Bool) (lv : List Value → List Value) (s : Shared) (σ : L2.St) (H : Hp) (nx : List V → L2.St → Hp → Prop),
    GC X S ip A c fs gd → CZ X S C ip → n + ys.length = sizeLine → KZ X S C ip A R c fs K J nx → Gz X S C ip ys σ H s → t nx ys σ H →
    Seg (model X.prog X.w) A R (YZ X S C) n s₀ c ((exec st X.env).wrap K J gd lv) fs s
structure ZSs (X : Cx) (st : List Stmt) (t : TZ) : Prop where
  run : ∀ (A : Around) (S C : Addr) (ip : List (Addr × Obj)) (R : GenEnd) (n : Nat) (ys : List V) (s₀ : Shared) (c : Code) (fs : List Frame) (K : Flow → Sem PySem.Fin) (J : Value → Sem PySem.Fin) (gd : Bool → Bool) (lv : List Value → List Value) (s : Shared) (σ : L2.St) (H : Hp) (nx : List V → L2.St → Hp → Prop),
    GC X S ip A c fs gd → CZ X S C ip → n + ys.length = sizeLine → KZ X S C ip A R c fs K J nx → Gz X S C ip ys σ H s → t nx ys σ H →
    Seg (model X.prog X.w) A R (YZ X S C) n s₀ c ((execs st X.env).wrap K J gd lv) fs s
section
variable {X : Cx}
theorem zs_one {st : Stmt} {t : TZ} (h : ZS X st t) : ZSs X [st] t := by
  refine ⟨fun A S C ip R n ys s₀ c fs K J gd lv s σ H nx g z hn k hI ht => ?_⟩
  refine seg_execs_cons ?_
  refine h.run A S C ip R n ys s₀ c fs _ J gd lv s σ H nx g z hn ⟨fun n' ys' s₀' s' σ' H' hn' hI' q => ?_, k.exc⟩ hI ht
  exact seg_execs_nil (k.ok n' ys' s₀' s' σ' H' hn' hI' q)
def tZYield (te : TE) : TZ := fun nx ys σ H => ys.length < sizeLine ∧ te σ H fun x H1 => nx (ys ++ [x]) σ H1
theorem zs_yield {e : Expr} {yp pos : Pos} {te : TE} (he : PE X e te) (hco : X.env.scope.isCoroutine = false := by rfl) (hi : interactive X.env = false := by rfl) : ZS X (.Expr (.Yield (some e) yp) pos) (tZYield te) := by
  refine ⟨fun A S C ip R n ys s₀ c fs K J gd lv s σ H nx g z hn k hI ht => ?_⟩
  obtain ⟨hlt, ht⟩ := ht
  obtain ⟨n, rfl⟩ : ∃ m, n = m + 1 := ⟨n - 1, by omega⟩
  obtain ⟨acc, cc, oC, r, fr, I⟩ := hI
  refine seg_Expr_Yield g.split g.gd g.guard ?_ hco hi
  rw [g.over]
  refine wpAny_mono (he.run _ s σ H _ I ht) (fun v s' hv => ?_) fun x s' hx => k.exc _ s₀ x s' hx
  obtain ⟨x, H1, I1, rv, q⟩ := hv
  have G1 : Gz X S C ip ys σ H1 s' := ⟨acc, cc, oC, r, fr, I1⟩
  intro kap hk
  refine ⟨ys, x, ip, σ, H1, hn, rv, G1, fun s'' d => hk .none s'' ?_⟩
  refine k.ok n (ys ++ [x]) s'' s'' σ H1 ?_ (G1.woken g.pn g.ip g.apart z rv d) q
  rw [List.length_append, List.length_singleton]; omega
def tZFor (wi : TI) (g : TG) (tb : TZ) : TZ := fun nx ys σ H => wi σ H fun J H1 => ∃ W : Nat → Nat → List V → L2.St → Hp → Prop, (∃ m, W 0 m ys σ H1) ∧ ∀ i m ys σ H, W i m ys σ H →
  (J.stop i H ∧ nx ys σ H) ∨ (J.go i H ∧ ∃ N : List V → L2.St → Hp → Prop, (∀ ys' σ' H', N ys' σ' H' → ∃ m', m' < m ∧ W (i + 1) m' ys' σ' H') ∧ ∀ x H', J.yld i H x H' → g x σ H' fun σ2 H2 => tb N ys σ2 H2)
theorem zs_for {tg iter : Expr} {body : List Stmt} {pos : Pos} {wi : TI} {g : TG} {tb : TZ} (hp : PassesOwn (model X.prog X.w) X.A X.env X.xe) (hc : X.calm = true) (hi : PI X tg iter wi) (hg : PG X tg g) (hb : ZSs X body tb)
    (hs : ∀ x, foldedSetIterable iter X.env x = pure x := by intro _; rfl) : ZS X (.For tg iter body [] pos) (tZFor wi g tb) := by
  refine ⟨fun A S C ip R n ys s₀ c fs K J gd lv s σ H nx gc z hn k hI ht => ?_⟩
  obtain ⟨acc, cc, oC, r, fr, I⟩ := hI
  rw [exec_For]
  refine seg_bind_wrap (wpAny_standAt ?_)
  refine seg_bind_wrap ?_
  rw [gc.over]
  refine wpAny_mono (hi.run _ s σ H _ I ht) (fun v s1 h1 => ?_) fun x s' hx => k.exc n s₀ x s' hx
  refine seg_bind_wrap (wpAny_of_eq (hs v) ?_)
  refine seg_bind_wrap (wpAny_standAt ?_)
  refine seg_bind_wrap (wpAny_holding ?_)
  rw [gc.over]
  refine wpAny_mono h1 (fun itv s2 h2 => ?_) fun x s' hx => k.exc n s₀ x s' hx
  obtain ⟨it, fp, tn, J', H2, e, I2, T, st2, f2, W, ⟨m0, w0⟩, turn⟩ := h2
  subst e
  have sub : ∀ {a1 : Array Value} {c1 : Nat} {o1 : Obj} {b : Addr}, (∀ p ∈ X.pn ++ ((S, lstObj acc cc) :: (C, oC) :: ip), p.1 ≠ b) → ∀ p ∈ X.pn ++ ((S, lstObj a1 c1) :: (C, o1) :: ip), p.1 ≠ b := fun {a1 c1 o1 b} f p hp => by
    rcases List.mem_append.mp hp with hp | hp
    · exact f p (List.mem_append_left _ hp)
    · rcases List.mem_cons.mp hp with hp | hp
      · rw [hp]
        exact f (S, lstObj acc cc) (List.mem_append_right _ List.mem_cons_self)
      · rcases List.mem_cons.mp hp with hp | hp
        · rw [hp]
          exact f (C, oC) (List.mem_append_right _ (List.mem_cons_of_mem _ List.mem_cons_self))
        · exact f p (List.mem_append_right _ (List.mem_cons_of_mem _ (List.mem_cons_of_mem _ hp)))
  have stat : ∀ {a1 : Array Value} {c1 : Nat} {o1 : Obj} {H' : Hp}, (∀ b ∈ fp, H' b = none) → ∀ b ∈ fp, FpOk X ((S, lstObj a1 c1) :: (C, o1) :: ip) H' b := fun {a1 c1 o1 H'} hn b hb => by
    obtain ⟨f0, f1, f2', f3, f4, f5⟩ := f2 b hb
    exact ⟨hn b hb, f1, f2', f3, f4, sub f5⟩
  show Seg _ A R _ n s₀ c ((runOwn (.forLoop tg (.ref it) body [] X.env) X.env).wrap K J gd lv) fs s2
  refine seg_call fun p => ?_
  have gl := fun (kk : Result → Sem PySem.Fin) => gc_loop (k := kk) (c' := .forLoop tg (.ref it) body [] X.env) (l := lv []) (kp := []) (p := p) gc rfl rfl
  have cb : ∀ {n : Nat} {s₀ s : Shared} {e : Value}, cameBackBy (model X.prog X.w) X.A X.env X.xe e s →
      Seg (model X.prog X.w) A R (YZ X S C) n s₀ c (((Sem.raise e : Sem Flow).onRaise (cameBack X.env)).wrap K J gd lv) fs s := fun {n s₀ s e} h => by
    show Seg _ _ _ _ _ _ _ (((cameBack X.env e).bind fun _ => (Sem.raise e : Sem Flow)).wrap K J gd lv) _ _
    rw [Sem.bind_eq_wrap, Sem.wrap_wrap]
    refine seg_wrap ?_
    rw [gc.over]
    exact wpAny_mono h (fun _ s' hx => k.exc n s₀ e s' hx) fun x s' hx => k.exc n s₀ x s' hx
  have loop : ∀ (m i n : Nat) (ys : List V) (s₀ s : Shared) (σ : L2.St) (H : Hp), n + ys.length = sizeLine → W i m ys σ H → tn i s.heap → (∀ b ∈ fp, H b = none) → Gz X S C ip ys σ H s →
      Seg (model X.prog X.w) A R (YZ X S C) n s₀ (.forLoop tg (.ref it) body [] X.env) ((model X.prog X.w).den (.forLoop tg (.ref it) body [] X.env))
        (.ret (fun r => ((match r with | .ok f => (.pure f : Sem Flow) | .error e => .raise e).onRaise (cameBack X.env)).wrap K J gd lv) none (gd false) (lv []) c p [] :: fs) s := by
    intro m
    induction m using Nat.strongRecOn with
    | ind m ih =>
      intro i n ys s₀ s σ H hn w st fr0 hI
      have ee : ∀ (n : Nat) (s₀ : Shared) (x : Value) (s' : Shared), X.xe x s' → Seg (model X.prog X.w) A R (YZ X S C) n s₀ (.forLoop tg (.ref it) body [] X.env)
          ((do noteFrame x X.env; theTreesLotGoes x : Sem Unit).wrap (fun _ => .raise x) .raise id id)
          (.ret (fun r => ((match r with | .ok f => (.pure f : Sem Flow) | .error e => .raise e).onRaise (cameBack X.env)).wrap K J gd lv) none (gd false) (lv []) c p [] :: fs) s' := fun n s₀ x s' hx => by
        refine seg_wrap ?_
        rw [(gl _).over]
        refine wpAny_bind (wpAny_mono (hp x s' hx) (fun _ s'' hcb => wpAny_theTreesLotGoes ?_) fun y s'' hcb => ?_)
        · exact seg_leaf (.error x) (cb hcb)
        · exact seg_leaf (.error y) (cb hcb)
      refine seg_forLoop ?_
      rw [(gl _).over]
      obtain ⟨acc1, cc1, o1, r1, fro1, I1⟩ := hI
      rcases turn i m ys σ H w with ⟨stop, qn⟩ | ⟨go, N, hN, step⟩
      · refine wpAny_mono (T.done X rfl rfl rfl hc i _ s σ H X.xe I1 (stat fr0) st stop) (fun r' s4 h4 => ?_) fun x s' hx => ee n s₀ x s' hx
        obtain ⟨hr, I4⟩ := h4
        subst hr
        refine seg_again rfl (seg_block0 ?_)
        exact seg_leaf (.ok .next) (k.ok n ys s₀ s4 σ H hn ⟨acc1, cc1, o1, r1, fro1, I4⟩ qn)
      · refine wpAny_mono (T.item X rfl rfl rfl hc i _ s σ H X.xe I1 (stat fr0) st go) (fun r' s4 h4 => ?_) fun x s' hx => ee n s₀ x s' hx
        obtain ⟨u, hr, h4⟩ := h4
        subst hr
        refine wpAny_mono h4 (fun _ s5 h5 => ?_) fun x s' hx => ee n s₀ x s' hx
        obtain ⟨x, H5, I5, r5, y5, st5, fr5⟩ := h5
        have I5' := I5.pinned (stat fr5) (T.obj _ _ st5)
        refine wpAny_mono (hg.run _ s5 σ H5 x u _ I5' r5 (step x H5 y5)) (fun _ s6 h6 => ?_) fun x s' hx => ee n s₀ x s' hx
        obtain ⟨σ6, H6, I6, q6⟩ := h6
        have gl2 : GC X S (ip ++ pinsAt fp s5.heap) A (.forLoop tg (.ref it) body [] X.env) (.ret (fun r => ((match r with | .ok f => (.pure f : Sem Flow) | .error e => .raise e).onRaise (cameBack X.env)).wrap K J gd lv) none (gd false) (lv []) c p [] :: fs) id := by
          have zz := gl fun r => ((match r with | .ok f => (.pure f : Sem Flow) | .error e => .raise e).onRaise (cameBack X.env)).wrap K J gd lv
          refine ⟨zz.pn, fun p hp => ?_, zz.apart, zz.over, zz.split, zz.guard, zz.gd⟩
          rcases List.mem_append.mp hp with hp | hp
          · exact zz.ip p hp
          · obtain ⟨hb', _⟩ := of_pinsAt hp
            obtain ⟨_, _, _, _, _, f5⟩ := f2 p.1 hb'
            exact fun e => f5 (S, lstObj _ _) (List.mem_append_right _ List.mem_cons_self) e.symm
        have z2 : CZ X S C (ip ++ pinsAt fp s5.heap) := ⟨z.pn, fun p hp => by
          rcases List.mem_append.mp hp with hp | hp
          · exact z.ip p hp
          · obtain ⟨hb', _⟩ := of_pinsAt hp
            obtain ⟨_, _, _, _, _, f5⟩ := f2 p.1 hb'
            exact fun e => f5 (C, oC) (List.mem_append_right _ (List.mem_cons_of_mem _ List.mem_cons_self)) e.symm, z.apart, z.ne⟩
        have unp : ∀ {ys' : List V} {σ' : L2.St} {H' : Hp} {s' : Shared}, Gz X S C (ip ++ pinsAt fp s5.heap) ys' σ' H' s' → Gz X S C ip ys' σ' H' s' ∧ tn (i + 1) s'.heap ∧ ∀ b ∈ fp, H' b = none := fun {ys' σ' H' s'} hg' => by
          obtain ⟨acc', cc', o', r', fro', I'⟩ := hg'
          have mem : ∀ {b : Addr} {o : Obj}, b ∈ fp → s5.heap.get? b = some o → (b, o) ∈ X.pn ++ ((S, lstObj acc' cc') :: (C, o') :: (ip ++ pinsAt fp s5.heap)) := fun {b o} hb e =>
            List.mem_append_right _ (List.mem_cons_of_mem _ (List.mem_cons_of_mem _ (List.mem_append_right _ (mem_pinsAt hb e))))
          refine ⟨⟨acc', cc', o', r', fro', I'.pins_of fun p hp => I'.pin p ?_⟩, T.keep _ _ _ st5 fun b hb o e => ?_, fun b hb => ?_⟩
          · rcases List.mem_cons.mp hp with hp | hp
            · rw [hp]; exact List.mem_append_right _ List.mem_cons_self
            · rcases List.mem_cons.mp hp with hp | hp
              · rw [hp]; exact List.mem_append_right _ (List.mem_cons_of_mem _ List.mem_cons_self)
              · exact List.mem_append_right _ (List.mem_cons_of_mem _ (List.mem_cons_of_mem _ (List.mem_append_left _ hp)))
          · exact (I'.pin (b, o) (mem hb e)).1
          · obtain ⟨o, e, d⟩ := T.obj _ _ st5 b hb
            exact (I'.pin (b, o) (mem hb e)).2.1
        refine hb.run A S C (ip ++ pinsAt fp s5.heap) R n ys s₀ _ _ _ _ id id s6 σ6 H6 N gl2 z2 hn ⟨fun n' ys' s₀' s3 σ3 H3 hn' I3 n3 => ?_, fun n' s₀' x s3 hx => ee n' s₀' x s3 hx⟩ ⟨acc1, cc1, o1, r1, fro1, I6⟩ q6
        obtain ⟨m', hm, w3⟩ := hN ys' σ3 H3 n3
        obtain ⟨u1, u2, u3⟩ := unp I3
        exact seg_again rfl (ih m' hm (i + 1) n' ys' s₀' s3 σ3 H3 hn' w3 u2 u3 u1)
  exact loop m0 0 n ys s₀ s2 σ H2 hn w0 st2 (fun b hb => (f2 b hb).1) ⟨acc, cc, oC, r, fr, I2⟩
end
end L2

set_option Elab.async false
set_option maxRecDepth 100000
set_option maxHeartbeats 2000000
/-! Gn3: a generator def's promise where a comprehension walks it; the comprehension. -/
namespace L2
open PySem PySem.Spec PyProof.Rows GenW
def ZEnd (P : Program) (w : World) (outer : List Env) (H : Hp) (s : Shared) (S C : Addr) (Q : List V → Hp → Prop) : GenEnd := fun _ _ r s1 =>
  ((r = .ok (.ret .none) ∨ r = .ok .next) ∧ ∃ (H' : Hp) (ys : List V) (acc : Array Value) (c : Nat), s1.os = s.os ∧ AllBare s1.gens ∧ Un (frs outer) [] H H' s.heap s1.heap ∧ HOk P w H' s1.heap ∧ H' S = none ∧ (∃ o, s1.heap.get? C = some o ∧ FrO o) ∧
    s1.heap.get? S = some (lstObj acc c) ∧ Vals ys acc.toList ∧ ys.length ≤ sizeLine ∧ H' C = none ∧ Q ys H') ∨ ∃ e, r = .error e ∧ False
def ZItem (s : Shared) (S C a : Addr) (g : Nat) : Protocol := fun n _ v s1 kap =>
  s1.os = s.os ∧ AllBare s1.gens ∧ s1.heap.NoLimit ∧ s1.heap.IsGen a g ∧ (∃ (acc : Array Value) (c : Nat), s1.heap.get? S = some (lstObj acc c) ∧ n + 1 + acc.size = sizeLine) ∧ (∃ o, s1.heap.get? C = some o ∧ FrO o) ∧ ∀ s', Dz S C v s1 s' → kap (.send .none) s'
def ZMade (P : Program) (w : World) (k : Nat) (outer : List Env) (H : Hp) (s : Shared) (Q : List V → Hp → Prop) (u : Value) (s' : Shared) : Prop :=
  ∃ (a : Addr) (g : Nat) (c : Code), u = .ref a ∧ s.heap.objs.size ≤ a ∧ a < s'.heap.objs.size ∧ s'.heap.IsGen a g ∧ s'.gens[g]? = some (.fresh c) ∧ s'.os = s.os ∧ AllBare s'.gens ∧ s'.heap.NoLimit ∧ (∀ b o, s.heap.get? b = some o → s'.heap.get? b = some o) ∧
    ∀ (A : Around) (S C : Addr) (s2 : Shared), Room k A → A.frames = some outer → s'.heap.objs.size ≤ S → s'.heap.objs.size ≤ C → C ≠ S → (∀ b o, s'.heap.get? b = some o → s2.heap.get? b = some o) → (∃ c, s2.heap.get? S = some (lstObj #[] c)) → (∃ o, s2.heap.get? C = some o ∧ FrO o) → s2.os = s.os → AllBare s2.gens →
      Seg (model P w) A (ZEnd P w outer H s S C Q) (ZItem s S C a g) sizeLine s2 c ((model P w).den c) [] s2
structure ZFn (P : Program) (w : World) (K : PySem.W.Frag) (mg : Str → Option Value) (base : Heap) (k : Nat) (f : Addr) (fd : FuncData) (ps : List Str) (sp : SpG) : Prop where
  len : ∀ vs H Q E, sp vs H Q E → vs.length = ps.length
  run : ∀ (A : Around) (outer : List Env) (s : Shared) (H : Hp) (args : Args) (us : List Value) (vs : List V) (Q : List V → Hp → Prop), Room k A → Env0 P w K mg base A outer s H → BindsTo s fd args (ps.zip us) → Vals vs us → sp vs H Q E0 →
    codeAny (model P w) A (.call (.ref f) args) (fun r s' => match r with | .ok (.ret u) => ZMade P w k outer H s Q u s' | _ => False) s
theorem zfn_of {P : Program} {w : World} {K : PySem.W.Frag} {mg : Str → Option Value} {base : Heap} {k : Nat} {f : Addr} {name qual : Str} {params : Arguments} {body : List Stmt} {scope : Scope} {dV kV doc pm cdv ct oc : Value} {an od : Option Addr}
    {osl : Array (Option Value)} {N ps : List Str} {sp : SpG} (lk : K.lookup f = some ⟨oc, od, .func (PySem.W.fnOf name qual params body scope dV kV doc pm an cdv ct), osl⟩) (hcd : PySem.W.codeIn K cdv qual = true) (S : GScope N ps scope)
    (len : ∀ vs H Q E, sp vs H Q E → vs.length = ps.length)
    (hbody : ∀ (A : Around) (outer : List Env) (s : Shared) (H : Hp) (vs : List V) (Q : List V → Hp → Prop) (pn : List (Addr × Obj)), Room k (A.deeper (envOfC qual scope s.heap.objs.size f cdv)) → sp vs H Q E0 →
      ∃ t, ZSs (gcxOf P w K mg base N qual scope f cdv A outer s H E0 pn) body t ∧ t (fun ys _ H' => Q ys H') [] (start N vs) H) :
    ZFn P w K mg base (k + 1) f (PySem.W.fnOf name qual params body scope dV kV doc pm an cdv ct) ps sp := by
  refine ⟨len, fun A outer s H args us vs Q hr e0 hb r hsp => ?_⟩
  have hl := len _ _ _ _ hsp
  have KX : K.In s.heap := e0.mod.kin.keeps fun b o e => (e0.bs b o e).1
  have lim : s.heap.NoLimit := e0.mod.nolimit.keeps fun b o e => (e0.bs b o e).1
  have hkind : ∀ y ∈ ps.zip us, scope.names.lookup y.1 = some .local ∨ (scope.names.lookup y.1 = some .cell ∧ ((cellsFrom (s.heap.objs.size + 1) scope.names []).lookup y.1).isSome = true) := fun ⟨n, v⟩ hy => by
    rcases S.par n (List.of_mem_zip hy).1 with q | q
    · exact .inl q
    · exact .inr ⟨q, PySem.W.cellsFrom_some _ _ _ (.inl q)⟩
  refine codeAny_call_generator hr.depth (KX _ _ lk) rfl S.co S.gen rfl (PySem.W.codeRec_of KX hcd) (hb _ _ _ _ ?_)
  refine wpAny_newFunctionEnv_cells S.kind hkind fun env he s1 x => ?_
  subst he
  have lim1 : s1.heap.NoLimit := lim.keeps x.toInCall.keep
  refine ⟨lim1, ?_⟩
  obtain ⟨h1, tk, es1, hk1⟩ := x.done
  have os1 : s1.os = s.os := by rw [es1]
  have gen1 : s1.gens = s.gens := by rw [es1]
  have lt1 : s.heap.objs.size < s1.heap.objs.size := x.toInCall.ns.lt
  have sz1 : s.heap.objs.size ≤ s1.heap.objs.size := Nat.le_of_lt lt1
  have kp1 : ∀ b o, s.heap.get? b = some o → s1.heap.get? b = some o := x.toInCall.keep
  have main : ∀ (go : Obj) (nm qn : Value) (tk2 : Nat), go.cls = .type "generator" → go.data = .fields #[.int s1.gens.size 0, nm, qn] → go.slots = #[] → (∀ h : Heap, (h.push go).get? h.objs.size = some go) →
      ZMade P w (k + 1) outer H s Q (.ref s1.heap.objs.size) { s1 with gens := s1.gens.push (.fresh (.func body (envOfC qual scope s.heap.objs.size f cdv))), toks := tk2, heap := s1.heap.push go } := by
    intro go nm qn tk2 hgc hgd0 hgs hgp
    have hgen : ∀ h : Heap, h.get? s1.heap.objs.size = some go → h.IsGen s1.heap.objs.size s1.gens.size := fun h e => ⟨go, nm, qn, e, hgc, hgd0, hgs⟩
    have hpushed : (s1.heap.push go).get? s1.heap.objs.size = some go := hgp _
    have szp : (s1.heap.push go).objs.size = s1.heap.objs.size + 1 := Heap.size_push ..
    refine ⟨s1.heap.objs.size, s1.gens.size, _, rfl, sz1, ?_, hgen _ hpushed, Array.getElem?_push_size .., os1, ?_, lim1.keeps fun b o e => Heap.get?_push_of_some _ e, fun b o e => Heap.get?_push_of_some _ (kp1 b o e), ?_⟩
    · show _ < (s1.heap.push _).objs.size
      rw [szp]; exact Nat.lt_succ_self _
    · exact AllBare.push (by rw [gen1]; exact e0.bare) rfl
    intro Aw Sx Cx2 s2 hrw hfr hSx hCx hCS hk2 hSo hCo hos hba
    have e0w : Env0 P w K mg base Aw outer s H := ⟨hfr, e0.mod, e0.bs, e0.bsz, e0.funs, e0.frf, e0.hok, e0.bare⟩
    obtain ⟨t, ht, hq⟩ := hbody Aw outer s H vs Q [(s1.heap.objs.size, go)] (hrw.deeper _) hsp
    have I1 : Inv (gcxOf P w K mg base N qual scope f cdv Aw outer s H E0 []) [] (start N vs) H s1 := inv_startG S hrw.hd e0w hl r x
    have kp2 : ∀ b o, s1.heap.get? b = some o → s2.heap.get? b = some o := fun b o e => hk2 b o (Heap.get?_push_of_some _ e)
    have I2 : Inv (gcxOf P w K mg base N qual scope f cdv Aw outer s H E0 []) [] (start N vs) H s2 :=
      I1.call' (ch := []) (hos.trans os1.symm) (Un.kept kp2) (I1.hok.kept kp2) hba fun b z => by simp at z
    have big : ∀ {y : Addr}, (s1.heap.push go).objs.size ≤ y → s1.heap.objs.size < y := fun {y} hy => by
      rw [szp] at hy
      exact hy
    have hSz := big hSx
    have hCz := big hCx
    obtain ⟨cS, heS⟩ := hSo
    obtain ⟨oC, heC, frC⟩ := hCo
    have hea : s2.heap.get? s1.heap.objs.size = some go := hk2 s1.heap.objs.size go hpushed
    have hgd : ∀ v, go.data ≠ .cell v := fun v q => by rw [hgd0] at q; cases q
    have young : ∀ b, s1.heap.objs.size ≤ b → H b = none ∧ b ≠ s.heap.objs.size ∧ b ∉ frs outer ∧ s.heap.objs.size ≤ b ∧ ∀ y c, (cellsFrom (s.heap.objs.size + 1) scope.names []).lookup y = some c → c ≠ b := fun b hb => by
      refine ⟨I1.hok.fresh hb, Nat.ne_of_gt (Nat.lt_of_lt_of_le lt1 hb), I1.nofs hb, Nat.le_trans sz1 hb, fun y c e z => ?_⟩
      obtain ⟨v, ob, ho, _⟩ := I1.cell y c e
      have := Heap.lt_size ho
      rw [z] at this
      exact absurd (Nat.lt_of_lt_of_le this hb) (Nat.lt_irrefl _)
    have hG : Gz (gcxOf P w K mg base N qual scope f cdv Aw outer s H E0 [(s1.heap.objs.size, go)]) Sx Cx2 [] [] (start N vs) H s2 := by
      refine ⟨#[], cS, oC, .nil, frC, Inv.pinnedG I2 fun p hp => ?_⟩
      rcases List.mem_append.mp hp with z | z
      · rw [List.mem_singleton.mp z]
        obtain ⟨y1, y2, y3, _, _⟩ := young s1.heap.objs.size (Nat.le_refl _)
        exact ⟨hea, y1, y2, y3, hgd⟩
      · rcases List.mem_cons.mp z with z | z
        · rw [z]
          obtain ⟨y1, y2, y3, _, _⟩ := young Sx (Nat.le_of_lt hSz)
          exact ⟨heS, y1, y2, y3, fun v q => by cases q⟩
        · rw [List.mem_singleton.mp z]
          obtain ⟨y1, y2, y3, _, _⟩ := young Cx2 (Nat.le_of_lt hCz)
          exact ⟨heC, y1, y2, y3, frC.noCell⟩
    have ap : ∀ {y : Addr}, s1.heap.objs.size < y → Apart (gcxOf P w K mg base N qual scope f cdv Aw outer s H E0 [(s1.heap.objs.size, go)]) y := fun {y} hy => by
      obtain ⟨_, y2, _, y4, y5⟩ := young y (Nat.le_of_lt hy)
      exact ⟨y4, y2, y5⟩
    have hpn : ∀ {y : Addr}, s1.heap.objs.size < y → ∀ p ∈ [(s1.heap.objs.size, go)], p.1 ≠ y := fun {y} hy p hp => by
      rw [List.mem_singleton.mp hp]
      exact Nat.ne_of_lt hy
    have pinned : ∀ {ip : List (Addr × Obj)} {ys : List V} {s' : Shared} {σ' : L2.St} {H' : Hp}, Gz (gcxOf P w K mg base N qual scope f cdv Aw outer s H E0 [(s1.heap.objs.size, go)]) Sx Cx2 ip ys σ' H' s' → s'.heap.IsGen s1.heap.objs.size s1.gens.size := fun {ip ys s' σ' H'} hI => by
      obtain ⟨acc, cc, _, _, _, J⟩ := hI
      exact hgen _ (J.pin (s1.heap.objs.size, go) (List.mem_append_left _ (List.mem_singleton.mpr rfl))).1
    have atS : ∀ {ip : List (Addr × Obj)} {ys : List V} {s' : Shared} {σ' : L2.St} {H' : Hp}, Gz (gcxOf P w K mg base N qual scope f cdv Aw outer s H E0 [(s1.heap.objs.size, go)]) Sx Cx2 ip ys σ' H' s' →
        ∃ acc c o, Vals ys acc.toList ∧ FrO o ∧ s'.heap.get? Sx = some (lstObj acc c) ∧ H' Sx = none ∧ s'.heap.get? Cx2 = some o ∧ H' Cx2 = none := fun {ip ys s' σ' H'} hI => by
      obtain ⟨acc, cc, o, ra, fo, J⟩ := hI
      obtain ⟨p1, p2, _⟩ := J.pin (Sx, lstObj acc cc) (List.mem_append_right _ List.mem_cons_self)
      obtain ⟨p3, p4, _⟩ := J.pin (Cx2, o) (List.mem_append_right _ (List.mem_cons_of_mem _ List.mem_cons_self))
      exact ⟨acc, cc, o, ra, fo, p1, p2, p3, p4⟩
    refine seg_func ?_
    refine seg_imp (R := ZEnd P w outer H s Sx Cx2 Q) (Y := YZ (gcxOf P w K mg base N qual scope f cdv Aw outer s H E0 [(s1.heap.objs.size, go)]) Sx Cx2) (fun n s₀ r s1' hR => hR) (fun n s₀ v s1' kap kap' hkk hY => ?_) sizeLine ?_
    · obtain ⟨ys, xx, ip, σ', H', hn, h2, hI, h3⟩ := hY
      obtain ⟨acc, cc, o, ra, fo, ea, _, eo, _⟩ := atS hI
      have hg := pinned hI
      obtain ⟨_, _, _, _, _, J⟩ := hI
      have hsz : acc.size = ys.length := by
        have e1 := ra.length
        have e2 : acc.toList.length = acc.size := by simp
        omega
      exact ⟨J.os, J.bare, J.nolimit, hg, ⟨acc, cc, ea, by rw [hsz]; exact hn⟩, ⟨o, eo, fo⟩, fun s' z => hkk _ _ (h3 s' z)⟩
    · refine ht.run Aw Sx Cx2 [] (ZEnd P w outer H s Sx Cx2 Q) sizeLine [] s2 _ [] _ _ id id s2 (start N vs) H _ ⟨hpn hSz, fun p hp => (by simp at hp), ap hSz, over_func, rfl, rfl, rfl⟩ ⟨hpn hCz, fun p hp => (by simp at hp), ap hCz, hCS⟩ (Nat.add_zero _) ⟨fun n ys s₀ s' σ' H' hn hI hQ => ?_, fun n s₀ e s' hx => ?_⟩ hG hq
      · obtain ⟨acc, cc, o, ra, fo, ea, hS0, eo, hC0⟩ := atS hI
        obtain ⟨_, _, _, _, _, J⟩ := hI
        exact seg_end (.ok (.ret .none)) (.inl ⟨.inl rfl, H', ys, acc, cc, J.os, J.bare, J.base, J.hok, hS0, ⟨o, eo, fo⟩, ea, ra, by omega, hC0, hQ⟩)
      · refine seg_wrap ?_
        rw [over_func]
        refine wpAny_mono (show wpAny (model P w) (Aw.deeper (envOfC qual scope s.heap.objs.size f cdv)) (leaving (envOfC qual scope s.heap.objs.size f cdv) e) (fun _ s'' => CX P w outer H s E0 e s'' ∧ ∀ p ∈ [(s1.heap.objs.size, go)], s''.heap.get? p.1 = some p.2) (fun _ _ => False) s' from hx) (fun _ s'' q => ?_) fun _ s'' q => q.elim
        obtain ⟨⟨_, _, _, _, _, _, _, _, _, _, _, _, hW⟩, _⟩ := q
        exact hW.elim
  exact main _ _ _ _ rfl rfl rfl fun h => Heap.get?_push_size _ rfl
end L2

set_option Elab.async false
set_option maxRecDepth 100000
set_option maxHeartbeats 2000000
/-! Gn4: [x for x in f(..)], f a generator def. -/
namespace L2
open PySem PySem.Spec PyProof.Rows GenW
section
variable {X : Cx} {k : Nat} {f : Addr} {fd : FuncData} {ps : List Str} {sp : SpG} {x : Str} {p pos pos' : Pos}
structure PZen (X : Cx) (k : Nat) (e : Expr) (tg : TGen) : Prop where
  run : ∀ (pins : List (Addr × Obj)) (s : Shared) (σ : L2.St) (H : Hp) (cont : List V → Hp → Prop), Inv X pins σ H s → tg σ H cont → wpAny (model X.prog X.w) X.A (eval e X.env)
    (fun u s' => ∃ H1 sc, Inv X pins σ H1 sc ∧ ZMade X.prog X.w k X.stack H1 sc cont u s') X.xe s
theorem pz_call {e : Expr} {es : List Expr} {t : TA} (F : ZFn X.prog X.w X.K X.mg X.base k f fd ps sp) (hr : Room k X.A) (hg : Gl X x) (hm : X.mg x = some (.ref f)) (hk : PySem.W.keepIn X.K (.ref f) = true) (hb : Binds X.K fd ps [])
    (ha : PA X (e :: es) t) (hdb : (x == ("__debug__" : Str)) = false := by decide) (he : starEach (e :: es) X.env = (false, eval e X.env) :: starEach es X.env := by rfl) (hpl : (backTo pos' (starEach es X.env)).any (·.1) = false := by rfl) :
    PZen X k (.Call (.Name x p) (e :: es) [] pos') (tCallG sp [] E0 t) := by
  refine ⟨fun pins s σ H cont I h => ?_⟩
  refine wpAny_Call_Name_kw (ld_glob I hg hm ?_ hdb)
  refine PySem.W.callWith_K (h₀ := X.base) I.ok.mod.kin hk (thn (ha.run pos' pins s σ H _ I h) fun us s1 ⟨vs, H1, I1, r, q⟩ => ⟨I1.kIn, ?_⟩) he hpl
  have q : sp (vs ++ []) H1 cont E0 := q
  rw [List.append_nil] at q
  have hl2 : us.length = ps.length := by rw [← r.length]; exact F.len _ _ _ _ q
  have hbb := hb s1 us I1.kIn (by rw [List.append_nil]; exact hl2)
  rw [List.append_nil] at hbb
  refine wpAny_call (codeAny_mono (F.run X.A X.stack s1 H1 ⟨us, []⟩ us vs cont hr I1.env0 hbb r q) fun r s' hq => ?_)
  cases r with
  | error e => exact False.elim hq
  | ok fl =>
    cases fl with
    | ret u => exact ⟨H1, s1, I1, hq⟩
    | next => exact False.elim hq
    | brk => exact False.elim hq
    | cont => exact False.elim hq
theorem room_in1 {k : Nat} {A : Around} (h : Room (k + 1) A) : Room k A.in1 := ⟨h.hd, by have := h.dp; show A.depth + 3 * k + 5 < _; omega, by have := h.un; show A.units + 1 + 16 * k + 200 < _; omega⟩
theorem Dz.both {S C : Addr} {v : Value} {s s' : Shared} {acc : Array Value} {c : Nat} (hCS : C ≠ S) (hS : s.heap.get? S = some (lstObj acc c)) (os : s'.os = s.os) (hb : AllBare s'.gens) {h1 : Heap} {m : Str → Option Value} (s1 : Heap.SameBut C s.heap h1) (s2 : Heap.SameBut S h1 s'.heap)
    (n1 : h1.Ns C m) (e : s'.heap.get? S = some (lstObj (acc.push v) (c + 1))) : Dz S C v s s' where
  os := os
  bare := hb
  keep := fun b o b1 b2 q => (s2.2 b b1).trans ((s1.2 b b2).trans q)
  own := fun acc' c' q => by
    rw [hS] at q
    cases q
    exact ⟨_, e⟩
  frm := FrO.of (n1.sameBut s2 hCS)
/-- [y for y in g] -/
theorem pe_lcZ {y : Str} {p1 p2 pos : Pos} {iter : Expr} {scope : Scope} {own : List (Str × Nat)} {tg : TGen} (hr : Room (k + 1) X.A) (hz : PZen X k iter tg) (ok : BlkOk X.N X.env.scope scope own)
    (hy : ∀ C cl, (compEnvC scope cl C X.env).kindOf y = some .local) (hk : ∀ C cl, (compEnvC scope cl C X.env).scope.kind = .function) (hs : ∀ x, foldedSetIterable iter X.env x = pure x := by intro _; rfl) (hdb : (y == ("__debug__" : Str)) = false := by decide) :
    PE X (.ListComp (.Name y p1) [⟨.Name y p2, iter, [], 0⟩] scope pos) (tListG tg) := by
  refine ⟨fun pins s σ H Q I h => ?_⟩
  rw [eval_ListComp]
  have hfree : ∀ y ∈ scope.names, y.2 = .free → ∃ c, X.env.cells.lookup y.1 = some c := fun y hy e => by
    rcases ok.free y hy e with k | k
    · exact I.ok.has _ (.inl k)
    · exact I.ok.has _ (.inr k)
  refine wpAny_comprehension_free (use := none) rfl hs (closure_ok hfree) ok.kind (fun y hy e => by rw [ok.uniq y hy, e])
    (thn (hz.run pins s σ H _ I h) fun u s1 ⟨H1, sc, I1, hm⟩ => ?_)
  obtain ⟨a, g, c, rfl, ha1, ha2, hg, hgs, hos, hb, hl, hkp, wake⟩ := hm
  have ha1 : sc.heap.objs.size ≤ a := ha1
  have ha2 : a < s1.heap.objs.size := ha2
  refine wpAny_pyIter_gen hg ?_
  refine wpAny_newObj_type (newEnv_comp ?_) (by show 0 ≤ sizeLine; decide)
  generalize hD : s1.heap.objs.size = D
  generalize hs3 : ({ s1 with heap := s1.heap.push { cls := .type "list", data := .seq ([] : List Value).toArray } } : Shared) = s3
  have h3 : s3.heap = s1.heap.push { cls := .type "list", data := .seq ([] : List Value).toArray } := by rw [← hs3]
  have z3 : s3.heap.objs.size = D + 1 := by rw [h3, Heap.size_push, hD]
  show codeAny _ _ (.compStart (.ListComp (.Name y p1) [⟨.Name y p2, iter, [], 0⟩] scope pos) 0 (.ref a) (.ref D) (compEnvC scope (cellsFrom (s3.heap.objs.size + 1) scope.names (cloFrom X.env.cells scope.names [])) s3.heap.objs.size X.env)) (compPost (model X.prog X.w) X.A X.xe none (EP X pins σ Q) (.ref D) s3.heap.objs.size) { s3 with heap := pushCells (s3.heap.push { cls := .type "dict", data := .dict #[] }) scope.names }
  have hy := hy s3.heap.objs.size (cellsFrom (s3.heap.objs.size + 1) scope.names (cloFrom X.env.cells scope.names []))
  have hk := hk s3.heap.objs.size (cellsFrom (s3.heap.objs.size + 1) scope.names (cloFrom X.env.cells scope.names []))
  generalize hce : compEnvC scope (cellsFrom (s3.heap.objs.size + 1) scope.names (cloFrom X.env.cells scope.names [])) s3.heap.objs.size X.env = ce at hy hk ⊢
  have cL : ce.locals = s3.heap.objs.size := by subst hce; rfl
  generalize hs4 : ({ s3 with heap := pushCells (s3.heap.push { cls := .type "dict", data := .dict #[] }) scope.names } : Shared) = s4
  have k34 : ∀ b o, s3.heap.get? b = some o → s4.heap.get? b = some o := fun b o e => by rw [← hs4]; exact pushCells_keeps _ _ _ _ (Heap.get?_push_of_some _ e)
  have k13 : ∀ b o, s1.heap.get? b = some o → s3.heap.get? b = some o := fun b o e => by rw [h3]; exact Heap.get?_push_of_some _ e
  have k14 : ∀ b o, s1.heap.get? b = some o → s4.heap.get? b = some o := fun b o e => k34 b o (k13 b o e)
  have eD : s4.heap.get? D = some (lstObj #[] 0) := k34 _ _ (by rw [h3, ← hD]; exact Heap.get?_push_size _ rfl)
  have nC : s4.heap.Ns s3.heap.objs.size (fun _ => none) := by
    rw [← hs4]
    exact Heap.Ns.keeps (Heap.Ns.new ..) fun b o e => pushCells_keeps _ _ _ _ e
  have g4 : s4.gens = s1.gens := by rw [← hs4, ← hs3]
  have o4 : s4.os = sc.os := by rw [← hs4, ← hs3]; exact hos
  have hDs : (s1.heap.objs.size : Nat) = (D : Nat) := hD
  have ltaD : (a : Nat) < (D : Nat) := by rw [← hDs]; exact ha2
  have ltDC : (D : Nat) < s3.heap.objs.size := by rw [z3]; exact Nat.lt_succ_self _
  have hDC : s3.heap.objs.size ≠ D := Nat.ne_of_gt ltDC
  have haD : a ≠ D := Nat.ne_of_lt ltaD
  have haC : a ≠ s3.heap.objs.size := Nat.ne_of_lt (Nat.lt_trans ltaD ltDC)
  have hcl : cStatics < D := by rw [← hD]; exact let ⟨_, hn, _⟩ := hl; hn.lt
  have hsz : sc.heap.objs.size ≤ D := Nat.le_trans ha1 (Nat.le_of_lt ltaD)
  have hcC : cStatics < s3.heap.objs.size := Nat.lt_trans hcl ltDC
  have hsC : sc.heap.objs.size ≤ s3.heap.objs.size := Nat.le_trans hsz (Nat.le_of_lt ltDC)
  generalize hC : s3.heap.objs.size = C at *
  have loop : codeAny (model X.prog X.w) X.A (.compLoop (.ListComp (.Name y p1) [⟨.Name y p2, iter, [], 0⟩] scope pos) 0 (.ref a) (.ref D) ce) (compPost (model X.prog X.w) X.A X.xe none (EP X pins σ Q) (.ref D) C) s4 := by
    refine compLoop_any (fun n s' => s'.heap.IsGen a g ∧ s'.heap.NoLimit ∧ ∃ gs, s'.gens[g]? = some gs ∧ gs.Goes (model X.prog X.w) X.A.in1 (ZEnd X.prog X.w X.stack H1 sc D C fun out H2 => ∀ p, H2 p = none → Q (.ref p) (upd H2 p (.lst out))) (ZItem sc D C a g) n (.send .none) (s'.setGen g .running)) ?_ sizeLine
      ⟨hg.keeps k14, hl.keeps k14, GenState.fresh c, by rw [g4]; exact hgs, rfl, wake _ D C _ (room_in1 hr) I1.ok.frames (Nat.le_of_eq hD) (by rw [hDs]; exact Nat.le_of_lt ltDC) hDC (fun b o e => k14 b o e) ⟨0, eD⟩ (FrO.of nC) o4 (allBare_setGen (s := s4) (by rw [g4]; exact hb) rfl)⟩
    rintro n s5 ⟨hg5, hl5, gs, hgs5, hgo⟩
    have hgl : g < s5.gens.size := (Array.getElem?_eq_some_iff.mp hgs5).1
    refine wpAny_gsz (n := g + 1) hgl (next_genG (A := X.A) (F := fun _ _ s1 => _) (Er := fun _ _ => False) hr.hd hl5 (by have := hr.dp; omega) hg5 hgs5 hgo (fun v s₁ gs' hbare hv => ?_) (fun s₁ hp h' hk => ?_) fun e s₁ he => he.elim)
    · intro hgz
      obtain ⟨os1, hb1, hl1, hg1, ⟨acc, cc, hS1, hasz⟩, ⟨o1, e1, f1⟩, hkk⟩ := hv
      obtain ⟨m1, n1⟩ := f1.ns
      have n1 := n1 _ _ e1
      show wpAny _ _ (pure ()) _ _ _
      refine wpAny_pure ?_
      refine wpAny_assign_Name (wpAny_storeName_local (m := m1) hy (by rw [cL]; exact n1) (fun h2 n2 sb2 => ?_) ?_)
      · rw [cL] at n2 sb2
        refine wpAny_tests_nil ?_
        rw [if_pos rfl]
        refine wpAny_Name (wpAny_loadName_local (m := fun x => if x = y then some v else m1 x) (v := v) hk hy (by rw [cL]; exact n2) (if_pos rfl) ?_) hdb
        have eS2 : h2.get? D = some (lstObj acc cc) := (sb2.2 D (Ne.symm hDC)).trans hS1
        have has : acc.size < sizeLine := by omega
        refine append_at (hsz := Nat.le_of_lt has) eS2 fun h5 sb5 e5 => ?_
        have kp : ∀ b o, b ≠ D → b ≠ C → s₁.heap.get? b = some o → h5.get? b = some o := fun b o b1 b2 q => (sb5.2 b b1).trans ((sb2.2 b b2).trans q)
        have hsz1 : g < s₁.gens.size := by
          have q : (s₁.setGen g gs').gens.size = s₁.gens.size := setGen_size _ _ _
          omega
        have dz : Dz D C v s₁ (Shared.setGen { s₁.setGen g gs' with heap := h5, toks := s₁.toks + 1 } g .running) := Dz.both hDC hS1 rfl (allBare_setGen (s := { s₁.setGen g gs' with heap := h5, toks := s₁.toks + 1 }) (allBare_setGen hb1 hbare) rfl) sb2 sb5 n2 e5
        have hkk := hkk _ dz
        cases n with
        | zero => exact hkk.elim
        | succ m =>
          refine ⟨m, Nat.lt_succ_self m, ?_, ?_, gs', setGen_at hsz1, hkk⟩
          · obtain ⟨o, nm, qn, ho, r⟩ := hg1
            exact ⟨o, nm, qn, kp a o haD haC ho, r⟩
          · obtain ⟨mc, hns, hnn⟩ := hl1
            exact ⟨mc, hns.at' fun o e => kp _ o (Nat.ne_of_lt hcl) (Nat.ne_of_lt hcC) e, hnn⟩
      · exact Bool.or_eq_false_iff.mpr ⟨by rw [hk]; rfl, by rw [hk]; rfl⟩
    · intro hgz
      obtain ⟨H', ys, acc, cc, os1, hb1, un, hok, hSn, ⟨o1, e1, f1⟩, hS1, hv, hle, hCn, hQ⟩ := hp
      obtain ⟨m1, n1⟩ := f1.ns
      have I5 : Inv X pins σ (upd H' D (.lst ys)) { s₁.setGen g .finished with heap := h' } :=
        I1.drained hsz hle (hk _ _ hS1) hv ExOk.nil os1 (allBare_setGen hb1 rfl) (un.trans (Un.kept hk)) (hok.kept hk) hSn
      have hC5 : (upd H' D (.lst ys)) C = none := by rw [upd_ne hDC]; exact hCn
      obtain ⟨f0, f1, f2, f3, f4, f5⟩ := I1.fpOk (H' := upd H' D (.lst ys)) (b := C) hsC hC5
      refine ⟨m1, n1 _ _ (hk _ _ e1), fun h'' sb => ?_⟩
      exact ⟨.ref D, upd H' D (.lst ys), I5.turned (t' := s₁.toks) (fun b o hb e => (sb.2 b hb).trans e) f0 f1 f3 f4 f5, rfl, hQ D hSn⟩
  exact codeAny_compStart_list loop (wpAny_pyIter_gen (hg.keeps k14) loop)
end
end L2
namespace Fd
open PySem PyProof.Rows L2
section
variable {PP : Program} {w : World} {K : PySem.W.Frag} {mg : Str → Option Value} {base : Heap}
structure CalZ (PP : Program) (w : World) (K : PySem.W.Frag) (mg : Str → Option Value) (base : Heap) (x : Str) (k : Nat) (ps : List Str) (sp : SpG) : Prop where
  ex : ∃ f fd, ZFn PP w K mg base k f fd ps sp ∧ mg x = some (.ref f) ∧ PySem.W.keepIn K (.ref f) = true ∧ Binds K fd ps []
theorem pz_cal {X : Cx} {x : Str} {k : Nat} {ps : List Str} {sg : SpG} {e : Expr} {es : List Expr} {p pos : Pos} {t : TA} (c : CalZ X.prog X.w X.K X.mg X.base x k ps sg) (hr : Room k X.A) (hg : Gl X x) (ha : PA X (e :: es) t)
    (hdb : (x == ("__debug__" : Str)) = false := by decide) (he : starEach (e :: es) X.env = (false, eval e X.env) :: starEach es X.env := by rfl) (hpl : (backTo pos (starEach es X.env)).any (·.1) = false := by rfl) : PZen X k (.Call (.Name x p) (e :: es) [] pos) (tCallG sg [] E0 t) := by
  obtain ⟨f, fd, F, hm, hk, hb⟩ := c.ex
  exact pz_call F hr hg hm hk hb ha hdb he hpl
theorem defZ_ok {x qual : Str} {st : Stmt} {f : Addr} {fd : FuncData} {N ps : List Str} {k : Nat} {pre : List PyData → List PyData → Prop} (F : Fun K x qual st f fd) (S : GScope N ps (defScope st)) (len : ∀ ds d, pre ds d → ds.length = ps.length)
    (hbody : ∀ (cdv : Value) (A : Around) (outer : List Env) (s : Shared) (H : Hp) (pn : List (Addr × Obj)), Room k (A.deeper (envOfC qual (defScope st) s.heap.objs.size f cdv)) →
      ∃ t, ZSs (gcxOf PP w K mg base N qual (defScope st) f cdv A outer s H E0 pn) (defBody st) t ∧ ∀ ds es, pre ds es → ∀ (σ : L2.St) (G H : Hp), Same G H → Sd G H σ (ds.map .dat ++ List.replicate (N.length - ps.length) .un) → ∀ cont : List V → Hp → Prop,
        (∀ out G2 H2, New G H G2 H2 → RpAll G2 out es → cont out H2) → t (fun ys _ H' => cont ys H') [] σ H) : ZFn PP w K mg base (k + 1) f fd ps (spGP pre) := by
  obtain ⟨oc, od, kV, doc, pm, an, cdv, ct, osl, rfl, lk, hcd⟩ := F.ex
  refine zfn_of lk hcd S (fun vs H Q E h => ?_) fun A outer s H vs Q pn hr h => ?_
  · obtain ⟨G, ds, es, e, r, p, _⟩ := h
    rw [r.len, len ds es p]
  · obtain ⟨G, ds, es, e, r, p, q⟩ := h
    obtain ⟨t, ht, hs⟩ := hbody cdv A outer s H pn hr
    exact ⟨t, ht, hs ds es p (L2.start N vs) G H e (sd_start r (by rw [r.len, len ds es p])) Q q⟩
end
section
variable {Γ Γ1 : En} {te : TE} {ds : List PyData}
/-- for g in wi: yield te -/
theorem z_for_yield {wi : TI} {g : TG} (hw : Wk wi Γ Γ1 ds) (Γs : Nat → En) (f : Nat → PyData) (h0 : Γs 0 = Γ1) (hl : ds.length ≤ 1000000) (ho : owns Γ1 = [])
    (hs : ∀ i d, ds[i]? = some d → ∃ Γt is, Tg g is d (Γs i) Γt ∧ Ev te Γt (Γs (i + 1)) (f i)) {σ : L2.St} {G H : Hp} (e : Same G H) (s : Sd G H σ Γ) (hn : owns Γ = []) {cont : List V → Hp → Prop}
    (k : ∀ out G2 H2, New G H G2 H2 → RpAll G2 out ((List.range ds.length).map f) → cont out H2) : tZFor wi g (tZYield te) (fun ys _ H' => cont ys H') [] σ H := by
  have h := g_for_yield hw Γs f h0 hl ho hs e s hn k
  exact h
end
end Fd

set_option Elab.async false
set_option maxRecDepth 100000
set_option maxHeartbeats 1000000
/-! Fd19: the first items of a list. -/
namespace Fd
open PySem PyProof.Rows L2
section
variable {Γ Γ1 : En} {ta : TE} {ds : List PyData} {K : PySem.W.Frag}
/-- l[:k] -/
theorem ec_take {k : Nat} {tlo thi : TO} (ha : Ev ta Γ Γ1 (.list ds)) (h1 : EvO tlo Γ1 Γ1 none) (h2 : EvO thi Γ1 Γ1 (some (k : Int))) : EvC (tSl (rSlL K) ta tlo thi) Γ Γ1 (ds.take k) :=
  ⟨ha.own, fun σ G H e s Q q => ha.run σ G H e s _ fun v G1 H1 n1 s1 r1 => h1.run σ G1 H1 n1.i s1 _ fun G2 H2 n2 s2 => h2.run σ G2 H2 n2.i s2 _ fun G3 H3 n3 s3 => by
    obtain ⟨p, xs, rfl, hp, ra⟩ := ((r1.mono n2.g).mono n3.g).lstE
    have n13 := (n1.trans n2 (mo ha.own)).trans n3 (mo ha.own)
    have ec : cutV xs none (some (k : Int)) = xs.take k := by
      unfold cutV
      rw [HT.sIx_nat, show HT.sIx xs.length 0 none = 0 from rfl, List.drop_zero, Nat.sub_zero, List.take_eq_take_iff]
      omega
    refine ⟨p, xs, rfl, SqL.of (n3.i _ _ hp), fun l hl => ?_⟩
    rw [ec]
    exact q l _ G3 _ (n13.trans (new_own (M := M0) n3.i hl _) fun _ z => z.elim) (s3.ownNew n3.i hl _) (none_back n13 hl) (same_none n3.i hl) upd_same (ra.take k)⟩
end
end Fd
namespace Fd
open PySem PyProof.Rows L2
theorem passL {X : Cx} : Passes (CX X.prog X.w) X E0 := fun pins σ H sc e s' I h => by
  obtain ⟨_, _, _, _, _, _, _, _, _, _, _, _, hW⟩ := h
  exact hW.elim
end Fd

set_option Elab.async false
set_option maxRecDepth 100000
set_option maxHeartbeats 1000000
/-! Fd20: one's own list of one's own lists. -/
namespace Fd
open PySem PyProof.Rows L2
theorem own1_nd : ∀ {Γ : En} {i : Nat} {s : Sl}, (owns Γ).Nodup → Γ[i]? = some s → (own1 s).Nodup
  | [], i, s, _, e => by simp at e
  | u :: Γ, 0, s, nd, e => by
    have nd : (own1 u ++ owns Γ).Nodup := nd
    have : u = s := by simpa using e
    subst this
    exact (List.nodup_append.mp nd).1
  | u :: Γ, i + 1, s, nd, e => by
    have nd : (own1 u ++ owns Γ).Nodup := nd
    exact own1_nd (List.nodup_append.mp nd).2.1 (by simpa using e)
/-- one of the objects of the slot i is changed -/
theorem Sd.putN {G H : Hp} {σ : L2.St} {Γ : En} {i : Nat} {p : Addr} {s s' : Sl} {o : HO} (x : Sd G H σ Γ) (eq : Same G H) (ng : G p = none) (hs : Γ[i]? = some s) (hp : p ∈ own1 s) (h1 : own1 s' = own1 s) (q : ∀ v, SlOk G H v s → SlOk G (upd H p o) v s') : Sd G (upd H p o) σ (Γ.set i s') := by
  have hi : i < Γ.length := (List.getElem?_eq_some_iff.mp hs).1
  refine ⟨by simp [x.len], fun j t e => ?_, nodup_set x.nd (by rw [h1]; exact own1_nd x.nd hs) fun a ha j t hj hat => ?_⟩
  · by_cases hj : i = j
    · subst hj
      rw [List.getElem?_set_self hi] at e
      cases e
      obtain ⟨v, e1, z⟩ := x.at_ i s hs
      exact ⟨v, e1, q v z⟩
    · rw [List.getElem?_set_ne hj] at e
      obtain ⟨v, e1, z⟩ := x.at_ j t e
      exact ⟨v, e1, z.stay (new_set (M := fun a => a = p) eq ng rfl o) fun a ha e2 => hj (nd_own x.nd hs e hp (e2 ▸ ha))⟩
  · rw [h1] at ha
    exact nd_own x.nd hj hs hat ha
/-- a slot with objects of one's own that no other slot has -/
theorem Sd.ownN {G H : Hp} {σ : L2.St} {Γ : En} {i : Nat} {p : Addr} {s : Sl} (x : Sd G H σ Γ) (q : SlOk G H (some (.ref p)) s) (hi : i < Γ.length) (h0 : (own1 s).Nodup) (hp : ∀ a, a ∈ own1 s → ¬ a ∈ owns Γ) : Sd G H (σ.set i (some (.ref p))) (Γ.set i s) := by
  refine ⟨by simp [x.len], fun j t e => ?_, nodup_set x.nd h0 fun a ha j t hj hat => absurd (own_mem hj hat) (hp a ha)⟩
  by_cases hj : i = j
  · subst hj
    rw [List.getElem?_set_self hi] at e
    cases e
    exact ⟨_, List.getElem?_set_self (by rw [x.len]; exact hi), q⟩
  · rw [List.getElem?_set_ne hj] at e
    rw [List.getElem?_set_ne hj]
    exact x.at_ j t e
theorem NstOk.nil {G H : Hp} : NstOk G H [] [] := ⟨rfl, fun k b ds h => by simp at h⟩
theorem NstOk.snoc {G H : Hp} {bs : List Addr} {rows : List (List PyData)} {b : Addr} {ds : List PyData} {xs : List V} (h : NstOk G H bs rows) (g : G b = none) (hb : H b = some (.lst xs)) (r : RpAll G xs ds) : NstOk G H (bs ++ [b]) (rows ++ [ds]) := by
  refine ⟨by rw [List.length_append, List.length_append, h.1]; rfl, fun k c es h1 h2 => ?_⟩
  by_cases hk : k < bs.length
  · rw [List.getElem?_append_left hk] at h1
    rw [List.getElem?_append_left (by rw [← h.1]; exact hk)] at h2
    exact h.2 k c es h1 h2
  · have hk2 : k = bs.length := by
      have := (List.getElem?_eq_some_iff.mp h1).1
      rw [List.length_append, List.length_singleton] at this
      omega
    subst hk2
    rw [List.getElem?_append_right (Nat.le_refl _), Nat.sub_self] at h1
    rw [List.getElem?_append_right (by rw [h.1]; exact Nat.le_refl _), h.1, Nat.sub_self] at h2
    have e1 : b = c := by simpa using h1
    have e2 : ds = es := by simpa using h2
    subst e1 e2
    exact ⟨g, xs, hb, r⟩
structure EvN (te : TE) (Γ Γ' : En) (rows : List (List PyData)) : Prop where
  own : ∀ a, a ∈ owns Γ' → a ∈ owns Γ
  run : ∀ (σ : L2.St) (G H : Hp), Same G H → Sd G H σ Γ → ∀ Q : VK, (∀ p bs G2 H2, NewM (Mo Γ) G H G2 H2 → Sd G2 H2 σ Γ' → (∀ b, b ∈ p :: bs → H b = none) → (p :: bs).Nodup → G2 p = none → H2 p = some (.lst (bs.map V.ref)) → NstOk G2 H2 bs rows → Q (.ref p) H2) → te σ H Q
section
variable {Γ Γ' Γ1 Γ2 Γ3 : En} {ta tb tc te : TE} {d e x y : PyData} {ds es : List PyData} {K : PySem.W.Frag} {P : Ed}
/-- [[..] for g in wi] -/
theorem en_lc {α : Type} {xs : List α} {enc : α → PyData} {wi : TI} {g : TG} {vs is : List Nat} (hw : Wk wi Γ Γ1 (xs.map enc)) (hv : wipeΓ Γ1 vs = Γ1) (hs : ∀ i, i ∈ is → i ∈ vs) (hl : xs.length ≤ 1000000) (Γt : α → En) (rows : α → List PyData)
    (hg : ∀ x, x ∈ xs → Tg g is (enc x) Γ1 (Γt x)) (he : ∀ x, x ∈ xs → EvC te (Γt x) (Γt x) (rows x)) (hn : ∀ x, x ∈ xs → wipeΓ (Γt x) vs = Γ1) : EvN (tLc wi g tYes te vs) Γ Γ1 (xs.map rows) := by
  refine ⟨hw.own, fun σ G H e0 s Q q => hw.run σ G H e0 s _ fun J G1 H1 n1 s1 wk => ?_⟩
  intro D hD
  have hDΓ : ¬ D ∈ owns Γ1 := s1.fresh hD
  have s1w : Sd G1 H1 (L2.wipe σ vs) Γ1 := by
    have := s1.wipe vs
    rw [hv] at this
    exact this
  let Pv : Nat → Hp → Prop := fun i H' => ∃ G' bs, NewM (Mo Γ1) G1 H1 G' H' ∧ Sd G' H' (L2.wipe σ vs) Γ1 ∧ G' D = none ∧ H' D = some (.lst (bs.map V.ref)) ∧ NstOk G' H' bs ((xs.take i).map rows) ∧ (∀ b, b ∈ bs → H1 b = none) ∧ (D :: bs).Nodup
  have p0 : Pv 0 (upd H1 D (.lst [])) := ⟨G1, [], new_own n1.i hD _, s1w.ownNew n1.i hD _, same_none n1.i hD, upd_same, .nil, fun b hb => by simp at hb, by simp⟩
  refine ⟨fun i m H' => m = xs.length - i ∧ i ≤ xs.length ∧ Pv i H', ⟨_, rfl, Nat.zero_le _, p0⟩, ?_⟩
  rintro i m H' ⟨rfl, hi, G', bs, n2, s2, gD, hD', rx, fb, nd⟩
  obtain ⟨wstop, wgo⟩ := wk i G' H' n2.g n2.i
  by_cases hlt : i < xs.length
  · have hxi : xs[i]? = some xs[i] := List.getElem?_eq_getElem hlt
    have hmx : xs[i] ∈ xs := List.getElem_mem hlt
    have hd : (xs.map enc)[i]? = some (enc xs[i]) := by rw [List.getElem?_map, hxi]; rfl
    generalize xs[i] = xi at hxi hmx hd
    obtain ⟨go, yld⟩ := wgo _ hd
    refine .inr ⟨go, Pv (i + 1), fun H2 p => ⟨xs.length - (i + 1), by omega, rfl, hlt, p⟩, fun x H2 y => ?_⟩
    obtain ⟨G2, n3, rxx⟩ := yld x H2 y
    have s3 := s2.new n3
    refine (hg xi hmx).run _ G2 H2 x n3.i s3 rxx _ fun σ' hl' hk' s4 => ⟨wipe_tg hs hl' hk', ?_⟩
    have m23 : NewM (Mo Γ1) G1 H1 G2 H2 := n2.trans n3 fun _ z => z.elim
    refine et_yes.run σ' G2 H2 n3.i s4 _ fun G3 H3 n5 s5 => ?_
    have oT : ∀ a, a ∈ owns (Γt xi) → a ∈ owns Γ1 := fun a h => (hg xi hmx).own a h
    have m5 : NewM (Mo Γ1) G1 H1 G3 H3 := m23.trans n5 fun a h => .inl (oT a h)
    have ewip : L2.wipe σ' vs = L2.wipe σ vs := wipe_tg hs hl' hk'
    rw [if_pos rfl]
    refine (he xi hmx).run σ' G3 H3 n5.i s5 _ fun b ys G4 H4 n6 s6 fb4 gb4 hb4 rb4 => ?_
    have keep : ∀ c o, H' c = some o → ¬ c ∈ owns Γ1 → H4 c = some o := fun c o h hc => n6.h c _ (fun h => hc (oT c h)) (n5.h c _ (fun h => hc (oT c h)) (n3.same _ _ h))
    have keepG : ∀ c, G' c = none → H' c ≠ none → ¬ c ∈ owns Γ1 → G4 c = none := fun c h hn hc => by
      obtain ⟨o, ho⟩ := Option.ne_none_iff_exists'.mp hn
      have h2 := n3.same _ _ ho
      have h3 := n5.h c _ (fun h => hc (oT c h)) h2
      exact n6.f c (fun h => hc (oT c h)) (by rw [h3]; intro z; cases z) (n5.f c (fun h => hc (oT c h)) (by rw [h2]; intro z; cases z) (n3.f c (fun z => z) hn h))
    have d6 := keep D _ hD' hDΓ
    have g6 := keepG D gD (by rw [hD']; intro z; cases z) hDΓ
    have hbs : ∀ c, c ∈ bs → ¬ c ∈ owns Γ1 := fun c hc => s1.fresh (fb c hc)
    have bsome : ∀ c, c ∈ bs → H' c ≠ none := fun c hc => by
      obtain ⟨k, hk⟩ := List.getElem?_of_mem hc
      have hk2 := (List.getElem?_eq_some_iff.mp hk).1
      obtain ⟨_, zs, h2, _⟩ := rx.2 k c _ hk (List.getElem?_eq_getElem (by rw [← rx.1]; exact hk2))
      rw [h2]; intro z; cases z
    have hb0 : H' b = none := by
      cases h : H' b with
      | none => rfl
      | some o =>
        by_cases hc : b ∈ owns Γ1
        · exact absurd (n5.t b (n3.t b (by rw [h]; intro z; cases z))) (by rw [fb4]; intro z; exact z rfl)
        · have := n5.h b _ (fun h => hc (oT b h)) (n3.same _ _ h)
          rw [fb4] at this
          cases this
    have hbD : b ≠ D := fun z => by rw [z, hD'] at hb0; cases hb0
    have hbb : ¬ b ∈ bs := fun z => bsome b z hb0
    have hb1 : H1 b = none := by
      cases h : H1 b with
      | none => rfl
      | some o => exact absurd hb0 (n2.t b (by rw [h]; intro z; cases z))
    refine ⟨_, d6, sl_lt (by rw [List.length_map, rx.1, List.length_map, List.length_take]; omega), ?_⟩
    have m6 : NewM (Mo Γ1) G1 H1 G4 H4 := m5.trans n6 fun a h => .inl (oT a h)
    have n7 : NewM (fun a => a = D) G4 H4 G4 (upd H4 D (.lst (bs.map V.ref ++ [.ref b]))) := new_set (M := fun a => a = D) n6.i g6 rfl _
    refine ⟨G4, bs ++ [b], m6.trans n7 (fun a h => by subst h; exact .inr hD), ?_, g6, by rw [List.map_append]; exact upd_same, ?_, ?_, ?_⟩
    · have oV : ¬ D ∈ owns (Γt xi) := fun h => hDΓ (oT D h)
      have s7 : Sd G4 (upd H4 D (.lst (bs.map V.ref ++ [.ref b]))) σ' (Γt xi) := ⟨s6.len, fun j t e => by
        obtain ⟨o, e1, z⟩ := s6.at_ j t e
        exact ⟨o, e1, z.stay n7 fun a ha e2 => oV (e2 ▸ own_mem e ha)⟩, s6.nd⟩
      have s8 := s7.wipe vs
      rw [ewip, hn xi hmx] at s8
      exact s8
    · have r4 : NstOk G4 (upd H4 D (.lst (bs.map V.ref ++ [.ref b]))) bs ((xs.take i).map rows) := rx.to ((n3.g.trans n5.g).trans n6.g) (fun c hc h1 h2 => keepG c h1 h2 (hbs c hc)) fun c o hc h => by
        rw [upd_ne (fun z : c = D => (List.nodup_cons.mp nd).1 (by rw [← z]; exact hc))]
        exact keep c o h (hbs c hc)
      rw [List.take_add_one, hxi, List.map_append]
      exact r4.snoc gb4 (by rw [upd_ne hbD]; exact hb4) rb4
    · intro c hc
      rcases List.mem_append.mp hc with hc | hc
      · exact fb c hc
      · rw [List.mem_singleton.mp hc]; exact hb1
    · have nd2 := List.nodup_cons.mp nd
      refine List.nodup_cons.mpr ⟨fun hc => ?_, List.nodup_append.mpr ⟨nd2.2, by simp, fun c hc c' hc' z => ?_⟩⟩
      · rcases List.mem_append.mp hc with hc | hc
        · exact nd2.1 hc
        · exact hbD (List.mem_singleton.mp hc).symm
      · rw [List.mem_singleton.mp hc'] at z
        exact hbb (z ▸ hc)
  · have ei : i = xs.length := by omega
    subst ei
    rw [List.take_length] at rx
    refine .inl ⟨wstop (by rw [List.length_map]), q D bs G' H' (n1.trans n2 (mo hw.own)) (s2.unwipe fun j t hj e => by rw [← hv] at e; exact wipeΓ_un hj e) (fun b hb => ?_) nd gD hD' rx⟩
    rcases List.mem_cons.mp hb with hb | hb
    · rw [hb]; exact none_back n1 hD
    · exact none_back n1 (fb b hb)
theorem st_nown {i : Nat} {rows : List (List PyData)} (h : EvN te Γ Γ1 rows) (hi : i < Γ1.length) (p : ∀ a bs, P.nx (Γ1.set i (.nst a bs rows))) : StD (tAsg te (gName i)) Γ P := fun σ G H D e s k1 _ _ _ => h.run σ G H e s _ fun a bs G2 H2 n s2 hp nd g2 h2 r =>
  k1 _ _ G2 H2 (p a bs) ⟨n, fun x m => by
    rcases owns_set_sub m with z | z
    · exact .inr (hp x z)
    · exact .inl (h.own x z), s2.ownN ⟨rfl, g2, h2, r⟩ hi nd fun c hc m => s.fresh (hp c hc) (h.own c m)⟩
/-- rows[i][j] -/
theorem x_nix {i : Nat} {a : Addr} {bs : List Addr} {rows : List (List PyData)} {I J : Int} (h : Γ[i]? = some (.nst a bs rows)) (hb : Ev tb Γ Γ (.int I)) (hc : Ev tc Γ Γ (.int J)) (h0 : 0 ≤ I) (h1 : 0 ≤ J) (hr : rows[I.toNat]? = some ds) (hd : ds[J.toNat]? = some d) : Ev (tOp (rIxL K) (tOp (rIxL K) (tVar i) tb) tc) Γ Γ d :=
  ⟨fun _ z => z, fun σ G H e s Q q => by
    obtain ⟨o, e1, rfl, _⟩ := s.at_ i _ h
    refine ⟨_, e1, hb.run σ G H e s _ fun v G1 H1 n1 s1 r1 => ?_⟩
    obtain ⟨o, e2, rfl, ng, hx, rn⟩ := s1.at_ i _ h
    have hI : I = (I.toNat : Int) := (Int.toNat_of_nonneg h0).symm
    obtain ⟨b, hbk⟩ : ∃ b, bs[I.toNat]? = some b := ⟨_, List.getElem?_eq_getElem (by rw [rn.1]; exact (List.getElem?_eq_some_iff.mp hr).1)⟩
    obtain ⟨gb, xs, hxb, rb⟩ := rn.2 _ b ds hbk hr
    refine ⟨a, _, I, .ref b, rfl, r1.intE, SqL.of hx, by rw [hI]; exact atI_nat (by rw [List.getElem?_map, hbk]; rfl), ?_⟩
    refine hc.run σ G1 H1 n1.i s1 _ fun w G2 H2 n2 s2 r2 => ?_
    obtain ⟨o, e3, _, ng2, hx2, rn2⟩ := s2.at_ i _ h
    obtain ⟨gb2, xs2, hxb2, rb2⟩ := rn2.2 _ b ds hbk hr
    obtain ⟨v, hv, rv⟩ := rb2.get hd
    have hJ : J = (J.toNat : Int) := (Int.toNat_of_nonneg h1).symm
    exact ⟨b, xs2, J, v, rfl, r2.intE, SqL.of hxb2, by rw [hJ]; exact atI_nat hv, q v G2 H2 (n1.trans n2 fun _ z => .inl z) s2 rv⟩⟩
/-- rows[i][j] = e -/
theorem st_nitem {i : Nat} {a : Addr} {bs : List Addr} {rows : List (List PyData)} {I J : Int} (h : Ev te Γ Γ1 d) (hn : Γ1[i]? = some (.nst a bs rows)) (hb : Ev tb Γ1 Γ1 (.int I)) (hc : Ev tc Γ1 Γ1 (.int J)) (h0 : 0 ≤ I) (h1 : 0 ≤ J) (hr : rows[I.toNat]? = some ds) (hd : J.toNat < ds.length)
    (p : P.nx (Γ1.set i (.nst a bs (rows.set I.toNat (ds.set J.toNat d))))) : StD (tAsg te (gSub (tOp (rIxL K) (tVar i) tb) tc rSetL)) Γ P := fun σ G H D e s k1 _ _ _ => h.run σ G H e s _ fun v G1 H1 n1 s1 r1 => by
  obtain ⟨o, e1, rfl, _⟩ := s1.at_ i _ hn
  refine ⟨_, e1, hb.run σ G1 H1 n1.i s1 _ fun w G2 H2 n2 s2 r2 => ?_⟩
  obtain ⟨o, e2, rfl, ng, hx, rn⟩ := s2.at_ i _ hn
  have hI : I = (I.toNat : Int) := (Int.toNat_of_nonneg h0).symm
  have hJ : J = (J.toNat : Int) := (Int.toNat_of_nonneg h1).symm
  obtain ⟨b, hbk⟩ : ∃ b, bs[I.toNat]? = some b := ⟨_, List.getElem?_eq_getElem (by rw [rn.1]; exact (List.getElem?_eq_some_iff.mp hr).1)⟩
  refine ⟨a, _, I, .ref b, rfl, r2.intE, SqL.of hx, by rw [hI]; exact atI_nat (by rw [List.getElem?_map, hbk]; rfl), ?_⟩
  refine hc.run σ G2 H2 n2.i s2 _ fun u G3 H3 n3 s3 r3 => ?_
  obtain ⟨o, e3, _, ng3, hx3, rn3⟩ := s3.at_ i _ hn
  obtain ⟨gb3, xs3, hxb3, rb3⟩ := rn3.2 _ b ds hbk hr
  have hkx : J.toNat < xs3.length := by rw [rb3.len]; exact hd
  have hix : ixN xs3.length J = some J.toNat := by
    rw [hJ]
    unfold ixN
    rw [if_pos (by omega), if_pos (by omega)]
  have hbm : b ∈ bs := List.mem_of_getElem? hbk
  have nd := List.nodup_cons.mp (own1_nd s3.nd hn : (a :: bs).Nodup)
  have hab : a ≠ b := fun z => nd.1 (z ▸ hbm)
  have rv : Rp G3 v d := (r1.mono n2.g).mono n3.g
  have s4 : Sd G3 (upd H3 b (.lst (xs3.set J.toNat v))) σ (Γ1.set i (.nst a bs (rows.set I.toNat (ds.set J.toNat d)))) := by
    refine s3.putN n3.i gb3 hn (by simp [own1, hbm]) rfl fun o z => ⟨z.1, z.2.1, by rw [upd_ne hab]; exact z.2.2.1, by rw [z.2.2.2.1, List.length_set], fun k c es h1 h2 => ?_⟩
    by_cases hk : k = I.toNat
    · subst hk
      rw [hbk] at h1
      cases h1
      rw [List.getElem?_set_self (List.getElem?_eq_some_iff.mp hr).1] at h2
      cases h2
      exact ⟨gb3, _, upd_same, rb3.set rv J.toNat⟩
    · rw [List.getElem?_set_ne (Ne.symm hk)] at h2
      obtain ⟨q1, ys, q2, q3⟩ := z.2.2.2.2 k c es h1 h2
      refine ⟨q1, ys, ?_, q3⟩
      rw [upd_ne fun z => hk ?_]
      · exact q2
      · have e4 : bs[k]? = bs[I.toNat]? := by rw [h1, hbk, z]
        exact (List.getElem?_inj (List.getElem?_eq_some_iff.mp h1).1 nd.2).mp e4
  have hm : b ∈ owns Γ1 := own_mem hn (by simp [own1, hbm])
  refine ⟨b, xs3, J, J.toNat, rfl, r3.intE, hxb3, hix, k1 _ σ G3 _ p ⟨?_, fun x m => .inl (h.own x ?_), s4⟩⟩
  · exact ((n1.trans n2 (mo h.own)).trans n3 (mo h.own)).trans (new_set (M := fun x => x = b) n3.i gb3 rfl _) fun x m => by subst m; exact .inl (h.own _ hm)
  · rcases owns_set_sub m with z | z
    · exact own_mem hn z
    · exact z
/-- the lists become known -/
theorem st_nfrz {t : TS} {i : Nat} {a : Addr} {bs : List Addr} {rows : List (List PyData)} (h : Γ[i]? = some (.nst a bs rows)) (k : StD t (Γ.set i (.dat (.list (rows.map .list)))) P) : StD t Γ P := fun σ G H D e s k1 k2 k3 k4 => by
  obtain ⟨o, e1, rfl, ng, hx, rn⟩ := s.at_ i _ h
  have hi : i < Γ.length := (List.getElem?_eq_some_iff.mp h).1
  let G2 : Hp := fun c => if c ∈ a :: bs then H c else G c
  have gin : ∀ c, c ∈ a :: bs → G2 c = H c := fun c hc => if_pos hc
  have gout : ∀ c, ¬ c ∈ a :: bs → G2 c = G c := fun c hc => if_neg hc
  have gnone : ∀ c, c ∈ a :: bs → G c = none := fun c hc => by
    rcases List.mem_cons.mp hc with hc | hc
    · rw [hc]; exact ng
    · obtain ⟨k, hk⟩ := List.getElem?_of_mem hc
      have hk2 := (List.getElem?_eq_some_iff.mp hk).1
      exact (rn.2 k c _ hk (List.getElem?_eq_getElem (by rw [← rn.1]; exact hk2))).1
  have n : NewM (Mo Γ) G H G2 H := by
    refine ⟨fun b u q => ?_, fun b u q => ?_, fun _ _ _ q => q, fun _ q => q, fun b hm hn q => ?_⟩
    · have : ¬ b ∈ a :: bs := fun z => by rw [gnone b z] at q; cases q
      rw [gout b this]; exact q
    · by_cases hb : b ∈ a :: bs
      · rw [gin b hb] at q; exact q
      · rw [gout b hb] at q; exact e b u q
    · rw [gout b fun z => hm (own_mem h (by simpa [own1] using z))]; exact q
  have rows' : RpAll G2 (bs.map V.ref) (rows.map PyData.list) := by
    have key : ∀ (bs' : List Addr) (rows' : List (List PyData)), (∀ b, b ∈ bs' → b ∈ bs) → bs'.length = rows'.length → (∀ (k : Nat) (b : Addr) (ds : List PyData), bs'[k]? = some b → rows'[k]? = some ds → G b = none ∧ ∃ xs, H b = some (.lst xs) ∧ RpAll G xs ds) → RpAll G2 (bs'.map V.ref) (rows'.map PyData.list) := fun bs' => by
      induction bs' with
      | nil =>
        intro rows' _ hl _
        cases rows' with
        | nil => exact .nil
        | cons r rs => cases hl
      | cons b bs' ih =>
        intro rows' hsub hl hr
        cases rows' with
        | nil => cases hl
        | cons r rs =>
          obtain ⟨_, xs, h2, h3⟩ := hr 0 b r rfl rfl
          refine .cons (.lst (by rw [gin b (List.mem_cons_of_mem _ (hsub b List.mem_cons_self))]; exact h2) (h3.mono n.g)) (ih rs (fun c hc => hsub c (List.mem_cons_of_mem _ hc)) (by simpa using hl) fun k c ds h1 h2 => hr (k + 1) c ds (by simpa using h1) (by simpa using h2))
    exact key bs rows (fun _ z => z) rn.1 rn.2
  have s2 : Sd G2 H σ (Γ.set i (.dat (.list (rows.map .list)))) := by
    refine ⟨by simp [s.len], fun j w q => ?_, nodup_set s.nd (by simp [own1]) fun c hc => by simp [own1] at hc⟩
    by_cases hj : i = j
    · subst hj
      rw [List.getElem?_set_self hi] at q
      cases q
      exact ⟨_, e1, _, rfl, .lst (by rw [gin a List.mem_cons_self]; exact hx) rows'⟩
    · rw [List.getElem?_set_ne hj] at q
      obtain ⟨o, e2, z⟩ := s.at_ j w q
      have hne : ∀ x, x ∈ own1 w → ¬ x ∈ a :: bs := fun x hx e3 => hj (nd_own s.nd h q (by simpa [own1] using e3) hx)
      exact ⟨o, e2, z.stay (M := fun x => x ∈ a :: bs) ⟨n.g, n.i, fun _ _ _ q => q, fun _ q => q, fun b hm hn q => by rw [gout b hm]; exact q⟩ hne⟩
  have l : Lv Γ (Γ.set i (.dat (.list (rows.map .list)))) G H G2 H σ := ⟨n, fun a m => .inl (owns_dat rfl a m), s2⟩
  exact k σ G2 H D n.i s2 (fun Γ' σ' G3 H3 p l' => k1 Γ' σ' G3 H3 p (l.trans l')) (fun Γ' d σ' v G3 H3 p l' r => k2 Γ' d σ' v G3 H3 p (l.trans l') r) (fun Γ' σ' G3 H3 p l' => k3 Γ' σ' G3 H3 p (l.trans l')) fun Γ' σ' G3 H3 p l' => k4 Γ' σ' G3 H3 p (l.trans l')
end
end Fd

set_option Elab.async false
set_option maxRecDepth 100000
set_option maxHeartbeats 1000000
/-! Fd21: what an evaluation gives is told by a property only. -/
namespace Fd
open PySem PyProof.Rows L2
structure EvX (te : TE) (Γ : En) (R : PyData → En → Prop) : Prop where
  own : ∀ d Γ', R d Γ' → ∀ a, a ∈ owns Γ' → a ∈ owns Γ
  run : ∀ (σ : L2.St) (G H : Hp), Same G H → Sd G H σ Γ → ∀ Q : VK, (∀ d Γ' v G2 H2, R d Γ' → NewM (Mo Γ) G H G2 H2 → Sd G2 H2 σ Γ' → Rp G2 v d → Q v H2) → te σ H Q
/-- a def whose first argument is a list that it changes: pre ss ds R: what it gives and the list behind it have R -/
def spSX (pre : List PyData → List PyData → (PyData → List PyData → Prop) → Prop) : Sp := fun vs H Q _ => ∃ (G : Hp) (a : Addr) (us xs : List V) (ss ds : List PyData) (R : PyData → List PyData → Prop), vs = .ref a :: us ∧ Same G H ∧ G a = none ∧ H a = some (.lst xs) ∧ RpAll G xs ss ∧ RpAll G us ds ∧ pre ss ds R ∧
  ∀ d ss' v G2 H2 ys, R d ss' → NewM (fun x => x = a) G H G2 H2 → G2 a = none → H2 a = some (.lst ys) → RpAll G2 ys ss' → Rp G2 v d → Q v H2
section
variable {Γ Γ' Γ1 Γ2 Γ3 : En} {ta tb tc te : TE} {tr : TA} {d e x y : PyData} {ds es : List PyData} {K : PySem.W.Frag} {P : Ed} {R : PyData → En → Prop}
theorem Ev.toX (h : Ev te Γ Γ1 d) : EvX te Γ fun d' Γ' => d' = d ∧ Γ' = Γ1 := ⟨fun d' Γ' ⟨_, e⟩ a m => h.own a (by rw [← e]; exact m), fun σ G H e s Q q => h.run σ G H e s Q fun v G2 H2 n s2 r => q d Γ1 v G2 H2 ⟨rfl, rfl⟩ n s2 r⟩
theorem EvX.imp {R' : PyData → En → Prop} (h : EvX te Γ R) (i : ∀ d Γ', R d Γ' → R' d Γ') (o : ∀ d Γ', R' d Γ' → ∀ a, a ∈ owns Γ' → a ∈ owns Γ) : EvX te Γ R' := ⟨o, fun σ G H e s Q q => h.run σ G H e s Q fun d Γ' v G2 H2 r => q d Γ' v G2 H2 (i d Γ' r)⟩
theorem ex_callS {pre : List PyData → List PyData → (PyData → List PyData → Prop) → Prop} {E : XK} {i : Nat} {a : Addr} {ss0 ss : List PyData} {Rs : PyData → List PyData → Prop} (h0 : Γ[i]? = some (.cell a ss0)) (ha : EvA tr Γ Γ1 es) (hs : Γ1[i]? = some (.cell a ss)) (h : pre ss es Rs) :
    EvX (tCall (spSX pre) [] E (tCons (tVar i) tr)) Γ fun d Γ' => ∃ ss', Rs d ss' ∧ Γ' = Γ1.set i (.cell a ss') :=
  ⟨fun d Γ' ⟨ss', _, e⟩ b hb => ha.own b (owns_cell hs b (by rw [← e]; exact hb)), fun σ G H e s Q q => by
    obtain ⟨o, e1, rfl, _⟩ := s.at_ i _ h0
    refine ⟨_, e1, ha.run σ G H e s _ fun us G1 H1 n1 s1 r1 => ?_⟩
    obtain ⟨o, e2, rfl, ng, xs, hx, ra⟩ := s1.at_ i _ hs
    refine ⟨G1, a, us, xs, ss, es, Rs, by rw [List.append_nil], n1.i, ng, hx, ra, r1, h, fun d ss' v G2 H2 ys hr n2 g2 h2 ry rv => ?_⟩
    obtain ⟨s2, n3⟩ := s1.call hs n2 g2 h2 ry
    exact q d _ v G2 H2 ⟨ss', hr, rfl⟩ (n1.trans n3 (mo ha.own)) s2 rv⟩
/-- f(x, e), f by a promise, e told by a property -/
theorem ex_call2 {pre : List PyData → PyData → Prop} {E : XK} (ha : Ev ta Γ Γ1 x) (hb : EvX tb Γ1 R) (h : ∀ y Γ', R y Γ' → ∃ d, pre [x, y] d) :
    EvX (tCall (spP pre) [] E (tCons ta (tCons tb tNil))) Γ fun d Γ' => ∃ y, R y Γ' ∧ pre [x, y] d :=
  ⟨fun d Γ' ⟨y, hy, _⟩ a m => ha.own a (hb.own y Γ' hy a m), fun σ G H e s Q q => ha.run σ G H e s _ fun u G1 H1 n1 s1 r1 => hb.run σ G1 H1 n1.i s1 _ fun y Γ' v G2 H2 hy n2 s2 r2 => by
    obtain ⟨d, hd⟩ := h y Γ' hy
    have n12 := n1.trans n2 (mo ha.own)
    refine ⟨G2, [x, y], d, n2.i, .cons (r1.mono n2.g) (.cons r2 .nil), hd, fun w G3 H3 n3 r3 => ?_⟩
    exact q d Γ' w G3 H3 ⟨y, hy, hd⟩ (n12.trans n3 fun _ z => z.elim) (s2.new n3) r3⟩
theorem st_asgX {g : TG} (h : EvX te Γ R) (hg : ∀ d Γ', R d Γ' → ∃ is Γ2, Tg g is d Γ' Γ2 ∧ P.nx Γ2) : StD (tAsg te g) Γ P := fun σ G H D e s k1 _ _ _ => h.run σ G H e s _ fun d Γ' v G2 H2 hr n s2 r => by
  obtain ⟨is, Γ2, ht, p⟩ := hg d Γ' hr
  exact ht.run σ G2 H2 v n.i s2 r _ fun σ' _ _ s3 => k1 Γ2 σ' G2 H2 p (Lv.of n (fun a m => h.own d Γ' hr a (ht.own a m)) s3)
theorem st_setX {i : Nat} (h : EvX te Γ R) (p : ∀ d Γ', R d Γ' → i < Γ'.length ∧ P.nx (Γ'.set i (.dat d))) : StD (tAsg te (gName i)) Γ P := st_asgX h fun d Γ' hr => ⟨_, _, tg_name (p d Γ' hr).1, (p d Γ' hr).2⟩
theorem st_retX (h : EvX te Γ R) (p : ∀ d Γ', R d Γ' → P.rt Γ' d) : StD (tRet te) Γ P := fun σ G H D e s _ k2 _ _ => h.run σ G H e s _ fun d Γ' v G2 H2 hr n s2 r => k2 Γ' d σ v G2 H2 (p d Γ' hr) (Lv.of n (h.own d Γ' hr) s2) r
end
def GivesX (a : Addr) (R : PyData → List PyData → Prop) : Ed := { nx := fun Γ' => ∃ ss', R .none ss' ∧ Γ'[0]? = some (.cell a ss'), rt := fun Γ' d => ∃ ss', R d ss' ∧ Γ'[0]? = some (.cell a ss') }
section
variable {PP : Program} {w : World} {K : PySem.W.Frag} {mg : Str → Option Value} {base : Heap}
theorem defSX_ok {x qual : Str} {st : Stmt} {f : Addr} {fd : FuncData} {N ps : List Str} {k : Nat} {pre : List PyData → List PyData → (PyData → List PyData → Prop) → Prop} (F : Fun K x qual st f fd) (S : FnScope N ps (defScope st)) (len : ∀ ss ds R, pre ss ds R → ds.length + 1 = ps.length)
    (hbody : ∀ (cdv : Value) (A : Around) (outer : List Env) (s : Shared) (H : Hp) (E : XK), Room k (A.deeper (envOfC qual (defScope st) s.heap.objs.size f cdv)) →
      ∃ t, PSs (cxOf CX0 PP w K mg base N qual (defScope st) f cdv A outer s H E).nox (defBody st) t ∧ ∀ a ss ds R, pre ss ds R → StD t (.cell a ss :: (ds.map .dat ++ List.replicate (N.length - ps.length) .un)) (GivesX a R)) : FnOk PP w K mg base CX0 (k + 1) f fd ps (spSX pre) := by
  refine F.ok S (fun vs H Q E h => ?_) fun cdv A outer s H vs Q E hr h => ?_
  · obtain ⟨G, a, us, xs, ss, ds, R, rfl, e, ng, hx, rx, r, p, _⟩ := h
    rw [List.length_cons, r.len, len ss ds R p]
  · obtain ⟨G, a, us, xs, ss, ds, R, rfl, e, ng, hx, rx, r, p, q⟩ := h
    obtain ⟨t, ht, hs⟩ := hbody cdv A outer s H E hr
    have hM : ∀ m x, Mo (Sl.cell a ss :: (ds.map Sl.dat ++ List.replicate m .un)) x → x = a := fun m x h => by
      have h : x ∈ [a] ++ owns (ds.map Sl.dat ++ List.replicate m .un) := h
      rw [owns_dats] at h
      simpa using h
    refine ⟨t, ht, hs a ss ds R p (L2.start N (.ref a :: us)) G H _ e (sd_startS r ng hx rx (by rw [r.len, len ss ds R p])) (fun Γ' σ' G2 H2 z l => ?_) (fun Γ' d' σ' v G2 H2 z l rv => ?_) (fun _ _ _ _ z => z.elim) fun _ _ _ _ z => z.elim⟩
    · obtain ⟨ss', z, zz⟩ := z
      obtain ⟨o, _, _, ng2, ys, hy, ry⟩ := l.s.at_ 0 _ zz
      exact q _ _ .non G2 H2 ys z (l.n.mono (hM _)) ng2 hy ry .non
    · obtain ⟨ss', z, zz⟩ := z
      obtain ⟨o, _, _, ng2, ys, hy, ry⟩ := l.s.at_ 0 _ zz
      exact q _ _ v G2 H2 ys z (l.n.mono (hM _)) ng2 hy ry rv
end
end Fd

set_option Elab.async false
set_option maxRecDepth 100000
set_option maxHeartbeats 1000000
/-! Fd22: the place of a thing in a list. -/
namespace Fd
open PySem PyProof.Rows L2
section
variable {Γ Γ1 Γ2 : En} {ta tb : TE} {K : PySem.W.Frag}
/-- l.index(x) -/
theorem ev_index {α : Type} [DecidableEq α] {enc : α → PyData} (h : Tells enc) {k : Nat} (hs : ∀ a, Shd k (enc a)) (hk : k < 64) {a : α} {xs : List α} (hm : a ∈ xs) (ha : Ev ta Γ Γ1 (.list (xs.map enc))) (hb : Ev tb Γ1 Γ2 (enc a)) :
    Ev (tBM K "list" (rIndexD K) ta (tCons tb tNil)) Γ Γ2 (.int (xs.idxOf a : Nat)) :=
  ⟨fun a m => ha.own a (hb.own a m), fun σ G H e s Q q => ha.run σ G H e s _ fun u G1 H1 n1 s1 r1 => by
    have sl : SeqAt.shaped (.list (xs.map enc)) = true := (shd_list (shd_map hs xs)).shaped (by omega)
    have sd : SeqAt.shaped (enc a) = true := (hs a).shaped (by omega)
    obtain ⟨p, ys, rfl, hp, ra⟩ := id r1.lstE
    refine ⟨.inl ⟨rfl, ys, SqL.of (n1.i _ _ hp)⟩, hb.run σ G1 H1 n1.i s1 _ fun v G2 H2 n2 s2 r2 => ?_⟩
    have hlt : xs.idxOf a < xs.length := List.idxOf_lt_length_iff.mpr hm
    refine ⟨p, v, enc a, xs.map enc, xs.idxOf a, enc a, rfl, rfl, ((r1.mono n2.g).mono n2.i).dp (lay_of sl), (r2.mono n2.i).dp (lay_of sd), sl, sd, ?_, by rw [h a a]; simp, fun m z' hm' hz' => ?_, q _ G2 H2 (n1.trans n2 (mo ha.own)) s2 (.int _)⟩
    · rw [List.getElem?_map, List.getElem?_eq_getElem hlt, List.getElem_idxOf]
      rfl
    · rw [List.getElem?_map] at hz'
      obtain ⟨w, hw, rfl⟩ := Option.map_eq_some_iff.mp hz'
      rw [h w a]
      refine decide_eq_false fun e => ?_
      subst e
      obtain ⟨h2, h3⟩ := List.getElem?_eq_some_iff.mp hw
      have h4 := List.not_of_lt_findIdx (p := fun z => z == w) (xs := xs) (i := m) hm'
      rw [h3] at h4
      simp at h4⟩
end
end Fd
namespace Fd
open PySem PyProof.Rows L2
theorem ev_min2 {Γ Γ1 Γ2 : En} {ta tb : TE} {i j : Int} (ha : Ev ta Γ Γ1 (.int i)) (hb : Ev tb Γ1 Γ2 (.int j)) : Ev (tCB (fun xs H Q => ∃ i j, xs = [.int i, .int j] ∧ Q (.int (if j < i then j else i)) H) (tCons ta (tCons tb tNil))) Γ Γ2 (.int (if j < i then j else i)) := ev_cb (ea_2 ha hb) fun G H vs _ r Q q => by
  obtain ⟨v, u, rfl, r1, r2⟩ := r.e2
  exact ⟨i, j, by rw [r1.intE, r2.intE], q _ fun _ => .int _⟩
end Fd
namespace Fd
open PySem PyProof.Rows L2
/-- xs[-1] -/
theorem ev_lastC {Γ Γ2 : En} {tb : TE} {K : PySem.W.Frag} {i k : Nat} {a : Addr} {ds0 ds : List PyData} {d : PyData} (h : Γ[i]? = some (.cell a ds0)) (hb : Ev tb Γ Γ2 (.int (-1))) (h2 : Γ2[i]? = some (.cell a ds)) (hk : k + 1 = ds.length) (hd : ds[k]? = some d) : Ev (tOp (rIxL K) (tVar i) tb) Γ Γ2 d :=
  ⟨hb.own, fun σ G H e s Q q => by
    obtain ⟨o, e1, rfl, _⟩ := s.at_ i _ h
    refine ⟨_, e1, hb.run σ G H e s _ fun v G2 H2 n2 s2 r2 => ?_⟩
    obtain ⟨o, e2, rfl, ng, xs, hx, ra⟩ := s2.at_ i _ h2
    obtain ⟨w, hw, rw_⟩ := ra.get hd
    have hl := ra.len
    refine ⟨a, xs, -1, w, rfl, r2.intE, SqL.of hx, ?_, q w G2 H2 n2 s2 rw_⟩
    unfold atI ixN
    rw [if_neg (by omega), if_pos (by omega)]
    show xs[((-1 : Int) + xs.length).toNat]? = some w
    rw [show ((-1 : Int) + xs.length).toNat = k by omega]
    exact hw⟩
end Fd
namespace Fd
open PySem PyProof.Rows L2
/-- f(x, e), f by a promise, e told by a property, the answer chosen -/
theorem ex_call2W {Γ Γ1 : En} {ta tb : TE} {x : PyData} {R : PyData → En → Prop} {W : PyData → PyData → Prop} {pre : List PyData → PyData → Prop} {E : XK} (ha : Ev ta Γ Γ1 x) (hb : EvX tb Γ1 R) (h : ∀ y Γ', R y Γ' → ∃ d, pre [x, y] d ∧ W y d) :
    EvX (tCall (spP pre) [] E (tCons ta (tCons tb tNil))) Γ fun d Γ' => ∃ y, R y Γ' ∧ W y d :=
  ⟨fun d Γ' ⟨y, hy, _⟩ a m => ha.own a (hb.own y Γ' hy a m), fun σ G H e s Q q => ha.run σ G H e s _ fun u G1 H1 n1 s1 r1 => hb.run σ G1 H1 n1.i s1 _ fun y Γ' v G2 H2 hy n2 s2 r2 => by
    obtain ⟨d, hd, hw⟩ := h y Γ' hy
    have n12 := n1.trans n2 (mo ha.own)
    refine ⟨G2, [x, y], d, n2.i, .cons (r1.mono n2.g) (.cons r2 .nil), hd, fun w G3 H3 n3 r3 => ?_⟩
    exact q d Γ' w G3 H3 ⟨y, hy, hw⟩ (n12.trans n3 fun _ z => z.elim) (s2.new n3) r3⟩
end Fd

set_option Elab.async false
set_option maxRecDepth 100000
set_option maxHeartbeats 1000000
/-! Fd23: == by an own method. -/
namespace Fd
open PySem PyProof.Rows L2
def rEqI (K : PySem.W.Frag) (C : Addr) (sp : Sp) : R2 := fun x y H Q => ∃ a dx fs t, x = V.ref a ∧ H a = some (.ins C dx fs) ∧ TyX K H y t ∧ PySem.W.notFirst K C t = true ∧ sp [x, y] H Q E0
theorem op_eqI {X : Cx} {C : Addr} {k : Nat} {sp : Sp} {ps : List Str} (c : CalM X.prog X.w X.K C X.mg X.base "__eq__" k ps sp) (hr : Room k X.A) : OpR X (compareOp .Eq) (rEqI X.K C sp) := by
  intro pins s σ H x y v u Q I rx ry h
  obtain ⟨a, dx, fs, t, rfl, ha, ty, hn, q⟩ := h
  cases (show v = Value.ref a from rx)
  obtain ⟨f, fd, F, hm, hb⟩ := c.ex
  obtain ⟨mA, O, _⟩ := ins_get I.hok ha
  obtain ⟨od, J, _⟩ := O.look
  obtain ⟨P, Z, hP, _⟩ := kit_of I ry ty
  obtain ⟨m, hF⟩ := I.fr
  show wpAny _ _ (richCompare .Eq (.ref a) u) _ _ _
  refine PySem.W.cmp_K (op := .Eq) hr.units0 hF I.ok.mod.kin J (Z.ty _ _ I.kIn hP) hn hm.at_ hm.fn ?_
  refine wpAny_mono (run_fn (us := [.ref a, u]) (vs := [.ref a, y]) F hr hb .nil pass0 I (.cons rfl (.cons ry .nil)) (by rw [List.append_nil]; exact q)) (fun w s' z => ?_) fun _ _ x => x
  obtain ⟨z', H', I', rz, qz⟩ := z
  exact SlX.cmpback rz ⟨z', H', I', rz, qz⟩
theorem k_eqI {X : Cx} {K : PySem.W.Frag} {C : Addr} {k : Nat} {sp : Sp} {ps : List Str} (h : X.K = K) (c : CalM X.prog X.w X.K C X.mg X.base "__eq__" k ps sp) (hr : Room k X.A) : OpR X (compareOp .Eq) (rEqI K C sp) := by subst h; exact op_eqI c hr
end Fd
namespace Fd
open PySem PyProof.Rows L2
/-- what == and isinstance ask of the class Algebra besides -/
structure AlgE (K : PySem.W.Frag) (C : Addr) : Prop where
  kN : PySem.W.kitOne K (.type "NoneType") (.ref C) = some false
  kT : PySem.W.kitOne K (.type "tuple") (.ref C) = some false
  nN : PySem.W.notFirst K C (.type "NoneType") = true
  nT : PySem.W.notFirst K C (.type "tuple") = true
  kO : PySem.W.kitOne K (.ref C) (.type "tuple") = some false
  ne : PySem.W.findIn K (.ref C) "__ne__" = some (some (.builtin "object.__ne__"))
section
variable {Γ Γ1 Γ2 : En} {ta tb : TE} {K : PySem.W.Frag} {mg : Str → Option Value} {CA : Addr} {ks : List (PyData × PyData)} {d y : PyData}
theorem AlgC.tyx (T : AlgC K mg CA) {H : Hp} {v : V} {G : Hp} (e : Same G H) (r : Rp G v (dOb CA ks)) : TyX K H v (.ref CA) := by
  obtain ⟨a, dx, fs, rfl, ha, _⟩ := r.obE
  exact .base (.ins (e _ _ ha) T.cl T.ca T.cb T.cc T.cd)
theorem ev_isiA (T : AlgC K mg CA) (ha : Ev ta Γ Γ1 (dOb CA ks)) : Ev (tCB (rIsi K) (tCons ta (tCons (tC (.ref CA)) tNil))) Γ Γ1 (.bool true) := ⟨ha.own, fun σ G H e s Q q => ha.run σ G H e s _ fun v G1 H1 n1 s1 r1 =>
  ⟨v, .ref CA, _, _, true, rfl, .own CA, T.tyx n1.i r1, by unfold PySem.W.kitOne; rw [if_pos (by simp)], q _ G1 H1 n1 s1 (.bl true)⟩⟩
theorem ev_isiN (ha : Ev ta Γ Γ1 d) (hd : tyD d ≠ "") (h : PySem.W.kitOne K (.type (tyD d)) (.ref CA) = some false) : Ev (tCB (rIsi K) (tCons ta (tCons (tC (.ref CA)) tNil))) Γ Γ1 (.bool false) := ⟨ha.own, fun σ G H e s Q q => ha.run σ G H e s _ fun v G1 H1 n1 s1 r1 =>
  ⟨v, .ref CA, _, _, false, rfl, .own CA, r1.ty n1.i hd, h, q _ G1 H1 n1 s1 (.bl false)⟩⟩
/-- isinstance(o, tuple) -/
theorem ev_isiO (T : AlgC K mg CA) (T2 : AlgE K CA) (ha : Ev ta Γ Γ1 (dOb CA ks)) : Ev (tCB (rIsi K) (tCons ta (tCons (tC (.ty "tuple")) tNil))) Γ Γ1 (.bool false) := ⟨ha.own, fun σ G H e s Q q => ha.run σ G H e s _ fun v G1 H1 n1 s1 r1 =>
  ⟨v, .ty "tuple", _, _, false, rfl, .ty "tuple", T.tyx n1.i r1, T2.kO, q _ G1 H1 n1 s1 (.bl false)⟩⟩
theorem ev_eqO {pre : List PyData → PyData → Prop} (T : AlgC K mg CA) (ha : Ev ta Γ Γ1 (dOb CA ks)) {ls : List (PyData × PyData)} (hb : Ev tb Γ1 Γ2 (dOb CA ls)) (h : pre [dOb CA ks, dOb CA ls] d) : Ev (tOp (rEqI K CA (spP pre)) ta tb) Γ Γ2 d :=
  ⟨fun a m => ha.own a (hb.own a m), fun σ G H e s Q q => ha.run σ G H e s _ fun u G1 H1 n1 s1 r1 => hb.run σ G1 H1 n1.i s1 _ fun v G2 H2 n2 s2 r2 => by
    have n12 := n1.trans n2 (mo ha.own)
    have r1' := r1.mono n2.g
    obtain ⟨a, dx, fs, rfl, hx, _⟩ := id r1'.obE
    exact ⟨a, dx, fs, .ref CA, rfl, n2.i _ _ hx, T.tyx n2.i r2, by unfold PySem.W.notFirst; simp, G2, [dOb CA ks, dOb CA ls], d, n2.i, .cons r1' (.cons r2 .nil), h, fun w G3 H3 n3 r3 => q w G3 H3 (n12.trans n3 fun _ z => z.elim) (s2.new n3) r3⟩⟩
theorem ev_eqN {pre : List PyData → PyData → Prop} (ha : Ev ta Γ Γ1 (dOb CA ks)) (hb : Ev tb Γ1 Γ2 y) (hd : tyD y ≠ "") (hn : PySem.W.notFirst K CA (.type (tyD y)) = true) (h : pre [dOb CA ks, y] d) : Ev (tOp (rEqI K CA (spP pre)) ta tb) Γ Γ2 d :=
  ⟨fun a m => ha.own a (hb.own a m), fun σ G H e s Q q => ha.run σ G H e s _ fun u G1 H1 n1 s1 r1 => hb.run σ G1 H1 n1.i s1 _ fun v G2 H2 n2 s2 r2 => by
    have n12 := n1.trans n2 (mo ha.own)
    have r1' := r1.mono n2.g
    obtain ⟨a, dx, fs, rfl, hx, _⟩ := id r1'.obE
    exact ⟨a, dx, fs, _, rfl, n2.i _ _ hx, r2.ty n2.i hd, hn, G2, [dOb CA ks, y], d, n2.i, .cons r1' (.cons r2 .nil), h, fun w G3 H3 n3 r3 => q w G3 H3 (n12.trans n3 fun _ z => z.elim) (s2.new n3) r3⟩⟩
end
end Fd

set_option Elab.async false
set_option maxRecDepth 100000
set_option maxHeartbeats 1000000
/-! Fd24: != where only == is one's own. -/
namespace NeI
open PySem PySem.Spec PyProof.Rows PySem.SeqAt PySem.W
section
variable {M : Model} {prog : Program} {w : World} {A : Around} {E : Value → Shared → Prop} {s : Shared} {K : Frag} {x C f L : Addr} {ox : Obj} {od : Option Obj} {b tb : Value} {h₀ : Heap} {m : Str → Option Value}
theorem entry_ne {Q : PySem.Fin → Shared → Prop} (hu : A.units < cLine) (X : K.In s.heap) (I : InstAt s.heap x ox C od) (hs : findIn K (.ref C) "__eq__" = some (some (.ref f))) (hf : isFn K (.ref f) = true)
    (h : wpAny (model prog w) A (call (.ref f) [.ref x, b]) (fun v s' => ∃ t, v = .bool t ∧ Q (.done (.ret (.bool (!t)))) s') E s) :
    wpAny (model prog w) A (Builtin.«object.__ne__» ⟨[.ref x, b], []⟩) Q E s := by
  unfold Builtin.«object.__ne__»
  repeat (first
    | with_reducible refine wpAny_cRoomFor hu ?_
    | (refine wpAny_bind (m := callSpecialIfBound? (.ref x) (Str.ofString "__eq__") [b])
        (ifBound_K X I hs hf (wpAny_mono h (fun r s' hr => by
          obtain ⟨t, rfl, hq⟩ := hr
          repeat (first | exact hq | exact wpAny_pure hq | exact wpAny_truthy_bool hq | (refine wpAny_bind (m := truthy (.bool _)) (wpAny_truthy_bool ?_)) | wp_step)) fun _ _ e => e)))
    | wp_step)
theorem ifBound_ne {args : List Value} {Q : Option Value → Shared → Prop} (X : K.In s.heap) (I : InstAt s.heap x ox C od) (hs : findIn K (.ref C) "__ne__" = some (some (.builtin "object.__ne__")))
    (h : wpAny M A (call (.builtin "object.__ne__") (.ref x :: args)) (fun v => Q (some v)) E s) : wpAny M A (callSpecialIfBound? (.ref x) "__ne__" args) Q E s := by
  simp only [callSpecialIfBound?, bindSpecialIfBound?]
  refine wpAny_holding (wpAny_bind (wpAny_bind (wpAny_bind (I.type.here ((looks_findIn X hs).here ?_)))))
  refine wpAny_bind (wpAny_askSetting (wpAny_ite ?_))
  have fin : wpAny M A (call (.builtin "object.__ne__") ([.ref x] ++ args) >>= fun v => pure (some v)) Q E s := wpAny_bind (wpAny_mono h (fun v s' h' => wpAny_pure h') fun _ _ h' => h')
  split
  · exact wpAny_bind (wpAny_of_eq (F.cmp_object.ne.bind _) (wpAny_pure (by exact fin)))
  · exact wpAny_tryCatch (wpAny_bind (wpAny_of_eq (F.cmp_object.ne.bind _) (wpAny_pure (by exact fin))))
theorem cmp_ne {Q : Value → Shared → Prop} (hu : A.units + 1 < cLine) (F₀ : Fr h₀ L s.heap m) (X₀ : K.In h₀) (I : InstAt s.heap x ox C od) (hm : mroIn K C (.type "object") = some true) (hb : Looks (model prog w) s.heap (typeOf b) tb) (hn : notFirst K C tb = true)
    (hq : findIn K (.ref C) "__ne__" = some (some (.builtin "object.__ne__"))) (hs : findIn K (.ref C) "__eq__" = some (some (.ref f))) (hf : isFn K (.ref f) = true)
    (h : wpAny (model prog w) A.in1 (call (.ref f) [.ref x, b]) (fun v s' => ∃ t, v = .bool t ∧ Q (.bool (!t)) s') E s) : wpAny (model prog w) A (richCompare .NotEq (.ref x) b) Q E s := by
  have X := X₀.keeps F₀.keep
  have one : wpAny (model prog w) A (tryCompare (.ref x) (cmpInfo .NotEq).2.1 b) (fun r s' => ∃ v, r = some v ∧ Q v s') E s := by
    unfold tryCompare
    refine wpAny_bind (ifBound_ne X I hq (wpAny_call (codeAny_call_builtin F.cmp_object.ne.plain F.cmpEntry_ne (check_slot F.cmpKind_ne F.cmpSplit_ne (I.type.andThen (looks_mroIn X hm)) (F.cmpArgs_ne _ _)
      (entry_ne (A := A.in1) (by show A.units + 1 < _; exact hu) X I hs hf (wpAny_mono h (fun v s' hv => ?_) fun _ _ e => e))))))
    obtain ⟨t, rfl, hq⟩ := hv
    exact ⟨t, rfl, wpAny_pure ⟨_, rfl, hq⟩⟩
  unfold richCompare
  simp only [oneThing_ref]
  refine wpAny_holding (wpAny_bind (wpAny_cRoomFor (by omega) ?_))
  refine wpAny_bind (I.type.here (wpAny_bind (hb.here ?_)))
  split
  · rename_i q
    have e : subIn K tb (.ref C) = some false := by
      rcases Bool.or_eq_true_iff.mp hn with e | e
      · rw [beq_iff_eq.mp e] at q; simp at q
      · exact beq_iff_eq.mp e
    refine wpAny_bind ((looks_subIn X e).here ?_)
    simp only [Bool.false_eq_true, if_false]
    refine wpAny_bind (wpAny_mono one (fun r s' z => ?_) fun _ _ e => e)
    obtain ⟨v, rfl, hq⟩ := z
    exact wpAny_pure hq
  · refine wpAny_bind (wpAny_pure ?_)
    simp only [Bool.false_eq_true, if_false]
    refine wpAny_bind (wpAny_mono one (fun r s' z => ?_) fun _ _ e => e)
    obtain ⟨v, rfl, hq⟩ := z
    exact wpAny_pure hq
end
end NeI
namespace Fd
open PySem PyProof.Rows L2
def rNeI (K : PySem.W.Frag) (C : Addr) (sp : Sp) : R2 := fun x y H Q => ∃ a dx fs t, x = V.ref a ∧ H a = some (.ins C dx fs) ∧ TyX K H y t ∧ PySem.W.notFirst K C t = true ∧ sp [x, y] H (fun v H' => ∃ b, v = .bl b ∧ Q (.bl (!b)) H') E0
theorem op_neI {X : Cx} {C : Addr} {k : Nat} {sp : Sp} {ps : List Str} (c : CalM X.prog X.w X.K C X.mg X.base "__eq__" k ps sp) (hq : PySem.W.findIn X.K (.ref C) "__ne__" = some (some (.builtin "object.__ne__"))) (hm0 : PySem.W.mroIn X.K C (.type "object") = some true) (hr : Room (k + 1) X.A) : OpR X (compareOp .NotEq) (rNeI X.K C sp) := by
  intro pins s σ H x y v u Q I rx ry h
  obtain ⟨a, dx, fs, t, rfl, ha, ty, hn, q⟩ := h
  cases (show v = Value.ref a from rx)
  obtain ⟨f, fd, F, hm, hb⟩ := c.ex
  obtain ⟨mA, O, _⟩ := ins_get I.hok ha
  obtain ⟨od, J, _⟩ := O.look
  obtain ⟨P, Z, hP, _⟩ := kit_of I ry ty
  obtain ⟨m, hF⟩ := I.fr
  show wpAny _ _ (richCompare .NotEq (.ref a) u) _ _ _
  refine NeI.cmp_ne (by have := hr.un; omega) hF I.ok.mod.kin J hm0 (Z.ty _ _ I.kIn hP) hn hq hm.at_ hm.fn ?_
  have hl : ([Value.ref a, u] ++ []).length = ps.length := by
    have := F.len _ _ _ _ q
    rw [← this]; rfl
  refine wpAny_call (codeAny_mono (F.run X.A.in1 X.stack s H ⟨[.ref a, u], []⟩ ([.ref a, u] ++ []) [.ref a, y] _ E0 (Room.in1 hr) I.env0.in1 (hb s [.ref a, u] I.kIn hl) (.cons rfl (.cons ry .nil)) q) fun r s' hq => ?_)
  cases r with
  | error e => exact pass0 pins σ H s e s' I hq
  | ok fl =>
    cases fl with
    | ret w =>
      obtain ⟨v, H', I2, rv, b, hv, q2⟩ := I.after hq
      subst hv
      cases (show w = Value.bool b from rv)
      exact ⟨b, rfl, .bl (!b), H', I2, rfl, q2⟩
    | next => exact False.elim hq
    | brk => exact False.elim hq
    | cont => exact False.elim hq
theorem k_neI {X : Cx} {K : PySem.W.Frag} {C : Addr} {k : Nat} {sp : Sp} {ps : List Str} (h : X.K = K) (c : CalM X.prog X.w X.K C X.mg X.base "__eq__" k ps sp) (hq : PySem.W.findIn K (.ref C) "__ne__" = some (some (.builtin "object.__ne__"))) (hm0 : PySem.W.mroIn K C (.type "object") = some true) (hr : Room (k + 1) X.A) : OpR X (compareOp .NotEq) (rNeI K C sp) := by subst h; exact op_neI c hq hm0 hr
section
variable {Γ Γ1 Γ2 : En} {ta tb : TE} {K : PySem.W.Frag} {mg : Str → Option Value} {CA : Addr} {ks : List (PyData × PyData)}
theorem ev_neO {pre : List PyData → PyData → Prop} {b : Bool} (T : AlgC K mg CA) (ha : Ev ta Γ Γ1 (dOb CA ks)) {ls : List (PyData × PyData)} (hb : Ev tb Γ1 Γ2 (dOb CA ls)) (h : pre [dOb CA ks, dOb CA ls] (.bool b)) : Ev (tOp (rNeI K CA (spP pre)) ta tb) Γ Γ2 (.bool (!b)) :=
  ⟨fun a m => ha.own a (hb.own a m), fun σ G H e s Q q => ha.run σ G H e s _ fun u G1 H1 n1 s1 r1 => hb.run σ G1 H1 n1.i s1 _ fun v G2 H2 n2 s2 r2 => by
    have n12 := n1.trans n2 (mo ha.own)
    have r1' := r1.mono n2.g
    obtain ⟨a, dx, fs, rfl, hx, _⟩ := id r1'.obE
    exact ⟨a, dx, fs, .ref CA, rfl, n2.i _ _ hx, T.tyx n2.i r2, by unfold PySem.W.notFirst; simp, G2, [dOb CA ks, dOb CA ls], .bool b, n2.i, .cons r1' (.cons r2 .nil), h, fun w G3 H3 n3 r3 => ⟨b, r3.blE, q _ G3 H3 (n12.trans n3 fun _ z => z.elim) (s2.new n3) (.bl _)⟩⟩⟩
end
end Fd

set_option Elab.async false
set_option maxRecDepth 100000
set_option maxHeartbeats 1000000
/-! Fd25: one's own lists lent to one call. -/
namespace Fd
open PySem PyProof.Rows L2
mutual
/-- no list in it -/
inductive NoL : PyData → Prop
  | non : NoL .none
  | bl (b : Bool) : NoL (.bool b)
  | int (i : Int) : NoL (.int i)
  | str (x : Str) : NoL (.str x)
  | tup {ds : List PyData} : NoLA ds → NoL (.tuple ds)
  | obj {C : Int} {kvs : List (PyData × PyData)} : NoLF kvs → NoL (.dict ((.int C, .none) :: kvs))
inductive NoLA : List PyData → Prop
  | nil : NoLA []
  | cons {d : PyData} {ds : List PyData} : NoL d → NoLA ds → NoLA (d :: ds)
inductive NoLF : List (PyData × PyData) → Prop
  | nil : NoLF []
  | cons {f : Str} {d : PyData} {ds : List (PyData × PyData)} : NoL d → NoLF ds → NoLF ((.str f, d) :: ds)
end
mutual
theorem Rp.cut {G G3 : Hp} (h : ∀ b u, G b = some u → (∀ xs, u ≠ .lst xs) → G3 b = some u) : ∀ {v : V} {d : PyData}, Rp G v d → NoL d → Rp G3 v d
  | _, _, .non, _ => .non
  | _, _, .bl b, _ => .bl b
  | _, _, .int i, _ => .int i
  | _, _, .str x, _ => .str x
  | _, _, .lst _ _, n => nomatch n
  | _, _, .tup h1 h2, .tup n => .tup (h _ _ h1 fun _ z => nomatch z) (RpAll.cut h h2 n)
  | _, _, .obj h1 h2, .obj n => .obj (h _ _ h1 fun _ z => nomatch z) (RpF.cut h h2 n)
theorem RpAll.cut {G G3 : Hp} (h : ∀ b u, G b = some u → (∀ xs, u ≠ .lst xs) → G3 b = some u) : ∀ {vs : List V} {ds : List PyData}, RpAll G vs ds → NoLA ds → RpAll G3 vs ds
  | _, _, .nil, _ => .nil
  | _, _, .cons h1 h2, .cons n1 n2 => .cons (Rp.cut h h1 n1) (RpAll.cut h h2 n2)
theorem RpF.cut {G G3 : Hp} (h : ∀ b u, G b = some u → (∀ xs, u ≠ .lst xs) → G3 b = some u) : ∀ {vs : List (Str × V)} {ds : List (PyData × PyData)}, RpF G vs ds → NoLF ds → RpF G3 vs ds
  | _, _, .nil, _ => .nil
  | _, _, .cons h1 h2, .cons n1 n2 => .cons (Rp.cut h h1 n1) (RpF.cut h h2 n2)
end
theorem noLA_map {α : Type} {f : α → PyData} (h : ∀ a, NoL (f a)) : ∀ xs : List α, NoLA (xs.map f)
  | [] => .nil
  | x :: xs => .cons (h x) (noLA_map h xs)
theorem noL_R (v : List Int) : NoL (dR v) := .tup (noLA_map .int v)
def SlNo : Sl → Prop
  | .un => True
  | .val _ => True
  | .dat d => NoL d
  | .cell _ ds => NoLA ds
  | _ => False
section
variable {Γ : En} {te : TE} {d : PyData} {P : Ed}
theorem Sd.nfrz {G H : Hp} {σ : L2.St} {i : Nat} {a : Addr} {bs : List Addr} {rows : List (List PyData)} (s : Sd G H σ Γ) (e : Same G H) (h : Γ[i]? = some (.nst a bs rows)) :
    ∃ G2, NewM (Mo Γ) G H G2 H ∧ Sd G2 H σ (Γ.set i (.dat (.list (rows.map .list)))) ∧ (∀ c, c ∈ a :: bs → G2 c = H c) ∧ (∀ c, c ∈ a :: bs → G c = none) ∧ ∀ c, c ∈ a :: bs → ∃ xs, H c = some (.lst xs) := by
  obtain ⟨o, e1, rfl, ng, hx, rn⟩ := s.at_ i _ h
  have hi : i < Γ.length := (List.getElem?_eq_some_iff.mp h).1
  let G2 : Hp := fun c => if c ∈ a :: bs then H c else G c
  have gin : ∀ c, c ∈ a :: bs → G2 c = H c := fun c hc => if_pos hc
  have gout : ∀ c, ¬ c ∈ a :: bs → G2 c = G c := fun c hc => if_neg hc
  have gnone : ∀ c, c ∈ a :: bs → G c = none := fun c hc => by
    rcases List.mem_cons.mp hc with hc | hc
    · rw [hc]; exact ng
    · obtain ⟨k, hk⟩ := List.getElem?_of_mem hc
      have hk2 := (List.getElem?_eq_some_iff.mp hk).1
      exact (rn.2 k c _ hk (List.getElem?_eq_getElem (by rw [← rn.1]; exact hk2))).1
  have hsome : ∀ c, c ∈ a :: bs → ∃ xs, H c = some (.lst xs) := fun c hc => by
    rcases List.mem_cons.mp hc with hc | hc
    · rw [hc]; exact ⟨_, hx⟩
    · obtain ⟨k, hk⟩ := List.getElem?_of_mem hc
      have hk2 := (List.getElem?_eq_some_iff.mp hk).1
      obtain ⟨_, xs, h2, _⟩ := rn.2 k c _ hk (List.getElem?_eq_getElem (by rw [← rn.1]; exact hk2))
      exact ⟨xs, h2⟩
  have n : NewM (Mo Γ) G H G2 H := by
    refine ⟨fun b u q => ?_, fun b u q => ?_, fun _ _ _ q => q, fun _ q => q, fun b hm hn q => ?_⟩
    · have : ¬ b ∈ a :: bs := fun z => by rw [gnone b z] at q; cases q
      rw [gout b this]; exact q
    · by_cases hb : b ∈ a :: bs
      · rw [gin b hb] at q; exact q
      · rw [gout b hb] at q; exact e b u q
    · rw [gout b fun z => hm (own_mem h (by simpa [own1] using z))]; exact q
  have rows' : RpAll G2 (bs.map V.ref) (rows.map PyData.list) := by
    have key : ∀ (bs' : List Addr) (rows' : List (List PyData)), (∀ b, b ∈ bs' → b ∈ bs) → bs'.length = rows'.length → (∀ (k : Nat) (b : Addr) (ds : List PyData), bs'[k]? = some b → rows'[k]? = some ds → G b = none ∧ ∃ xs, H b = some (.lst xs) ∧ RpAll G xs ds) → RpAll G2 (bs'.map V.ref) (rows'.map PyData.list) := fun bs' => by
      induction bs' with
      | nil =>
        intro rows' _ hl _
        cases rows' with
        | nil => exact .nil
        | cons r rs => cases hl
      | cons b bs' ih =>
        intro rows' hsub hl hr
        cases rows' with
        | nil => cases hl
        | cons r rs =>
          obtain ⟨_, xs, h2, h3⟩ := hr 0 b r rfl rfl
          refine .cons (.lst (by rw [gin b (List.mem_cons_of_mem _ (hsub b List.mem_cons_self))]; exact h2) (h3.mono n.g)) (ih rs (fun c hc => hsub c (List.mem_cons_of_mem _ hc)) (by simpa using hl) fun k c ds h1 h2 => hr (k + 1) c ds (by simpa using h1) (by simpa using h2))
    exact key bs rows (fun _ z => z) rn.1 rn.2
  refine ⟨G2, n, ?_, gin, gnone, hsome⟩
  refine ⟨by simp [s.len], fun j w q => ?_, nodup_set s.nd (by simp [own1]) fun c hc => by simp [own1] at hc⟩
  by_cases hj : i = j
  · subst hj
    rw [List.getElem?_set_self hi] at q
    cases q
    exact ⟨_, e1, _, rfl, .lst (by rw [gin a List.mem_cons_self]; exact hx) rows'⟩
  · rw [List.getElem?_set_ne hj] at q
    obtain ⟨o, e2, z⟩ := s.at_ j w q
    have hne : ∀ x, x ∈ own1 w → ¬ x ∈ a :: bs := fun x hx e3 => hj (nd_own s.nd h q (by simpa [own1] using e3) hx)
    exact ⟨o, e2, z.stay (M := fun x => x ∈ a :: bs) ⟨n.g, n.i, fun _ _ _ q => q, fun _ q => q, fun b hm hn q => by rw [gout b hm]; exact q⟩ hne⟩
/-- x = an expression that reads one's own list of lists, which stays one's own: no list in what it gives, nor in the other slots -/
theorem st_lend {i j : Nat} {a : Addr} {bs : List Addr} {rows : List (List PyData)} (h : Γ[i]? = some (.nst a bs rows)) (hc : Ev te (Γ.set i (.dat (.list (rows.map .list)))) (Γ.set i (.dat (.list (rows.map .list)))) d) (hd : NoL d)
    (ho : ∀ k s, k ≠ i → Γ[k]? = some s → SlNo s) (hr : ∀ ds, ds ∈ rows → NoLA ds) (hj : j < Γ.length) (hij : j ≠ i) (p : P.nx (Γ.set j (.dat d))) : StD (tAsg te (gName j)) Γ P := fun σ G H D e s k1 _ _ _ => by
  obtain ⟨G1, n1, s1, gin, gnone, hsome⟩ := s.nfrz e h
  have hi : i < Γ.length := (List.getElem?_eq_some_iff.mp h).1
  refine hc.run σ G1 H n1.i s1 _ fun v G2 H2 n2 s2 r2 => ?_
  have hm1 : ∀ b, Mo (Γ.set i (.dat (.list (rows.map .list)))) b → Mo Γ b := fun b m => owns_dat rfl b m
  have g2 : ∀ c, c ∈ a :: bs → ∃ xs, G2 c = some (.lst xs) ∧ H c = some (.lst xs) ∧ H2 c = some (.lst xs) := fun c hc => by
    obtain ⟨xs, hx⟩ := hsome c hc
    have := n2.g c _ ((gin c hc).trans hx)
    exact ⟨xs, this, hx, n2.i _ _ this⟩
  let G3 : Hp := fun c => if c ∈ a :: bs then none else G2 c
  have gi3 : ∀ c, c ∈ a :: bs → G3 c = none := fun c hc => if_pos hc
  have go3 : ∀ c, ¬ c ∈ a :: bs → G3 c = G2 c := fun c hc => if_neg hc
  have cut : ∀ b u, G2 b = some u → (∀ xs, u ≠ .lst xs) → G3 b = some u := fun b u hb hu => by
    rw [go3 b fun z => ?_]
    · exact hb
    · obtain ⟨xs, h1, _⟩ := g2 b z
      rw [h1] at hb
      cases hb
      exact hu xs rfl
  have n3 : NewM (Mo Γ) G H G3 H2 := by
    refine ⟨fun b u q => ?_, fun b u q => ?_, fun b u hm q => n2.h b u (fun z => hm (hm1 b z)) q, fun b q => n2.t b q, fun b hm hn q => ?_⟩
    · have : ¬ b ∈ a :: bs := fun z => by rw [gnone b z] at q; cases q
      rw [go3 b this]
      exact n2.g _ _ (n1.g _ _ q)
    · by_cases hb : b ∈ a :: bs
      · rw [gi3 b hb] at q; cases q
      · rw [go3 b hb] at q; exact n2.i _ _ q
    · have hb : ¬ b ∈ a :: bs := fun z => hm (own_mem h (by simpa [own1] using z))
      rw [go3 b hb]
      exact n2.f b (fun z => hm (hm1 b z)) hn (n1.f b hm hn q)
  have s3 : Sd G3 H2 (σ.set j (some v)) (Γ.set j (.dat d)) := by
    refine ⟨by simp [s.len], fun k w q => ?_, nodup_set s.nd (by simp [own1]) fun c hc => by simp [own1] at hc⟩
    by_cases hk : j = k
    · subst hk
      rw [List.getElem?_set_self hj] at q
      cases q
      exact ⟨_, List.getElem?_set_self (by rw [s.len]; exact hj), v, rfl, r2.cut cut hd⟩
    · rw [List.getElem?_set_ne hk] at q
      rw [List.getElem?_set_ne hk]
      by_cases hki : i = k
      · subst hki
        rw [h] at q
        cases q
        obtain ⟨o, e1, rfl, ng, hx, rn⟩ := s.at_ i _ h
        refine ⟨_, e1, rfl, gi3 a List.mem_cons_self, ?_, rn.1, fun m b ds h1 h2 => ?_⟩
        · obtain ⟨xs, _, x2, x3⟩ := g2 a List.mem_cons_self
          rw [x2] at hx
          rw [x3]; exact hx
        · obtain ⟨_, xs, y2, y3⟩ := rn.2 m b ds h1 h2
          have hb : b ∈ a :: bs := List.mem_cons_of_mem _ (List.mem_of_getElem? h1)
          obtain ⟨zs, _, x2, x3⟩ := g2 b hb
          rw [x2] at y2
          cases y2
          exact ⟨gi3 b hb, xs, x3, ((y3.mono n1.g).mono n2.g).cut cut (hr ds (List.mem_of_getElem? h2))⟩
      · have hs := ho k w (Ne.symm hki) q
        obtain ⟨o, e1, z⟩ := s2.at_ k w (by rw [List.getElem?_set_ne hki]; exact q)
        refine ⟨o, e1, ?_⟩
        cases w with
        | un => trivial
        | val x => exact z
        | dat y => obtain ⟨u, e2, r3⟩ := z; exact ⟨u, e2, r3.cut cut hs⟩
        | cell x ds =>
          obtain ⟨e2, ng, xs, hx, r3⟩ := z
          refine ⟨e2, ?_, xs, hx, r3.cut cut hs⟩
          by_cases hb : x ∈ a :: bs
          · exact gi3 x hb
          · rw [go3 x hb]; exact ng
        | _ => exact hs.elim
  exact k1 _ _ G3 H2 p ⟨n3, fun b m => .inl (owns_dat rfl b m), s3⟩
end
end Fd

set_option Elab.async false
set_option maxRecDepth 100000
set_option maxHeartbeats 2000000
/-! Fd26: exceptions by data: raise, try, defs that raise. -/
namespace Fd
open PySem PyProof.Rows L2

/-- an exception: its class, its fields (none: it has no dict of its own) -/
structure Xc where
  cls : Value
  fs : Option (List (PyData × PyData)) := none
/-- how it lies -/
def XRep (G : Hp) (d : Option Addr) (x : Xc) : Prop := match x.fs with
  | none => d = none
  | some ks => ∃ a vs, d = some a ∧ G a = some (.xd vs) ∧ RpF G vs ks
theorem XRep.mono {G H : Hp} {d : Option Addr} {x : Xc} (e : Same G H) (h : XRep G d x) : XRep H d x := by
  unfold XRep at h ⊢
  cases q : x.fs with
  | none => rw [q] at h; exact h
  | some ks =>
    rw [q] at h
    obtain ⟨a, vs, rfl, ha, r⟩ := h
    exact ⟨a, vs, rfl, e _ _ ha, r.mono e⟩
theorem xrep0 {G : Hp} {c : Value} : XRep G none ⟨c, none⟩ := rfl
/-- the statement t, whose exceptions W takes, from slots Γ comes to what P wants, or raises what R tells -/
def StE (t : TS) (W : WX) (Γ : En) (P : Ed) (R : En → Xc → Prop) : Prop := ∀ (σ : L2.St) (G H : Hp) (D : Ends), Same G H → Sd G H σ Γ →
  (∀ Γ' σ' G2 H2, P.nx Γ' → Lv Γ Γ' G H G2 H2 σ' → D.nx σ' H2) → (∀ Γ' d σ' v G2 H2, P.rt Γ' d → Lv Γ Γ' G H G2 H2 σ' → Rp G2 v d → D.rt v H2) →
  (∀ Γ' σ' G2 H2, P.bk Γ' → Lv Γ Γ' G H G2 H2 σ' → D.bk σ' H2) → (∀ Γ' σ' G2 H2, P.ct Γ' → Lv Γ Γ' G H G2 H2 σ' → D.ct σ' H2) →
  (∀ Γ' x d σ' G2 H2, R Γ' x → Lv Γ Γ' G H G2 H2 σ' → XRep G2 d x → W x.cls d σ' H2) → t D σ H
/-- an expression that raises x, in slots Γ1 -/
structure EvE (te : TE) (W : WX) (Γ Γ1 : En) (x : Xc) : Prop where
  own : ∀ a, a ∈ owns Γ1 → a ∈ owns Γ
  run : ∀ (σ : L2.St) (G H : Hp), Same G H → Sd G H σ Γ → (∀ d G2 H2, NewM (Mo Γ) G H G2 H2 → Sd G2 H2 σ Γ1 → XRep G2 d x → W x.cls d σ H2) → ∀ Q, te σ H Q
structure EvEA (ta : TA) (W : WX) (Γ Γ1 : En) (x : Xc) : Prop where
  own : ∀ a, a ∈ owns Γ1 → a ∈ owns Γ
  run : ∀ (σ : L2.St) (G H : Hp), Same G H → Sd G H σ Γ → (∀ d G2 H2, NewM (Mo Γ) G H G2 H2 → Sd G2 H2 σ Γ1 → XRep G2 d x → W x.cls d σ H2) → ∀ Q, ta σ H Q
/-- a def that gives or raises -/
def spE (pre : List PyData → Except Xc PyData → Prop) : Sp := fun vs H Q E => ∃ G ds o, Same G H ∧ RpAll G vs ds ∧ pre ds o ∧ (∀ d, o = .ok d → ∀ v G2 H2, New G H G2 H2 → Rp G2 v d → Q v H2) ∧
  ∀ x, o = .error x → ∀ d G2 H2, New G H G2 H2 → XRep G2 d x → E x.cls d H2
section
variable {Γ Γ' Γ1 Γ2 Γ3 : En} {ta tb te tx : TE} {tt : TT} {tr : TA} {t u : TS} {d e y z : PyData} {ds es : List PyData} {K : PySem.W.Frag} {P P' : Ed} {R R' : En → Xc → Prop} {W W' : WX} {x : Xc}
theorem sd_e (h : StD t Γ P) : StE t W Γ P R := fun σ G H D e s k1 k2 k3 k4 _ => h σ G H D e s k1 k2 k3 k4
theorem se_d (h : StE t W Γ P fun _ _ => False) : StD t Γ P := fun σ G H D e s k1 k2 k3 k4 => h σ G H D e s k1 k2 k3 k4 fun _ _ _ _ _ _ z => z.elim
theorem StE.mono (h : StE t W Γ P R) (h1 : ∀ Γ, P.nx Γ → P'.nx Γ) (h2 : ∀ Γ d, P.rt Γ d → P'.rt Γ d) (h3 : ∀ Γ, P.bk Γ → P'.bk Γ) (h4 : ∀ Γ, P.ct Γ → P'.ct Γ) (h5 : ∀ Γ x, R Γ x → R' Γ x) : StE t W Γ P' R' :=
  fun σ G H D e s k1 k2 k3 k4 k5 => h σ G H D e s (fun Γ' σ' G2 H2 p l => k1 Γ' σ' G2 H2 (h1 _ p) l) (fun Γ' d σ' v G2 H2 p l r => k2 Γ' d σ' v G2 H2 (h2 _ _ p) l r) (fun Γ' σ' G2 H2 p l => k3 Γ' σ' G2 H2 (h3 _ p) l)
    (fun Γ' σ' G2 H2 p l => k4 Γ' σ' G2 H2 (h4 _ p) l) fun Γ' x d σ' G2 H2 p l xr => k5 Γ' x d σ' G2 H2 (h5 _ _ p) l xr
/-- the ends behind a first part -/
theorem StE.from {σ' : L2.St} {G H G2 H2 : Hp} {D : Ends} (h : StE t W Γ1 P R) (l : Lv Γ Γ1 G H G2 H2 σ')
    (k1 : ∀ Γ' σ' G2 H2, P.nx Γ' → Lv Γ Γ' G H G2 H2 σ' → D.nx σ' H2) (k2 : ∀ Γ' d σ' v G2 H2, P.rt Γ' d → Lv Γ Γ' G H G2 H2 σ' → Rp G2 v d → D.rt v H2)
    (k3 : ∀ Γ' σ' G2 H2, P.bk Γ' → Lv Γ Γ' G H G2 H2 σ' → D.bk σ' H2) (k4 : ∀ Γ' σ' G2 H2, P.ct Γ' → Lv Γ Γ' G H G2 H2 σ' → D.ct σ' H2)
    (k5 : ∀ Γ' x d σ' G2 H2, R Γ' x → Lv Γ Γ' G H G2 H2 σ' → XRep G2 d x → W x.cls d σ' H2) : t D σ' H2 :=
  h σ' G2 H2 D l.n.i l.s (fun Γ' σ' G2 H2 p l' => k1 Γ' σ' G2 H2 p (l.trans l')) (fun Γ' d σ' v G2 H2 p l' r => k2 Γ' d σ' v G2 H2 p (l.trans l') r)
    (fun Γ' σ' G2 H2 p l' => k3 Γ' σ' G2 H2 p (l.trans l')) (fun Γ' σ' G2 H2 p l' => k4 Γ' σ' G2 H2 p (l.trans l')) fun Γ' x d σ' G2 H2 p l' xr => k5 Γ' x d σ' G2 H2 p (l.trans l') xr
theorem se_seq (N : En → Prop) (h : StE t W Γ { P with nx := N } R) (k : ∀ Γ', N Γ' → StE u W Γ' P R) : StE (tSeq t u) W Γ P R :=
  fun σ G H D e s k1 k2 k3 k4 k5 => h σ G H { D with nx := u D } e s (fun Γ' σ' G2 H2 p l => (k Γ' p).from l k1 k2 k3 k4 k5) k2 k3 k4 k5
theorem se_then (h : StE t W Γ { P with nx := fun Γ' => Γ' = Γ1 } R) (k : StE u W Γ1 P R) : StE (tSeq t u) W Γ P R := se_seq _ h fun Γ' e => by subst e; exact k
theorem sd_then (h : StD t Γ { P with nx := fun Γ' => Γ' = Γ1 }) (k : StE u W Γ1 P R) : StE (tSeq t u) W Γ P R := se_then (sd_e h) k
theorem sd_seq (N : En → Prop) (h : StD t Γ { P with nx := N }) (k : ∀ Γ', N Γ' → StE u W Γ' P R) : StE (tSeq t u) W Γ P R := se_seq N (sd_e h) k
/-- the first part raises in any case -/
theorem se_out (h : StE t W Γ { nx := fun _ => False, rt := fun _ _ => False } R) : StE (tSeq t u) W Γ P R := se_seq (fun _ => False) (h.mono (fun _ z => z.elim) (fun _ _ z => z.elim) (fun _ z => z.elim) (fun _ z => z.elim) fun _ _ z => z) fun _ z => z.elim
theorem se_if {b : Bool} (h : EvT tt Γ Γ1 b) (h1 : b = true → StE t W Γ1 P R) (h2 : b = false → StE u W Γ1 P R) : StE (tIfS tt t u) W Γ P R := fun σ G H D e s k1 k2 k3 k4 k5 => h.run σ G H e s _ fun G2 H2 n s2 => by
  have l := Lv.of n h.own s2
  cases b with
  | true => exact (h1 rfl).from l k1 k2 k3 k4 k5
  | false => exact (h2 rfl).from l k1 k2 k3 k4 k5
theorem se_raise {C : Value} (p : R Γ ⟨C, none⟩) : StE (fun _ σ H => W C none σ H) W Γ P R := fun σ G H D e s _ _ _ _ k5 => k5 Γ ⟨C, none⟩ none σ G H p (Lv.refl e s) rfl
theorem se_raiseE {C : Value} {E : XK} (p : R Γ ⟨C, none⟩) : StE (fun _ _ H => E C none H) (fun cls d _ H => E cls d H) Γ P R := fun σ G H D e s _ _ _ _ k5 => k5 Γ ⟨C, none⟩ none σ G H p (Lv.refl e s) rfl
theorem se_drop (h : EvE te W Γ Γ1 x) (p : R Γ1 x) : StE (tDrop te) W Γ P R := fun σ G H D e s _ _ _ _ k5 => h.run σ G H e s (fun d G2 H2 n s2 xr => k5 Γ1 x d σ G2 H2 p (Lv.of n h.own s2) xr) _
theorem se_ret (h : EvE te W Γ Γ1 x) (p : R Γ1 x) : StE (tRet te) W Γ P R := fun σ G H D e s _ _ _ _ k5 => h.run σ G H e s (fun d G2 H2 n s2 xr => k5 Γ1 x d σ G2 H2 p (Lv.of n h.own s2) xr) _
theorem se_asg {g : TG} (h : EvE te W Γ Γ1 x) (p : R Γ1 x) : StE (tAsg te g) W Γ P R := fun σ G H D e s _ _ _ _ k5 => h.run σ G H e s (fun d G2 H2 n s2 xr => k5 Γ1 x d σ G2 H2 p (Lv.of n h.own s2) xr) _
/-- for g in wi: body, a body that may raise -/
theorem se_for {wi : TI} {g : TG} (hw : Wk wi Γ Γ1 ds) (I : Nat → En → Prop) (h0 : I 0 Γ1)
    (hs : ∀ i d Γi, ds[i]? = some d → I i Γi → ∃ Γt is, Tg g is d Γi Γt ∧ StE t W Γt { nx := I (i + 1), ct := I (i + 1), bk := P.nx, rt := P.rt } R) (hd : ∀ Γi, I ds.length Γi → P.nx Γi) : StE (tFor wi g t) W Γ P R :=
  fun σ G H D e s k1 k2 _ _ k5 => hw.run σ G H e s _ fun J G1 H1 n1 s1 wk => by
  have l0 : Lv Γ Γ1 G H G1 H1 σ := Lv.of n1 hw.own s1
  refine ⟨fun i m σ' H' => m = ds.length - i ∧ i ≤ ds.length ∧ ∃ Γi G', I i Γi ∧ Lv Γ1 Γi G1 H1 G' H' σ', ⟨_, rfl, Nat.zero_le _, Γ1, G1, h0, Lv.refl n1.i s1⟩, ?_⟩
  rintro i m σ' H' ⟨rfl, hi, Γi, G', p, l⟩
  obtain ⟨wstop, wgo⟩ := wk i G' H' l.n.g l.n.i
  by_cases hlt : i < ds.length
  · have hdi : ds[i]? = some ds[i] := List.getElem?_eq_getElem hlt
    obtain ⟨go, yld⟩ := wgo _ hdi
    refine .inr ⟨go, fun σ'' H'' => i + 1 ≤ ds.length ∧ ∃ Γi G', I (i + 1) Γi ∧ Lv Γ1 Γi G1 H1 G' H'' σ'', fun σ'' H'' q => ⟨ds.length - (i + 1), by omega, rfl, q.1, q.2⟩, fun x H2 y => ?_⟩
    obtain ⟨G2, n3, rx⟩ := yld x H2 y
    obtain ⟨Γt, is, tg, body⟩ := hs i _ Γi hdi p
    refine tg.run σ' G2 H2 x n3.i (l.s.new n3) rx _ fun σ'' _ _ s4 => ?_
    have l4 : Lv Γ1 Γt G1 H1 G2 H2 σ'' := l.trans ⟨n3.mono fun _ z => z.elim, fun a m => .inl (tg.own a m), s4⟩
    exact body σ'' G2 H2 _ n3.i s4 (fun Γ' σ3 G3 H3 q l' => ⟨hlt, Γ', G3, q, l4.trans l'⟩) (fun Γ' d σ3 v G3 H3 q l' r => k2 Γ' d σ3 v G3 H3 q (l0.trans (l4.trans l')) r)
      (fun Γ' σ3 G3 H3 q l' => k1 Γ' σ3 G3 H3 q (l0.trans (l4.trans l'))) (fun Γ' σ3 G3 H3 q l' => ⟨hlt, Γ', G3, q, l4.trans l'⟩) fun Γ' x d σ3 G3 H3 q l' xr => k5 Γ' x d σ3 G3 H3 q (l0.trans (l4.trans l')) xr
  · have ei : i = ds.length := by omega
    subst ei
    exact .inl ⟨wstop rfl, k1 _ σ' G' H' (hd Γi p) (l0.trans l)⟩
/-! calls -/
theorem ev_callE {pre : List PyData → Except Xc PyData → Prop} {E : L2.St → XK} (ha : EvA tr Γ Γ1 es) (h : pre es (.ok d)) : Ev (tCallS (spE pre) E tr) Γ Γ1 d :=
  ⟨ha.own, fun σ G H e s Q q => ha.run σ G H e s _ fun vs G1 H1 n1 s1 r1 => ⟨G1, es, .ok d, n1.i, r1, h, fun d' hd v G2 H2 n2 r2 => by
    cases hd
    exact q v G2 H2 (n1.trans n2 fun _ z => z.elim) (s1.new n2) r2, fun x hx => by cases hx⟩⟩
theorem ee_call {pre : List PyData → Except Xc PyData → Prop} (ha : EvA tr Γ Γ1 es) (h : pre es (.error x)) : EvE (tCallS (spE pre) (WE W) tr) W Γ Γ1 x :=
  ⟨ha.own, fun σ G H e s k Q => ha.run σ G H e s _ fun vs G1 H1 n1 s1 r1 => ⟨G1, es, .error x, n1.i, r1, h, (fun d' hd => by cases hd), fun x' hx d G2 H2 n2 xr => by
    cases hx
    exact k d G2 H2 (n1.trans n2 fun _ z => z.elim) (s1.new n2) xr⟩⟩
/-- what is evaluated first raises -/
theorem ee_arg {sp : Sp} {E : L2.St → XK} (h : EvEA tr W Γ Γ1 x) : EvE (tCallS sp E tr) W Γ Γ1 x := ⟨h.own, fun σ G H e s k Q => h.run σ G H e s k _⟩
theorem ee_argC {sp : Sp} {dvs : List V} {E : XK} (h : EvEA tr W Γ Γ1 x) : EvE (tCall sp dvs E tr) W Γ Γ1 x := ⟨h.own, fun σ G H e s k Q => h.run σ G H e s k _⟩
theorem ee_cons (h : EvE ta W Γ Γ1 x) : EvEA (tCons ta tr) W Γ Γ1 x := ⟨h.own, fun σ G H e s k Q => h.run σ G H e s k _⟩
theorem ee_next (ha : Ev ta Γ Γ1 y) (h : EvEA tr W Γ1 Γ2 x) : EvEA (tCons ta tr) W Γ Γ2 x :=
  ⟨fun a m => ha.own a (h.own a m), fun σ G H e s k Q => ha.run σ G H e s _ fun v G1 H1 n1 s1 r1 => h.run σ G1 H1 n1.i s1 (fun d G2 H2 n2 s2 xr => k d G2 H2 (n1.trans n2 (mo ha.own)) s2 xr) _⟩
theorem ee_lcT {g : TG} {tt : TT} {vs : List Nat} (h : EvE ta W Γ Γ1 x) : EvE (tLc (iTup K ta) g tt te vs) W Γ Γ1 x := ⟨h.own, fun σ G H e s k Q => h.run σ G H e s k _⟩
theorem ee_lc2T {g g1 : TG} {tt tt1 : TT} {wi1 : TI} {vs vs1 : List Nat} (h : EvE ta W Γ Γ1 x) : EvE (tLc2 (iTup K ta) g tt wi1 g1 tt1 te vs vs1) W Γ Γ1 x := ⟨h.own, fun σ G H e s k Q => h.run σ G H e s k _⟩
/-! try -/
/-- try: body, except c: suite -/
def tTry (K : PySem.W.Frag) (c : Value) (tb : WX → TS) (ts : Addr → Value → Option Addr → TS) (Wout : WX) : TS := fun D σ H => tb (wOnly K c ts Wout D) D σ H
theorem sd_try {tb : WX → TS} {ts : Addr → Value → Option Addr → TS} {c : Value} {Wout : WX} (hb : ∀ W, StE (tb W) W Γ P R)
    (hc : ∀ Γ' x, R Γ' x → PySem.W.exmOne K x.cls c = some true ∧ ∀ a d, StD (ts a x.cls d) Γ' P) : StD (tTry K c tb ts Wout) Γ P :=
  fun σ G H D e s k1 k2 k3 k4 => hb _ σ G H D e s k1 k2 k3 k4 fun Γ' x d σ' G2 H2 r l xr => by
  obtain ⟨h1, h2⟩ := hc Γ' x r
  exact ⟨true, h1, fun _ a na => h2 a d σ' G2 H2 D l.n.i l.s (fun Γ' σ' G2 H2 p l' => k1 Γ' σ' G2 H2 p (l.trans l')) (fun Γ' d σ' v G2 H2 p l' r => k2 Γ' d σ' v G2 H2 p (l.trans l') r)
    (fun Γ' σ' G2 H2 p l' => k3 Γ' σ' G2 H2 p (l.trans l')) fun Γ' σ' G2 H2 p l' => k4 Γ' σ' G2 H2 p (l.trans l'), fun z => by cases z⟩
end
/-! ### defs -/
section
variable {PP : Program} {w : World} {K : PySem.W.Frag} {mg : Str → Option Value} {base : Heap}
abbrev GivesE (o : Except Xc PyData) : Ed := { nx := fun _ => o = .ok .none, rt := fun _ e => o = .ok e }
theorem defE_ok {x qual : Str} {st : Stmt} {f : Addr} {fd : FuncData} {N ps : List Str} {k : Nat} {pre : List PyData → Except Xc PyData → Prop} (F : Fun K x qual st f fd) (S : FnScope N ps (defScope st)) (len : ∀ ds o, pre ds o → ds.length = ps.length)
    (hbody : ∀ (cdv : Value) (A : Around) (outer : List Env) (s : Shared) (H : Hp) (E : XK), Room k (A.deeper (envOfC qual (defScope st) s.heap.objs.size f cdv)) →
      ∃ t, PSs (cxOf (L2.CX PP w) PP w K mg base N qual (defScope st) f cdv A outer s H E) (defBody st) t ∧ ∀ ds o, pre ds o → StE t (fun cls d _ H => E cls d H) (ds.map .dat ++ List.replicate (N.length - ps.length) .un) (GivesE o) (fun _ x => o = .error x)) :
    FnOk PP w K mg base (L2.CX PP w) (k + 1) f fd ps (spE pre) := by
  refine F.okX S (fun vs H Q E h => ?_) fun cdv A outer s H vs Q E hr h => ?_
  · obtain ⟨G, ds, o, e, r, p, _⟩ := h
    rw [r.len, len ds o p]
  · obtain ⟨G, ds, o, e, r, p, q1, q2⟩ := h
    obtain ⟨t, ht, hs⟩ := hbody cdv A outer s H E hr
    have hM : ∀ {G H G2 H2 : Hp}, NewM (Mo (ds.map Sl.dat ++ List.replicate (N.length - ps.length) .un)) G H G2 H2 → New G H G2 H2 := fun n => n.mono fun a m => by unfold Mo at m; rw [owns_dats] at m; cases m
    refine ⟨t, ht, hs ds o p (L2.start N vs) G H _ e (sd_start r (by rw [r.len, len ds o p])) (fun Γ' σ' G2 H2 z l => ?_) (fun Γ' d' σ' v G2 H2 z l rv => ?_) (fun _ _ _ _ z => z.elim) (fun _ _ _ _ z => z.elim) fun Γ' x d σ' G2 H2 z l xr => ?_⟩
    · exact q1 _ z .non G2 H2 (hM l.n) .non
    · exact q1 _ z v G2 H2 (hM l.n) rv
    · exact q2 _ z d G2 H2 (hM l.n) xr
/-- a def that stands under its name and may raise -/
structure CalE (PP : Program) (w : World) (K : PySem.W.Frag) (mg : Str → Option Value) (base : Heap) (x : Str) (k : Nat) (ps : List Str) (sp : Sp) : Prop where
  ex : ∃ f fd, FnOk PP w K mg base (L2.CX PP w) k f fd ps sp ∧ mg x = some (.ref f) ∧ PySem.W.keepIn K (.ref f) = true ∧ Binds K fd ps []
theorem pe_calE {X : Cx} {W : WX} {x : Str} {k : Nat} {ps : List Str} {sp : Sp} {e : Expr} {es : List Expr} {p pos : Pos} {t : TA} (C : CalE X.prog X.w X.K X.mg X.base x k ps sp) (tk : Takes X W) (hr : Room k X.A) (hg : Gl X x) (ha : PA X (e :: es) t)
    (hdb : (x == ("__debug__" : Str)) = false := by decide) (he : starEach (e :: es) X.env = (false, eval e X.env) :: starEach es X.env := by rfl) (hpl : (backTo pos (starEach es X.env)).any (·.1) = false := by rfl) : PE X (.Call (.Name x p) (e :: es) [] pos) (tCallS sp (WE W) t) := by
  obtain ⟨f, fd, F, hm, hk, hb⟩ := C.ex
  exact pe_callS F hr hg hm hk hb (fun σ => passAt tk σ) ha hdb he hpl
/-- an exception class of the text without own __init__, over ValueError -/
structure ExT (K : PySem.W.Frag) (mg : Str → Option Value) (x : Str) (C : Addr) : Prop where
  g : mg x = some (.ref C)
  q : PySem.W.excIn K C [.type "ValueError", .type "Exception", .type "BaseException", .type "object"] "ValueError.__new__" = true
  k : PySem.W.keepIn K (.ref C) = true
  b : PySem.W.subIn K (.ref C) (.type "BaseException") = some true
  t : PySem.W.typeIn K (.ref C) = some (.type "type")
  e : PySem.W.exmOne K (.ref C) (.ref C) = some true
theorem ps_tryO {X : Cx} {x : Str} {c : Value} {body suite : List Stmt} {b₀ : Stmt} {np pos pos' : Pos} {tb : WX → TS} {ts : Addr → Value → Option Addr → TS} {Wout : WX} (hs : X.stack = X.env :: X.outer) (hf : X.env.frame = some X.env.locals) (hc : Names X x c) (tk : Takes X Wout)
    (hb : ∀ (W : WX) (pn : List (Addr × Obj)) (xe : Value → Shared → Prop), Takes (X.tr pn xe) W → PassesOwn (model X.prog X.w) X.A X.env xe → PSs (X.tr pn xe) body (tb W))
    (hsu : ∀ (a : Addr) (oe : Obj) (cls : Value) (d : Option Addr) (pn : List (Addr × Obj)), Zc cls d oe → (∃ vs, oe.data = .fields vs) → PSs (X.suite a ((a, oe) :: pn)) (b₀ :: suite) (ts a cls d)) :
    PS X (.Try body [.ExceptHandler (some (.Name x np)) none (b₀ :: suite) pos'] [] [] pos) (tTry X.K c tb ts Wout) := ps_try_only hs hf hc tk hb hsu
theorem ps_raiseT {X : Cx} {W : WX} {x m : Str} {j : Nat} {C : Addr} {p p2 pos pos' : Pos} (T : ExT X.K X.mg x C) (hc : X.calm = true) (tk : Takes X W) (hg : Gl X x) (hdb : (x == ("__debug__" : Str)) = false := by decide) :
    PS X (.Raise (some (.Call (.Name x p) [.Constant (.str m) j p2] [] pos)) none pos') (fun _ σ H => W (.ref C) none σ H) := ps_raise hc tk (pmk_own PySem.F.excBase_ValueError T.q T.g T.k (raises_own T.b T.t) hg hdb)
end
end Fd

set_option Elab.async false
set_option maxRecDepth 100000
set_option maxHeartbeats 2000000
/-! Fd27: a def that reads a list of its caller's own and gives a new list. -/
namespace Fd
open PySem PyProof.Rows L2
/-- t gives a new list of es, in the end -/
def StC (t : TS) (Γ : En) (es : List PyData) : Prop := ∀ (σ : L2.St) (G H : Hp) (D : Ends), Same G H → Sd G H σ Γ →
  (∀ Γ' σ' p xs G2 H2, Lv Γ Γ' G H G2 H2 σ' → H p = none → G2 p = none → H2 p = some (.lst xs) → RpAll G2 xs es → D.rt (.ref p) H2) → t D σ H
section
variable {Γ Γ' Γ1 Γ2 : En} {t u : TS} {te : TE} {tr : TA} {ds es : List PyData}
theorem sc_seq (N : En → Prop) (h : StD t Γ { nx := N, rt := fun _ _ => False }) (k : ∀ Γ', N Γ' → StC u Γ' es) : StC (tSeq t u) Γ es := fun σ G H D e s q =>
  h σ G H { D with nx := u D } e s (fun Γ' σ' G2 H2 p l => k Γ' p σ' G2 H2 D l.n.i l.s fun Γ2 σ2 p xs G3 H3 l' h1 h2 h3 r => q Γ2 σ2 p xs G3 H3 (l.trans l') (none_back l.n h1) h2 h3 r)
    (fun _ _ _ _ _ _ z => z.elim) (fun _ _ _ _ z => z.elim) fun _ _ _ _ z => z.elim
theorem sc_then (h : StD t Γ { nx := fun Γ' => Γ' = Γ1, rt := fun _ _ => False }) (k : StC u Γ1 es) : StC (tSeq t u) Γ es := sc_seq _ h fun Γ' e => by subst e; exact k
theorem sc_ret (h : EvC te Γ Γ1 es) : StC (tRet te) Γ es := fun σ G H D e s q => h.run σ G H e s _ fun p xs G2 H2 n s2 h1 h2 h3 r => q Γ1 σ p xs G2 H2 (Lv.of n h.own s2) h1 h2 h3 r
/-- the promise -/
def spC (pre : List PyData → List PyData → List PyData → Prop) : Sp := fun vs H Q _ => ∃ G a us xs ss ds es, vs = .ref a :: us ∧ Same G H ∧ G a = none ∧ H a = some (.lst xs) ∧ RpAll G xs ss ∧ RpAll G us ds ∧ pre ss ds es ∧ NoLA es ∧
  ∀ v G2 H2, New G H G2 H2 → Rp G2 v (.list es) → Q v H2
theorem ev_callC {pre : List PyData → List PyData → List PyData → Prop} {E : XK} {i : Nat} {a : Addr} {ss0 ss : List PyData} (h0 : Γ[i]? = some (.cell a ss0)) (ha : EvA tr Γ Γ1 ds) (hs : Γ1[i]? = some (.cell a ss)) (h : pre ss ds es) (hn : NoLA es) :
    Ev (tCall (spC pre) [] E (tCons (tVar i) tr)) Γ Γ1 (.list es) := ⟨ha.own, fun σ G H e s Q q => by
  obtain ⟨o, e1, rfl, _⟩ := s.at_ i _ h0
  refine ⟨_, e1, ha.run σ G H e s _ fun us G1 H1 n1 s1 r1 => ?_⟩
  obtain ⟨o, e2, rfl, ng, xs, hx, ra⟩ := s1.at_ i _ hs
  exact ⟨G1, a, us, xs, ss, ds, es, by rw [List.append_nil], n1.i, ng, hx, ra, r1, h, hn, fun v G2 H2 n2 rv => q v G2 H2 (n1.trans n2 fun _ z => z.elim) (s1.new n2) rv⟩⟩
end
section
variable {PP : Program} {w : World} {K : PySem.W.Frag} {mg : Str → Option Value} {base : Heap}
theorem defC_ok {x qual : Str} {st : Stmt} {f : Addr} {fd : FuncData} {N ps : List Str} {k : Nat} {pre : List PyData → List PyData → List PyData → Prop} (F : Fun K x qual st f fd) (S : FnScope N ps (defScope st)) (len : ∀ ss ds es, pre ss ds es → ds.length + 1 = ps.length)
    (hbody : ∀ (cdv : Value) (A : Around) (outer : List Env) (s : Shared) (H : Hp) (E : XK), Room k (A.deeper (envOfC qual (defScope st) s.heap.objs.size f cdv)) →
      ∃ t, PSs (cxOf CX0 PP w K mg base N qual (defScope st) f cdv A outer s H E).nox (defBody st) t ∧ ∀ ss ds es, pre ss ds es → StC t (((.list ss :: ds).map .dat) ++ List.replicate (N.length - ps.length) .un) es) : FnOk PP w K mg base CX0 (k + 1) f fd ps (spC pre) := by
  refine F.ok S (fun vs H Q E h => ?_) fun cdv A outer s H vs Q E hr h => ?_
  · obtain ⟨G, a, us, xs, ss, ds, es, rfl, e, ng, hx, rx, r, p, _⟩ := h
    rw [List.length_cons, r.len, len ss ds es p]
  · obtain ⟨G, a, us, xs, ss, ds, es, rfl, e, ng, hx, rx, r, p, hn, q⟩ := h
    obtain ⟨t, ht, hs⟩ := hbody cdv A outer s H E hr
    have n1 : NewM (fun x => x = a) G H (upd G a (.lst xs)) H := new_frz e hx ng rfl
    have e1 : Same (upd G a (.lst xs)) H := n1.i
    have r1 : RpAll (upd G a (.lst xs)) (.ref a :: us) (.list ss :: ds) := .cons (.lst upd_same (rx.mono n1.g)) (r.mono n1.g)
    refine ⟨t, ht, hs ss ds es p (L2.start N (.ref a :: us)) (upd G a (.lst xs)) H _ e1 (sd_start r1 (by rw [List.length_cons, r.len, len ss ds es p])) fun Γ' σ' b ys G2 H2 l h1 h2 h3 ry => ?_⟩
    have hM : ∀ x, ¬ Mo ((.list ss :: ds).map Sl.dat ++ List.replicate (N.length - ps.length) .un) x := fun x m => by
      unfold Mo at m
      rw [owns_dats] at m
      cases m
    have n2 := l.n
    have a2 : G2 a = some (.lst xs) := n2.g _ _ upd_same
    have hab : b ≠ a := fun z => by rw [z] at h1; rw [hx] at h1; cases h1
    let G3 : Hp := fun c => if c = a then none else if c = b then some (.lst ys) else G2 c
    have g3a : G3 a = none := if_pos rfl
    have g3b : G3 b = some (.lst ys) := by show (if b = a then _ else _) = _; rw [if_neg hab, if_pos rfl]
    have g3 : ∀ c, c ≠ a → c ≠ b → G3 c = G2 c := fun c h h' => by show (if c = a then _ else _) = _; rw [if_neg h, if_neg h']
    have cut : ∀ c u, G2 c = some u → (∀ xs, u ≠ .lst xs) → G3 c = some u := fun c u hc hu => by
      rw [g3 c (fun z => ?_) (fun z => ?_)]
      · exact hc
      · rw [z, a2] at hc
        cases hc
        exact hu xs rfl
      · rw [z, h2] at hc
        cases hc
    refine q (.ref b) G3 H2 ⟨fun c u hc => ?_, fun c u hc => ?_, fun c u hm hc => n2.h c u (hM c) hc, fun c hc => n2.t c hc, fun c hm hc hg => ?_⟩ (.lst g3b (ry.cut cut hn))
    · have h4 : c ≠ a := fun z => by rw [z, ng] at hc; cases hc
      have h5 : G2 c = some u := n2.g _ _ (n1.g _ _ hc)
      rw [g3 c h4 fun z => by rw [z, h2] at h5; cases h5]
      exact h5
    · by_cases h4 : c = a
      · rw [h4, g3a] at hc; cases hc
      · by_cases h5 : c = b
        · rw [h5, g3b] at hc
          cases hc
          rw [h5]; exact h3
        · rw [g3 c h4 h5] at hc
          exact n2.i _ _ hc
    · by_cases h4 : c = a
      · rw [h4, g3a]
      · by_cases h5 : c = b
        · rw [h5, h1] at hc
          exact absurd rfl hc
        · rw [g3 c h4 h5]
          exact n2.f c (hM c) hc (by rw [upd_ne h4]; exact hg)
end
end Fd

set_option Elab.async false
set_option maxRecDepth 100000
set_option maxHeartbeats 2000000
/-! Fd28: comprehensions with two walks. -/
namespace Fd
open PySem PyProof.Rows L2
theorem wipe_wipe {σ : L2.St} {vs vs1 : List Nat} (h : ∀ i, i ∈ vs1 → i ∈ vs) : L2.wipe (L2.wipe σ vs1) vs = L2.wipe σ vs := by
  refine List.ext_getElem? fun j => ?_
  rw [wipe_get, wipe_get, wipe_get]
  by_cases hj : j ∈ vs
  · rw [if_pos hj, if_pos hj]
    by_cases h1 : j ∈ vs1
    · rw [if_pos h1]
      cases σ[j]? <;> rfl
    · rw [if_neg h1]
  · rw [if_neg hj, if_neg hj, if_neg fun z => hj (h j z)]
section
variable {Γ Γ1 : En}
/-- [te for g in wi for g1 in wi1] -/
theorem ec_lc2M {α β : Type} {xs : List α} {enc : α → PyData} {ys : α → List β} {enc1 : β → PyData} {wi wi1 : TI} {g g1 : TG} {te : TE} {vs vs1 is is1 : List Nat} (hw : Wk wi Γ Γ1 (xs.map enc)) (hv : wipeΓ Γ1 vs = Γ1)
    (hs : ∀ i, i ∈ is → i ∈ vs) (hs1 : ∀ i, i ∈ is1 → i ∈ vs1) (hvs : ∀ i, i ∈ vs1 → i ∈ vs) (hl : (xs.flatMap ys).length < 1000000) (Γt : α → En) (Γu : α → β → En) (e : α → β → PyData)
    (hg : ∀ x, x ∈ xs → Tg g is (enc x) Γ1 (Γt x)) (hv1 : ∀ x, x ∈ xs → wipeΓ (Γt x) vs1 = Γt x) (hw1 : ∀ x, x ∈ xs → Wk wi1 (Γt x) (Γt x) ((ys x).map enc1))
    (hg1 : ∀ x, x ∈ xs → ∀ y, y ∈ ys x → Tg g1 is1 (enc1 y) (Γt x) (Γu x y)) (he : ∀ x, x ∈ xs → ∀ y, y ∈ ys x → Ev te (Γu x y) (Γu x y) (e x y)) (hn1 : ∀ x, x ∈ xs → ∀ y, y ∈ ys x → wipeΓ (Γu x y) vs1 = Γt x)
    (hn : ∀ x, x ∈ xs → wipeΓ (Γt x) vs = Γ1) : EvC (tLc2 wi g tYes wi1 g1 tYes te vs vs1) Γ Γ1 (xs.flatMap fun x => (ys x).map (e x)) := by
  let acc : Nat → List PyData := fun i => (xs.take i).flatMap fun x => (ys x).map (e x)
  have accl : ∀ i, (acc i).length ≤ (xs.flatMap ys).length := fun i => by
    have : acc i <+: xs.flatMap fun x => (ys x).map (e x) := by
      refine ⟨(xs.drop i).flatMap fun x => (ys x).map (e x), ?_⟩
      show (xs.take i).flatMap _ ++ _ = _
      rw [← List.flatMap_append, List.take_append_drop]
    have h := this.length_le
    have e2 : (xs.flatMap fun x => (ys x).map (e x)).length = (xs.flatMap ys).length := by
      rw [List.length_flatMap, List.length_flatMap]
      congr 1
      exact List.map_congr_left fun x _ => by rw [List.length_map]
    omega
  refine ⟨hw.own, fun σ G H e0 s Q q => hw.run σ G H e0 s _ fun J G1 H1 n1 s1 wk => ?_⟩
  intro D hD
  have hDΓ : ¬ D ∈ owns Γ1 := s1.fresh hD
  have s1w : Sd G1 H1 (L2.wipe σ vs) Γ1 := by
    have := s1.wipe vs
    rw [hv] at this
    exact this
  let Pv : Nat → Hp → Prop := fun i H' => ∃ G' zs, NewM (Mo Γ1) G1 H1 G' H' ∧ Sd G' H' (L2.wipe σ vs) Γ1 ∧ G' D = none ∧ H' D = some (.lst zs) ∧ RpAll G' zs (acc i)
  have p0 : Pv 0 (upd H1 D (.lst [])) := ⟨G1, [], new_own n1.i hD _, s1w.ownNew n1.i hD _, same_none n1.i hD, upd_same, .nil⟩
  refine ⟨fun i m H' => m = xs.length - i ∧ i ≤ xs.length ∧ Pv i H', ⟨_, rfl, Nat.zero_le _, p0⟩, ?_⟩
  rintro i m H' ⟨rfl, hi, G', zs, n2, s2, gD, hD', rx⟩
  obtain ⟨wstop, wgo⟩ := wk i G' H' n2.g n2.i
  by_cases hlt : i < xs.length
  · obtain ⟨x, hx⟩ : ∃ x, xs[i]? = some x := ⟨_, List.getElem?_eq_getElem hlt⟩
    have hxm := List.mem_of_getElem? hx
    have accn : acc (i + 1) = acc i ++ (ys x).map (e x) := by
      show (xs.take (i + 1)).flatMap _ = _
      have ht : xs.take (i + 1) = xs.take i ++ [x] := by rw [List.take_add_one, hx]; rfl
      rw [ht, List.flatMap_append, List.flatMap_cons, List.flatMap_nil, List.append_nil]
    have hd : (xs.map enc)[i]? = some (enc x) := by rw [List.getElem?_map, hx]; rfl
    obtain ⟨go, yld⟩ := wgo _ hd
    refine .inr ⟨go, Pv (i + 1), fun H2 p => ⟨xs.length - (i + 1), by omega, rfl, hlt, p⟩, fun v H2 y => ?_⟩
    obtain ⟨G2, n3, rxx⟩ := yld v H2 y
    have s3 := s2.new n3
    refine (hg x hxm).run _ G2 H2 v n3.i s3 rxx _ fun σ' hl' hk' s4 => ⟨wipe_tg hs hl' hk', ?_⟩
    have ewip : L2.wipe σ' vs = L2.wipe σ vs := wipe_tg hs hl' hk'
    have m23 : NewM (Mo Γ1) G1 H1 G2 H2 := n2.trans n3 fun _ z => z.elim
    have oT : ∀ a, a ∈ owns (Γt x) → a ∈ owns Γ1 := fun a h => (hg x hxm).own a h
    have d3 : H2 D = some (.lst zs) := n3.same _ _ hD'
    have g3 : G2 D = none := n3.f D (fun z => z) (by rw [hD']; intro z; cases z) gD
    refine (et_yes (Γ := Γt x)).run σ' G2 H2 n3.i s4 _ fun G3 H3 n5 s5 => ?_
    have m5 : NewM (Mo Γ1) G1 H1 G3 H3 := m23.trans n5 fun a h => .inl (oT a h)
    have d5 : H3 D = some (.lst zs) := n5.h D _ (fun h => hDΓ (oT D h)) d3
    have g5 : G3 D = none := n5.f D (fun h => hDΓ (oT D h)) (by rw [d3]; intro z; cases z) g3
    rw [if_pos rfl]
    refine (hw1 x hxm).run σ' G3 H3 n5.i s5 _ fun J1 G4 H4 n6 s6 wk1 => ?_
    have m6 : NewM (Mo Γ1) G1 H1 G4 H4 := m5.trans n6 fun a h => .inl (oT a h)
    have d6 : H4 D = some (.lst zs) := n6.h D _ (fun h => hDΓ (oT D h)) d5
    have g6 : G4 D = none := n6.f D (fun h => hDΓ (oT D h)) (by rw [d5]; intro z; cases z) g5
    have s6w : Sd G4 H4 (L2.wipe σ' vs1) (Γt x) := by
      have := s6.wipe vs1
      rw [hv1 x hxm] at this
      exact this
    have r6 : RpAll G4 zs (acc i) := ((rx.mono n3.g).mono n5.g).mono n6.g
    let Pw : Nat → Hp → Prop := fun j H'' => ∃ G'' zs, NewM (Mo Γ1) G1 H1 G'' H'' ∧ Same G4 G'' ∧ Sd G'' H'' (L2.wipe σ' vs1) (Γt x) ∧ G'' D = none ∧ H'' D = some (.lst zs) ∧ RpAll G'' zs (acc i ++ ((ys x).take j).map (e x))
    refine ⟨fun j k H'' => k = (ys x).length - j ∧ j ≤ (ys x).length ∧ Pw j H'', ⟨_, rfl, Nat.zero_le _, G4, zs, m6, fun _ _ z => z, s6w, g6, d6, by rw [List.take_zero, List.map_nil, List.append_nil]; exact r6⟩, ?_⟩
    rintro j k H'' ⟨rfl, hj, G7, zs7, n7, sm7, s7, g7, d7, r7⟩
    obtain ⟨wstop1, wgo1⟩ := wk1 j G7 H'' sm7 n7.i
    by_cases hjl : j < (ys x).length
    · obtain ⟨b, hb⟩ : ∃ b, (ys x)[j]? = some b := ⟨_, List.getElem?_eq_getElem hjl⟩
      have hbm := List.mem_of_getElem? hb
      have hd1 : ((ys x).map enc1)[j]? = some (enc1 b) := by rw [List.getElem?_map, hb]; rfl
      obtain ⟨go1, yld1⟩ := wgo1 _ hd1
      refine .inr ⟨go1, Pw (j + 1), fun H8 p => ⟨(ys x).length - (j + 1), by omega, rfl, hjl, p⟩, fun v1 H8 y1 => ?_⟩
      obtain ⟨G8, n8, rv1⟩ := yld1 v1 H8 y1
      have s8 := s7.new n8
      refine (hg1 x hxm b hbm).run _ G8 H8 v1 n8.i s8 rv1 _ fun σ8 hl8 hk8 s9 => ⟨wipe_tg hs1 hl8 hk8, ?_⟩
      have ewip1 : L2.wipe σ8 vs1 = L2.wipe σ' vs1 := wipe_tg hs1 hl8 hk8
      have oU : ∀ a, a ∈ owns (Γu x b) → a ∈ owns Γ1 := fun a h => oT a ((hg1 x hxm b hbm).own a h)
      have m8 : NewM (Mo Γ1) G1 H1 G8 H8 := n7.trans n8 fun _ z => z.elim
      have d8 : H8 D = some (.lst zs7) := n8.same _ _ d7
      have g8 : G8 D = none := n8.f D (fun z => z) (by rw [d7]; intro z; cases z) g7
      refine (et_yes (Γ := Γu x b)).run σ8 G8 H8 n8.i s9 _ fun G9 H9 n9 s10 => ?_
      have m9 : NewM (Mo Γ1) G1 H1 G9 H9 := m8.trans n9 fun a h => .inl (oU a h)
      have d9 : H9 D = some (.lst zs7) := n9.h D _ (fun h => hDΓ (oU D h)) d8
      have g9 : G9 D = none := n9.f D (fun h => hDΓ (oU D h)) (by rw [d8]; intro z; cases z) g8
      rw [if_pos rfl]
      have hzl : zs7.length < sizeLine := sl_lt (by
        have h1 := accl (i + 1)
        rw [accn, List.length_append, List.length_map] at h1
        rw [r7.len, List.length_append, List.length_map, List.length_take]
        omega)
      refine (he x hxm b hbm).run σ8 G9 H9 n9.i s10 _ fun v G10 H10 n10 s11 rv => ⟨zs7, n10.h D _ (fun h => hDΓ (oU D h)) d9, hzl, ?_⟩
      have m10 : NewM (Mo Γ1) G1 H1 G10 H10 := m9.trans n10 fun a h => .inl (oU a h)
      have g10 : G10 D = none := n10.f D (fun h => hDΓ (oU D h)) (by rw [d9]; intro z; cases z) g9
      have n11 : NewM (fun a => a = D) G10 H10 G10 (upd H10 D (.lst (zs7 ++ [v]))) := new_set (M := fun a => a = D) n10.i g10 rfl _
      refine ⟨G10, _, m10.trans n11 (fun a h => by subst h; exact .inr hD), fun a o h => n10.g _ _ (n9.g _ _ (n8.g _ _ (sm7 _ _ h))), ?_, g10, upd_same, ?_⟩
      · have oV : ¬ D ∈ owns (Γu x b) := fun h => hDΓ (oU D h)
        have s12 : Sd G10 (upd H10 D (.lst (zs7 ++ [v]))) σ8 (Γu x b) := ⟨s11.len, fun j t e => by
          obtain ⟨o, e1, z⟩ := s11.at_ j t e
          exact ⟨o, e1, z.stay n11 fun a ha e2 => oV (e2 ▸ own_mem e ha)⟩, s11.nd⟩
        have := s12.wipe vs1
        rw [hn1 x hxm b hbm, ewip1] at this
        exact this
      · have ht : (ys x).take (j + 1) = (ys x).take j ++ [b] := by rw [List.take_add_one, hb]; rfl
        rw [ht, List.map_append, ← List.append_assoc]
        exact (((r7.mono n8.g).mono n9.g).mono n10.g).append (.one rv)
    · have ej : j = (ys x).length := by omega
      refine .inl ⟨wstop1 (by rw [ej, List.length_map]), G7, zs7, n7, ?_, g7, d7, ?_⟩
      · have := s7.wipe vs
        rw [hn x hxm, wipe_wipe hvs, ewip] at this
        exact this
      · rw [ej, List.take_length] at r7
        rw [accn]
        exact r7
  · have ei : i = xs.length := by omega
    refine .inl ⟨wstop (by rw [ei, List.length_map]), q D zs G' H' (n1.trans n2 (mo hw.own)) (s2.unwipe fun j s hj e => ?_) (none_back n1 hD) gD hD' ?_⟩
    · rw [← hv] at e
      exact wipeΓ_un hj e
    · have : acc i = xs.flatMap fun x => (ys x).map (e x) := by show (xs.take i).flatMap _ = _; rw [ei, List.take_length]
      rw [← this]
      exact rx
end
end Fd

set_option Elab.async false
set_option maxRecDepth 100000
set_option maxHeartbeats 1000000
/-! Fd29: t[:k], the sum of a tuple. -/
namespace Fd
open PySem PySem.Spec PySem.Calls PyProof.Rows L2 StX
def rSumT (K : PySem.W.Frag) : List V → Hp → VK → Prop := fun vs H Q => ∃ (a : Addr) (ns : List Int), vs = [V.ref a] ∧ SqT K H a (ns.map V.int) ∧ Q (.int ns.sum) H
theorem cr_sumT {X : Cx} (hc : X.calm = true) : CallR X (.builtin "sum") (rSumT X.K) := by
  intro pins s σ H vs us Q I r h
  obtain ⟨a, ns, rfl, hs, q⟩ := h
  obtain ⟨its, rv, ht, _⟩ := I.tuple hs
  rw [Vals.ref1 r]
  obtain ⟨xs, e⟩ := rv.ints.allInts.items
  have hn : numsOf (intItems xs).toList = ns := by rw [← e]; exact rv.ints.numsOf
  rw [nums_intItems] at hn
  rw [e] at ht
  refine PySem.W.ktm_sumG (I.ok.hd hc) ht fun h' tk t' hk => ?_
  rw [preSum_eq, List.take_of_length_le (by simp), hn]
  exact ⟨.int _, H, I.kept hk, ⟨_, rfl⟩, q⟩
section
variable {Γ Γ1 : En} {ta : TE} {ds : List PyData} {K : PySem.W.Frag}
theorem k_sumT {X : Cx} (h : X.K = K) (hc : X.calm = true) : CallR X (.builtin "sum") (rSumT K) := by subst h; exact cr_sumT hc
theorem ev_sumT {ns : List Int} (ha : Ev ta Γ Γ1 (dR ns)) : Ev (tCB (rSumT K) (tCons ta tNil)) Γ Γ1 (.int ns.sum) := ⟨ha.own, fun σ G H e s Q q => ha.run σ G H e s _ fun v G1 H1 n1 s1 r1 => by
  obtain ⟨p, xs, rfl, hp, ra⟩ := r1.tupE
  have := ra.ints
  subst this
  exact ⟨p, ns, rfl, SqT.of (n1.i _ _ hp), q _ G1 H1 n1 s1 (.int _)⟩⟩
theorem ev_takeT {k : Nat} {tlo thi : TO} (ha : Ev ta Γ Γ1 (.tuple ds)) (h1 : EvO tlo Γ1 Γ1 none) (h2 : EvO thi Γ1 Γ1 (some (k : Int))) : Ev (tSl (rSlA K) ta tlo thi) Γ Γ1 (.tuple (ds.take k)) :=
  ⟨ha.own, fun σ G H e s Q q => ha.run σ G H e s _ fun v G1 H1 n1 s1 r1 => h1.run σ G1 H1 n1.i s1 _ fun G2 H2 n2 s2 => h2.run σ G2 H2 n2.i s2 _ fun G3 H3 n3 s3 => by
    obtain ⟨p, xs, rfl, hp, ra⟩ := ((r1.mono n2.g).mono n3.g).tupE
    have n13 := (n1.trans n2 (mo ha.own)).trans n3 (mo ha.own)
    have ec : cutV xs none (some (k : Int)) = xs.take k := by
      unfold cutV
      rw [HT.sIx_nat, show HT.sIx xs.length 0 none = 0 from rfl, List.drop_zero, Nat.sub_zero, List.take_eq_take_iff]
      omega
    have e1 : HT.sIx xs.length 0 none = 0 := rfl
    have e2 : HT.sIx xs.length xs.length (some (k : Int)) = min k xs.length := by rw [HT.sIx_nat]
    refine ⟨p, xs, rfl, SqT.of (n3.i _ _ hp), fun h => ?_, fun h l hl => ?_⟩
    · rw [e1, e2] at h
      have hx : xs.take k = xs := List.take_of_length_le (by omega)
      have hd : ds.take k = ds := List.take_of_length_le (by rw [← ra.len]; omega)
      exact q _ G3 H3 n13 s3 (by rw [hd]; exact .tup hp ra)
    · rw [ec]
      have nd := new_dat (M := M0) n3.i hl (.tup (xs.take k))
      exact q _ _ _ (n13.trans nd fun _ z => z.elim) (s3.datNew n3.i hl _) (.tup upd_same ((ra.take k).mono nd.g))⟩
end
end Fd

set_option Elab.async false
set_option maxRecDepth 100000
set_option maxHeartbeats 1000000
/-! Fd30: xs[a:b], flat values unlike. -/
namespace Fd
open PySem PyProof.Rows L2 StX
theorem RpAll.cutd {G : Hp} : ∀ {vs : List V} {ds : List PyData} (k : Nat), RpAll G vs ds → RpAll G (vs.drop k) (ds.drop k)
  | _, _, 0, h => h
  | _, _, _ + 1, .nil => .nil
  | _, _, k + 1, .cons _ h => RpAll.cutd k h
section
variable {Γ Γ1 Γ2 : En} {ta tb : TE} {ds : List PyData} {K : PySem.W.Frag}
/-- l[a:b] -/
theorem ec_cut {a b : Nat} {tlo thi : TO} (ha : Ev ta Γ Γ1 (.list ds)) (h1 : EvO tlo Γ1 Γ1 (some (a : Int))) (h2 : EvO thi Γ1 Γ1 (some (b : Int))) : EvC (tSl (rSlL K) ta tlo thi) Γ Γ1 ((ds.drop (min a ds.length)).take (min b ds.length - min a ds.length)) :=
  ⟨ha.own, fun σ G H e s Q q => ha.run σ G H e s _ fun v G1 H1 n1 s1 r1 => h1.run σ G1 H1 n1.i s1 _ fun G2 H2 n2 s2 => h2.run σ G2 H2 n2.i s2 _ fun G3 H3 n3 s3 => by
    obtain ⟨p, xs, rfl, hp, ra⟩ := ((r1.mono n2.g).mono n3.g).lstE
    have n13 := (n1.trans n2 (mo ha.own)).trans n3 (mo ha.own)
    have ec : cutV xs (some (a : Int)) (some (b : Int)) = (xs.drop (min a ds.length)).take (min b ds.length - min a ds.length) := by
      unfold cutV
      rw [HT.sIx_nat, HT.sIx_nat, ra.len]
    refine ⟨p, xs, rfl, SqL.of (n3.i _ _ hp), fun l hl => ?_⟩
    rw [ec]
    exact q l _ G3 _ (n13.trans (new_own (M := M0) n3.i hl _) fun _ z => z.elim) (s3.ownNew n3.i hl _) (none_back n13 hl) (same_none n3.i hl) upd_same ((ra.cutd _).take _)⟩
/-- an integer or None, of the same value -/
def optD : Option Int → PyData
  | none => .none
  | some i => .int i
theorem ev_neF {o : Option Int} (ha : Ev ta Γ Γ1 (optD o)) (hb : Ev tb Γ1 Γ2 (optD o)) : Ev (tOp rNe ta tb) Γ Γ2 (.bool false) :=
  ev_op ha hb fun G H u v _ r1 r2 Q q => by
    cases o with
    | none =>
      cases r1
      cases r2
      exact ⟨rfl, q _ fun _ => .bl _⟩
    | some i =>
      have r1 : Rp G u (.int i) := r1
      have r2 : Rp G v (.int i) := r2
      rw [r1.intE, r2.intE]
      refine ⟨by simp [scal], ?_⟩
      rw [decide_eq_true rfl]
      exact q _ fun _ => .bl _
end
end Fd

set_option Elab.async false
set_option maxRecDepth 100000
set_option maxHeartbeats 2000000
/-! Fd31: in one's own list. -/
namespace Fd
open PySem L2
section
variable {Γ Γ1 : En} {ta : TE} {x : PyData} {ds : List PyData} {K : PySem.W.Frag}
theorem ev_notInC {i : Nat} {a : Addr} (ha : Ev ta Γ Γ1 x) (hi : Γ1[i]? = some (.cell a ds)) (sx : SeqAt.shaped x = true) (sy : SeqAt.shaped (.list ds) = true) : Ev (tOp (rNotInD K) ta (tVar i)) Γ Γ1 (.bool (!ds.any fun z => PyData.eqv z x)) :=
  ⟨ha.own, fun σ G H e s Q q => ha.run σ G H e s _ fun u G1 H1 n1 s1 r1 => by
    obtain ⟨o, e1, rfl, ng, xs, hx, ra⟩ := s1.at_ i _ hi
    exact ⟨.ref a, e1, x, ds, (r1.mono n1.i).dp (lay_of sx), (Rp.lst hx (ra.mono n1.i)).dp (lay_of sy), sx, sy, q _ G1 H1 n1 s1 (.bl _)⟩⟩
theorem ev_notInTC {α : Type} [DecidableEq α] {enc : α → PyData} (h : Tells enc) {k : Nat} (hs : ∀ a, Shd k (enc a)) (hk : k < 64) {a : α} {xs : List α} {i : Nat} {l : Addr} (ha : Ev ta Γ Γ1 (enc a)) (hi : Γ1[i]? = some (.cell l (xs.map enc))) : Ev (tOp (rNotInD K) ta (tVar i)) Γ Γ1 (.bool (!decide (a ∈ xs))) :=
  (ev_notInC ha hi ((hs a).shaped (by omega)) ((shd_list (shd_map hs xs)).shaped hk)).is (by rw [any_tells h])
end
end Fd

set_option Elab.async false
set_option maxRecDepth 100000
set_option maxHeartbeats 4000000
/-! Fd32: an own exception whose __init__ says super().__init__(text) over ValueError, and keeps its argument. -/
namespace Fd
open PySem PySem.Spec PyProof.Rows L2 PySem.W
/-- super().__init__ bound by ValueError, called: nothing of it is told -/
theorem call_sup {X : Cx} {pins : List (Addr × Obj)} {σ : L2.St} {H : Hp} {s : Shared} {a C u : Addr} {us : List Value} {A : Around} {E : Value → Shared → Prop} {Q : Value → Shared → Prop} (T : OexC X.K C) (I : Inv X pins σ H s) (e : H a = some (exo a C none)) (hu : s.heap.get? u = some (kxs_mw "ValueError.__init__" a)) (hl : us.length ≤ sizeLine) (h : ∀ s', Inv X pins σ H s' → Q .none s') :
    wpAny (model X.prog X.w) A (call (.ref u) us) Q E s := by
  obtain ⟨nm, q, N, bs, bm, sn, sub, ab, col, dd, k0, k1, k2, k3, k5, hC, hbm⟩ := T.cls
  obtain ⟨t1, he⟩ := exo_at I.hok e
  have hC := I.kIn _ _ hC
  obtain ⟨hp, g, d, t, os⟩ := s
  refine wpAny_call (codeAny_of_tree ?_)
  show wpAny _ A.in1 (callAny (.ref u) ⟨us, []⟩) _ _ _
  simp only [callAny]
  refine wpAny_bind (wpAny_load hu ?_)
  simp only [kxs_mw]
  rw [if_pos (by decide)]
  refine KFB.if_so (by decide) ?_
  refine wpAny_bind (check_bound_init F.excBase_ValueError.toExcCallFacts hC he rfl ?_)
  refine wpAny_bind (wpAny_pure (wpAny_pure ?_))
  refine ⟨plainId_quiet F.excBase_ValueError.init.plain _, codeAny_builtin F.excBase_ValueError.initEntry ?_⟩
  refine exc_init_tree (cls := .ref C) (t0 := t1) (dv := none) (c2 := .none) (c3 := .none) (b4 := .bool false) he hl fun h' k hx _ => ?_
  have J := I.write (t' := t) (x := a) (e := a) (o := exo a C none) (by rw [e]; exact True.intro) (.inl rfl) k ⟨_, hx⟩ (exo_ok hx)
  have eu : upd H a (exo a C none) = H := by
    funext b
    by_cases hb : b = a
    · rw [hb, upd_same, e]
    · rw [upd_ne hb]
  rw [eu] at J
  exact h _ J

structure SupAt (X : Cx) (f C cc : Addr) : Prop where
  hks : X.env.kindOf "super" = some .globalImplicit
  hkc : X.env.kindOf "__class__" = some .free
  hka : X.env.kindOf "self" = some .local
  hfu : X.env.func = some f
  fn : ∃ (oc : Value) (od : Option Addr) (fd : FuncData) (osl : Array (Option Value)) (ar : Arg), X.K.lookup f = some ⟨oc, od, .func fd, osl⟩ ∧ (fd.params.posonlyargs ++ fd.params.args).head? = some ar ∧ ar.arg = "self"
  code : ∃ (cda : Addr) (ccl : Value) (cdd : Option Addr) (vs : Array Value) (ccs : Array (Option Value)) (file : Str) (tf : Tok), X.env.code = .ref cda ∧ X.K.lookup cda = some ⟨ccl, cdd, .fields vs, ccs⟩ ∧ vs[2]? = some (.str file tf) ∧ ((X.prog.main.file : Str) == file) = true
  top : (X.prog.main.scope.names.lookup ("super" : Str)).isSome = false
  cell : X.env.cells.lookup ("__class__" : Str) = some cc
  cellK : ∃ (cl : Value) (cld : Option Addr) (csl : Array (Option Value)), X.K.lookup cc = some ⟨cl, cld, .cell (some (.ref C)), csl⟩
  sub : mroIn X.K C (.ref C) = some true
  up : ks_superIn X.K C C "__init__" = some (some (.builtin "ValueError.__init__"))
  ve : subIn X.K (.ref C) (.type "ValueError") = some true
  ho : nsIn X.K cStatics "thirdparty.any" = some none
  mg : X.mg "super" = none
section
variable {X : Cx} {pins : List (Addr × Obj)} {σ : L2.St} {H : Hp} {s : Shared} {a C f cc : Addr} {E : Value → Shared → Prop} {e : Expr} {es : List Expr} {ta : TA} {p0 p1 p2 pos : Pos} {body : List Stmt}
theorem sup_init {pl : Sem Bool} {whole : Sem Value} (S : SupAt X f C cc) (T : OexC X.K C) (I : Inv X pins σ H s) (hN : X.N[0]? = some ("self" : Str)) (hσ : σ[0]? = some (some (.ref a))) (hH : H a = some (exo a C none)) (ha : PA X (e :: es) ta)
    (hta : ta σ H fun vs H1 => H1 = H ∧ vs.length ≤ 1000)
    (heq : eval (.Call (.Attribute (.Call (.Name "super" p0) [] [] p1) "__init__" p2) (e :: es) [] pos) X.env = (do
      let ov ← attributeBase (.Call (.Name "super" p0) [] [] p1) "__init__" X.env whole
      standAt p2.atName
      let (f, first) ← holding [ov] (getMethod ov "__init__" pl)
      callWith pos f first (backTo pos (starEach (e :: es) X.env)) (backToKw pos (keywordEach [] X.env))) := by rfl)
    (he : starEach (e :: es) X.env = (false, eval e X.env) :: starEach es X.env := by rfl) (hpl : (backTo pos (starEach es X.env)).any (·.1) = false := by rfl) :
    PySem.wpAt (model X.prog X.w) X.A (.func body X.env) (eval (.Call (.Attribute (.Call (.Name "super" p0) [] [] p1) "__init__" p2) (e :: es) [] pos) X.env) (fun _ s' => Inv X pins σ H s') X.xe s := by
  obtain ⟨oc, od, fd, osl, ar, lkf, hp, har⟩ := S.fn
  obtain ⟨cda, ccl, cdd, vs, ccs, file, tf, hco, lkc, hvs, hfile⟩ := S.code
  obtain ⟨cl, cld, csl, lkl⟩ := S.cellK
  obtain ⟨nm, q, N, bs, bm, sn, sub, ab, col, dd, k0, k1, k2, k3, k5, hC, hbm⟩ := T.cls
  obtain ⟨t1, hx⟩ := exo_at I.hok hH
  have KX := I.kIn
  obtain ⟨m, hns, hl⟩ := I.loc
  obtain ⟨u0, ru, lk⟩ := hl 0 "self" (.ref a) hN hσ (.inl S.hka)
  have ru : u0 = Value.ref a := ru
  subst ru
  have hv : m ("self" : Str) = some (.ref a) := by
    rcases lk with ⟨_, z⟩ | ⟨z, _⟩
    · exact z
    · rw [S.hka] at z
      rcases z with z | z <;> cases z
  obtain ⟨mb, b1, b2⟩ := I.mod.blt
  rw [heq]
  refine PySem.wpAt_bind (ks_wpAt_super_base S.hks S.hkc rfl S.hfu (KX _ _ lkf) rfl hp hco (KX _ _ lkc) rfl hvs hfile S.top ?_)
  refine ks_loadName_global I.ok.kind S.hks (Calls.loadGlobal_builtin (by rw [I.ok.glob]; exact I.mod.glob.keeps I.bk) S.mg (by rw [I.ok.blt]; exact b1.keeps I.bk) ((b2 "super" (by decide)).trans PyProof.Rows.Boot.«super») ⟨rfl, ?_⟩)
  refine wpAny_loadName_free I.ok.kind S.hkc S.cell ⟨_, KX _ _ lkl, rfl⟩ ?_
  rw [har]
  refine wpAny_loadName_local I.ok.kind S.hka hns hv ?_
  have hCo := KX _ _ hC
  refine ks_wpAny_isType_cls hCo rfl ⟨rfl, ?_⟩
  obtain ⟨hh, g, d, t, os⟩ := s
  refine ks_wpAny_call_super hCo rfl hx rfl (fun c z => by cases z) (looks_mroIn KX S.sub) fun h1 so k1' => ?_
  refine PySem.wpAt_of_wpAny (wpAny_bind (wpAny_standAt ?_))
  have I1 : Inv X pins σ H ⟨h1, g, d, t, os⟩ := I.kept (t' := t) k1'
  have KX1 := I1.kIn
  cases hc : clsIn X.K C with
  | none =>
    have := S.up
    unfold ks_superIn at this
    rw [hc] at this
    cases this
  | some cd =>
  have hup := S.up
  unfold ks_superIn at hup
  rw [hc] at hup
  have IA : InstAt h1 a _ C none := ⟨k1' _ _ hx, rfl, rfl, trivial⟩
  refine wpAny_bind (wpAny_holding ?_)
  refine kxs_getMethod kxs_ValueError so (looks_opaque KX1 S.ho) (l₀ := cd.mro) (fun A Q E s k q => wpAny_bind ((looks_clsIn KX1 hc) A _ E s k (wpAny_pure q))) rfl KX1 hup (IA.type.andThen (looks_subIn KX1 S.ve)) (ks_ne KX1 IA hc) (by decide) ?_
  have I2 : Inv X pins σ H ⟨h1.push (kxs_mw "ValueError.__init__" a), g, d, t + 1, os⟩ := I1.kept (t' := t + 1) fun b o z => Heap.get?_push_of_some _ z
  have hu : (h1.push (kxs_mw "ValueError.__init__" a)).get? h1.objs.size = some (kxs_mw "ValueError.__init__" a) := Heap.get?_push_at rfl rfl
  have I3 : Inv X (pins ++ [(h1.objs.size, kxs_mw "ValueError.__init__" a)]) σ H ⟨h1.push (kxs_mw "ValueError.__init__" a), g, d, t + 1, os⟩ := I2.pins_of fun p hp => by
    rcases List.mem_append.mp hp with z | z
    · exact I2.pin p (List.mem_append_right _ z)
    · rw [List.mem_singleton.mp z]
      exact ⟨hu, I1.hok.fresh (Nat.le_refl _), Nat.ne_of_gt I1.lt, I1.nofs (Nat.le_refl _), fun v z => by cases z⟩
  show wpAny _ _ (callWith pos (.ref h1.objs.size) [] (backTo pos (starEach (e :: es) X.env)) []) _ _ _
  have go := thn (ha.run pos _ _ σ H _ I3 hta) fun us s1 (⟨vs', H1, I4, r4, eH, hlv⟩ : ∃ vs' H1, Inv X (pins ++ [(h1.objs.size, kxs_mw "ValueError.__init__" a)]) σ H1 s1 ∧ Vals vs' us ∧ H1 = H ∧ vs'.length ≤ 1000) => (show KxsAt "ValueError.__init__" h1.objs.size a s1.heap ∧ wpAny (model X.prog X.w) X.A (call (.ref h1.objs.size) us) (fun _ s' => Inv X pins σ H s') X.xe s1 from by
    subst eH
    have hu2 := (I4.pin _ (List.mem_append_right _ (List.mem_append_right _ (List.mem_singleton.mpr rfl)))).1
    refine ⟨hu2, call_sup T I4 hH hu2 (by rw [← Paired.length r4, sizeLine_eq]; omega) fun s' J => J.pins_of fun p hp => J.pin p (List.mem_append_right _ (List.mem_append_left _ hp))⟩)
  rw [he] at go ⊢
  refine kxs_callWith (i := "ValueError.__init__") (x := a) (by show (false || (backTo pos (starEach es X.env)).any (·.1)) = false; rw [hpl]; rfl) ?_
  exact Calls.evalArgs_plain go
end
end Fd

set_option Elab.async false
set_option maxRecDepth 100000
set_option maxHeartbeats 4000000
/-! Fd33: the __init__ of such an exception as a def by promise. -/
namespace Fd
open PySem PySem.Spec PyProof.Rows L2 PySem.W NdefX
section
variable {P : Program} {w : World} {K : PySem.W.Frag} {mg : Str → Option Value} {base : Heap} {N ps : List Str} {F : NF} {f C cc : Addr} {k : Nat} {sp : Sp} {oc dV kV doc pm ct : Value} {od an : Option Addr} {osl : Array (Option Value)}
/-- a method with the cell of its class, as a def by promise -/
theorem fnk_of (lk : K.lookup f = some ⟨oc, od, .func (fnX F.name F.qual F.params F.body F.scope F.cl dV kV doc pm an (.ref F.c) ct), osl⟩) (hcd : codeIn K (.ref F.c) F.qual = true) (S : NScope N ps [("__class__" : Str)] F.scope) (hcl : F.cl = [(("__class__" : Str), cc)])
    (hcell : ∃ (cl : Value) (cld : Option Addr) (csl : Array (Option Value)), K.lookup cc = some ⟨cl, cld, .cell (some (.ref C)), csl⟩) (len : ∀ vs H Q E, sp vs H Q E → vs.length = ps.length)
    (hbody : ∀ (A : Around) (outer : List Env) (s : Shared) (H : Hp) (vs : List V) (Q : VK) (E : XK) (s1 : Shared), Room k (A.deeper (envF F f s.heap.objs.size)) → sp vs H Q E → L2.Inv (ncx CX0 P w K mg base N F f A outer s H E) [] (startF N vs [some (.ref C)]) H s1 →
      PySem.wpAt (model P w) (ncx CX0 P w K mg base N F f A outer s H E).A (.func F.body (ncx CX0 P w K mg base N F f A outer s H E).env) (execs F.body (ncx CX0 P w K mg base N F f A outer s H E).env)
        (fun fl s' => SP (ncx CX0 P w K mg base N F f A outer s H E) [] { nx := fun _ H' => Q .non H', rt := Q, bk := fun _ _ => False, ct := fun _ _ => False } fl s') (ncx CX0 P w K mg base N F f A outer s H E).xe s1) :
    FnOk P w K mg base CX0 (k + 1) f (fnX F.name F.qual F.params F.body F.scope F.cl dV kV doc pm an (.ref F.c) ct) ps sp := by
  refine ⟨len, fun A outer s H args us vs Q E hr e0 hb r hsp => ?_⟩
  have hl := len _ _ _ _ hsp
  have KX : K.In s.heap := e0.mod.kin.keeps fun b o e => (e0.bs b o e).1
  have lim : s.heap.NoLimit := e0.mod.nolimit.keeps fun b o e => (e0.bs b o e).1
  obtain ⟨cl, cld, csl, lkc⟩ := hcell
  have hcb := e0.bs _ _ (e0.mod.kin _ _ lkc)
  have CA : CellsAt F.cl [("__class__" : Str)] [some (.ref C)] s.heap H := by
    rw [hcl]
    refine ⟨rfl, fun y c h => ?_, fun x y c h1 h2 => ?_, fun i y h => ?_⟩
    · obtain rfl : cc = c := by
        by_cases e : y = ("__class__" : Str)
        · subst e; simpa [List.lookup] using h
        · have e2 : (y == ("__class__" : Str)) = false := by simpa using e
          simp [List.lookup, e2] at h
      exact ⟨hcb.2, _, _, hcb.1, rfl⟩
    · have one : ∀ z, List.lookup z [(("__class__" : Str), cc)] = some c → z = ("__class__" : Str) := fun z hz => by
        by_cases e : z = ("__class__" : Str)
        · exact e
        · have e2 : (z == ("__class__" : Str)) = false := by simpa using e
          simp [List.lookup, e2] at hz
      rw [one x h1, one y h2]
    · cases i with
      | zero =>
        have : ("__class__" : Str) = y := Option.some.inj h
        subst this
        exact ⟨cc, by simp [List.lookup], fun v hv => by
          have : V.ref C = v := Option.some.inj (Option.some.inj hv)
          subst this
          exact ⟨.ref C, rfl, _, hcb.1, rfl⟩⟩
      | succ i => simp at h
  refine ks_codeAny_call_defAt (fd := fnX F.name F.qual F.params F.body F.scope F.cl dV kV doc pm an (.ref F.c) ct) (body := F.body) (binds := ps.zip us) hr.depth (KX _ _ lk) rfl lim (PySem.W.codeRec_of KX hcd) rfl hb S.nocell (fun ⟨n, _⟩ hy => S.par n (List.of_mem_zip hy).1) (fun h₁ hns kp => ?_) S.co S.gen S.kind
  have I := inv_startN (f := f) (CX := CX0) (E := E) (tk := s.toks + (ps.zip us).length) S hr.hd e0 hl r CA hns kp
  refine PySem.wpAt_mono (hbody A outer s H vs Q E _ (hr.deeper _) hsp I) (fun fl s' hs => ?_) fun e s' hs => hs
  have fin : ∀ {σ' : L2.St} {H' : Hp} {v : V} {u : Value}, L2.Inv (ncx CX0 P w K mg base N F f A outer s H E) [] σ' H' s' → RelV v u → Q v H' → CE outer P w H s Q u s' :=
    fun {σ' H' v u} J rv q => ⟨v, H', J.os, J.bare, J.base, J.hok, rv, q⟩
  cases fl with
  | ret u =>
    obtain ⟨v, σ', H', J, rv, q⟩ := hs
    exact fin J rv q
  | next =>
    obtain ⟨σ', H', J, q⟩ := hs
    exact fin (v := V.non) (u := Value.none) J rfl q
  | brk =>
    obtain ⟨_, _, _, q⟩ := hs
    exact False.elim q
  | cont =>
    obtain ⟨_, _, _, q⟩ := hs
    exact False.elim q
end
end Fd

set_option Elab.async false
set_option maxRecDepth 100000
set_option maxHeartbeats 4000000
/-! Fd34: Refused.__init__, NoText.__init__: super().__init__(f"..") and one field. -/
namespace Fd
open PySem PySem.Spec PyProof.Rows L2 PySem.W NdefX
/-- what an own exception of one field is made with: its argument, kept in the field -/
def spRef (C : Addr) (fld : Str) (ok : V → Prop) : Sp := fun vs H Q _ => ∃ (a : Addr) (y : V), vs = [.ref a, y] ∧ ok y ∧ H a = some (exo a C none) ∧ ∀ dx, H dx = none → dx ≠ a → Q .non (upd (upd H dx (exd dx [(fld, y)])) a (exo a C (some dx)))
structure RefC (P : Program) (K : PySem.W.Frag) (mg : Str → Option Value) (F : NF) (fd : FuncData) (f C cc : Addr) (fld : Str) : Prop where
  lk : ∃ (oc dV kV doc pm ct : Value) (od an : Option Addr) (osl : Array (Option Value)), fd = fnX F.name F.qual F.params F.body F.scope F.cl dV kV doc pm an (.ref F.c) ct ∧ K.lookup f = some ⟨oc, od, .func fd, osl⟩
  hcd : codeIn K (.ref F.c) F.qual = true
  hcl : F.cl = [(("__class__" : Str), cc)]
  cellK : ∃ (cl : Value) (cld : Option Addr) (csl : Array (Option Value)), K.lookup cc = some ⟨cl, cld, .cell (some (.ref C)), csl⟩
  sc : NScope [("self" : Str), fld, ("__class__" : Str)] [("self" : Str), fld] [("__class__" : Str)] F.scope
  hks : F.scope.names.lookup ("super" : Str) = some .globalImplicit
  hp : ∃ ar : Arg, (F.params.posonlyargs ++ F.params.args).head? = some ar ∧ ar.arg = "self"
  code : ∃ (ccl : Value) (cdd : Option Addr) (vs : Array Value) (ccs : Array (Option Value)) (file : Str) (tf : Tok), K.lookup F.c = some ⟨ccl, cdd, .fields vs, ccs⟩ ∧ vs[2]? = some (.str file tf) ∧ ((P.main.file : Str) == file) = true
  top : (P.main.scope.names.lookup ("super" : Str)).isSome = false
  sub : mroIn K C (.ref C) = some true
  up : ks_superIn K C C "__init__" = some (some (.builtin "ValueError.__init__"))
  ve : subIn K (.ref C) (.type "ValueError") = some true
  ho : nsIn K cStatics "thirdparty.any" = some none
  mg : mg "super" = none
  ox : OexC K C
  nf : findIn K (.ref C) fld = some none
section
variable {P : Program} {w : World} {K : PySem.W.Frag} {mg : Str → Option Value} {base : Heap} {F : NF} {f C cc : Addr} {fd : FuncData} {fld : Str} {k : Nat} {ok : V → Prop} {txt : Expr} {tt : TE} {p0 p1 p2 pos pos0 q1 q2 q3 q4 : Pos}
theorem ref_ok (R : RefC P K mg F fd f C cc fld) (hd : (fld == ("__debug__" : Str)) = false) (hcx : (fld == ("__classdict__" : Str)) = false)
    (hb : F.body = [.Expr (.Call (.Attribute (.Call (.Name "super" p0) [] [] p1) "__init__" p2) [txt] [] pos) pos0, .Assign [.Attribute (.Name "self" q1) fld q2] (.Name fld q3) q4])
    (htxt : ∀ (A : Around) (outer : List Env) (s : Shared) (H : Hp) (E : XK), PE (ncx CX0 P w K mg base [("self" : Str), fld, ("__class__" : Str)] F f A outer s H E) txt tt)
    (hval : ∀ (a : Addr) (y : V) (H : Hp) (Q : VK), ok y → (∀ v, Q v H) → tt (startF [("self" : Str), fld, ("__class__" : Str)] [.ref a, y] [some (.ref C)]) H Q)
    (hst : ∀ env : Env, starEach [txt] env = [(false, eval txt env)])
    (hev : ∀ env : Env, ∃ (pl : Sem Bool) (whole : Sem Value), eval (.Call (.Attribute (.Call (.Name "super" p0) [] [] p1) "__init__" p2) [txt] [] pos) env = (do
      let ov ← attributeBase (.Call (.Name "super" p0) [] [] p1) "__init__" env whole
      standAt p2.atName
      let (f, first) ← holding [ov] (getMethod ov "__init__" pl)
      callWith pos f first (backTo pos (starEach [txt] env)) (backToKw pos (keywordEach [] env))))
    (hsw : ∀ env : Env, interactive env = false → swapsWith (.Call (.Attribute (.Call (.Name "super" p0) [] [] p1) "__init__" p2) [txt] [] pos) none pos0.line env = pure false)
    (hint : ∀ (A : Around) (outer : List Env) (s : Shared) (H : Hp) (E : XK), interactive (ncx CX0 P w K mg base [("self" : Str), fld, ("__class__" : Str)] F f A outer s H E).env = false)
    (hsw2 : ∀ env : Env, swapsWith (.Name fld q3) (some (.Attribute (.Name "self" q1) fld q2)) q4.line env = pure false) :
    FnOk P w K mg base CX0 (k + 1) f fd [("self" : Str), fld] (spRef C fld ok) := by
  obtain ⟨oc, dV, kV, doc, pm, ct, od, an, osl, rfl, lk⟩ := R.lk
  have hself : F.scope.names.lookup ("self" : Str) = some .local := R.sc.par _ (by simp)
  have hfld : F.scope.names.lookup fld = some .local := R.sc.par _ (by simp)
  refine fnk_of lk R.hcd R.sc R.hcl R.cellK (fun vs H Q E h => ?_) fun A outer s H vs Q E s1 hr hsp I => ?_
  · obtain ⟨a, y, rfl, _⟩ := h
    rfl
  obtain ⟨a, y, rfl, hy, hH, hq⟩ := hsp
  have hint1 := hint A outer s H E
  have htxt1 := htxt A outer s H E
  generalize hX : ncx CX0 P w K mg base [("self" : Str), fld, ("__class__" : Str)] F f A outer s H E = X at I htxt1 hint1 ⊢
  have SA : SupAt X f C cc := by
    subst hX
    obtain ⟨ar, hp1, hp2⟩ := R.hp
    obtain ⟨ccl, cdd, vs, ccs, file, tf, c1, c2, c3⟩ := R.code
    exact ⟨R.hks, R.sc.frk _ (by simp), hself, rfl, ⟨_, _, _, _, ar, lk, hp1, hp2⟩, ⟨F.c, ccl, cdd, vs, ccs, file, tf, rfl, c1, c2, c3⟩, R.top, by
      show F.cl.lookup _ = _
      rw [R.hcl]
      simp [List.lookup], R.cellK, R.sub, R.up, R.ve, R.ho, R.mg⟩
  have T : OexC X.K C := by subst hX; exact R.ox
  have hN : X.N = [("self" : Str), fld, ("__class__" : Str)] := by subst hX; rfl
  have hprog : X.prog = P ∧ X.w = w := by subst hX; exact ⟨rfl, rfl⟩
  have hsc : X.env.scope = F.scope := by subst hX; rfl
  have hnf : findIn X.K (.ref C) fld = some none := by subst hX; exact R.nf
  obtain ⟨rfl, rfl⟩ := hprog
  rw [hb]
  obtain ⟨pl, whole, he⟩ := hev X.env
  have P2 : PS X (.Assign [.Attribute (.Name "self" q1) fld q2] (.Name fld q3) q4) (tOst X.K fld (tVar 0) (tVar 1)) :=
    ps_ost (pe_var (by rw [hN]; rfl) (.inl (by rw [hsc]; exact hself)) (by decide) (by decide)) (pe_var (by rw [hN]; rfl) (.inl (by rw [hsc]; exact hfld)) hd hcx) (hsw2 _)
  refine ks_wpAt_execs_cons (ks_wpAt_Expr_any ?_ hint1 (hsw _ hint1))
  refine PySem.wpAt_mono (sup_init (pl := pl) (whole := whole) SA T I (by rw [hN]; rfl) rfl hH (pa_cons htxt1 pa_nil (hst X.env)) (hval a y H _ hy fun v => ⟨rfl, by simp⟩) he (hst _) (by rw [show starEach [] X.env = [] from rfl]; rfl)) (fun v s' J => ?_) fun _ _ x => x
  refine PySem.wpAt_of_wpAny ((pss_one P2).run [] s' _ H _ J ?_)
  exact ⟨_, rfl, _, rfl, a, C, rfl, T, hnf, .inl ⟨hH, fun dx h1 h2 => hq dx h1 h2⟩⟩
end
end Fd

set_option Elab.async false
set_option maxRecDepth 100000
set_option maxHeartbeats 4000000
/-! Fd35: try with clauses with and without a name. -/
namespace Fd
open PySem PySem.Spec PyProof.Rows L2
/-- an exception that has come down to the clauses of X: sI is the state without it, h3 the heap with it -/
structure Down (X : Cx) (pins : List (Addr × Obj)) (σ : L2.St) (H : Hp) (cls : Value) (d : Option Addr) (a : Addr) (B : Heap) (sI s' : Shared) (h3 : Heap) : Prop where
  inv : L2.Inv X pins σ H sI
  nb : ∀ b o, sI.heap.get? b = some o → b ∉ frs X.stack → B.get? b = some o
  up : sI.heap.UpToSlots h3
  fl : HandSPX.FlyingZ B (X.env :: X.outer) a (Zc cls d) h3
  na : H a = none
  os : s'.os = sI.os
  ag : AllBare s'.gens
/-- the clauses do what w tells -/
def Hand (X : Cx) (hds : List ExceptHandler) (w : Ends → WX) : Prop := ∀ (pins : List (Addr × Obj)) (σ : L2.St) (H : Hp) (cls : Value) (d : Option Addr) (a : Addr) (B : Heap) (sI s' : Shared) (h3 : Heap) (D : Ends),
  Down X pins σ H cls d a B sI s' h3 → w D cls d σ H → wpAny (model X.prog X.w) X.A (handleBy (.ref a) X.env hds) (SP X pins D) X.xe { s' with heap := h3 }
section
variable {X : Cx} {pins : List (Addr × Obj)} {σ : L2.St} {H : Hp} {cls : Value} {d : Option Addr} {a : Addr} {B : Heap} {sI s' : Shared} {h3 : Heap} {Wout : WX} {w : Ends → WX} {hds : List ExceptHandler}
theorem Down.here (x : Down X pins σ H cls d a B sI s' h3) : L2.Inv X pins σ H { s' with heap := h3 } := x.inv.landed x.nb x.fl.1 x.up x.os x.ag
theorem Down.on (x : Down X pins σ H cls d a B sI s' h3) {h4 : Heap} (fl : HandSPX.FlyingZ B (X.env :: X.outer) a (Zc cls d) h4) (up : h3.UpToSlots h4) : Down X pins σ H cls d a B sI s' h4 := ⟨x.inv, x.nb, x.up.trans up, fl, x.na, x.os, x.ag⟩
theorem Down.away (x : Down X pins σ H cls d a B sI s' h3) (hf : X.env.frame = some X.env.locals) : a ≠ X.env.locals ∧ a ∉ X.fs := by
  obtain ⟨oe, vs, he, _, hd⟩ := x.fl.there
  have nfr : a ∉ frs (X.env :: X.outer) := fun hm => by
    obtain ⟨_, o', e', hnf⟩ := x.fl.2.2.1.mem hm
    rw [he] at e'
    cases e'
    exact hnf _ hd
  exact ⟨fun z => nfr (List.mem_filterMap.mpr ⟨X.env, List.mem_cons_self, by rw [hf, z]⟩), fun hm => by
    obtain ⟨e, he, q⟩ := List.mem_filterMap.mp hm
    exact nfr (List.mem_filterMap.mpr ⟨e, List.mem_cons_of_mem _ he, q⟩)⟩
/-- no clause is left -/
theorem hand_nil (hs : X.stack = X.env :: X.outer) (hf : X.env.frame = some X.env.locals) (tk : Takes X Wout) : Hand X [] fun _ => Wout := fun pins σ H cls d a B sI s' h3 D x q => by
  refine wpAny_handleBy_nil ?_
  obtain ⟨_, _, _, oe, vs, T, oT, ts', he, hz, hd, h1, hr⟩ := id x.fl
  have fin : wpAny (model X.prog X.w) X.A (setFlight (.ref a) X.env.frame) (fun _ s4 => wpAny (model X.prog X.w) X.A (throw (.ref a) : Sem Flow) (SP X pins D) X.xe s4) X.xe { s' with heap := h3 } := by
    rw [hf]
    exact HandSPX.setFlight_upZ x.fl fun h4 hh4 up4 => wpAny_throw (tk _ _ ⟨a, B, sI, pins, σ, H, cls, d, rfl, x.inv, x.nb, x.up.trans up4, .inr (.inr (by rw [hs]; exact hh4)), x.na, x.os, x.ag, q⟩)
  unfold PySem.passOn
  refine wpAny_bind (wpAny_field he hd h1 ?_)
  rw [if_neg (show ¬ ((Value.ref T == Value.none) = true) from by simp)]
  first
    | exact wpAny_bind (wpAny_pure (wpAny_bind fin))
    | exact wpAny_bind fin
end
end Fd

set_option Elab.async false
set_option maxRecDepth 100000
set_option maxHeartbeats 4000000
/-! Fd36: the clauses of a try, with and without a name; the exception that a suite holds, by data. -/
namespace Fd
open PySem PySem.Spec PyProof.Rows L2
/-- except c: suite, then the others -/
def wPl (K : PySem.W.Frag) (c : Value) (ts : Addr → Value → Option Addr → TS) (w : Ends → WX) : Ends → WX := fun D cls d σ H =>
  ∃ b, PySem.W.exmOne K cls c = some b ∧ (b = true → ∀ a, H a = none → ts a cls d D σ H) ∧ (b = false → w D cls d σ H)
/-- except c as n: suite, then the others; slot i is n's -/
def wNm (K : PySem.W.Frag) (c : Value) (i : Nat) (ts : Addr → Value → Option Addr → TS) (w : Ends → WX) : Ends → WX := fun D cls d σ H =>
  ∃ b, PySem.W.exmOne K cls c = some b ∧ (b = true → ∀ a, H a = none → ts a cls d { nx := fun σ' H' => D.nx (σ'.set i none) H', rt := D.rt, bk := fun σ' H' => D.bk (σ'.set i none) H', ct := fun σ' H' => D.ct (σ'.set i none) H' } (σ.set i (some (.ref a))) H) ∧
    (b = false → w D cls d σ H)
section
variable {X : Cx} {x n : Str} {c : Value} {i : Nat} {body suite : List Stmt} {b₀ : Stmt} {np pos pos' : Pos} {tb : WX → TS} {ts : Addr → Value → Option Addr → TS} {Wout : WX} {w : Ends → WX} {hds : List ExceptHandler} {h₀ : ExceptHandler}
theorem hand_plain (hf : X.env.frame = some X.env.locals) (hc : Names X x c)
    (hsu : ∀ (a : Addr) (oe : Obj) (cls : Value) (d : Option Addr) (pn : List (Addr × Obj)), Zc cls d oe → (∃ vs, oe.data = .fields vs) → PSs (X.suite a ((a, oe) :: pn)) (b₀ :: suite) (ts a cls d))
    (hr : Hand X hds w) : Hand X (.ExceptHandler (some (.Name x np)) none (b₀ :: suite) pos' :: hds) (wPl X.K c ts w) := fun pins σ H cls d a B sI s' h3 D dn q => by
  obtain ⟨b, hb1, hyes, hno⟩ := q
  have ok := dn.inv.ok
  obtain ⟨nL, nF⟩ := dn.away hf
  obtain ⟨oe3, vs3, he3, hz3, hd3⟩ := dn.fl.there
  have J3 := dn.here
  have S3 := J3.suite he3 hd3 dn.na nL nF
  refine wpAny_handleBy_cons (codeAny_handlers_test ?_) (by intro q; cases q)
  have LT : PySem.W.Looks (model X.prog X.w) h3 (typeOf (.ref a)) cls := fun A Q E s k q => wpAny_typeOf_ref (k _ _ he3) (by rw [hz3.1]; exact q)
  have LM := PySem.W.exm_one (M := model X.prog X.w) (J3.kIn) LT hb1
  have test : ∀ {Q : Value → Shared → Prop} {E : Value → Shared → Prop}, Q c { s' with heap := h3 } → wpAny (model X.prog X.w) (X.A.mark (some (.ref a))) (eval (.Name x np) X.env) Q E { s' with heap := h3 } := fun {Q E} q => by
    obtain ⟨hg, hdbg, hm | ⟨hm, hv, hnn⟩⟩ := hc
    · exact ld_glob (X := X.suite a ((a, oe3) :: (X.pn ++ pins))) S3 hg hm q hdbg
    · exact ld_blt (X := X.suite a ((a, oe3) :: (X.pn ++ pins))) S3 hg hm hv q hnn hdbg
  refine test (LM.here ?_)
  cases b with
  | true =>
    refine codeAny_handlers_suite ?_
    refine HandSPX.lands_againZ dn.fl fun h4 fl4 up4 => ?_
    have dn4 := dn.on fl4 up4
    have J4 := dn4.here
    obtain ⟨oe4, vs4, he4, hz4, hd4⟩ := fl4.there
    have S4 := J4.suite he4 hd4 dn.na nL nF
    refine wpAny_mono ((hsu a oe4 cls d (X.pn ++ pins) hz4 ⟨_, hd4⟩).run [] _ _ H _ S4 (hyes rfl a dn.na)) (fun f s6 hsp => ?_) (fun _ _ z => False.elim z)
    cases f with
    | next =>
      obtain ⟨σ6, H6, S6, q6⟩ := hsp
      exact ⟨_, _, S6.unsuite ok, q6⟩
    | brk =>
      obtain ⟨σ6, H6, S6, q6⟩ := hsp
      exact ⟨_, _, S6.unsuite ok, q6⟩
    | cont =>
      obtain ⟨σ6, H6, S6, q6⟩ := hsp
      exact ⟨_, _, S6.unsuite ok, q6⟩
    | ret u =>
      obtain ⟨v6, σ6, H6, S6, r6, q6⟩ := hsp
      exact ⟨_, _, _, S6.unsuite ok, r6, q6⟩
  | false =>
    exact hr pins σ H cls d a B sI s' h3 D dn (hno rfl)
theorem hand_as (hf : X.env.frame = some X.env.locals) (hN : X.N.Nodup) (hi : X.N[i]? = some n) (hln : X.env.kindOf n = some .local) (hc : Names X x c)
    (hsu : ∀ (a : Addr) (oe : Obj) (cls : Value) (d : Option Addr) (pn : List (Addr × Obj)), Zc cls d oe → (∃ vs, oe.data = .fields vs) → PSs (X.suite a ((a, oe) :: pn)) (b₀ :: suite) (ts a cls d))
    (hr : Hand X hds w) : Hand X (.ExceptHandler (some (.Name x np)) (some n) (b₀ :: suite) pos' :: hds) (wNm X.K c i ts w) := fun pins σ H cls d a B sI s' h3 D dn q => by
  obtain ⟨b, hb1, hyes, hno⟩ := q
  have ok := dn.inv.ok
  obtain ⟨nL, nF⟩ := dn.away hf
  obtain ⟨oe3, vs3, he3, hz3, hd3⟩ := dn.fl.there
  have J3 := dn.here
  have S3 := J3.suite he3 hd3 dn.na nL nF
  have hloc : Loc X.env.scope n := .inl hln
  refine wpAny_handleBy_cons (codeAny_handlers_test ?_) (by intro q; cases q)
  have LT : PySem.W.Looks (model X.prog X.w) h3 (typeOf (.ref a)) cls := fun A Q E s k q => wpAny_typeOf_ref (k _ _ he3) (by rw [hz3.1]; exact q)
  have LM := PySem.W.exm_one (M := model X.prog X.w) (J3.kIn) LT hb1
  have test : ∀ {Q : Value → Shared → Prop} {E : Value → Shared → Prop}, Q c { s' with heap := h3 } → wpAny (model X.prog X.w) (X.A.mark (some (.ref a))) (eval (.Name x np) X.env) Q E { s' with heap := h3 } := fun {Q E} q => by
    obtain ⟨hg, hdbg, hm | ⟨hm, hv, hnn⟩⟩ := hc
    · exact ld_glob (X := X.suite a ((a, oe3) :: (X.pn ++ pins))) S3 hg hm q hdbg
    · exact ld_blt (X := X.suite a ((a, oe3) :: (X.pn ++ pins))) S3 hg hm hv q hnn hdbg
  refine test (LM.here ?_)
  cases b with
  | true =>
    refine codeAny_handlers_suite_as ?_
    refine HandSPX.lands_againZ dn.fl fun h4 fl4 up4 => ?_
    have dn4 := dn.on fl4 up4
    have J4 := dn4.here
    obtain ⟨oe4, vs4, he4, hz4, hd4⟩ := fl4.there
    have S4 := J4.suite he4 hd4 dn.na nL nF
    refine store_ok (X := X.suite a ((a, oe4) :: (X.pn ++ pins))) (v := .ref a) S4 hN hi hloc rfl (fun s5 S5 => ?_) (.inr hln)
    refine wpAny_mono ((hsu a oe4 cls d (X.pn ++ pins) hz4 ⟨_, hd4⟩).run [] s5 _ H _ S5 (hyes rfl a dn.na)) (fun f s6 hsp => ?_) (fun _ _ z => False.elim z)
    have end_ : ∀ {σ6 : L2.St} {H6 : Hp} {Q : Shared → Prop}, Inv (X.suite a ((a, oe4) :: (X.pn ++ pins))) [] σ6 H6 s6 → (∀ s7, Inv X pins (σ6.set i none) H6 s7 → Q s7) →
        wpAny (model X.prog X.w) X.A (do bindName X.env n .none; unbindBehindTheSuite X.env n pos') (fun _ s7 => Q s7) X.xe s6 := fun {σ6 H6 Q} S6 hq => gone_ok (S6.unsuite ok) hN hi hln hq
    cases f with
    | next =>
      obtain ⟨σ6, H6, S6, q6⟩ := hsp
      exact end_ S6 fun s7 J7 => ⟨_, _, J7, q6⟩
    | brk =>
      obtain ⟨σ6, H6, S6, q6⟩ := hsp
      exact end_ S6 fun s7 J7 => ⟨_, _, J7, q6⟩
    | cont =>
      obtain ⟨σ6, H6, S6, q6⟩ := hsp
      exact end_ S6 fun s7 J7 => ⟨_, _, J7, q6⟩
    | ret u =>
      obtain ⟨v6, σ6, H6, S6, r6, q6⟩ := hsp
      exact end_ S6 fun s7 J7 => ⟨_, _, _, J7, r6, q6⟩
  | false =>
    exact hr pins σ H cls d a B sI s' h3 D dn (hno rfl)
/-- try: body, its clauses by what they wish -/
def tTryH (tb : WX → TS) (w : Ends → WX) : TS := fun D σ H => tb (w D) D σ H
theorem ps_try_hand (hs : X.stack = X.env :: X.outer) (hf : X.env.frame = some X.env.locals)
    (hb : ∀ (W : WX) (pn : List (Addr × Obj)) (xe : Value → Shared → Prop), Takes (X.tr pn xe) W → PassesOwn (model X.prog X.w) X.A X.env xe → PSs (X.tr pn xe) body (tb W))
    (hh : Hand X (h₀ :: hds) w) : PS X (.Try body (h₀ :: hds) [] [] pos) (tTryH tb w) := by
  refine ⟨fun pins s σ H D I h => ?_⟩
  have ok := I.ok
  have hfr : X.A.frames = some (X.env :: X.outer) := by rw [ok.frames, hs]
  refine wpAny_Try_except ?_
  refine wpAny_mono ((hb (w D) (X.pn ++ pins) (fun e s₁ => wpAny (model X.prog X.w) X.A (noteFrame e X.env) (fun _ s₂ => wpAny (model X.prog X.w) X.A (setFlight e none) (fun _ s₃ =>
    wpAny (model X.prog X.w) X.A (handleBy e X.env (h₀ :: hds)) (SP X pins D) X.xe s₃) X.xe s₂) X.xe s₁) (fun u s' xx => ?_) PassesOwn.looking).run [] s σ H D (I.toTry _) h) (fun f s1 hsp => ?_) (fun e s1 he => he)
  · obtain ⟨a, B, sI, pins', σ', H', cls, d, rfl, J', nb, up, sky, na, os, ag, q⟩ := xx
    have J : Inv X pins σ' H' sI := J'.ofTry ok
    have sky' : Sky B (X.env :: X.outer) a (Zc cls d) X.env.locals s'.heap := by rw [← hs]; exact sky
    show wpAny (model X.prog X.w) X.A (noteFrame (.ref a) X.env) _ _ _
    refine Sky.land Zc.steady hfr hf sky' fun h3 fl3 up3 => ?_
    exact hh pins σ' H' cls d a B sI s' h3 D ⟨J, nb, up.trans up3, fl3, na, os, ag⟩ q
  · cases f with
    | next =>
      obtain ⟨σ', H', J', q⟩ := hsp
      exact wpAny_execs_nil ⟨σ', H', J'.ofTry ok, q⟩
    | brk =>
      obtain ⟨σ', H', J', q⟩ := hsp
      exact ⟨σ', H', J'.ofTry ok, q⟩
    | cont =>
      obtain ⟨σ', H', J', q⟩ := hsp
      exact ⟨σ', H', J'.ofTry ok, q⟩
    | ret u =>
      obtain ⟨v, σ', H', J', r, q⟩ := hsp
      exact ⟨v, σ', H', J'.ofTry ok, r, q⟩
end
/-! ### by data -/
/-- the slot of an exception that a suite holds -/
def slX (a : Addr) (d : Option Addr) (x : Xc) : Sl := .hld (fun v G => v = .ref a ∧ XRep G d x) fun _ _ _ e h => ⟨h.1, h.2.mono e⟩
/-- the clauses bring x, at slots Γ, to what P wants -/
def HdD (w : Ends → WX) (Γ : En) (x : Xc) (P : Ed) : Prop := ∀ (σ : L2.St) (G H : Hp) (D : Ends) (d : Option Addr), Same G H → Sd G H σ Γ → XRep G d x →
  (∀ Γ' σ' G2 H2, P.nx Γ' → Lv Γ Γ' G H G2 H2 σ' → D.nx σ' H2) → (∀ Γ' d σ' v G2 H2, P.rt Γ' d → Lv Γ Γ' G H G2 H2 σ' → Rp G2 v d → D.rt v H2) →
  (∀ Γ' σ' G2 H2, P.bk Γ' → Lv Γ Γ' G H G2 H2 σ' → D.bk σ' H2) → (∀ Γ' σ' G2 H2, P.ct Γ' → Lv Γ Γ' G H G2 H2 σ' → D.ct σ' H2) → w D x.cls d σ H
section
variable {Γ Γ' Γ1 Γ2 : En} {P P' : Ed} {R : En → Xc → Prop} {K : PySem.W.Frag} {c : Value} {i : Nat} {ts : Addr → Value → Option Addr → TS} {w : Ends → WX} {x : Xc} {tb : WX → TS}
theorem hd_no (h : PySem.W.exmOne K x.cls c = some false) (k : HdD w Γ x P) : HdD (wPl K c ts w) Γ x P := fun σ G H D d e s r k1 k2 k3 k4 => ⟨false, h, fun z => (by cases z), fun _ => k σ G H D d e s r k1 k2 k3 k4⟩
theorem hd_noA (h : PySem.W.exmOne K x.cls c = some false) (k : HdD w Γ x P) : HdD (wNm K c i ts w) Γ x P := fun σ G H D d e s r k1 k2 k3 k4 => ⟨false, h, fun z => (by cases z), fun _ => k σ G H D d e s r k1 k2 k3 k4⟩
theorem hd_yes (h : PySem.W.exmOne K x.cls c = some true) (k : ∀ a d, StD (ts a x.cls d) Γ P) : HdD (wPl K c ts w) Γ x P := fun σ G H D d e s r k1 k2 k3 k4 => ⟨true, h, fun _ a _ => k a d σ G H D e s k1 k2 k3 k4, fun z => by cases z⟩
theorem lv_un {σ : L2.St} {G H G2 H2 : Hp} {Γ0 : En} {o : Option V} {s : Sl} (l : Lv (Γ0.set i s) Γ' G H G2 H2 σ) (h0 : own1 s = []) : Lv Γ0 (Γ'.set i .un) G H G2 H2 (σ.set i o) :=
  have sub : ∀ a, a ∈ owns (Γ0.set i s) → a ∈ owns Γ0 := fun a m => by
    rcases owns_set_sub m with z | z
    · rw [h0] at z; cases z
    · exact z
  ⟨l.n.mono sub, fun a m => by
    rcases owns_set_sub m with z | z
    · simp [own1] at z
    · exact (l.o a z).imp_left (sub a), l.s.un o⟩
/-- the suite sees the exception in its slot; behind the suite the name is gone -/
theorem hd_yesA (h : PySem.W.exmOne K x.cls c = some true) (hi : i < Γ.length) (k : ∀ a d, StD (ts a x.cls d) (Γ.set i (slX a d x)) { nx := fun Γ' => P.nx (Γ'.set i .un), rt := P.rt, bk := fun Γ' => P.bk (Γ'.set i .un), ct := fun Γ' => P.ct (Γ'.set i .un) }) (hr : ∀ Γ' d, P.rt Γ' d → P.rt (Γ'.set i .un) d) : HdD (wNm K c i ts w) Γ x P := fun σ G H D d e s r k1 k2 k3 k4 =>
  ⟨true, h, fun _ a _ => k a d (σ.set i (some (.ref a))) G H _ e (s.set ⟨_, rfl, rfl, r⟩ hi rfl) (fun Γ' σ' G2 H2 p l => k1 _ _ G2 H2 p (lv_un l rfl))
    (fun Γ' d' σ' v G2 H2 p l rv => k2 _ d' _ v G2 H2 (hr _ _ p) (lv_un (o := none) l rfl) rv)
    (fun Γ' σ' G2 H2 p l => k3 _ _ G2 H2 p (lv_un l rfl)) (fun Γ' σ' G2 H2 p l => k4 _ _ G2 H2 p (lv_un l rfl)), fun z => by cases z⟩
theorem sd_tryH (hb : ∀ W, StE (tb W) W Γ P R) (hc : ∀ Γ' x, R Γ' x → HdD w Γ' x P) : StD (tTryH tb w) Γ P := fun σ G H D e s k1 k2 k3 k4 =>
  hb _ σ G H D e s k1 k2 k3 k4 fun Γ' x d σ' G2 H2 r l xr => hc Γ' x r σ' G2 H2 D d l.n.i l.s xr (fun Γ' σ' G2 H2 p l' => k1 Γ' σ' G2 H2 p (l.trans l')) (fun Γ' d σ' v G2 H2 p l' r => k2 Γ' d σ' v G2 H2 p (l.trans l') r)
    (fun Γ' σ' G2 H2 p l' => k3 Γ' σ' G2 H2 p (l.trans l')) fun Γ' σ' G2 H2 p l' => k4 Γ' σ' G2 H2 p (l.trans l')
/-- e.f of the exception that the suite holds -/
theorem ev_xf {a : Addr} {d : Option Addr} {C : Addr} {f : Str} {ks : List (PyData × PyData)} {y : PyData} (h : Γ[i]? = some (slX a d ⟨.ref C, some ks⟩)) (hk : kvGet f ks = some y) : Ev (tXf a (.ref C) d C f (tVar i)) Γ Γ y := ⟨fun _ z => z, fun σ G H e s Q q => by
  obtain ⟨o, e1, v, rfl, rfl, r⟩ := s.at_ i _ h
  obtain ⟨dd, vs, rfl, hd, rf⟩ := r
  obtain ⟨u, l, ru⟩ := rf.get hk
  exact ⟨_, e1, rfl, rfl, dd, vs, u, rfl, e _ _ hd, l, q u G H (NewM.refl e) s ru⟩⟩
end
end Fd

set_option Elab.async false
set_option maxRecDepth 100000
set_option maxHeartbeats 4000000
/-! Fd37: raise of an exception with one field, by data. -/
namespace Fd
open PySem PySem.Spec PyProof.Rows L2
/-- an exception class of the text whose own __init__ keeps one field -/
structure RefT (PP : Program) (w : World) (K : PySem.W.Frag) (mg : Str → Option Value) (base : Heap) (x : Str) (C : Addr) (fld : Str) (ok : V → Prop) (k : Nat) : Prop where
  g : mg x = some (.ref C)
  ox : OexC K C
  ini : ∃ fI fd, PySem.W.findIn K (.ref C) "__init__" = some (some (.ref fI)) ∧ PySem.W.typeIn K (.ref fI) = some (.type "function") ∧ FnOk PP w K mg base CX0 k fI fd [("self" : Str), fld] (spRef C fld ok) ∧ Binds K fd [("self" : Str), fld] []
  xf : XfC K C
  nf : PySem.W.findIn K (.ref C) fld = some none
  e : PySem.W.exmOne K (.ref C) (.ref C) = some true
def tRsR (C : Addr) (fld : Str) (ok : V → Prop) (ta : TA) (W : WX) : TS := fun _ σ H => tMkO C (spRef C fld ok) [] ta σ H fun cls d H' => W cls d σ H'
theorem ps_raiseR {X : Cx} {W : WX} {x fld : Str} {C : Addr} {ok : V → Prop} {k : Nat} {e : Expr} {es : List Expr} {ta : TA} {p pos pos' : Pos} (T : RefT X.prog X.w X.K X.mg X.base x C fld ok k) (hc : X.calm = true) (tk : Takes X W) (hr : Room (k + 1) X.A) (hg : Gl X x) (ha : PA X (e :: es) ta)
    (hdb : (x == ("__debug__" : Str)) = false := by decide) (he : starEach (e :: es) X.env = (false, eval e X.env) :: starEach es X.env := by rfl) (hpl : (backTo pos (starEach es X.env)).any (·.1) = false := by rfl) :
    PS X (.Raise (some (.Call (.Name x p) (e :: es) [] pos)) none pos') (tRsR C fld ok ta W) := by
  obtain ⟨fI, fd, h1, h2, F, B⟩ := T.ini
  exact ps_raise hc tk (pmk_oex T.ox h1 h2 F hr B .nil pass0 hg T.g ha hdb he hpl)
section
variable {Γ Γ' Γ1 Γ2 : En} {P P' : Ed} {R : En → Xc → Prop} {K : PySem.W.Frag} {W : WX} {C : Addr} {fld : Str} {ok : V → Prop} {ta : TA} {y : PyData}
theorem se_raiseR (ha : EvA ta Γ Γ1 [y]) (hok : ∀ G v, Rp G v y → ok v) (p : R Γ1 ⟨.ref C, some [(.str fld, y)]⟩) : StE (tRsR C fld ok ta W) W Γ P R := fun σ G H D e s _ _ _ _ k5 => ha.run σ G H e s _ fun vs G1 H1 n1 s1 r1 => by
  obtain ⟨v, rfl, r⟩ := r1.e1
  refine ⟨by simp, fun a ha1 => ⟨a, v, rfl, hok _ _ r, upd_same, fun dx hd1 hd2 => ⟨rfl, dx, [(fld, v)], upd_same, by rw [upd_ne hd2, upd_same], ?_, ?_⟩⟩⟩
  · rw [upd_ne hd2] at hd1; exact hd1
  · rw [upd_ne hd2] at hd1
    have ee : upd (del (upd (upd (upd H1 a (exo a C none)) dx (exd dx [(fld, v)])) a (exo a C (some dx))) a) dx (.xd [(fld, v)]) = upd H1 dx (.xd [(fld, v)]) := by
      funext b
      by_cases h1 : b = dx
      · subst h1; rw [upd_same, upd_same]
      · rw [upd_ne h1, upd_ne h1]
        by_cases h2 : b = a
        · subst h2; rw [del_same, ha1]
        · rw [del_ne h2, upd_ne h2, upd_ne h1, upd_ne h2]
    rw [ee]
    have nn := n1.trans (new_dat (M := M0) n1.i hd1 (.xd [(fld, v)])) fun _ z => z.elim
    exact k5 Γ1 ⟨.ref C, some [(.str fld, y)]⟩ (some dx) σ _ _ p (Lv.of nn ha.own (s1.datNew n1.i hd1 _)) ⟨dx, _, rfl, upd_same, .cons (r.mono (new_dat (M := M0) n1.i hd1 _).g) .nil⟩
end
end Fd

set_option Elab.async false
set_option maxRecDepth 100000
set_option maxHeartbeats 4000000
/-! Fd38: Refused(text), NoText(place): what their __init__ wants. -/
namespace Fd
open PySem PySem.Spec PyProof.Rows L2 PySem.W NdefX
def okS : V → Prop := fun v => ∃ m : Str, v = .str m ∧ m.length ≤ 1000
def okI : V → Prop := fun v => ∃ i : Int, v = .int i ∧ i.natAbs.log2 < 1000
end Fd

set_option Elab.async false
set_option maxRecDepth 100000
set_option maxHeartbeats 4000000
/-! Fd39: a, b = x, y; texts and truths compared; lists of texts. -/
namespace Fd
open PySem PySem.Spec PyProof.Rows L2
section
variable {Γ Γ' Γ1 Γ2 Γ3 : En} {P P' : Ed} {K : PySem.W.Frag} {ta tb : TE} {tr : TA} {x y z : PyData} {i j k : Nat}
theorem st_par (h : EvA tr Γ Γ1 [x, y]) (hi : i < Γ1.length) (hj : j < Γ1.length) (p : P.nx ((Γ1.set i (.dat x)).set j (.dat y))) : StD (tPar i j tr) Γ P := fun σ G H D e s k1 _ _ _ => h.run σ G H e s _ fun vs G1 H1 n1 s1 r1 => by
  obtain ⟨v1, v2, rfl, r1, r2⟩ := r1.e2
  have s2 := (s1.set (s := .dat x) ⟨v1, rfl, r1⟩ hi rfl).set (s := .dat y) ⟨v2, rfl, r2⟩ (by simpa using hj) rfl
  exact ⟨v1, v2, rfl, k1 _ _ G1 H1 p ⟨n1, fun a m => .inl (h.own a (owns_dat rfl a (owns_dat rfl a m))), s2⟩⟩
theorem st_par3 (h : EvA tr Γ Γ1 [x, y, z]) (hi : i < Γ1.length) (hj : j < Γ1.length) (hk : k < Γ1.length) (p : P.nx (((Γ1.set i (.dat x)).set j (.dat y)).set k (.dat z))) : StD (tPar3 i j k tr) Γ P := fun σ G H D e s k1 _ _ _ => h.run σ G H e s _ fun vs G1 H1 n1 s1 r1 => by
  obtain ⟨v1, v2, v3, rfl, r1, r2, r3⟩ := r1.e3
  have s2 := ((s1.set (s := .dat x) ⟨v1, rfl, r1⟩ hi rfl).set (s := .dat y) ⟨v2, rfl, r2⟩ (by simpa using hj) rfl).set (s := .dat z) ⟨v3, rfl, r3⟩ (by simpa using hk) rfl
  exact ⟨v1, v2, v3, rfl, k1 _ _ G1 H1 p ⟨n1, fun a m => .inl (h.own a (owns_dat rfl a (owns_dat rfl a (owns_dat rfl a m)))), s2⟩⟩
theorem ev_eqStr {a b : Str} (ha : Ev ta Γ Γ1 (.str a)) (hb : Ev tb Γ1 Γ2 (.str b)) : Ev (tOp rEq ta tb) Γ Γ2 (.bool (decide (a = b))) :=
  ev_op ha hb fun G H u v _ r1 r2 Q q => by
    rw [r1.strE, r2.strE]
    refine ⟨rfl, ?_⟩
    have e : decide (V.str a = V.str b) = decide (a = b) := by simp
    rw [e]
    exact q _ fun _ => .bl _
theorem ev_neStr {a b : Str} (ha : Ev ta Γ Γ1 (.str a)) (hb : Ev tb Γ1 Γ2 (.str b)) : Ev (tOp rNe ta tb) Γ Γ2 (.bool (!decide (a = b))) :=
  ev_op ha hb fun G H u v _ r1 r2 Q q => by
    rw [r1.strE, r2.strE]
    refine ⟨rfl, ?_⟩
    have e : decide (V.str a = V.str b) = decide (a = b) := by simp
    rw [e]
    exact q _ fun _ => .bl _
theorem ev_neBl {a b : Bool} (ha : Ev ta Γ Γ1 (.bool a)) (hb : Ev tb Γ1 Γ2 (.bool b)) : Ev (tOp rNe ta tb) Γ Γ2 (.bool (!decide (a = b))) :=
  ev_op ha hb fun G H u v _ r1 r2 Q q => by
    rw [r1.blE, r2.blE]
    refine ⟨rfl, ?_⟩
    have e : decide (V.bl a = V.bl b) = decide (a = b) := by simp
    rw [e]
    exact q _ fun _ => .bl _
end
theorem shd_str {m : Str} (h : PyData.strOk m = true) : Shd 0 (.str m) := ⟨by simp only [PyData.canLay0]; exact h, by simp [PyData.depth]⟩
theorem tells_str : Tells PyData.str := fun a b => by
  show (a == b) = decide (a = b)
  by_cases h : a = b
  · subst h; simp
  · rw [decide_eq_false h]; simpa using h
end Fd

set_option Elab.async false
set_option maxRecDepth 100000
set_option maxHeartbeats 4000000
/-! Fd40: slices of any bounds, items from the end, ranges counted down. -/
namespace Fd
open PySem PySem.Spec PyProof.Rows L2
def xRef (R : Addr) (m : Str) : Xc := ⟨.ref R, some [(.str "reason", .str m)]⟩
def xMal (M : Addr) : Xc := ⟨.ref M, none⟩
/-- xs[lo:hi] -/
def cutG {α : Type} (xs : List α) (lo hi : Option Int) : List α := (xs.drop (HT.sIx xs.length 0 lo)).take (HT.sIx xs.length xs.length hi - HT.sIx xs.length 0 lo)
theorem sIx_neg1 (n d : Nat) : HT.sIx n d (some (-1)) = n - 1 := by
  simp only [HT.sIx]
  rw [if_pos (by decide)]
  omega
theorem cut_take {α : Type} (xs : List α) (k : Nat) : cutG xs none (some (k : Int)) = xs.take k := by
  unfold cutG
  rw [HT.sIx_none, HT.sIx_nat, List.drop_zero, Nat.sub_zero]
  rcases Nat.le_total k xs.length with h | h
  · rw [Nat.min_eq_left h]
  · rw [Nat.min_eq_right h, List.take_length, List.take_of_length_le h]
theorem cut_init {α : Type} (xs : List α) : cutG xs none (some (-1)) = xs.take (xs.length - 1) := by
  unfold cutG
  rw [HT.sIx_none, sIx_neg1, List.drop_zero, Nat.sub_zero]
theorem cut_drop {α : Type} (xs : List α) (k : Nat) : cutG xs (some (k : Int)) none = xs.drop k := by
  unfold cutG
  rw [HT.sIx_none, HT.sIx_nat]
  rcases Nat.le_total k xs.length with h | h
  · rw [Nat.min_eq_left h, List.take_of_length_le (by rw [List.length_drop]; exact Nat.le_refl _)]
  · rw [Nat.min_eq_right h, List.drop_length, List.drop_of_length_le h]; simp
theorem cut_mid {α : Type} (xs : List α) (a b : Nat) (h : a ≤ xs.length) : cutG xs (some (a : Int)) (some (b : Int)) = (xs.drop a).take (b - a) := by
  unfold cutG
  rw [HT.sIx_nat, HT.sIx_nat, Nat.min_eq_left h]
  rcases Nat.le_total b xs.length with q | q
  · rw [Nat.min_eq_left q]
  · rw [Nat.min_eq_right q, List.take_of_length_le (by rw [List.length_drop]; exact Nat.le_refl _), List.take_of_length_le (by rw [List.length_drop]; omega)]
theorem cut_map {α β : Type} (f : α → β) (xs : List α) (lo hi : Option Int) : cutG (xs.map f) lo hi = (cutG xs lo hi).map f := by
  unfold cutG
  rw [List.length_map, ← List.map_drop, ← List.map_take]
theorem RpAll.cutG_ {G : Hp} {vs : List V} {ds : List PyData} (r : RpAll G vs ds) (lo hi : Option Int) : RpAll G (cutV vs lo hi) (cutG ds lo hi) := by
  unfold cutV cutG
  rw [r.len]
  exact (r.drop _).take _
section
variable {Γ Γ' Γ1 Γ2 Γ3 : En} {K : PySem.W.Frag} {ta tb : TE} {tlo thi : TO} {ds ds0 : List PyData} {d : PyData} {lo hi : Option Int} {t : Bool}
theorem ec_slG (ha : Ev ta Γ Γ1 (.list ds)) (h1 : EvO tlo Γ1 Γ1 lo) (h2 : EvO thi Γ1 Γ1 hi) : EvC (tSl (rSlL K) ta tlo thi) Γ Γ1 (cutG ds lo hi) :=
  ⟨ha.own, fun σ G H e s Q q => ha.run σ G H e s _ fun v G1 H1 n1 s1 r1 => h1.run σ G1 H1 n1.i s1 _ fun G2 H2 n2 s2 => h2.run σ G2 H2 n2.i s2 _ fun G3 H3 n3 s3 => by
    obtain ⟨p, xs, rfl, hp, ra⟩ := ((r1.mono n2.g).mono n3.g).lstE
    have n13 := (n1.trans n2 (mo ha.own)).trans n3 (mo ha.own)
    exact ⟨p, xs, rfl, SqL.of (n3.i _ _ hp), fun l hl => q l _ G3 _ (n13.trans (new_own (M := M0) n3.i hl _) fun _ z => z.elim) (s3.ownNew n3.i hl _) (none_back n13 hl) (same_none n3.i hl) upd_same (ra.cutG_ lo hi)⟩⟩
/-- .. of one's own list -/
theorem ec_slC {i : Nat} {a : Addr} (h : Γ[i]? = some (.cell a ds)) (h1 : EvO tlo Γ Γ lo) (h2 : EvO thi Γ Γ hi) : EvC (tSl (rSlL K) (tVar i) tlo thi) Γ Γ (cutG ds lo hi) :=
  ⟨fun _ z => z, fun σ G H e s Q q => by
    obtain ⟨o, e1, rfl, _⟩ := s.at_ i _ h
    refine ⟨_, e1, h1.run σ G H e s _ fun G2 H2 n2 s2 => h2.run σ G2 H2 n2.i s2 _ fun G3 H3 n3 s3 => ?_⟩
    have n13 := n2.trans n3 fun x m => .inl m
    obtain ⟨o, e2, rfl, ng, xs, hx, ra⟩ := s3.at_ i _ h
    exact ⟨a, xs, rfl, SqL.of hx, fun l hl => q l _ G3 _ (n13.trans (new_own (M := M0) n3.i hl _) fun _ z => z.elim) (s3.ownNew n3.i hl _) (none_back n13 hl) (same_none n3.i hl) upd_same (ra.cutG_ lo hi)⟩⟩
theorem ev_slT (ha : Ev ta Γ Γ1 (.tuple ds)) (h1 : EvO tlo Γ1 Γ1 lo) (h2 : EvO thi Γ1 Γ1 hi) : Ev (tSl (rSlA K) ta tlo thi) Γ Γ1 (.tuple (cutG ds lo hi)) :=
  ⟨ha.own, fun σ G H e s Q q => ha.run σ G H e s _ fun v G1 H1 n1 s1 r1 => h1.run σ G1 H1 n1.i s1 _ fun G2 H2 n2 s2 => h2.run σ G2 H2 n2.i s2 _ fun G3 H3 n3 s3 => by
    obtain ⟨p, xs, rfl, hp, ra⟩ := ((r1.mono n2.g).mono n3.g).tupE
    have n13 := (n1.trans n2 (mo ha.own)).trans n3 (mo ha.own)
    refine ⟨p, xs, rfl, SqT.of (n3.i _ _ hp), fun h => ?_, fun h l hl => ?_⟩
    · have ec : cutG ds lo hi = ds := by
        unfold cutG
        rw [← ra.len, h.1, h.2, ra.len]
        simp
      exact q _ G3 H3 n13 s3 (.tup hp (by rw [ec]; exact ra))
    · exact q _ _ _ (n13.trans (new_dat (M := M0) n3.i hl _) fun _ z => z.elim) (s3.datNew n3.i hl _) (.tup upd_same ((ra.cutG_ lo hi).mono (new_dat (M := M0) n3.i hl _).g))⟩
def rSlS (K : PySem.W.Frag) : V → Option Int → Option Int → Hp → VK → Prop := fun x lo hi H Q => rSlL K x lo hi H Q ∨ rSlA K x lo hi H Q
theorem k_slS {X : Cx} (h : X.K = K) : SlR X (rSlS K) := (k_slL h).or (k_slA h)
theorem ev_slS (ha : Ev ta Γ Γ1 (dSeq t ds)) (h1 : EvO tlo Γ1 Γ1 lo) (h2 : EvO thi Γ1 Γ1 hi) : Ev (tSl (rSlS K) ta tlo thi) Γ Γ1 (dSeq t (cutG ds lo hi)) := by
  cases t with
  | false =>
    have h := (ec_slG (K := K) ha h1 h2).ev
    exact ⟨h.own, fun σ G H e s Q q => ha.run σ G H e s _ fun v G1 H1 n1 s1 r1 => h1.run σ G1 H1 n1.i s1 _ fun G2 H2 n2 s2 => h2.run σ G2 H2 n2.i s2 _ fun G3 H3 n3 s3 => .inl (by
      obtain ⟨p, xs, rfl, hp, ra⟩ := ((r1.mono n2.g).mono n3.g).lstE
      have n13 := (n1.trans n2 (mo ha.own)).trans n3 (mo ha.own)
      exact ⟨p, xs, rfl, SqL.of (n3.i _ _ hp), fun l hl => q _ _ _ (n13.trans (new_dat (M := M0) n3.i hl _) fun _ z => z.elim) (s3.datNew n3.i hl _) (.lst upd_same ((ra.cutG_ lo hi).mono (new_dat (M := M0) n3.i hl _).g))⟩)⟩
  | true =>
    exact ⟨ha.own, fun σ G H e s Q q => ha.run σ G H e s _ fun v G1 H1 n1 s1 r1 => h1.run σ G1 H1 n1.i s1 _ fun G2 H2 n2 s2 => h2.run σ G2 H2 n2.i s2 _ fun G3 H3 n3 s3 => .inr (by
      obtain ⟨p, xs, rfl, hp, ra⟩ := ((r1.mono n2.g).mono n3.g).tupE
      have n13 := (n1.trans n2 (mo ha.own)).trans n3 (mo ha.own)
      refine ⟨p, xs, rfl, SqT.of (n3.i _ _ hp), fun h => ?_, fun h l hl => ?_⟩
      · have ec : cutG ds lo hi = ds := by
          unfold cutG
          rw [← ra.len, h.1, h.2, ra.len]
          simp
        exact q _ G3 H3 n13 s3 (.tup hp (by rw [ec]; exact ra))
      · exact q _ _ _ (n13.trans (new_dat (M := M0) n3.i hl _) fun _ z => z.elim) (s3.datNew n3.i hl _) (.tup upd_same ((ra.cutG_ lo hi).mono (new_dat (M := M0) n3.i hl _).g)))⟩
/-! items from the end -/
theorem at_last {xs : List V} {k : Nat} {w : V} (hk : k + 1 = xs.length) (hw : xs[k]? = some w) : atI xs (-1) = some w := by
  unfold atI ixN
  rw [if_neg (by omega), if_pos (by omega)]
  show xs[((-1 : Int) + xs.length).toNat]? = some w
  rw [show ((-1 : Int) + xs.length).toNat = k by omega]
  exact hw
theorem x_lastL {k : Nat} (ha : Ev ta Γ Γ1 (.list ds)) (hb : Ev tb Γ1 Γ2 (.int (-1))) (hk : k + 1 = ds.length) (hd : ds[k]? = some d) : Ev (tOp (rIxL K) ta tb) Γ Γ2 d :=
  ⟨fun a m => ha.own a (hb.own a m), fun σ G H e s Q q => ha.run σ G H e s _ fun u G1 H1 n1 s1 r1 => hb.run σ G1 H1 n1.i s1 _ fun v G2 H2 n2 s2 r2 => by
    obtain ⟨p, xs, rfl, hp, ra⟩ := (r1.mono n2.g).lstE
    obtain ⟨w, hw, rw_⟩ := ra.get hd
    exact ⟨p, xs, -1, w, rfl, r2.intE, SqL.of (n2.i _ _ hp), at_last (by rw [ra.len]; exact hk) hw, q w G2 H2 (n1.trans n2 (mo ha.own)) s2 rw_⟩⟩
theorem x_lastT {k : Nat} (ha : Ev ta Γ Γ1 (.tuple ds)) (hb : Ev tb Γ1 Γ2 (.int (-1))) (hk : k + 1 = ds.length) (hd : ds[k]? = some d) : Ev (tOp (rIxT K) ta tb) Γ Γ2 d :=
  ⟨fun a m => ha.own a (hb.own a m), fun σ G H e s Q q => ha.run σ G H e s _ fun u G1 H1 n1 s1 r1 => hb.run σ G1 H1 n1.i s1 _ fun v G2 H2 n2 s2 r2 => by
    obtain ⟨p, xs, rfl, hp, ra⟩ := (r1.mono n2.g).tupE
    obtain ⟨w, hw, rw_⟩ := ra.get hd
    exact ⟨p, xs, -1, w, rfl, r2.intE, SqT.of (n2.i _ _ hp), at_last (by rw [ra.len]; exact hk) hw, q w G2 H2 (n1.trans n2 (mo ha.own)) s2 rw_⟩⟩
theorem x_lastS {k : Nat} (ha : Ev ta Γ Γ1 (dSeq t ds)) (hb : Ev tb Γ1 Γ2 (.int (-1))) (hk : k + 1 = ds.length) (hd : ds[k]? = some d) : Ev (tOp (rIxS K) ta tb) Γ Γ2 d := by
  cases t
  · exact ⟨fun a m => ha.own a (hb.own a m), fun σ G H e s Q q => ha.run σ G H e s _ fun u G1 H1 n1 s1 r1 => hb.run σ G1 H1 n1.i s1 _ fun v G2 H2 n2 s2 r2 => .inl (by
      obtain ⟨p, xs, rfl, hp, ra⟩ := (r1.mono n2.g).lstE
      obtain ⟨w, hw, rw_⟩ := ra.get hd
      exact ⟨p, xs, -1, w, rfl, r2.intE, SqL.of (n2.i _ _ hp), at_last (by rw [ra.len]; exact hk) hw, q w G2 H2 (n1.trans n2 (mo ha.own)) s2 rw_⟩)⟩
  · exact ⟨fun a m => ha.own a (hb.own a m), fun σ G H e s Q q => ha.run σ G H e s _ fun u G1 H1 n1 s1 r1 => hb.run σ G1 H1 n1.i s1 _ fun v G2 H2 n2 s2 r2 => .inr (by
      obtain ⟨p, xs, rfl, hp, ra⟩ := (r1.mono n2.g).tupE
      obtain ⟨w, hw, rw_⟩ := ra.get hd
      exact ⟨p, xs, -1, w, rfl, r2.intE, SqT.of (n2.i _ _ hp), at_last (by rw [ra.len]; exact hk) hw, q w G2 H2 (n1.trans n2 (mo ha.own)) s2 rw_⟩)⟩
/-- range(a, b, -1): from a down, n of them -/
def rgFrom (a : Int) (n : Nat) : List PyData := (List.range n).map fun (i : Nat) => PyData.int (a - (i : Int))
theorem wk_rng3d {tc : TE} {a b : Int} {n : Nat} (ha : Ev ta Γ Γ1 (.int a)) (hb : Ev tb Γ1 Γ2 (.int b)) (hc : Ev tc Γ2 Γ3 (.int (-1))) (hn : (a - b).toNat = n) (h1 : -(2 ^ 62) ≤ a) (h2 : a < 2 ^ 62) (h3 : -(2 ^ 62) ≤ b) (h4 : b < 2 ^ 62) : Wk (iRng3 (tCons ta (tCons tb (tCons tc tNil)))) Γ Γ3 (rgFrom a n) :=
  ⟨fun x m => ha.own x (hb.own x (hc.own x m)), fun σ G H e s R q => ha.run σ G H e s _ fun v G1 H1 n1 s1 r1 => hb.run σ G1 H1 n1.i s1 _ fun u G2 H2 n2 s2 r2 => hc.run σ G2 H2 n2.i s2 _ fun z G3 H3 n3 s3 r3 => by
    subst hn
    have n12 := n1.trans n2 (mo ha.own)
    refine ⟨a, b, -1, _, by rw [r1.intE, r2.intE, r3.intE], RgC.neg h1 h2 h3 h4, q _ G3 H3 (n12.trans n3 (mo fun x m => ha.own x (hb.own x m))) s3 fun i G' H' e2 e3 => ⟨fun hl => ?_, fun d hd => ?_⟩⟩
    · rw [show (rgFrom a (a - b).toNat).length = (a - b).toNat by simp [rgFrom]] at hl
      show (a - b).toNat ≤ i
      omega
    · have hi : i < (a - b).toNat := by
        have := (List.getElem?_eq_some_iff.mp hd).1
        simpa [rgFrom] using this
      unfold rgFrom at hd
      rw [List.getElem?_map, List.getElem?_range hi] at hd
      cases hd
      refine ⟨hi, fun x H'' y => ?_⟩
      obtain ⟨rfl, rfl⟩ := y
      refine ⟨G', NewM.refl e3, ?_⟩
      rw [show a + (i : Nat) * (-1 : Int) = a - (i : Int) by omega]
      exact .int _⟩
end
end Fd

set_option Elab.async false
set_option maxRecDepth 100000
set_option maxHeartbeats 4000000
/-! Fd41: objects whose __init__ may raise. -/
namespace Fd
open PySem PySem.Spec PyProof.Rows L2
/-- C(e, ..), what is let out told at the slots -/
def tMakeS (C : Addr) (sp : Sp) (E : L2.St → XK) (t : TA) : TE := fun σ H Q => t σ H fun vs H1 => ∀ x dx, H1 x = none → H1 dx = none → dx ≠ x → sp (.ref x :: vs) (upd (upd H1 dx (.own x)) x (.ins C dx [])) (fun v H2 => v = .non ∧ Q (.ref x) H2) (E σ)
section
variable {X : Cx} {CX : CXT} {k : Nat} {f C : Addr} {fd : FuncData} {ps : List Str} {sp : Sp} {E : L2.St → XK} {x : Str} {p pos : Pos} {e : Expr} {es : List Expr} {t : TA}
theorem makeS_run {pins : List (Addr × Obj)} {σ : L2.St} {H : Hp} {s0 : Shared} {R : VK} {us : List Value} {vs : List V} (m : Mk X.K C f) (g : FnOk X.prog X.w X.K X.mg X.base CX k f fd ps sp) (room : Room (k + 1) X.A) (bi : Binds X.K fd ps [])
    (out : PassesAt CX X σ (E σ)) (J : Inv X pins σ H s0) (rel : Vals vs us)
    (want : ∀ y dy, H y = none → H dy = none → dy ≠ y → sp (.ref y :: vs) (upd (upd H dy (.own y)) y (.ins C dy [])) (fun v H2 => v = .non ∧ R (.ref y) H2) (E σ)) :
    wpAny (model X.prog X.w) X.A (call (.ref C) us) (EP X pins σ R) X.xe s0 := by
  obtain ⟨y, ey⟩ : ∃ y, y = s0.heap.objs.size + 1 := ⟨_, rfl⟩
  have w1 := want (s0.heap.objs.size + 1) s0.heap.objs.size (J.hok.fresh (Nat.le_succ _)) (J.hok.fresh (Nat.le_refl _)) (Nat.ne_of_lt (Nat.lt_succ_self _))
  have J2 := Inv.made (C := C) J
  have rel2 : Vals (V.ref (s0.heap.objs.size + 1) :: vs) (Value.ref (s0.heap.objs.size + 1) :: us) := .cons rfl rel
  have len : (Value.ref (s0.heap.objs.size + 1) :: us).length = ps.length := by
    rw [← rel2.length]
    exact g.len _ _ _ _ w1
  have b1 := bi _ (Value.ref (s0.heap.objs.size + 1) :: us) J2.kIn (by rw [List.append_nil]; exact len)
  rw [List.append_nil] at b1
  have go := g.run _ X.stack _ _ ⟨Value.ref (s0.heap.objs.size + 1) :: us, []⟩ (Value.ref (s0.heap.objs.size + 1) :: us) _ _ (E σ) (room.make C us []) (J2.env0.make C us []) b1 rel2 w1
  refine wpAny_call (make_map (f := f) J.kIn m.makes m.init (beq_iff_eq.mp m.fn) (codeAny_mono go fun res s1 fin => ?_))
  cases res with
  | error er => exact out pins _ _ er s1 J2 fin
  | ok fl =>
    cases fl with
    | ret u =>
      obtain ⟨z, H3, J3, rz, ez, q⟩ := J2.after fin
      subst ez
      exact ⟨rz, ⟨V.ref (s0.heap.objs.size + 1), H3, J3, rfl, q⟩⟩
    | next => exact fin.elim
    | brk => exact fin.elim
    | cont => exact fin.elim
theorem pe_makeS (m : Mk X.K C f) (g : FnOk X.prog X.w X.K X.mg X.base CX k f fd ps sp) (room : Room (k + 1) X.A) (hg : Gl X x) (hm : X.mg x = some (.ref C)) (bi : Binds X.K fd ps []) (out : ∀ σ, PassesAt CX X σ (E σ)) (ha : PA X (e :: es) t)
    (hdb : (x == ("__debug__" : Str)) = false := by decide) (he : starEach (e :: es) X.env = (false, eval e X.env) :: starEach es X.env := by rfl) (hpl : (backTo pos (starEach es X.env)).any (·.1) = false := by rfl) :
    PE X (.Call (.Name x p) (e :: es) [] pos) (tMakeS C sp E t) := by
  refine ⟨fun pins s σ H Q I h => ?_⟩
  refine wpAny_Call_Name_kw (ld_glob I hg hm ?_ hdb)
  exact PySem.W.callWith_K (h₀ := X.base) I.ok.mod.kin m.kp (thn (ha.run pos pins s σ H _ I h) fun us s1 ⟨vs, H1, I1, r, q⟩ => ⟨I1.kIn, makeS_run m g room bi (out σ) I1 r q⟩) he hpl
end
/-- an __init__ of the class at C that may raise: from no fields to those that it keeps -/
def spIE (C : Addr) (pre : List PyData → Except Xc (List (PyData × PyData)) → Prop) : Sp := fun vs H Q E => ∃ (G : Hp) (a dx : Addr) (us : List V) (ds : List PyData) (o : Except Xc (List (PyData × PyData))), vs = .ref a :: us ∧ Same G H ∧ G a = none ∧ H a = some (.ins C dx []) ∧ RpAll G us ds ∧ pre ds o ∧
  (∀ ks, o = .ok ks → ∀ G2 H2 dx' fs, NewM (fun x => x = a) G H G2 H2 → G2 a = none → H2 a = some (.ins C dx' fs) → RpF G2 fs ks → Q .non H2) ∧
  ∀ x, o = .error x → ∀ d G2 H2, NewM (fun x => x = a) G H G2 H2 → XRep G2 d x → E x.cls d H2
section
variable {Γ Γ' Γ1 Γ2 : En} {tr : TA} {es : List PyData} {C : Addr} {ks : List (PyData × PyData)} {W : WX} {x : Xc}
theorem ev_makeE {pre : List PyData → Except Xc (List (PyData × PyData)) → Prop} {E : L2.St → XK} (hr : EvA tr Γ Γ1 es) (h : pre es (.ok ks)) : Ev (tMakeS C (spIE C pre) E tr) Γ Γ1 (dOb C ks) := ⟨hr.own, fun σ G H e s Q q => hr.run σ G H e s _ fun vs G1 H1 n1 s1 r1 => fun y dy hy hdy hne => by
  have na := new_own (M := M0) n1.i hdy (.own y)
  have hy2 : upd H1 dy (.own y) y = none := by rw [upd_ne (Ne.symm hne)]; exact hy
  have nab := na.trans (new_own (M := M0) na.i hy2 (.ins C dy [])) fun _ z => z.elim
  refine ⟨G1, y, dy, vs, es, .ok ks, rfl, nab.i, same_none n1.i hy, upd_same, r1, h, fun ks' hk G2 H2 dx' fs n2 g2 h2 rf => ⟨rfl, ?_⟩, fun _ hk => by cases hk⟩
  cases hk
  have nx : NewM M0 G1 H1 G2 H2 := nab.trans n2 fun z e => by subst e; exact .inr hy
  have n3 := new_frz (M := fun z => z = y) nx.i h2 g2 rfl
  have n13 : NewM M0 G1 H1 (upd G2 y (.ins C dx' fs)) H2 := nx.trans n3 fun z e => by subst e; exact .inr hy
  exact q _ _ _ (n1.trans n13 fun _ z => z.elim) (s1.new n13) (.obj upd_same (rf.mono n3.g))⟩
theorem ee_make {pre : List PyData → Except Xc (List (PyData × PyData)) → Prop} (hr : EvA tr Γ Γ1 es) (h : pre es (.error x)) : EvE (tMakeS C (spIE C pre) (WE W) tr) W Γ Γ1 x := ⟨hr.own, fun σ G H e s k Q => hr.run σ G H e s _ fun vs G1 H1 n1 s1 r1 => fun y dy hy hdy hne => by
  have na := new_own (M := M0) n1.i hdy (.own y)
  have hy2 : upd H1 dy (.own y) y = none := by rw [upd_ne (Ne.symm hne)]; exact hy
  have nab := na.trans (new_own (M := M0) na.i hy2 (.ins C dy [])) fun _ z => z.elim
  refine ⟨G1, y, dy, vs, es, .error x, rfl, nab.i, same_none n1.i hy, upd_same, r1, h, fun _ hk => (by cases hk), fun x' hk d G2 H2 n2 xr => ?_⟩
  cases hk
  have nx : NewM M0 G1 H1 G2 H2 := nab.trans n2 fun z e => by subst e; exact .inr hy
  exact k d G2 H2 (n1.trans nx fun _ z => z.elim) (s1.new nx) xr⟩
end
section
variable {PP : Program} {w : World} {K : PySem.W.Frag} {mg : Str → Option Value} {base : Heap}
theorem defIE_ok {x qual : Str} {st : Stmt} {f C : Addr} {fd : FuncData} {N ps : List Str} {k : Nat} {pre : List PyData → Except Xc (List (PyData × PyData)) → Prop} (F : Fun K x qual st f fd) (S : FnScope N ps (defScope st)) (len : ∀ ds o, pre ds o → ds.length + 1 = ps.length)
    (hbody : ∀ (cdv : Value) (A : Around) (outer : List Env) (s : Shared) (H : Hp) (E : XK), Room k (A.deeper (envOfC qual (defScope st) s.heap.objs.size f cdv)) →
      ∃ t, PSs (cxOf (L2.CX PP w) PP w K mg base N qual (defScope st) f cdv A outer s H E) (defBody st) t ∧ ∀ a ds o, pre ds o → StE t (fun cls d _ H => E cls d H) (.ob a C [] :: (ds.map .dat ++ List.replicate (N.length - ps.length) .un)) { nx := fun Γ => ∃ ks, o = .ok ks ∧ Γ[0]? = some (.ob a C ks), rt := fun _ _ => False } (fun _ x => o = .error x)) :
    FnOk PP w K mg base (L2.CX PP w) (k + 1) f fd ps (spIE C pre) := by
  refine F.okX S (fun vs H Q E h => ?_) fun cdv A outer s H vs Q E hr h => ?_
  · obtain ⟨G, a, dx, us, ds, o, rfl, e, ng, hx, r, p, _⟩ := h
    rw [List.length_cons, r.len, len ds o p]
  · obtain ⟨G, a, dx, us, ds, o, rfl, e, ng, hx, r, p, q1, q2⟩ := h
    obtain ⟨t, ht, hs⟩ := hbody cdv A outer s H E hr
    have hM : ∀ m y, Mo (Sl.ob a C [] :: (ds.map Sl.dat ++ List.replicate m .un)) y → y = a := fun m y h => by
      have h : y ∈ [a] ++ owns (ds.map Sl.dat ++ List.replicate m .un) := h
      rw [owns_dats] at h
      simpa using h
    refine ⟨t, ht, hs a ds o p (L2.start N (.ref a :: us)) G H _ e (sd_startO r ng hx (by rw [r.len, len ds o p])) (fun Γ' σ' G2 H2 z l => ?_) (fun _ _ _ _ _ _ z => z.elim) (fun _ _ _ _ z => z.elim) (fun _ _ _ _ z => z.elim) fun Γ' y d σ' G2 H2 z l xr => ?_⟩
    · obtain ⟨ks, ho, z⟩ := z
      obtain ⟨_, _, _, ng2, dx', fs, hy, ry⟩ := l.s.at_ 0 _ z
      exact q1 ks ho G2 H2 dx' fs (l.n.mono (hM _)) ng2 hy ry
    · exact q2 y z d G2 H2 (l.n.mono (hM _)) xr
/-- __init__ of a class of the text that may raise -/
structure CalIE (PP : Program) (w : World) (K : PySem.W.Frag) (C : Addr) (mg : Str → Option Value) (base : Heap) (k : Nat) (ps : List Str) (sp : Sp) : Prop where
  at_ : mg "Algebra" = some (.ref C)
  ex : ∃ f fd, FnOk PP w K mg base (L2.CX PP w) k f fd ps sp ∧ Mk K C f ∧ Binds K fd ps []
theorem pe_calIE {X : Cx} {W : WX} {C : Addr} {k : Nat} {ps : List Str} {sp : Sp} {e : Expr} {es : List Expr} {p pos : Pos} {t : TA} (c : CalIE X.prog X.w X.K C X.mg X.base k ps sp) (tk : Takes X W) (hr : Room (k + 1) X.A) (hg : Gl X "Algebra") (ha : PA X (e :: es) t)
    (he : starEach (e :: es) X.env = (false, eval e X.env) :: starEach es X.env := by rfl) (hpl : (backTo pos (starEach es X.env)).any (·.1) = false := by rfl) : PE X (.Call (.Name "Algebra" p) (e :: es) [] pos) (tMakeS C sp (WE W) t) := by
  obtain ⟨f, fd, F, hm, hb⟩ := c.ex
  exact pe_makeS hm F hr hg c.at_ hb (fun σ => passAt tk σ) ha (by decide) he hpl
end
section
variable {Γ Γ' Γ1 Γ2 Γ3 : En} {P P' : Ed} {K : PySem.W.Frag} {te tb tc : TE} {ds : List PyData} {d : PyData}
/-- rows[i][j] = e, where the indices may change the state -/
theorem st_nitemW {i : Nat} {a : Addr} {bs : List Addr} {rows : List (List PyData)} {I J : Int} (h : Ev te Γ Γ1 d) (hn : Γ1[i]? = some (.nst a bs rows)) (hb : Ev tb Γ1 Γ2 (.int I)) (hn2 : Γ2[i]? = some (.nst a bs rows)) (hc : Ev tc Γ2 Γ3 (.int J)) (hn3 : Γ3[i]? = some (.nst a bs rows)) (h0 : 0 ≤ I) (h1 : 0 ≤ J) (hr : rows[I.toNat]? = some ds) (hd : J.toNat < ds.length)
    (p : P.nx (Γ3.set i (.nst a bs (rows.set I.toNat (ds.set J.toNat d))))) : StD (tAsg te (gSub (tOp (rIxL K) (tVar i) tb) tc rSetL)) Γ P := fun σ G H D e s k1 _ _ _ => h.run σ G H e s _ fun v G1 H1 n1 s1 r1 => by
  obtain ⟨o, e1, rfl, _⟩ := s1.at_ i _ hn
  refine ⟨_, e1, hb.run σ G1 H1 n1.i s1 _ fun w G2 H2 n2 s2 r2 => ?_⟩
  obtain ⟨o, e2, rfl, ng, hx, rn⟩ := s2.at_ i _ hn2
  have hI : I = (I.toNat : Int) := (Int.toNat_of_nonneg h0).symm
  have hJ : J = (J.toNat : Int) := (Int.toNat_of_nonneg h1).symm
  obtain ⟨b, hbk⟩ : ∃ b, bs[I.toNat]? = some b := ⟨_, List.getElem?_eq_getElem (by rw [rn.1]; exact (List.getElem?_eq_some_iff.mp hr).1)⟩
  refine ⟨a, _, I, .ref b, rfl, r2.intE, SqL.of hx, by rw [hI]; exact atI_nat (by rw [List.getElem?_map, hbk]; rfl), ?_⟩
  refine hc.run σ G2 H2 n2.i s2 _ fun u G3 H3 n3 s3 r3 => ?_
  obtain ⟨o, e3, _, ng3, hx3, rn3⟩ := s3.at_ i _ hn3
  obtain ⟨gb3, xs3, hxb3, rb3⟩ := rn3.2 _ b ds hbk hr
  have hkx : J.toNat < xs3.length := by rw [rb3.len]; exact hd
  have hix : ixN xs3.length J = some J.toNat := by
    rw [hJ]
    unfold ixN
    rw [if_pos (by omega), if_pos (by omega)]
  have hbm : b ∈ bs := List.mem_of_getElem? hbk
  have nd := List.nodup_cons.mp (own1_nd s3.nd hn3 : (a :: bs).Nodup)
  have hab : a ≠ b := fun z => nd.1 (z ▸ hbm)
  have rv : Rp G3 v d := (r1.mono n2.g).mono n3.g
  have s4 : Sd G3 (upd H3 b (.lst (xs3.set J.toNat v))) σ (Γ3.set i (.nst a bs (rows.set I.toNat (ds.set J.toNat d)))) := by
    refine s3.putN n3.i gb3 hn3 (by simp [own1, hbm]) rfl fun o z => ⟨z.1, z.2.1, by rw [upd_ne hab]; exact z.2.2.1, by rw [z.2.2.2.1, List.length_set], fun k c es h1 h2 => ?_⟩
    by_cases hk : k = I.toNat
    · subst hk
      rw [hbk] at h1
      cases h1
      rw [List.getElem?_set_self (List.getElem?_eq_some_iff.mp hr).1] at h2
      cases h2
      exact ⟨gb3, _, upd_same, rb3.set rv J.toNat⟩
    · rw [List.getElem?_set_ne (Ne.symm hk)] at h2
      obtain ⟨q1, ys, q2, q3⟩ := z.2.2.2.2 k c es h1 h2
      refine ⟨q1, ys, ?_, q3⟩
      rw [upd_ne fun z => hk ?_]
      · exact q2
      · have e4 : bs[k]? = bs[I.toNat]? := by rw [h1, hbk, z]
        exact (List.getElem?_inj (List.getElem?_eq_some_iff.mp h1).1 nd.2).mp e4
  have hm : b ∈ owns Γ3 := own_mem hn3 (by simp [own1, hbm])
  have o3 : ∀ x, x ∈ owns Γ3 → x ∈ owns Γ := fun x m => h.own x (hb.own x (hc.own x m))
  refine ⟨b, xs3, J, J.toNat, rfl, r3.intE, hxb3, hix, k1 _ σ G3 _ p ⟨?_, fun x m => .inl (o3 x ?_), s4⟩⟩
  · exact ((n1.trans n2 (mo h.own)).trans n3 (mo fun x m => h.own x (hb.own x m))).trans (new_set (M := fun x => x = b) n3.i gb3 rfl _) fun x m => by subst m; exact .inl (o3 _ hm)
  · rcases owns_set_sub m with z | z
    · exact own_mem hn3 z
    · exact z
theorem ev_lenN {i : Nat} {a : Addr} {bs : List Addr} {rows : List (List PyData)} (h : Γ[i]? = some (.nst a bs rows)) : Ev (tCB (rLenS K) (tCons (tVar i) tNil)) Γ Γ (.int (rows.length : Int)) := ⟨fun _ z => z, fun σ G H e s Q q => by
  obtain ⟨o, e1, rfl, ng, hx, rn⟩ := s.at_ i _ h
  refine ⟨_, e1, a, _, rfl, .inl (SqL.of hx), ?_⟩
  rw [List.length_map, rn.1]
  exact q _ G H (NewM.refl e) s (.int _)⟩
theorem ee_tup {W : WX} {tr : TA} {x : Xc} (h : EvEA tr W Γ Γ1 x) : EvE (tTup tr) W Γ Γ1 x := ⟨h.own, fun σ G H e s k Q => h.run σ G H e s k _⟩
theorem ee_fld {W : WX} {ta : TE} {f : Str} {x : Xc} (h : EvE ta W Γ Γ1 x) : EvE (tFld K ta f) W Γ Γ1 x := ⟨h.own, fun σ G H e s k Q => h.run σ G H e s k _⟩
end
end Fd

set_option Elab.async false
set_option maxRecDepth 100000
set_option maxHeartbeats 2000000
namespace My
open PySem PyProof.Rows L2 Fd Lin
def topS (i : Nat) : Stmt := PySem.Challenge.pw_algebraparts_k00_numbers.main.body.getD i (.Pass ⟨0, 0, 0, 0⟩)
local macro_rules | `(tactic| walk_at "ev") => `(tactic| first
  | exact ev_var rfl | exact ev_int | exact ev_bl | exact ev_non | exact ev_str
  | (apply ev_I0; walk_at "ev"; walk_at "ev")
  | (apply ev_I; walk_at "ev"; walk_at "ev"; walk_at "sd")
  | (apply ev_B0; walk_at "ev"; walk_at "ev")
  | (apply ev_un; walk_at "ev")
  | (apply ev_eqI; walk_at "ev"; walk_at "ev")
  | (apply ev_neI; walk_at "ev"; walk_at "ev")
  | (apply ev_toInt; walk_at "ev")
  | (apply ev_toIntB; walk_at "ev")
  | (apply x_ixC; rfl; walk_at "ev"; rfl; walk_at "sd"; rfl)
  | (apply x_ixR; walk_at "ev"; walk_at "ev"; walk_at "sd"; walk_at "sd")
  | (apply x_ixT; walk_at "ev"; walk_at "ev"; walk_at "sd"; rfl)
  | (apply x_ixL; walk_at "ev"; walk_at "ev"; walk_at "sd"; rfl)
  | (apply ev_lenT; walk_at "ev")
  | (apply ev_lenL; walk_at "ev")
  | (apply ev_tup; walk_at "ea"; (simp; done)))
local macro_rules | `(tactic| walk_at "ea") => `(tactic| first | exact ea_nil | (apply ea_cons; walk_at "ev"; walk_at "ea"))
local macro_rules | `(tactic| walk_at "sd") => `(tactic| first | assumption | decide | omega | (show _ < _; decide) | exact ⟨by omega, by omega⟩ | exact Or.inr ⟨by decide, by decide⟩ | exact Or.inr ⟨by omega, by omega⟩ | exact Or.inl ⟨by omega, by omega⟩ | exact ⟨by decide, by decide⟩)

section
variable {PP : Program} {w : World} {K : PySem.W.Frag} {mg : Str → Option Value} {base : Heap}
def preScaled : List PyData → PyData → Prop := fun ds d => ∃ v a p, Pr p ∧ v.length ≤ 1000 ∧ (∀ x, x ∈ v → 0 ≤ x ∧ x < p) ∧ ds = [dR v, .int a, .int p] ∧ d = dR (scaledR v a p)
def preLess : List PyData → PyData → Prop := fun ds d => ∃ v w a p, 0 < p ∧ p ≤ 7 ∧ v.length ≤ 1000 ∧ 0 ≤ a ∧ a < p ∧ ds = [dR v, dR w, .int a, .int p] ∧ d = dR (lessR v w a p)
theorem zip_rows : ∀ (v w : List Int), zipD (v.map .int) (w.map .int) = (v.zip w).map fun e => .tuple [.int e.1, .int e.2]
  | [], w => by simp [zipD]
  | v, [] => by cases v <;> simp [zipD]
  | a :: v, b :: w => by
    have := zip_rows v w
    unfold zipD at this ⊢
    simp only [List.map_cons, List.zip_cons_cons] at this ⊢
    rw [this]
def preFirst : List PyData → PyData → Prop := fun ds d => ∃ v : Row, v.length ≤ 1000 ∧ ds = [dR v] ∧ d = .int (fpR v : Nat)
def restOk (p : Int) (n : Nat) (space : List Row) (v : Row) : Prop := ∃ D : Dic, Red p n D ∧ space = D.map (·.2) ∧ Rw p n v
def preRest : List PyData → PyData → Prop := fun ds d => ∃ p n space v, Pr p ∧ n ≤ 100 ∧ restOk p n space v ∧ ds = [dRt space, dR v, .int p] ∧ d = dR (restR space v p)
def preHolds : List PyData → PyData → Prop := fun ds d => ∃ p n space v, Pr p ∧ n ≤ 100 ∧ restOk p n space v ∧ ds = [dRt space, dR v, .int p] ∧ d = .bool (decide (restR space v p = zeroR n))
end
end My


set_option Elab.async false
set_option maxRecDepth 100000
set_option maxHeartbeats 2000000
namespace My
open PySem PyProof.Rows L2 Fd Lin
local macro_rules | `(tactic| walk_at "ev") => `(tactic| first
  | exact ev_var rfl | exact ev_int | exact ev_bl | exact ev_non | exact ev_str
  | (apply ev_I0; walk_at "ev"; walk_at "ev")
  | (apply ev_I; walk_at "ev"; walk_at "ev"; walk_at "sd")
  | (apply ev_B0; walk_at "ev"; walk_at "ev")
  | (apply ev_un; walk_at "ev")
  | (apply ev_eqI; walk_at "ev"; walk_at "ev")
  | (apply ev_neI; walk_at "ev"; walk_at "ev")
  | (apply ev_toInt; walk_at "ev")
  | (apply ev_toIntB; walk_at "ev")
  | (apply x_ixC; rfl; walk_at "ev"; rfl; walk_at "sd"; rfl)
  | (apply x_ixR; walk_at "ev"; walk_at "ev"; walk_at "sd"; walk_at "sd")
  | (apply x_ixT; walk_at "ev"; walk_at "ev"; walk_at "sd"; rfl)
  | (apply x_ixL; walk_at "ev"; walk_at "ev"; walk_at "sd"; rfl)
  | (apply ev_lenT; walk_at "ev")
  | (apply ev_lenL; walk_at "ev")
  | (apply ev_tup; walk_at "ea"; (simp; done)))
local macro_rules | `(tactic| walk_at "ea") => `(tactic| first | exact ea_nil | (apply ea_cons; walk_at "ev"; walk_at "ea"))
local macro_rules | `(tactic| walk_at "sd") => `(tactic| first | assumption | decide | omega | (show _ < _; decide) | exact ⟨by omega, by omega⟩ | exact Or.inr ⟨by decide, by decide⟩ | exact Or.inr ⟨by omega, by omega⟩ | exact Or.inl ⟨by omega, by omega⟩ | exact ⟨by decide, by decide⟩)

section
variable {PP : Program} {w : World} {K : PySem.W.Frag} {mg : Str → Option Value} {base : Heap}
def preInv : List PyData → PyData → Prop := fun ds d => ∃ a p, Pr p ∧ a % p ≠ 0 ∧ ds = [.int a, .int p] ∧ d = .int (inv a p)
abbrev s_inverse : Stmt := topS 10
theorem sc_inverse : FnScope ["a", "p", "b"] ["a", "p"] (defScope s_inverse) := ⟨rfl, rfl, rfl, by decide +kernel, rfl, by decide +kernel, by decide +kernel⟩
theorem cal_inverse {nm : Str} (B : Bi mg)  (D : DfnA K mg nm "inverse" s_inverse) : Cal PP w K mg base nm 1 ["a", "p"] (spP preInv) := by
  obtain ⟨f, fd, F, hm⟩ := D.ex
  refine ⟨f, fd, ?_, hm, F.kp, F.binds fun _ _ _ _ _ _ us hl => match us, hl with | [_, _], _ => rfl⟩
  refine def_ok F sc_inverse ?_ fun cdv A outer s H E hr => ?_
  · intro ds d h
    obtain ⟨a, p, _, _, rfl, rfl⟩ := h
    rfl
  refine ⟨_, pss_cons (ps_for PassesOwn.never rfl (pi_range2 (by rfl) B.range (pa_cons (pe_int) (pa_cons (pv 1) pa_nil))) (pg_name (i := 2) sc_inverse.nd rfl (by first | exact Or.inl rfl | exact Or.inr rfl)) (pss_one (ps_if (pt_cmpR op_eq (pe_op op_mod (pe_op op_mul (pv 0) (pv 2)) (pv 1)) (pe_int) (nomark _)) (pss_one (ps_ret (pv 2))) (pss_nil))))
      (pss_one (ps_never)), ?_⟩
  rintro _ _ ⟨a, p, hp, ha, rfl, rfl⟩
  have h0 := hp.pos
  have h7 := hp.le
  obtain ⟨i1, i2, i3⟩ := inv_spec hp ha
  show StD _ [.dat (.int a), .dat (.int p), .un] _
  refine st_seq (fun _ => False) ?_ fun _ h => h.elim
  refine st_for (wk_rng2 ev_int (ev_var rfl) (by omega) (by omega) (by omega) (by omega)) (fun i Γ => (∀ k : Nat, k < i → (1 + (k : Int)) ≠ inv a p) ∧ ∃ b, Γ = [.dat (.int a), .dat (.int p), b]) ⟨fun k hk => by omega, _, rfl⟩ ?_ ?_
  · rintro i d _ hd ⟨hn, b, rfl⟩
    have hi : i < (p - 1).toNat := by
      have := (List.getElem?_eq_some_iff.mp hd).1
      rwa [rg_len] at this
    rw [rg_get hi] at hd
    cases hd
    refine ⟨_, _, tg_name (by simp), st_if (et_test (by walk_at "ev")) (fun hb => ?_) fun hb => ?_⟩
    · have hb : a * (1 + (i : Int)) % p = 1 := of_decide_eq_true hb
      refine st_ret (ev_var rfl) ?_
      show PyData.int _ = PyData.int _
      rw [inv_uniq hp ⟨i1, i2⟩ ⟨by omega, by omega⟩ i3 hb]
    · have hb : ¬ a * (1 + (i : Int)) % p = 1 := of_decide_eq_false hb
      refine st_next ⟨fun k hk => ?_, _, rfl⟩
      rcases Nat.lt_succ_iff_lt_or_eq.mp hk with h | h
      · exact hn k h
      · rw [h]
        intro e
        rw [e] at hb
        exact hb i3
  · rintro _ ⟨hn, b, rfl⟩
    rw [rg_len] at hn
    exact hn (inv a p - 1).toNat (by omega) (by omega)
def dicOk (p : Int) (n : Nat) (D : Dic) : Prop := (∀ e, e ∈ D → e.1 < n ∧ Rw p n e.2) ∧ (D.map (·.1)).Nodup
def preClr : List (Int × PyData) → List PyData → PyData → Prop := fun kvs ds d => ∃ p n D v, Pr p ∧ n ≤ 100 ∧ dicOk p n D ∧ Rw p n v ∧ kvs = encD D ∧ ds = [dR v, .int p] ∧ d = dR (clearedR D v p)
theorem clr_rw {p : Int} {n : Nat} (hp : 0 < p) : ∀ (D : Dic) (v : Row), (∀ e, e ∈ D → e.1 < n ∧ Rw p n e.2) → Rw p n v → Rw p n (clearedR D v p)
  | [], v, _, hv => hv
  | e :: D, v, h, hv => clr_rw hp D (clr p v e) (fun f hf => h f (List.mem_cons_of_mem _ hf)) (clr_is hp hv (h e (by simp)).2).rw_
end
end My


set_option Elab.async false
set_option maxRecDepth 100000
set_option maxHeartbeats 2000000
namespace My
open PySem PyProof.Rows L2 Fd Lin
local macro_rules | `(tactic| walk_at "ev") => `(tactic| first
  | exact ev_var rfl | exact ev_int | exact ev_bl | exact ev_non | exact ev_str
  | (apply ev_I0; walk_at "ev"; walk_at "ev")
  | (apply ev_I; walk_at "ev"; walk_at "ev"; walk_at "sd")
  | (apply ev_B0; walk_at "ev"; walk_at "ev")
  | (apply ev_un; walk_at "ev")
  | (apply ev_eqI; walk_at "ev"; walk_at "ev")
  | (apply ev_neI; walk_at "ev"; walk_at "ev")
  | (apply ev_toInt; walk_at "ev")
  | (apply ev_toIntB; walk_at "ev")
  | (apply x_ixC; rfl; walk_at "ev"; rfl; walk_at "sd"; rfl)
  | (apply x_ixR; walk_at "ev"; walk_at "ev"; walk_at "sd"; walk_at "sd")
  | (apply x_ixT; walk_at "ev"; walk_at "ev"; walk_at "sd"; rfl)
  | (apply x_ixL; walk_at "ev"; walk_at "ev"; walk_at "sd"; rfl)
  | (apply ev_lenT; walk_at "ev")
  | (apply ev_lenL; walk_at "ev")
  | (apply ev_tup; walk_at "ea"; (simp; done)))
local macro_rules | `(tactic| walk_at "ea") => `(tactic| first | exact ea_nil | (apply ea_cons; walk_at "ev"; walk_at "ea"))
local macro_rules | `(tactic| walk_at "sd") => `(tactic| first | assumption | decide | omega | (show _ < _; decide) | exact ⟨by omega, by omega⟩ | exact Or.inr ⟨by decide, by decide⟩ | exact Or.inr ⟨by omega, by omega⟩ | exact Or.inl ⟨by omega, by omega⟩ | exact ⟨by decide, by decide⟩)

section
variable {PP : Program} {w : World} {K : PySem.W.Frag} {mg : Str → Option Value} {base : Heap}
def keysD (D : Dic) : PyData := .tuple ((D.map (·.1)).map fun (k : Nat) => PyData.int (k : Int))
def preRed : List PyData → PyData → Prop := fun ds d => ∃ t p n rows, Pr p ∧ n ≤ 100 ∧ rows.length ≤ 60 ∧ (∀ r, r ∈ rows → Rw p n r) ∧ ds = [dSeq t (rows.map dR), .int (n : Nat), .int p] ∧ d = .tuple [dRt ((tabR p n rows).map (·.2)), keysD (tabR p n rows)]
theorem dicOf_len (p : Int) (n : Nat) : ∀ (rows : List Row) (D : Dic), (rows.foldl (takeIn p n) D).length ≤ D.length + rows.length
  | [], D => by simp
  | r :: rows, D => by
    have h := dicOf_len p n rows (takeIn p n D r)
    have h1 : (takeIn p n D r).length ≤ D.length + 1 := by
      unfold takeIn
      dsimp only
      split
      · simp
      · omega
    simp only [List.foldl_cons, List.length_cons]
    omega
theorem take_next {α : Type} {l : List α} {i : Nat} {a : α} (h : l[i]? = some a) : l.take (i + 1) = l.take i ++ [a] := by
  rw [List.take_succ, h]; rfl
theorem drop_here {α : Type} {l : List α} {i : Nat} {a : α} (h : l[i]? = some a) : l.drop i = a :: l.drop (i + 1) := by
  obtain ⟨hi, rfl⟩ := List.getElem?_eq_some_iff.mp h
  rw [List.drop_eq_getElem_cons hi]
def half (u : Nat × Row → Nat × Row) (D : Dic) (i : Nat) : Dic := (D.take i).map u ++ D.drop i
theorem half_keys {u : Nat × Row → Nat × Row} (hu : ∀ e, (u e).1 = e.1) (D : Dic) (i : Nat) : (half u D i).map (·.1) = D.map (·.1) := by
  unfold half
  rw [List.map_append, List.map_map]
  conv => rhs; rw [← List.take_append_drop i D, List.map_append]
  congr 1
  exact List.map_congr_left fun e _ => hu e
theorem lookD_keys {D : Dic} (nd : (D.map (·.1)).Nodup) {q : Nat} (h : q ∈ D.map (·.1)) : (q, lookD D q) ∈ D := by
  obtain ⟨e, he, rfl⟩ := List.mem_map.mp h
  rw [lookD_of nd he]
  exact he
def preSpan : List PyData → PyData → Prop := fun ds d => ∃ t p n rows, Pr p ∧ n ≤ 100 ∧ rows.length ≤ 60 ∧ (∀ r, r ∈ rows → Rw p n r) ∧ ds = [dSeq t (rows.map dR), .int (n : Nat), .int p] ∧ d = dRt ((tabR p n rows).map (·.2))
end
end My


set_option Elab.async false
set_option maxRecDepth 100000
set_option maxHeartbeats 2000000
namespace My
open PySem PyProof.Rows L2 Fd Lin
local macro_rules | `(tactic| walk_at "ev") => `(tactic| first
  | exact ev_var rfl | exact ev_int | exact ev_bl | exact ev_non | exact ev_str
  | (apply ev_I0; walk_at "ev"; walk_at "ev")
  | (apply ev_I; walk_at "ev"; walk_at "ev"; walk_at "sd")
  | (apply ev_B0; walk_at "ev"; walk_at "ev")
  | (apply ev_un; walk_at "ev")
  | (apply ev_eqI; walk_at "ev"; walk_at "ev")
  | (apply ev_neI; walk_at "ev"; walk_at "ev")
  | (apply ev_toInt; walk_at "ev")
  | (apply ev_toIntB; walk_at "ev")
  | (apply x_ixC; rfl; walk_at "ev"; rfl; walk_at "sd"; rfl)
  | (apply x_ixR; walk_at "ev"; walk_at "ev"; walk_at "sd"; walk_at "sd")
  | (apply x_ixT; walk_at "ev"; walk_at "ev"; walk_at "sd"; rfl)
  | (apply x_ixL; walk_at "ev"; walk_at "ev"; walk_at "sd"; rfl)
  | (apply ev_lenT; walk_at "ev")
  | (apply ev_lenL; walk_at "ev")
  | (apply ev_tup; walk_at "ea"; (simp; done)))
local macro_rules | `(tactic| walk_at "ea") => `(tactic| first | exact ea_nil | (apply ea_cons; walk_at "ev"; walk_at "ea"))
local macro_rules | `(tactic| walk_at "sd") => `(tactic| first | assumption | decide | omega | (show _ < _; decide) | exact ⟨by omega, by omega⟩ | exact Or.inr ⟨by decide, by decide⟩ | exact Or.inr ⟨by omega, by omega⟩ | exact Or.inl ⟨by omega, by omega⟩ | exact ⟨by decide, by decide⟩)

section
variable {PP : Program} {w : World} {K : PySem.W.Frag} {mg : Str → Option Value} {base : Heap}
abbrev s__law_state : Stmt := topS 12
theorem sc__law_state : FnScope ["script", "seed", "total", "cell"] ["script"] (defScope s__law_state) := ⟨rfl, rfl, rfl, by decide +kernel, rfl, by decide +kernel, by decide +kernel⟩
theorem cal__law_state {nm : Str} (B : Bi mg)  (D : DfnA K mg nm "_law_state" s__law_state) : Cal PP w K mg base nm 1 ["script"] (spState K) := by
  obtain ⟨f, fd, F, hm⟩ := D.ex
  refine ⟨f, fd, ?_, hm, F.kp, F.binds fun _ _ _ _ _ _ us hl => match us, hl with | [_], _ => rfl⟩
  refine F.ok sc__law_state (fun vs H Q E h => ?_) fun cdv A outer s H vs Q E hr h => ?_
  · skip
    obtain ⟨a, ns, rfl, _⟩ := h
    rfl
  refine ⟨_, pss_cons (ps_set (i := 1) sc__law_state.nd rfl (by first | exact Or.inl rfl | exact Or.inr rfl) (pe_int))
      (pss_cons (ps_set (i := 2) sc__law_state.nd rfl (by first | exact Or.inl rfl | exact Or.inr rfl) (pe_int))
      (pss_cons (ps_for PassesOwn.never rfl (k_piL (K := K) rfl (pe_slice (k_slL (K := K) rfl) (pv 0) (po_none) (po_some (pe_int)))) (pg_name (i := 3) sc__law_state.nd rfl (by first | exact Or.inl rfl | exact Or.inr rfl)) (pss_cons (ps_set (i := 1) sc__law_state.nd rfl (by first | exact Or.inl rfl | exact Or.inr rfl) (pe_op op_add (pe_op op_mul (pv 1) (pe_int)) (pe_callB k_abs (by rfl) B.abs boot_abs (pa_cons (pv 3) pa_nil))))
      (pss_one (ps_set (i := 2) sc__law_state.nd rfl (by first | exact Or.inl rfl | exact Or.inr rfl) (pe_op op_mod (pe_callTy k_int1 (by rfl) B.int boot_int (pa_cons (pe_op op_add (pe_op op_mul (pv 2) (pe_int)) (pv 3)) pa_nil)) (pe_int))))))
      (pss_one (ps_ret (pe_lst (pa_cons (pv 1) (pa_cons (pv 2) pa_nil))))))), ?_⟩
  obtain ⟨a, ns, rfl, hS, hlen, k⟩ := h
  exact tState_ok hS hlen k
abbrev s__law_take : Stmt := topS 13
theorem sc__law_take : FnScope ["state", "m", "value"] ["state", "m"] (defScope s__law_take) := ⟨rfl, rfl, rfl, by decide +kernel, rfl, by decide +kernel, by decide +kernel⟩
theorem cal__law_take {nm : Str} (B : Bi mg)  (D : DfnA K mg nm "_law_take" s__law_take) : Cal PP w K mg base nm 1 ["state", "m"] (spS preTake) := by
  obtain ⟨f, fd, F, hm⟩ := D.ex
  refine ⟨f, fd, ?_, hm, F.kp, F.binds fun _ _ _ _ _ _ us hl => match us, hl with | [_, _], _ => rfl⟩
  refine defS_ok F sc__law_take ?_ fun cdv A outer s H E hr => ?_
  · intro ss ds d ss' h
    obtain ⟨st, m, _, _, rfl, rfl, rfl, rfl⟩ := h
    rfl
  refine ⟨_, pss_cons (ps_if (pt_cmpR op_gt (pe_ix (k_ixL (K := K) rfl) (pv 0) (pe_int) (fun _ _ => rfl)) (pe_int) (nomark _)) (pss_cons (ps_set (i := 2) sc__law_take.nd rfl (by first | exact Or.inl rfl | exact Or.inr rfl) (pe_op op_mod (pe_callTy k_int1 (by rfl) B.int boot_int (pa_cons (pe_ix (k_ixL (K := K) rfl) (pv 0) (pe_int) (fun _ _ => rfl)) pa_nil)) (pv 1)))
      (pss_cons (ps_asg (pe_op op_fdiv (pe_ix (k_ixL (K := K) rfl) (pv 0) (pe_int) (fun _ _ => rfl)) (pv 1)) (pg_sub (pv 0) (pe_int) set_list))
      (pss_one (ps_ret (pv 2))))) (pss_nil))
      (pss_cons (ps_asg (pe_op op_mod (pe_callTy k_int1 (by rfl) B.int boot_int (pa_cons (pe_op op_add (pe_op op_mul (pe_ix (k_ixL (K := K) rfl) (pv 0) (pe_int) (fun _ _ => rfl)) (pe_int)) (pe_int)) pa_nil)) (pe_int)) (pg_sub (pv 0) (pe_int) set_list))
      (pss_one (ps_ret (pe_op op_mod (pe_callTy k_int1 (by rfl) B.int boot_int (pa_cons (pe_op op_fdiv (pe_ix (k_ixL (K := K) rfl) (pv 0) (pe_int) (fun _ _ => rfl)) (pe_int)) pa_nil)) (pv 1))))), ?_⟩
  rintro a _ _ _ _ ⟨st, m, h0, h1, rfl, rfl, rfl, rfl⟩
  show StD _ [.cell a [.int st.1, .int st.2], .dat (.int m), .un] _
  refine st_seq (fun Γ' => ¬ 0 < st.1 ∧ Γ' = [.cell a [.int st.1, .int st.2], .dat (.int m), .un]) ?_ ?_
  · refine st_if (et_test (by walk_at "ev")) (fun hb => ?_) fun hb => st_next ⟨of_decide_eq_false hb, rfl⟩
    have hb := of_decide_eq_true hb
    refine st_then (st_set (by walk_at "ev") (by simp) rfl) (st_then (s_item (by walk_at "ev") rfl (by walk_at "ev") rfl (by decide) (by simp) rfl) (st_ret (by walk_at "ev") ⟨?_, ?_⟩))
    · unfold take; rw [if_pos hb]
    · unfold take; rw [if_pos hb]; rfl
  · rintro _ ⟨hb, rfl⟩
    refine st_then (s_item (by walk_at "ev") rfl (by walk_at "ev") rfl (by decide) (by simp) rfl) (st_ret (by walk_at "ev") ⟨?_, ?_⟩)
    · unfold take; rw [if_neg hb]
    · unfold take; rw [if_neg hb]; rfl
def preSum : List PyData → PyData → Prop := fun ds d => ∃ v w p, 0 < p ∧ v.length ≤ w.length ∧ v.length ≤ 1000 ∧ ds = [dR v, dR w, .int p] ∧ d = dR (sumR v w p)
def preScaleL : List PyData → PyData → Prop := fun ds d => ∃ v a p, 0 < p ∧ -20 < a ∧ a < 20 ∧ v.length ≤ 1000 ∧ ds = [dR v, .int a, .int p] ∧ d = dR (scaleL v a p)
def preZero : List PyData → PyData → Prop := fun ds d => ∃ n : Nat, n ≤ 1000 ∧ ds = [.int (n : Nat)] ∧ d = dR (zeroR n)
/-- a row, drawn -/
abbrev elemS (p : Int) (n : Nat) (s : Int × Int) : Row × (Int × Int) := steps (fun s => take s p) n s
theorem elemS_rw {p : Int} {n : Nat} {s : Int × Int} (hp : 0 < p) : Rw p n (elemS p n s).1 := ⟨stepV_len (fun s => take s p) n s, fun x hx => by
  obtain ⟨s', rfl⟩ := stepV_mem (f := fun s => take s p) (n := n) (s := s) hx
  exact take_bd s' hp⟩
def preElem : List PyData → List PyData → PyData → List PyData → Prop := fun ss ds d ss' => ∃ st p n, 0 < p ∧ p < 1073741824 ∧ n ≤ 1000 ∧ ss = dS st ∧ ds = [.int p, .int (n : Nat)] ∧ d = dR (elemS p n st).1 ∧ ss' = dS (elemS p n st).2
def preRows : List PyData → List PyData → PyData → List PyData → Prop := fun ss ds d ss' => ∃ st p n most, 0 < p ∧ p < 1073741824 ∧ n ≤ 1000 ∧ 0 ≤ most ∧ most ≤ 100 ∧ ss = dS st ∧ ds = [.int p, .int (n : Nat), .int most] ∧
  d = dRs (stepV (elemS p n) (take st (most + 1)).1.toNat (take st (most + 1)).2) ∧ ss' = dS (stepS (elemS p n) (take st (most + 1)).1.toNat (take st (most + 1)).2)
def primeOf (i : Int) : Int := [2, 2, 3, 3, 5, 7].getD i.toNat 0
theorem primeOf_pr {i : Int} (h0 : 0 ≤ i) (h1 : i < 6) : Pr (primeOf i) := by
  unfold primeOf Pr
  have : i = 0 ∨ i = 1 ∨ i = 2 ∨ i = 3 ∨ i = 4 ∨ i = 5 := by omega
  rcases this with rfl | rfl | rfl | rfl | rfl | rfl <;> decide
def prePrime : List PyData → List PyData → PyData → List PyData → Prop := fun ss ds d ss' => ∃ st, ss = dS st ∧ ds = [] ∧ d = .int (primeOf (take st 6).1) ∧ ss' = dS (take st 6).2
theorem grow_all_rw {p : Int} {n : Nat} (hp : Pr p) {rows : List Row} (hr : ∀ r, r ∈ rows → Rw p n r) {x : Row} (h : x ∈ foundL p n rows) : Rw p n x :=
  ((foundL_all hp hr).1 x |>.mp h).rw_ (by have := hp.pos; omega) hr
theorem foundL_len {p : Int} {n : Nat} (hp : 0 < p) : ∀ rows : List Row, (foundL p n rows).length ≤ p.toNat ^ rows.length := fun rows => by
  have key : ∀ (rows : List Row) (l : List Row), (rows.foldl (grow p) l).length ≤ l.length * p.toNat ^ rows.length := fun rows => by
    induction rows with
    | nil => intro l; simp
    | cons r rows ih =>
      intro l
      rw [List.foldl_cons, List.length_cons]
      refine Nat.le_trans (ih _) ?_
      have hp1 : 1 ≤ p.toNat := by omega
      have h1 : (grow p l r).length ≤ l.length * p.toNat := by
        rcases grow_len p l r with h | h
        · omega
        · rw [h]; exact Nat.le_mul_of_pos_right _ hp1
      calc _ ≤ (l.length * p.toNat) * p.toNat ^ rows.length := Nat.mul_le_mul_right _ h1
        _ = _ := by rw [Nat.pow_succ, Nat.mul_assoc, Nat.mul_comm p.toNat]
  have := key rows [zeroR n]
  rw [List.length_singleton, Nat.one_mul] at this
  exact this
def preLSpan : List PyData → PyData → Prop := fun ds d => ∃ t p n rows, Pr p ∧ n ≤ 1000 ∧ p.toNat ^ rows.length ≤ 20000 ∧ (∀ r, r ∈ rows → Rw p n r) ∧ ds = [dSeq t (rows.map dR), .int (n : Nat), .int p] ∧ d = dRs (sortR p (foundL p n rows))
end
end My


set_option Elab.async false
set_option maxRecDepth 100000
set_option maxHeartbeats 2000000
namespace My
open PySem PySem.Spec PyProof.Rows L2 Fd PySem.W NdefX
section
variable {PP : Program} {w : World} {K : PySem.W.Frag} {mg : Str → Option Value} {base : Heap}
abbrev s_Refused___init__ : Stmt := inClass (topS 3) 0
abbrev nf_Refused (cc c : Addr) : NF := ⟨"__init__", "Refused.__init__", defArgs s_Refused___init__, defBody s_Refused___init__, defScope s_Refused___init__, [(("__class__" : Str), cc)], c⟩
theorem ok_Refused {fd : FuncData} {f C cc c : Addr} (R : RefC PP K mg (nf_Refused cc c) fd f C cc "reason") : FnOk PP w K mg base CX0 1 f fd ["self", "reason"] (spRef C "reason" okS) := by
  refine ref_ok (k := 0) (tt := fun σ H Q => tJs [tC (.str "refused: "), tFmt (tVar 1)] Str.empty σ H fun out H1 => Q (.str out) H1) R (by decide) (by decide) rfl (fun A outer s H E => pe_joined (.cons pe_str (.cons (pe_fmt (pe_var rfl (.inl rfl) (by decide) (by decide))) .nil))) (fun a y H Q hy k => ?_) (fun _ => rfl) (fun _ => ⟨_, _, rfl⟩) (fun _ h => ?_) (fun _ _ _ _ _ => rfl) (fun _ => rfl)
  · obtain ⟨m, rfl, hm⟩ := hy
    have hl : (Str.empty ++ Str.ofString "refused: " ++ m).length ≤ sizeLine := by
      rw [Str.length_append]
      have : (Str.empty ++ Str.ofString "refused: ").length ≤ 100 := by decide
      rw [sizeLine_eq]
      omega
    refine ⟨_, rfl, by decide, ?_⟩
    exact ⟨_, rfl, .inl ⟨m, rfl, by rw [sizeLine_eq]; omega, m, rfl, hl, k _⟩⟩
  · rfl
theorem refT_Refused {fd : FuncData} {f C cc c : Addr} (R : RefC PP K mg (nf_Refused cc c) fd f C cc "reason") (g : mg "Refused" = some (.ref C)) (h1 : PySem.W.findIn K (.ref C) "__init__" = some (some (.ref f))) (h2 : PySem.W.typeIn K (.ref f) = some (.type "function")) (B : Binds K fd ["self", "reason"] []) (xf : XfC K C) (e : PySem.W.exmOne K (.ref C) (.ref C) = some true) : RefT PP w K mg base "Refused" C "reason" okS 1 := ⟨g, R.ox, ⟨f, fd, h1, h2, ok_Refused R, B⟩, xf, R.nf, e⟩
end
end My


set_option Elab.async false
set_option maxRecDepth 100000
set_option maxHeartbeats 4000000
/-! Fd42: isinstance of a caught error with fields; sorted of a list of integers; by data. -/
namespace Fd
open PySem PySem.Spec PyProof.Rows L2
/-- what isinstance and except ask of the error classes: R caught, F its base, M and N other ones -/
structure IsX (K : PySem.W.Frag) (mg : Str → Option Value) (R F M N : Addr) : Prop where
  gF : mg "Fault" = some (.ref F)
  gM : mg "Malformed" = some (.ref M)
  gN : mg "NoText" = some (.ref N)
  gV : mg "ValueError" = none
  eF : PySem.W.exmOne K (.ref R) (.ref F) = some true
  kV : PySem.W.kitOne K (.ref R) (.type "ValueError") = some true
  kM : PySem.W.kitOne K (.ref R) (.ref M) = some false
  kN : PySem.W.kitOne K (.ref R) (.ref N) = some false
  ha : PySem.W.findIn K (.ref R) "__class__" = some (some (.builtin "object.__class__"))
  hn : PySem.W.specialIn K (.builtin "object.__class__") "__get__" = some (some (.builtin "getset_descriptor.__get__"))
  ht : PySem.W.takesIn K (.builtin "object.__class__") = some true
  hm : PySem.W.mroIn K R (.type "object") = some true
/-- isinstance(e, c), e the exception that the suite holds -/
def rIsEd (K : PySem.W.Frag) (C a : Addr) (cls : Value) (d : Option Addr) : List V → Hp → VK → Prop := fun xs H Q => ∃ (c : V) (u : Value) (b : Bool) (dd : Addr) (fs : List (Str × V)), xs = [.ref a, c] ∧ cls = .ref C ∧ d = some dd ∧ H dd = some (.xd fs) ∧ ClsV c u ∧ PySem.W.kitOne K (.ref C) u = some b ∧ Q (.bl b) H
/-- isinstance(e, (c1, c2, ..)) -/
def rIsEt (K : PySem.W.Frag) (C a : Addr) (cls : Value) (d : Option Addr) : List V → Hp → VK → Prop := fun xs H Q => ∃ (tp : Addr) (cs : List V) (us : List Value) (b : Bool) (dd : Addr) (fs : List (Str × V)), xs = [.ref a, .ref tp] ∧ cls = .ref C ∧ d = some dd ∧ H dd = some (.xd fs) ∧ H tp = some (.tup cs) ∧ Paired ClsV cs us ∧ PySem.W.kitAny K (.ref C) us = some b ∧ Q (.bl b) H
section
variable {X : Cx} {C F M N a : Addr} {oe : Obj} {cls : Value} {d : Option Addr} {pn pins : List (Addr × Obj)} {s : Shared} {σ : L2.St} {H : Hp}
theorem kitx_of_held (T : XfC X.K C) (I : IsX X.K X.mg C F M N) {od : Option Obj} : PySem.W.KitX X.K (.ref a) (.ref C) (fun h => PySem.W.InstAt h a oe C od) := by
  obtain ⟨cd, hc, _⟩ := PySem.W.any_some T.hdC
  exact PySem.W.kitx_exc (by rw [hc]; rfl) T.ga T.gg T.exC I.ha I.hn I.ht I.hm
theorem inst_of_held {dd : Addr} {fs : List (Str × V)} (J : Inv (X.suite a ((a, oe) :: pn)) pins σ H s) (hz : Zc (.ref C) (some dd) oe) (hf : ∃ vs, oe.data = .fields vs) (h : H dd = some (.xd fs)) : ∃ od, PySem.W.InstAt s.heap a oe C (some od) := by
  obtain ⟨ha, _⟩ := J.pin (a, oe) (List.mem_append_left _ List.mem_cons_self)
  obtain ⟨vs, hd⟩ := hf
  obtain ⟨mA, hns, _⟩ := (show ObjOk X.prog X.w H s.heap dd (.xd fs) from J.hok dd _ h)
  obtain ⟨od, ho, _⟩ := lookIn_ns hns
  exact ⟨od, ha, hz.1, by unfold PySem.W.notCls; rw [hd] <;> rfl, by rw [hz.2]; exact ho⟩
theorem call_isEd (T : XfC X.K C) (IX : IsX X.K X.mg C F M N) (hz : Zc cls d oe) (hf : ∃ vs, oe.data = .fields vs) : CallR (X.suite a ((a, oe) :: pn)) (.builtin "isinstance") (rIsEd X.K C a cls d) := by
  intro pins s σ H xs us Q I r h
  obtain ⟨c, u, b, dd, fs, rfl, rfl, rfl, hd, k, e, q⟩ := h
  obtain ⟨u1, u2, rfl, r1, r2⟩ := vals2 r
  cases (show u1 = Value.ref a from r1)
  have e2 := k.eq r2
  subst e2
  obtain ⟨od, J⟩ := inst_of_held I hz hf hd
  exact PySem.W.kia_one (kitx_of_held T IX) I.kIn J e (fun z => nomatch z) fun tk => ⟨.bl b, H, I.tok tk, rfl, q⟩
theorem call_isEt (T : XfC X.K C) (IX : IsX X.K X.mg C F M N) (hz : Zc cls d oe) (hf : ∃ vs, oe.data = .fields vs) : CallR (X.suite a ((a, oe) :: pn)) (.builtin "isinstance") (rIsEt X.K C a cls d) := by
  intro pins s σ H xs us Q I r h
  obtain ⟨tp, cs, ws, b, dd, fs, rfl, rfl, rfl, hd, hT, k, e, q⟩ := h
  obtain ⟨u1, u2, rfl, r1, r2⟩ := vals2 r
  cases (show u1 = Value.ref a from r1)
  cases (show u2 = Value.ref tp from r2)
  obtain ⟨od, J⟩ := inst_of_held I hz hf hd
  obtain ⟨_, its, rv, o, h1, h2, n, h3⟩ := (show ObjOk X.prog X.w H s.heap tp (.tup cs) from I.hok tp _ hT)
  have e3 := ClsV.all k rv
  subst e3
  obtain ⟨oc, od', dt, sl⟩ := o
  simp only at h2 h3
  subst h2 h3
  exact PySem.W.kia_tup (kitx_of_held T IX) I.kIn J h1 e (fun z => nomatch z) fun tk => ⟨.bl b, H, I.tok tk, rfl, q⟩
end
section
variable {Γ Γ1 : En} {K : PySem.W.Frag} {a C : Addr} {d : Option Addr} {ks : List (PyData × PyData)} {i : Nat} {c : V} {u : Value} {b : Bool} {ta : TE}
theorem ev_isEd (h : Γ[i]? = some (slX a d ⟨.ref C, some ks⟩)) (k : ClsV c u) (e : PySem.W.kitOne K (.ref C) u = some b) : Ev (tCB (rIsEd K C a (.ref C) d) (tCons (tVar i) (tCons (tC c) tNil))) Γ Γ (.bool b) := ⟨fun _ z => z, fun σ G H e1 s Q q => by
  obtain ⟨o, e2, v, rfl, rfl, r⟩ := s.at_ i _ h
  obtain ⟨dd, vs, rfl, hd, rf⟩ := r
  exact ⟨_, e2, c, u, b, dd, vs, rfl, rfl, rfl, e1 _ _ hd, k, e, q _ G H (NewM.refl e1) s (.bl b)⟩⟩
theorem ev_isEt {c2 : V} {u2 : Value} (h : Γ[i]? = some (slX a d ⟨.ref C, some ks⟩)) (k : ClsV c u) (k2 : ClsV c2 u2) (e : PySem.W.kitAny K (.ref C) [u, u2] = some b) : Ev (tCB (rIsEt K C a (.ref C) d) (tCons (tVar i) (tCons (tTup (tCons (tC c) (tCons (tC c2) tNil))) tNil))) Γ Γ (.bool b) := ⟨fun _ z => z, fun σ G H e1 s Q q => by
  obtain ⟨o, e2, v, rfl, rfl, r⟩ := s.at_ i _ h
  obtain ⟨dd, vs, rfl, hd, rf⟩ := r
  refine ⟨_, e2, by rw [sizeLine_eq]; show 2 ≤ _; decide, fun p hp => ?_⟩
  have n2 := new_own (M := M0) e1 hp (.tup [c, c2])
  have hne : dd ≠ p := fun z => by subst z; rw [e1 _ _ hd] at hp; cases hp
  exact ⟨p, [c, c2], [u, u2], b, dd, vs, rfl, rfl, rfl, by rw [upd_ne hne]; exact e1 _ _ hd, upd_same, .cons k (.cons k2 .nil), e, q _ G _ ((NewM.refl e1).trans n2 fun _ z => z.elim) (s.ownNew e1 hp _) (.bl b)⟩⟩
theorem k_sortIL {X : Cx} (h : X.K = K) : CallR X (.builtin "sorted") (rSortedI K) := by subst h; exact cr_sortedI
theorem ec_sortI {ns out : List Int} (ha : Ev ta Γ Γ1 (.list (ns.map PyData.int))) (h : ∀ ns' : List Int, ns'.Perm ns → ns'.Pairwise (· ≤ ·) → ns' = out) : EvC (tCB (rSortedI K) (tCons ta tNil)) Γ Γ1 (out.map PyData.int) := ⟨ha.own, fun σ G H e s Q q => ha.run σ G H e s _ fun v G1 H1 n1 s1 r1 => by
  obtain ⟨a, xs, rfl, hx, rx⟩ := r1.lstE
  rw [rx.ints] at hx
  refine ⟨a, ns, rfl, SqL.of (n1.i _ _ hx), fun ns' p hp hl hn => ?_⟩
  obtain rfl := h ns' hp hl
  exact q p _ G1 _ (n1.trans (new_own (M := M0) n1.i hn _) fun _ z => z.elim) (s1.ownNew n1.i hn _) (none_back n1 hn) (same_none n1.i hn) upd_same RpAll.of_ints⟩
end
theorem perm_asc {l m : List Int} (p : l.Perm m) (hl : l.Pairwise (· ≤ ·)) (hm : m.Pairwise (· ≤ ·)) : l = m := perm_oneP (fun _ => True) (fun a b _ _ h1 h2 => Int.le_antisymm h1 h2) (fun _ _ => trivial) p hl hm
end Fd

set_option maxHeartbeats 1000000
/-! Lin9: sums and common parts of spaces, and their dimensions. -/
namespace Lin
section
variable {p : Int} {n : Nat} {D E : Dic} {x v w r : Row} {rows A B C : List Row} {R R' : Row → Prop}
/-- a row of the span of two lists is one of the first and one of the second, added -/
theorem sp_two (hp : 0 < p) (hA : ∀ r, r ∈ A → Rw p n r) (hB : ∀ r, r ∈ B → Rw p n r) (hx : Sp p n (· ∈ A ++ B) x) : ∃ a b, Sp p n (· ∈ A) a ∧ Sp p n (· ∈ B) b ∧ x = ax p a b 1 := by
  induction hx with
  | zero => exact ⟨_, _, .zero, .zero, ((ax_is hp (zero_is hp) (zero_is hp) 1).eq (zero_is hp) fun k _ => Cg.of_eq (by omega)).symm⟩
  | @step x r c hx hr ih =>
    obtain ⟨a, b, ha, hb, rfl⟩ := ih
    have ra := Is.self (ha.rw_ hp hA)
    have rb := Is.self (hb.rw_ hp hB)
    rcases List.mem_append.mp hr with h | h
    · have rr := Is.self (hA r h)
      exact ⟨_, _, .step c ha h, hb, (ax_is hp (ax_is hp ra rb 1) rr c).eq (ax_is hp (ax_is hp ra rr c) rb 1) fun k _ => Cg.of_eq (by grind)⟩
    · have rr := Is.self (hB r h)
      exact ⟨_, _, ha, .step c hb h, (ax_is hp (ax_is hp ra rb 1) rr c).eq (ax_is hp ra (ax_is hp rb rr c) 1) fun k _ => Cg.of_eq (by grind)⟩
theorem sp_mono (h : ∀ r, r ∈ A → r ∈ B) (hx : Sp p n (· ∈ A) x) : Sp p n (· ∈ B) x := by
  induction hx with
  | zero => exact .zero
  | step a hx hr ih => exact .step a ih (h _ hr)
theorem app_rw (hA : ∀ r, r ∈ A → Rw p n r) (hB : ∀ r, r ∈ B → Rw p n r) : ∀ r, r ∈ A ++ B → Rw p n r := fun r h => by
  rcases List.mem_append.mp h with h | h
  · exact hA r h
  · exact hB r h
/-- rows added to independent ones until the span of both is reached -/
theorem extend (hp : Pr p) : ∀ (rows f : List Row), (∀ r, r ∈ rows → Rw p n r) → (∀ r, r ∈ f → Rw p n r) → Ind p n f → ∃ X : List Row, (∀ r, r ∈ X → r ∈ rows) ∧ Ind p n (f ++ X) ∧ ∀ x, Sp p n (· ∈ f ++ X) x ↔ Sp p n (· ∈ f ++ rows) x
  | [], f, _, _, hi => ⟨[], fun r h => h, by rw [List.append_nil]; exact hi, fun x => Iff.rfl⟩
  | r :: rows, f, hr, hf, hi => by
    have h0 : 0 < p := by have := hp.pos; omega
    have hr1 : ∀ x, x ∈ rows → Rw p n x := fun x hx => hr x (List.mem_cons_of_mem _ hx)
    by_cases h : Sp p n (· ∈ f) r
    · obtain ⟨X, h1, h2, h3⟩ := extend hp rows f hr1 hf hi
      refine ⟨X, fun x hx => List.mem_cons_of_mem _ (h1 x hx), h2, fun x => (h3 x).trans ⟨sp_mono fun y hy => ?_, Sp.le h0 (app_rw hf hr1) fun y hy => ?_⟩⟩
      · rcases List.mem_append.mp hy with q | q
        · exact List.mem_append_left _ q
        · exact List.mem_append_right _ (List.mem_cons_of_mem _ q)
      · rcases List.mem_append.mp hy with q | q
        · exact Sp.of h0 (app_rw hf hr1) (List.mem_append_left _ q)
        · rcases List.mem_cons.mp q with q | q
          · rw [q]; exact sp_mono (fun y hy => List.mem_append_left _ hy) h
          · exact Sp.of h0 (app_rw hf hr1) (List.mem_append_right _ q)
    · have hf1 : ∀ x, x ∈ f ++ [r] → Rw p n x := app_rw hf fun x hx => by rw [List.mem_singleton.mp hx]; exact hr r (by simp)
      obtain ⟨X, h1, h2, h3⟩ := extend hp rows (f ++ [r]) hr1 hf1 (ind_app hi h)
      have e : ∀ L : List Row, f ++ [r] ++ L = f ++ r :: L := fun L => by rw [List.append_assoc]; rfl
      refine ⟨r :: X, fun x hx => ?_, by rw [← e]; exact h2, fun x => by have := h3 x; rw [e, e] at this; exact this⟩
      rcases List.mem_cons.mp hx with q | q
      · rw [q]; simp
      · exact List.mem_cons_of_mem _ (h1 x q)
theorem ind_prefix {X : List Row} (h : Ind p n (A ++ X)) : Ind p n A := fun i r hi => by
  have hlt : i < A.length := (List.getElem?_eq_some_iff.mp hi).1
  have := h i r (by rw [List.getElem?_append_left hlt]; exact hi)
  rwa [List.take_append_of_le_length (by omega)] at this
theorem tab_len_ind (hp : Pr p) (hA : ∀ r, r ∈ A → Rw p n r) (hr : ∀ r, r ∈ rows → Rw p n r) (hi : Ind p n A) (e : ∀ x, Sp p n (· ∈ A) x ↔ Sp p n (· ∈ rows) x) : (tabR p n rows).length = A.length := by
  obtain ⟨t1, t2, t3⟩ := tabR_red hp hr
  refine pow_inj hp ?_
  rw [← len_ech hp t1.ech, ← len_indep hp A hA hi]
  exact len_same hp (ech_rw t1.ech) hA fun x => by rw [rows_is]; exact (t3 x).trans (e x).symm
theorem ind_ech (h : Ech p n D) (hp : 0 < p) : Ind p n (D.map (·.2)) := fun i r hi hs => by
  rw [List.getElem?_map] at hi
  obtain ⟨e, he, rfl⟩ := Option.map_eq_some_iff.mp hi
  have hem := List.mem_of_getElem? he
  have h1 := sp_at0 hp (fun r hr => ech_rw h r (List.mem_of_mem_take hr)) (h.ok e hem).1 (fun r hr => ?_) hs
  · rw [(h.ok e hem).2.2] at h1
    omega
  · rw [← List.map_take] at hr
    obtain ⟨g, hg, rfl⟩ := List.mem_map.mp hr
    refine h.off g (List.mem_of_mem_take hg) e hem fun q => ?_
    have := key_inj h.nd (List.mem_of_mem_take hg) hem q
    subst this
    obtain ⟨j, hj⟩ := List.getElem?_of_mem hg
    rw [List.getElem?_take] at hj
    split at hj
    · obtain ⟨a1, a2⟩ := List.getElem?_eq_some_iff.mp he
      obtain ⟨b1, b2⟩ := List.getElem?_eq_some_iff.mp hj
      have nd := List.pairwise_iff_getElem.mp (nd_of h.nd) j i b1 a1 (by omega)
      exact nd (b2.trans a2.symm)
    · cases hj
/-- the dimensions of the sum and of the common part are those of the two, together -/
theorem dim_sum (hp : Pr p) (hA : ∀ r, r ∈ A → Rw p n r) (hB : ∀ r, r ∈ B → Rw p n r) (hC : ∀ r, r ∈ C → Rw p n r) (e : ∀ x, Sp p n (· ∈ C) x ↔ Sp p n (· ∈ A) x ∧ Sp p n (· ∈ B) x) :
    (tabR p n (A ++ B)).length + (tabR p n C).length = (tabR p n A).length + (tabR p n B).length := by
  have h0 : 0 < p := by have := hp.pos; omega
  obtain ⟨t1, t2, t3⟩ := tabR_red hp hC
  have ic := ind_ech t1.ech h0
  have hcr := ech_rw t1.ech
  have ec : ∀ x, Sp p n (· ∈ (tabR p n C).map (·.2)) x ↔ Sp p n (· ∈ C) x := fun x => by rw [rows_is]; exact t3 x
  generalize hCb : (tabR p n C).map (·.2) = Cb at ic hcr ec
  have hcl : (tabR p n C).length = Cb.length := by rw [← hCb, List.length_map]
  obtain ⟨X, x1, x2, x3⟩ := extend hp A Cb hA hcr ic
  obtain ⟨Y, y1, y2, y3⟩ := extend hp B Cb hB hcr ic
  have hX : ∀ r, r ∈ X → Rw p n r := fun r h => hA r (x1 r h)
  have hY : ∀ r, r ∈ Y → Rw p n r := fun r h => hB r (y1 r h)
  have sub : ∀ {L : List Row}, (∀ r, r ∈ L → Rw p n r) → (∀ x, Sp p n (· ∈ Cb) x → Sp p n (· ∈ L) x) → ∀ x, Sp p n (· ∈ Cb ++ L) x ↔ Sp p n (· ∈ L) x := fun {L} hL h x => ⟨Sp.le h0 hL fun y hy => by
    rcases List.mem_append.mp hy with q | q
    · exact h y (Sp.of h0 hcr q)
    · exact Sp.of h0 hL q, sp_mono fun y hy => List.mem_append_right _ hy⟩
  have eA : ∀ x, Sp p n (· ∈ Cb ++ X) x ↔ Sp p n (· ∈ A) x := fun x => (x3 x).trans (sub hA (fun y hy => ((e y).mp ((ec y).mp hy)).1) x)
  have eB : ∀ x, Sp p n (· ∈ Cb ++ Y) x ↔ Sp p n (· ∈ B) x := fun x => (y3 x).trans (sub hB (fun y hy => ((e y).mp ((ec y).mp hy)).2) x)
  have hall : ∀ r, r ∈ (Cb ++ X) ++ Y → Rw p n r := app_rw (app_rw hcr hX) hY
  have ind : Ind p n ((Cb ++ X) ++ Y) := fun i r hi hs => by
    by_cases hlt : i < (Cb ++ X).length
    · rw [List.getElem?_append_left hlt] at hi
      rw [List.take_append_of_le_length (by omega)] at hs
      exact x2 i r hi hs
    · rw [List.getElem?_append_right (by omega)] at hi
      rw [List.take_append, List.take_of_length_le (by omega)] at hs
      generalize i - (Cb ++ X).length = j at hi hs
      have hYj : ∀ r, r ∈ Y.take j → Rw p n r := fun r h => hY r (List.mem_of_mem_take h)
      obtain ⟨a, b, ha, hb, rfl⟩ := sp_two h0 (app_rw hcr hX) hYj hs
      have ra := ha.rw_ h0 (app_rw hcr hX)
      have rb := hb.rw_ h0 hYj
      have hyB : Sp p n (· ∈ B) (ax p a b 1) := Sp.of h0 hB (y1 _ (List.mem_of_getElem? hi))
      have hbB : Sp p n (· ∈ B) b := Sp.le h0 hB (fun y hy => Sp.of h0 hB (y1 y (List.mem_of_mem_take hy))) hb
      have haB : Sp p n (· ∈ B) a := hyB.lin h0 hB hbB (-1) (Is.self ra) fun k hk => by
        obtain ⟨t, ht⟩ := (ax_is h0 (Is.self ra) (Is.self rb) 1).cg k hk
        exact ⟨-t, by grind⟩
      have haC : Sp p n (· ∈ Cb) a := (ec a).mpr ((e a).mpr ⟨(eA a).mp ha, haB⟩)
      refine y2 (Cb.length + j) (ax p a b 1) ?_ ?_
      · rw [List.getElem?_append_right (by omega), show Cb.length + j - Cb.length = j by omega]
        exact hi
      · rw [List.take_append, List.take_of_length_le (by omega), show Cb.length + j - Cb.length = j by omega]
        exact Sp.ax h0 (app_rw hcr hYj) (sp_mono (fun y hy => List.mem_append_left _ hy) haC) (sp_mono (fun y hy => List.mem_append_right _ hy) hb) 1
  have l1 := tab_len_ind hp (app_rw hcr hX) hA x2 eA
  have l2 := tab_len_ind hp (app_rw hcr hY) hB y2 eB
  have l3 := tab_len_ind hp hall (app_rw hA hB) ind fun x => by
    constructor
    · refine Sp.le h0 (app_rw hA hB) fun y hy => ?_
      rcases List.mem_append.mp hy with q | q
      · exact sp_mono (fun z hz => List.mem_append_left _ hz) ((eA y).mp (Sp.of h0 (app_rw hcr hX) q))
      · exact Sp.of h0 (app_rw hA hB) (List.mem_append_right _ (y1 y q))
    · refine Sp.le h0 hall fun y hy => ?_
      rcases List.mem_append.mp hy with q | q
      · exact sp_mono (fun z hz => List.mem_append_left _ hz) ((eA y).mpr (Sp.of h0 hA q))
      · refine sp_mono (fun z hz => ?_) ((eB y).mpr (Sp.of h0 hB q))
        rcases List.mem_append.mp hz with q | q
        · exact List.mem_append_left _ (List.mem_append_left _ q)
        · exact List.mem_append_right _ q
  rw [List.length_append] at l1 l2
  rw [List.length_append, List.length_append] at l3
  omega
/-- the table of the rows in both spans -/
def comT (p : Int) (n : Nat) (A B : List Row) : Dic := kerT p n ((kerT p n A).map (·.2) ++ (kerT p n B).map (·.2))
theorem com_red (hp : Pr p) (hA : ∀ r, r ∈ A → Rw p n r) (hB : ∀ r, r ∈ B → Rw p n r) : Red p n (comT p n A B) ∧ ((comT p n A B).map (·.1)).Pairwise (· ≤ ·) ∧ ∀ x, Sp p n (rowsOf (comT p n A B)) x ↔ Sp p n (· ∈ A) x ∧ Sp p n (· ∈ B) x := by
  have h1 := hp.pos
  have h0 : 0 < p := by omega
  have one : ∀ {L : List Row}, (∀ r, r ∈ L → Rw p n r) → ∀ x, Ker p n (· ∈ (kerT p n L).map (·.2)) x ↔ Sp p n (· ∈ L) x := fun {L} hL x => by
    obtain ⟨k1, k2, k3, _⟩ := kerT_red hp hL
    obtain ⟨t1, t2, t3⟩ := tabR_red hp hL
    rw [rows_is]
    refine Iff.trans ?_ ((ker_ker h1 t1.ech).trans (t3 x))
    refine ker_same h0 k1.rows (nulT_ech h1).rows fun y => (k3 y).trans ((ker_same h0 t1.rows hL t3).symm.trans (ker_nul h1 t1.ech))
  obtain ⟨a1, _⟩ := kerT_red hp hA
  obtain ⟨b1, _⟩ := kerT_red hp hB
  obtain ⟨c1, c2, c3, _⟩ := kerT_red hp (app_rw (ech_rw a1.ech) (ech_rw b1.ech))
  refine ⟨c1, c2, fun x => (c3 x).trans ?_⟩
  rw [← one hA, ← one hB]
  constructor
  · rintro ⟨q1, q2⟩
    exact ⟨⟨q1, fun r hr => q2 r (List.mem_append_left _ hr)⟩, ⟨q1, fun r hr => q2 r (List.mem_append_right _ hr)⟩⟩
  · rintro ⟨⟨q1, q2⟩, ⟨_, q3⟩⟩
    refine ⟨q1, fun r hr => ?_⟩
    rcases List.mem_append.mp hr with q | q
    · exact q2 r q
    · exact q3 r q
end
end Lin

set_option maxHeartbeats 1000000
/-! Lin10: the rows of a span by the weights at the pivots, ascending. -/
namespace Lin
open Fd
/-- the first place at which they differ tells -/
def Lx (n : Nat) (v w : Row) : Prop := ∃ q, q < n ∧ (∀ j, j < q → at_ v j = at_ w j) ∧ at_ v q < at_ w q
theorem at_zero {a : Int} {v : Row} : at_ (a :: v) 0 = a := rfl
theorem at_succ {a : Int} {v : Row} {k : Nat} : at_ (a :: v) (k + 1) = at_ v k := rfl
theorem lx_cod {p : Int} : ∀ {n : Nat} {v w : Row}, Rw p n v → Rw p n w → (cod p v < cod p w ↔ Lx n v w)
  | 0, v, w, hv, hw => by
    have h1 := List.length_eq_zero_iff.mp hv.len
    have h2 := List.length_eq_zero_iff.mp hw.len
    subst h1 h2
    exact ⟨fun h => absurd h (by unfold cod; omega), fun ⟨q, h, _⟩ => absurd h (by omega)⟩
  | n + 1, [], w, hv, hw => by have := hv.len; simp at this
  | n + 1, v, [], hv, hw => by have := hw.len; simp at this
  | n + 1, a :: v, b :: w, hv, hw => by
    have rv : Rw p n v := ⟨by have := hv.len; simpa using this, fun x hx => hv.bd x (List.mem_cons_of_mem _ hx)⟩
    have rw_ : Rw p n w := ⟨by have := hw.len; simpa using this, fun x hx => hw.bd x (List.mem_cons_of_mem _ hx)⟩
    have hl : v.length = w.length := rv.len.trans rw_.len.symm
    rcases Int.lt_trichotomy a b with h | h | h
    · exact ⟨fun _ => ⟨0, by omega, fun j hj => by omega, h⟩, fun _ => TS.code_lt hl rv.bd rw_.bd h⟩
    · subst h
      refine (TS.code_same (B := p) (d := a) hl).trans ((lx_cod rv rw_).trans ⟨fun ⟨q, h1, h2, h3⟩ => ⟨q + 1, by omega, fun j hj => ?_, h3⟩, fun ⟨q, h1, h2, h3⟩ => ?_⟩)
      · cases j with
        | zero => rfl
        | succ j => exact h2 j (by omega)
      · cases q with
        | zero => exact absurd h3 (by show ¬ a < a; omega)
        | succ q => exact ⟨q, by omega, fun j hj => h2 (j + 1) (by omega), h3⟩
    · refine ⟨fun h1 => ?_, fun ⟨q, h1, h2, h3⟩ => ?_⟩
      · have := TS.code_lt (B := p) hl.symm rw_.bd rv.bd h
        unfold cod at h1
        omega
      · cases q with
        | zero => exact absurd (show a < b from h3) (by omega)
        | succ q => exact absurd (show a = b from h2 0 (by omega)) (by omega)
section
variable {p : Int} {n : Nat} {D : Dic} {v w : Row}
/-- the row of the span with the weights w -/
def memR (p : Int) (n : Nat) (D : Dic) (w : Row) : Row := totR p n (D.map (·.2)) w D.length
theorem row_tab {i : Nat} {e : Nat × Row} (h : D[i]? = some e) : row_ (D.map (·.2)) i = e.2 := by
  unfold row_
  rw [List.getD_eq_getElem?_getD, List.getElem?_map, h]
  rfl
theorem mem_is (hp : 0 < p) (h : Ech p n D) : Is p n (memR p n D w) fun j => S D.length fun i => at_ w i * at_ (row_ (D.map (·.2)) i) j :=
  tot_is hp (ech_rw h) D.length (by rw [List.length_map]; exact Nat.le_refl _)
/-- the items at the pivots are the weights -/
theorem mem_piv (hp : 0 < p) (h : Ech p n D) (hw : Rw p D.length w) {i : Nat} {e : Nat × Row} (he : D[i]? = some e) : at_ (memR p n D w) e.1 = at_ w i := by
  have hi : i < D.length := (List.getElem?_eq_some_iff.mp he).1
  obtain ⟨e1, e2, e3⟩ := h.ok e (List.mem_of_getElem? he)
  have h1 := (mem_is (w := w) hp h).cg e.1 e1
  rw [S_drop _ hi, S_none fun k hk => ?_, row_tab he, e3] at h1
  · have a := (mem_is (w := w) hp h).rw_.at e1
    have b := hw.at hi
    exact (h1.trans (Cg.of_eq (by omega))).eq a.1 a.2 b.1 b.2
  · by_cases q : k = i
    · rw [if_pos q]
    · rw [if_neg q]
      have hk2 : D[k]? = some D[k] := List.getElem?_eq_getElem hk
      rw [row_tab hk2, h.off _ (List.getElem_mem hk) e (List.mem_of_getElem? he) fun z => q ?_]
      · omega
      · have z2 := key_inj h.nd (List.getElem_mem hk) (List.mem_of_getElem? he) z
        obtain ⟨g1, g2⟩ := List.getElem?_eq_some_iff.mp he
        rcases Nat.lt_trichotomy k i with c | c | c
        · exact absurd (z2.trans g2.symm) (List.pairwise_iff_getElem.mp (nd_of h.nd) k i hk g1 c)
        · exact c
        · exact absurd (z2.trans g2.symm).symm (List.pairwise_iff_getElem.mp (nd_of h.nd) i k g1 hk c)
theorem mem_lx (hp : 0 < p) (h : Red p n D) (hs : (D.map (·.1)).Pairwise (· ≤ ·)) (hv : Rw p D.length v) (hw : Rw p D.length w) (q : Lx D.length v w) : Lx n (memR p n D v) (memR p n D w) := by
  obtain ⟨i, hi, h1, h2⟩ := q
  have he : D[i]? = some D[i] := List.getElem?_eq_getElem hi
  obtain ⟨e1, e2, e3, e4⟩ := h.ok _ (List.getElem_mem hi)
  refine ⟨D[i].1, e1, fun j hj => ?_, by rw [mem_piv hp h.ech hv he, mem_piv hp h.ech hw he]; exact h2⟩
  have a := mem_is (w := v) hp h.ech
  have b := mem_is (w := w) hp h.ech
  have a1 := a.rw_.at (k := j) (by omega)
  have b1 := b.rw_.at (k := j) (by omega)
  refine ((a.cg j (by omega)).trans (Cg.trans (Cg.of_eq (S_congr fun k hk => ?_)) (b.cg j (by omega)).symm)).eq a1.1 a1.2 b1.1 b1.2
  have hk2 : D[k]? = some D[k] := List.getElem?_eq_getElem hk
  rw [row_tab hk2]
  by_cases hki : k < i
  · rw [h1 k hki]
  · have : at_ D[k].2 j = 0 := (h.ok _ (List.getElem_mem hk)).2.2.2 j (by
      rcases Nat.eq_or_lt_of_le (Nat.le_of_not_lt hki) with c | c
      · subst c; exact hj
      · have := List.pairwise_iff_getElem.mp hs i k (by rw [List.length_map]; exact hi) (by rw [List.length_map]; exact hk) c
        rw [List.getElem_map, List.getElem_map] at this
        omega)
    rw [this]
    omega
theorem tot_sp (hp : 0 < p) {rows : List Row} (hr : ∀ r, r ∈ rows → Rw p n r) : ∀ k, k ≤ rows.length → Sp p n (· ∈ rows) (totR p n rows w k)
  | 0, _ => .zero
  | k + 1, h => .step _ (tot_sp hp hr k (by omega)) (row_mem (by omega))
/-- all rows of the span, ascending, by their weights -/
theorem members_are (hp : Pr p) (h : Red p n D) (hs : (D.map (·.1)).Pairwise (· ≤ ·)) : (allL p D.length).map (memR p n D) = sortR p (foundL p n (D.map (·.2))) := by
  have h0 : 0 < p := by have := hp.pos; omega
  have hr := ech_rw h.ech
  have sorted : ((allL p D.length).map (memR p n D)).Pairwise fun v w => cod p v < cod p w := by
    rw [List.pairwise_map]
    refine List.Pairwise.imp_of_mem ?_ (all_sorted h0 D.length)
    intro a b ha hb hab
    have ra := (all_mem h0).mp ha
    have rb := (all_mem h0).mp hb
    exact (lx_cod (mem_is h0 h.ech).rw_ (mem_is h0 h.ech).rw_).mpr (mem_lx h0 h hs ra rb ((lx_cod ra rb).mp hab))
  have nd : ((allL p D.length).map (memR p n D)).Nodup := sorted.imp fun q e => by subst e; omega
  refine sortR_of (n := n) (fun r q => ?_) ?_ (sorted.imp fun q => by show cod p _ ≤ cod p _; omega)
  · have := (((foundL_all hp hr).mem r).mp q).rw_ h0 hr
    exact ⟨this.len, this.bd⟩
  · refine (List.perm_ext_iff_of_nodup nd (foundL_all hp hr).nd).mpr fun x => ?_
    rw [(foundL_all hp hr).mem]
    constructor
    · intro q
      obtain ⟨w, hw, rfl⟩ := List.mem_map.mp q
      exact tot_sp h0 hr D.length (by rw [List.length_map]; exact Nat.le_refl _)
    · intro q
      have rx := q.rw_ h0 hr
      rw [rows_is] at q
      have wr : Rw p D.length (D.map fun e => at_ x e.1) := ⟨by simp, fun y hy => by
        obtain ⟨e, he, rfl⟩ := List.mem_map.mp hy
        exact rx.at (h.ok e he).1⟩
      refine List.mem_map.mpr ⟨D.map fun e => at_ x e.1, (all_mem h0).mpr wr, ?_⟩
      have hd : Sp p n (rowsOf D) (memR p n D (D.map fun e => at_ x e.1)) := by
        rw [← rows_is]
        exact tot_sp h0 hr D.length (by rw [List.length_map]; exact Nat.le_refl _)
      have rm := (mem_is (w := D.map fun e => at_ x e.1) h0 h.ech).rw_
      refine (Is.self rm).eq (Is.self rx) fun k hk => ?_
      refine (proj_sp h0 h hd k hk).trans (Cg.trans (Cg.of_eq ?_) (proj_sp h0 h q k hk).symm)
      unfold proj
      congr 1
      refine List.map_congr_left fun e he => ?_
      obtain ⟨i, hi⟩ := List.getElem?_of_mem he
      rw [mem_piv h0 h.ech wr hi]
      congr 1
      unfold at_
      rw [List.getD_eq_getElem?_getD, List.getElem?_map, hi]
      rfl
end
end Lin

set_option maxHeartbeats 1000000
/-! Lin11: the digits of the numbers from 0 on are all rows, ascending. -/
namespace Lin
open Fd
/-- the count last digits of x in the base p, the highest first -/
def digF (p : Int) (x : Int) : Nat → List Int
  | 0 => []
  | c + 1 => digF p (x / p) c ++ [x % p]
theorem digF_len (p : Int) : ∀ (c : Nat) (x : Int), (digF p x c).length = c
  | 0, _ => rfl
  | c + 1, x => by rw [digF, List.length_append, digF_len p c]; rfl
/-- the number behind i steps -/
def digN (p x : Int) : Nat → Int
  | 0 => x
  | i + 1 => digN p x i / p
theorem digN_next (p : Int) : ∀ (i : Nat) (x : Int), digN p (x / p) i = digN p x i / p
  | 0, _ => rfl
  | i + 1, x => by show digN p (x / p) i / p = digN p x i / p / p; rw [digN_next p i]
theorem digF_eq (p : Int) : ∀ (c : Nat) (x : Int), digF p x c = ((List.range c).map fun i => digN p x i % p).reverse
  | 0, _ => rfl
  | c + 1, x => by
    rw [digF, digF_eq p c, List.range_succ_eq_map, List.map_cons, List.map_map, List.reverse_cons]
    congr 2
    exact List.map_congr_left fun i _ => by show digN p (x / p) i % p = digN p x i / p % p; rw [digN_next]
theorem flat_get {α β : Type} {f : α → List β} {q : Nat} (hq : 0 < q) (hf : ∀ a, (f a).length = q) : ∀ (l : List α) (x : Nat), (l.flatMap f)[x]? = (l[x / q]?).bind fun a => (f a)[x % q]?
  | [], x => by simp
  | a :: l, x => by
    rw [List.flatMap_cons]
    by_cases h : x < q
    · rw [List.getElem?_append_left (by rw [hf]; exact h), Nat.div_eq_of_lt h, Nat.mod_eq_of_lt h]
      rfl
    · rw [List.getElem?_append_right (by rw [hf]; omega), hf, flat_get hq hf l]
      have h1 : x / q = (x - q) / q + 1 := by
        conv => lhs; rw [show x = x - q + q by omega]
        exact Nat.add_div_right _ hq
      have h2 : (x - q) % q = x % q := by
        conv => rhs; rw [show x = x - q + q by omega]
        exact (Nat.add_mod_right _ _).symm
      rw [h1, List.getElem?_cons_succ, h2]
theorem dig_get {p : Int} (hp : 0 < p) : ∀ (k x : Nat), x < p.toNat ^ k → (allL p k)[x]? = some (digF p x k)
  | 0, x, h => by
    have : x = 0 := by simpa using h
    subst this
    rfl
  | k + 1, x, h => by
    have hq : 0 < p.toNat := by omega
    rw [allL, flat_get hq fun w => by rw [List.length_map, List.length_range], dig_get hp k (x / p.toNat) (by rw [Nat.pow_succ] at h; exact Nat.div_lt_of_lt_mul (by rw [Nat.mul_comm]; exact h))]
    show (List.map _ (List.range p.toNat))[x % p.toNat]? = _
    rw [List.getElem?_map, List.getElem?_range (Nat.mod_lt _ hq)]
    have e : ((p.toNat : Nat) : Int) = p := Int.toNat_of_nonneg (by omega)
    show some (digF p ((x / p.toNat : Nat) : Int) k ++ [((x % p.toNat : Nat) : Int)]) = some (digF p ((x : Int) / p) k ++ [(x : Int) % p])
    rw [Int.natCast_ediv, Int.natCast_emod, e]
theorem dig_all {p : Int} (hp : 0 < p) (k : Nat) : (List.range (p.toNat ^ k)).map (fun (x : Nat) => digF p x k) = allL p k := by
  refine List.ext_getElem? fun x => ?_
  by_cases h : x < p.toNat ^ k
  · rw [List.getElem?_map, List.getElem?_range h, dig_get hp k x h]
    rfl
  · rw [List.getElem?_eq_none (by rw [List.length_map, List.length_range]; omega), List.getElem?_eq_none (by rw [all_len]; omega)]
end Lin

set_option Elab.async false
set_option maxRecDepth 100000
set_option maxHeartbeats 4000000
namespace My
open PySem PyProof.Rows L2 Fd Lin StX
local macro_rules | `(tactic| walk_at "ev") => `(tactic| first
  | exact ev_var rfl | exact ev_int | exact ev_bl | exact ev_non | exact ev_str
  | (apply ev_I0; walk_at "ev"; walk_at "ev")
  | (apply ev_I; walk_at "ev"; walk_at "ev"; walk_at "sd")
  | (apply ev_B0; walk_at "ev"; walk_at "ev")
  | (apply ev_un; walk_at "ev")
  | (apply ev_eqI; walk_at "ev"; walk_at "ev")
  | (apply ev_neI; walk_at "ev"; walk_at "ev")
  | (apply ev_toInt; walk_at "ev")
  | (apply ev_toIntB; walk_at "ev")
  | (apply x_ixC; rfl; walk_at "ev"; rfl; walk_at "sd"; rfl)
  | (apply x_ixR; walk_at "ev"; walk_at "ev"; walk_at "sd"; walk_at "sd")
  | (apply x_ixT; walk_at "ev"; walk_at "ev"; walk_at "sd"; rfl)
  | (apply x_ixL; walk_at "ev"; walk_at "ev"; walk_at "sd"; rfl)
  | (apply ev_lenT; walk_at "ev")
  | (apply ev_lenL; walk_at "ev")
  | (apply ev_tup; walk_at "ea"; (simp; done)))
local macro_rules | `(tactic| walk_at "ea") => `(tactic| first | exact ea_nil | (apply ea_cons; walk_at "ev"; walk_at "ea"))
local macro_rules | `(tactic| walk_at "sd") => `(tactic| first | assumption | decide | omega | (show _ < _; decide) | exact ⟨by omega, by omega⟩ | exact Or.inr ⟨by decide, by decide⟩ | exact Or.inr ⟨by omega, by omega⟩ | exact Or.inl ⟨by omega, by omega⟩ | exact ⟨by decide, by decide⟩)

variable {C_Malformed C_Refused : Addr}
section
variable {PP : Program} {w : World} {K : PySem.W.Frag} {mg : Str → Option Value} {base : Heap}
def preIsInt : List PyData → PyData → Prop := fun ds d => ∃ x, plain x = true ∧ ds = [x] ∧ d = .bool (isI x)
abbrev s_is_integer : Stmt := topS 6
theorem sc_is_integer : FnScope ["value"] ["value"] (defScope s_is_integer) := ⟨rfl, rfl, rfl, by decide +kernel, rfl, by decide +kernel, by decide +kernel⟩
theorem cal_is_integer {nm : Str} (B : Bi mg)  (D : DfnA K mg nm "is_integer" s_is_integer) : Cal PP w K mg base nm 1 ["value"] (spP preIsInt) := by
  obtain ⟨f, fd, F, hm⟩ := D.ex
  refine ⟨f, fd, ?_, hm, F.kp, F.binds fun _ _ _ _ _ _ us hl => match us, hl with | [_], _ => rfl⟩
  refine def_ok F sc_is_integer ?_ fun cdv A outer s H E hr => ?_
  · intro ds d h
    obtain ⟨x, _, rfl, rfl⟩ := h
    rfl
  refine ⟨_, pss_one (ps_ret (pe_and (pe_callB (k_isi (K := K) rfl) (by rfl) B.isinstance boot_isinstance (pa_cons (pv 0) (pa_cons (pe_bltn (v := .ty "int") (by rfl) B.int boot_int rfl) pa_nil))) (pe_one (pe_not (pe_callB (k_isi (K := K) rfl) (by rfl) B.isinstance boot_isinstance (pa_cons (pv 0) (pa_cons (pe_bltn (v := .ty "bool") (by rfl) B.bool boot_bool rfl) pa_nil))))))), ?_⟩
  rintro _ _ ⟨x, hx, rfl, rfl⟩
  show StD _ [.dat x] _
  cases x with
  | dict _ => cases hx
  | int i => exact st_ret ((ev_andV (a := true) (b := true) (ev_isi (ev_var rfl) (by rfl)) fun _ => ev_notV (ev_isi (b := false) (ev_var rfl) (by rfl)))) rfl
  | bool i => exact st_ret ((ev_andV (a := true) (b := false) (ev_isi (ev_var rfl) (by rfl)) fun _ => ev_notV (ev_isi (b := true) (ev_var rfl) (by rfl)))) rfl
  | none => exact st_ret ((ev_andV (a := false) (b := false) (ev_isi (ev_var rfl) (by rfl)) fun h => by cases h)) rfl
  | str i => exact st_ret ((ev_andV (a := false) (b := false) (ev_isi (ev_var rfl) (by rfl)) fun h => by cases h)) rfl
  | list i => exact st_ret ((ev_andV (a := false) (b := false) (ev_isi (ev_var rfl) (by rfl)) fun h => by cases h)) rfl
  | tuple i => exact st_ret ((ev_andV (a := false) (b := false) (ev_isi (ev_var rfl) (by rfl)) fun h => by cases h)) rfl
def prePow : List PyData → PyData → Prop := fun ds d => ∃ (a : Int) (k : Nat), k < 1000 ∧ a.natAbs < 1024 ∧ (∀ j, j ≤ k / 2 → (a ^ j).natAbs < 2 ^ 64) ∧ ds = [.int a, .int (k : Nat)] ∧ d = .int (a ^ k)
abbrev s_power : Stmt := topS 7
theorem sc_power : FnScope ["a", "k", "out", "place"] ["a", "k"] (defScope s_power) := ⟨rfl, rfl, rfl, by decide +kernel, rfl, by decide +kernel, by decide +kernel⟩
theorem cal_power {nm : Str} (B : Bi mg)  (D : DfnA K mg nm "power" s_power) : Cal PP w K mg base nm 1 ["a", "k"] (spP prePow) := by
  obtain ⟨f, fd, F, hm⟩ := D.ex
  refine ⟨f, fd, ?_, hm, F.kp, F.binds fun _ _ _ _ _ _ us hl => match us, hl with | [_, _], _ => rfl⟩
  refine def_ok F sc_power ?_ fun cdv A outer s H E hr => ?_
  · intro ds d h
    obtain ⟨a, k, _, _, _, rfl, rfl⟩ := h
    rfl
  refine ⟨_, pss_cons (ps_set (i := 2) sc_power.nd rfl (by first | exact Or.inl rfl | exact Or.inr rfl) (pe_int))
      (pss_cons (ps_for PassesOwn.never rfl (pi_revR (by rfl) B.reversed (prg_1 (by rfl) B.range (pe_bits (pv 1)))) (pg_name (i := 3) sc_power.nd rfl (by first | exact Or.inl rfl | exact Or.inr rfl)) (pss_cons (ps_set (i := 2) sc_power.nd rfl (by first | exact Or.inl rfl | exact Or.inr rfl) (pe_op op_mul (pv 2) (pv 2)))
      (pss_one (ps_if (pt_cmpR op_eq (pe_op op_mod (pe_op op_shr (pv 1) (pv 3)) (pe_int)) (pe_int) (nomark _)) (pss_one (ps_set (i := 2) sc_power.nd rfl (by first | exact Or.inl rfl | exact Or.inr rfl) (pe_op op_mul (pv 2) (pv 0)))) (pss_nil)))))
      (pss_one (ps_ret (pv 2)))), ?_⟩
  rintro _ _ ⟨a, k, hk, ha, hb, rfl, rfl⟩
  show StD _ [.dat (.int a), .dat (.int (k : Nat)), .un, .un] _
  have hm := bits_lt k
  have hm2 : Builtin.Int.intBits (k : Int) < 1000000 := by
    unfold Builtin.Int.intBits
    split
    · decide
    · rw [Int.natAbs_natCast]
      have h3 : k.log2 ≤ k := Nat.log2_le_self k
      omega
  obtain ⟨m, hmm⟩ : ∃ m, m = Builtin.Int.intBits (k : Int) := ⟨_, rfl⟩
  rw [← hmm] at hm hm2
  have hmi : PyData.int (Builtin.Int.intBits (k : Int) : Nat) = PyData.int (m : Nat) := by rw [hmm]
  refine st_then (st_set (d := .int (a ^ (k / 2 ^ (m - 0)))) ((ev_int).is ?_) (by simp) rfl) ?_
  · rw [Nat.sub_zero, Nat.div_eq_of_lt hm, Int.pow_zero]
  refine st_seq (fun Γ => ∃ x, Γ = [.dat (.int a), .dat (.int (k : Nat)), .dat (.int (a ^ k)), x]) ?_ ?_
  · refine st_for (wk_revR (ev_bits (ev_var rfl) |>.is hmi) hm2) (fun i Γ => ∃ x, Γ = [.dat (.int a), .dat (.int (k : Nat)), .dat (.int (a ^ (k / 2 ^ (m - i)))), x]) ⟨_, rfl⟩ ?_ ?_
    · rintro i d _ hd ⟨x, rfl⟩
      have hi : i < m := by
        have := (List.getElem?_eq_some_iff.mp hd).1
        simpa [rgDown] using this
      unfold rgDown at hd
      rw [List.getElem?_map, List.getElem?_range hi] at hd
      have hd2 : PyData.int ((m : Int) - 1 - (i : Int)) = d := Option.some.inj hd
      subst hd2
      obtain ⟨P, hP⟩ : ∃ P : Nat, m = P + 1 + i := ⟨m - 1 - i, by omega⟩
      rw [show m - i = P + 1 by omega, show m - (i + 1) = P by omega, show (m : Int) - 1 - (i : Int) = (P : Nat) by omega, Nat.pow_succ, ← Nat.div_div_eq_div_mul]
      have hq : k / 2 ^ P / 2 ≤ k / 2 := Nat.div_le_div_right (Nat.div_le_self _ _)
      have hbq := hb _ hq
      have ht : ((k : Nat) : Int) / 2 ^ ((P : Nat) : Int).toNat % 2 = ((k / 2 ^ P % 2 : Nat) : Int) := by
        rw [Int.toNat_natCast]
        push_cast
        rfl
      generalize k / 2 ^ P = t at hq hbq ht ⊢
      have h2 : t / 2 + t / 2 + t % 2 = t := by omega
      refine ⟨_, _, tg_name (by simp), st_then (st_set (d := .int (a ^ (t / 2) * a ^ (t / 2))) (ev_I (g := fun i j => i * j) (ev_var rfl) (ev_var rfl) (Or.inl ⟨by omega, by omega⟩)) (by simp) rfl) ?_⟩
      refine st_if (et_test (ev_eqI (ev_I (g := fun i j => i % j) (ev_I (g := fun i j => i / 2 ^ j.toNat) (ev_var rfl) (ev_var rfl) (by show (0 : Int) ≤ _; omega)) ev_int (by decide)) ev_int)) (fun hb1 => ?_) fun hb1 => ?_
      · have hb1 := of_decide_eq_true hb1
        rw [ht] at hb1
        have h3 : t % 2 = 1 := by omega
        refine st_set (d := .int (a ^ t)) ((ev_I (g := fun i j => i * j) (ev_var rfl) (ev_var rfl) (Or.inr ⟨by omega, by omega⟩)).is ?_) (by simp) ⟨_, rfl⟩
        congr 1
        conv => rhs; rw [← h2, h3]
        rw [Int.pow_add, Int.pow_add, Int.pow_one]
      · have hb1 := of_decide_eq_false hb1
        rw [ht] at hb1
        have h3 : t % 2 = 0 := by omega
        refine st_next ⟨.dat (.int (P : Nat)), ?_⟩
        have : a ^ (t / 2) * a ^ (t / 2) = a ^ t := by
          conv => rhs; rw [← h2, h3]
          rw [Nat.add_zero, Int.pow_add]
        rw [this]
        rfl
    · rintro _ ⟨x, rfl⟩
      refine ⟨x, ?_⟩
      rw [show (rgDown m).length = m by simp [rgDown], Nat.sub_self, Nat.pow_zero, Nat.div_one]
  · rintro _ ⟨x, rfl⟩
    exact st_ret (ev_var rfl) rfl
def preInvE (R : Addr) : List PyData → Except Xc PyData → Prop := fun ds o => ∃ a p, Pr p ∧ a % p = 0 ∧ ds = [.int a, .int p] ∧ o = .error (xRef R "inverse")
abbrev s_inverse__e : Stmt := topS 10
theorem sc_inverse__e : FnScope ["a", "p", "b"] ["a", "p"] (defScope s_inverse__e) := ⟨rfl, rfl, rfl, by decide +kernel, rfl, by decide +kernel, by decide +kernel⟩
theorem cal_inverse__e {nm : Str} (B : Bi mg) {C_Refused : Addr} (R_Refused : RefT PP w K mg base "Refused" C_Refused "reason" okS 1)  (D : DfnA K mg nm "inverse" s_inverse__e) : CalE PP w K mg base nm 3 ["a", "p"] (spE (preInvE C_Refused)) := by
  obtain ⟨f, fd, F, hm⟩ := D.ex
  refine ⟨f, fd, ?_, hm, F.kp, F.binds fun _ _ _ _ _ _ us hl => match us, hl with | [_, _], _ => rfl⟩
  refine defE_ok F sc_inverse__e ?_ fun cdv A outer s H E hr => ?_
  · intro ds o h
    obtain ⟨a, p, _, _, rfl, _⟩ := h
    rfl
  refine ⟨_, pss_cons (ps_for (passes_of rfl) rfl (pi_range2 (by rfl) B.range (pa_cons (pe_int) (pa_cons (pv 1) pa_nil))) (pg_name (i := 2) sc_inverse__e.nd rfl (by first | exact Or.inl rfl | exact Or.inr rfl)) (pss_one (ps_if (pt_cmpR op_eq (pe_op op_mod (pe_op op_mul (pv 0) (pv 2)) (pv 1)) (pe_int) (nomark _)) (pss_one (ps_ret (pv 2))) (pss_nil))))
      (pss_one (ps_raiseR R_Refused rfl (takes_of rfl rfl rfl rfl) (hr.mono (by decide)) rfl (pa_cons (pe_str) pa_nil))), ?_⟩
  rintro _ _ ⟨a, p, hp, ha, rfl, rfl⟩
  have h0 := hp.pos
  have h7 := hp.le
  show StE _ _ [.dat (.int a), .dat (.int p), .un] _ _
  refine sd_seq (fun Γ => ∃ b, Γ = [.dat (.int a), .dat (.int p), b]) (st_for (wk_rng2 ev_int (ev_var rfl) (by omega) (by omega) (by omega) (by omega)) (fun i Γ => ∃ b, Γ = [.dat (.int a), .dat (.int p), b]) ⟨_, rfl⟩ ?_ fun _ h => h) ?_
  · rintro i d _ hd ⟨b, rfl⟩
    have hi : i < (p - 1).toNat := by
      have := (List.getElem?_eq_some_iff.mp hd).1
      rwa [rg_len] at this
    rw [rg_get hi] at hd
    cases hd
    refine ⟨_, _, tg_name (by simp), st_if (b := false) ((et_test (by walk_at "ev")).is ?_) (fun h => by cases h) fun _ => st_next ⟨_, rfl⟩⟩
    have : a * (1 + (i : Int)) % p = 0 := by rw [Int.mul_emod, ha, Int.zero_mul, Int.zero_emod]
    exact decide_eq_false (by rw [this]; decide)
  · rintro _ ⟨b, rfl⟩
    exact se_raiseR (ea_1 ev_str) (fun G v r => ⟨_, r.strE, by decide⟩) rfl
/-- n without the factor p, and how often it was there -/
def fIn : Nat → Nat → Nat → Nat → Nat × Nat
  | 0, _, n, t => (n, t)
  | f + 1, p, n, t => if n % p = 0 then fIn f p (n / p) (t + 1) else (n, t)
def fOut : Nat → Nat → Nat → List (Nat × Nat) → List (Nat × Nat)
  | 0, _, _, acc => acc
  | f + 1, p, n, acc => if p * p ≤ n then fOut f (p + 1) (fIn 9 p n 0).1 (if 0 < (fIn 9 p n 0).2 then acc ++ [(p, (fIn 9 p n 0).2)] else acc) else if 1 < n then acc ++ [(n, 1)] else acc
def fac (n : Nat) : List (Nat × Nat) := fOut 20 2 n []
def dPr (e : Nat × Nat) : PyData := .tuple [.int (e.1 : Nat), .int (e.2 : Nat)]
theorem fIn_le : ∀ f p n t, (fIn f p n t).1 ≤ n
  | 0, _, n, _ => Nat.le_refl n
  | f + 1, p, n, t => by
    unfold fIn
    split
    · exact Nat.le_trans (fIn_le f p (n / p) (t + 1)) (Nat.div_le_self n p)
    · exact Nat.le_refl n
theorem fIn_pos : ∀ f p n t, 2 ≤ p → 1 ≤ n → 1 ≤ (fIn f p n t).1
  | 0, _, n, _, _, h => h
  | f + 1, p, n, t, hp, h => by
    unfold fIn
    split
    · rename_i e
      refine fIn_pos f p (n / p) (t + 1) hp ?_
      have := Nat.div_add_mod n p
      rw [e, Nat.add_zero] at this
      rcases Nat.eq_zero_or_pos (n / p) with q | q
      · rw [q] at this; omega
      · exact q
    · exact h
theorem fIn_cnt : ∀ f p n t, (fIn f p n t).2 ≤ t + f
  | 0, _, _, t => Nat.le_refl t
  | f + 1, p, n, t => by
    unfold fIn
    split
    · have := fIn_cnt f p (n / p) (t + 1); omega
    · show t ≤ _; omega
def preFac : List PyData → PyData → Prop := fun ds d => ∃ n : Nat, 1 ≤ n ∧ n ≤ 300 ∧ ds = [.int (n : Nat)] ∧ d = .list ((fac n).map dPr)
abbrev s_factors : Stmt := topS 8
theorem sc_factors : FnScope ["n", "pairs", "prime", "times"] ["n"] (defScope s_factors) := ⟨rfl, rfl, rfl, by decide +kernel, rfl, by decide +kernel, by decide +kernel⟩
theorem cal_factors {nm : Str} (B : Bi mg)  (D : DfnA K mg nm "factors" s_factors) : Cal PP w K mg base nm 1 ["n"] (spP preFac) := by
  obtain ⟨f, fd, F, hm⟩ := D.ex
  refine ⟨f, fd, ?_, hm, F.kp, F.binds fun _ _ _ _ _ _ us hl => match us, hl with | [_], _ => rfl⟩
  refine def_ok F sc_factors ?_ fun cdv A outer s H E hr => ?_
  · intro ds d h
    obtain ⟨n, _, _, rfl, rfl⟩ := h
    rfl
  refine ⟨_, pss_cons (ps_set (i := 1) sc_factors.nd rfl (by first | exact Or.inl rfl | exact Or.inr rfl) (pe_lst (pa_nil)))
      (pss_cons (ps_set (i := 2) sc_factors.nd rfl (by first | exact Or.inl rfl | exact Or.inr rfl) (pe_int))
      (pss_cons (ps_while PassesOwn.never (pt_cmpR op_le (pe_op op_mul (pv 2) (pv 2)) (pv 0) (nomark _)) (pss_cons (ps_set (i := 3) sc_factors.nd rfl (by first | exact Or.inl rfl | exact Or.inr rfl) (pe_int))
      (pss_cons (ps_while PassesOwn.never (pt_cmpR op_eq (pe_op op_mod (pv 0) (pv 2)) (pe_int) (nomark _)) (pss_cons (ps_set (i := 0) sc_factors.nd rfl (by first | exact Or.inl rfl | exact Or.inr rfl) (pe_op op_fdiv (pv 0) (pv 2)))
      (pss_one (ps_aug (i := 3) sc_factors.nd rfl (by first | exact Or.inl rfl | exact Or.inr rfl) (pe_int) ip_add))))
      (pss_cons (ps_if (pt_cmpR op_gt (pv 3) (pe_int) (nomark _)) (pss_one (ps_expr (pe_bm PySem.F.plainAttrs_list PySem.F.slot_list_append PySem.F.type_list_append mt_append (pv 1) (pa_cons (pe_tup (pa_cons (pv 2) (pa_cons (pv 3) pa_nil))) pa_nil)))) (pss_nil))
      (pss_one (ps_aug (i := 2) sc_factors.nd rfl (by first | exact Or.inl rfl | exact Or.inr rfl) (pe_int) ip_add))))))
      (pss_cons (ps_if (pt_cmpR op_gt (pv 0) (pe_int) (nomark _)) (pss_one (ps_expr (pe_bm PySem.F.plainAttrs_list PySem.F.slot_list_append PySem.F.type_list_append mt_append (pv 1) (pa_cons (pe_tup (pa_cons (pv 0) (pa_cons (pe_int) pa_nil))) pa_nil)))) (pss_nil))
      (pss_one (ps_ret (pv 1)))))), ?_⟩
  rintro _ _ ⟨n, h1, h3, rfl, rfl⟩
  show StD _ [.dat (.int (n : Nat)), .un, .un, .un] _
  refine st_seq (fun Γ => ∃ a, Γ = [.dat (.int (n : Nat)), .cell a [], .un, .un]) (st_own (ec_lst ea_nil (by simp)) (by simp) fun a => ⟨a, rfl⟩) ?_
  rintro _ ⟨a, rfl⟩
  refine st_then (st_set (d := .int ((2 : Nat) : Int)) ev_int (by simp) rfl) ?_
  refine st_seq (fun Γ => ∃ (m p acc : _) (x : Sl), Γ = [.dat (.int ((m : Nat) : Int)), .cell a (acc.map dPr), .dat (.int ((p : Nat) : Int)), x] ∧ acc.length ≤ 22 ∧ (if 1 < m then acc ++ [(m, 1)] else acc) = fac n) (st_while (fun f Γ => ∃ (m p acc : _) (x : Sl), Γ = [.dat (.int ((m : Nat) : Int)), .cell a (acc.map dPr), .dat (.int ((p : Nat) : Int)), x] ∧ 1 ≤ m ∧ m ≤ 300 ∧ 2 ≤ p ∧ p ≤ 18 ∧ p + f = 22 ∧ acc.length ≤ p ∧ fOut f p m acc = fac n) 20 ⟨n, 2, [], _, rfl, h1, h3, by decide, by decide, by decide, by simp, rfl⟩ ?_) ?_
  · rintro f _ ⟨m, p, acc, x, rfl, m1, m3, p2, p18, pf, al, he⟩
    have hp22 : p ≤ 22 := by omega
    have hpp : (((p : Nat) : Int) * ((p : Nat) : Int)) = ((p * p : Nat) : Int) := by push_cast; rfl
    refine ⟨decide (p * p ≤ m), _, et_test ((ev_B0 (g := fun i j => decide (i ≤ j)) (ev_I (g := fun i j => i * j) (ev_var rfl) (ev_var rfl) (Or.inl ⟨by omega, by omega⟩)) (ev_var rfl)).is ?_), fun hb => ?_, fun hb => ?_⟩
    · rw [hpp]
      exact congrArg PyData.bool (decide_eq_decide.mpr (by omega))
    · have hb := of_decide_eq_true hb
      have hf : 0 < f := by
        rcases Nat.eq_zero_or_pos f with rfl | h
        · have : p = 22 := by omega
          subst this
          omega
        · exact h
      obtain ⟨g, rfl⟩ : ∃ g, f = g + 1 := ⟨f - 1, by omega⟩
      unfold fOut at he
      rw [if_pos hb] at he
      have hle := fIn_le 9 p m 0
      have p17 : p + 1 ≤ 18 := by
        refine Nat.le_of_not_lt fun h => ?_
        have := Nat.mul_le_mul (show 18 ≤ p by omega) (show 18 ≤ p by omega)
        omega
      have hpos := fIn_pos 9 p m 0 p2 m1
      have hcnt := fIn_cnt 9 p m 0
      refine st_then (Γ1 := [.dat (.int ((m : Nat) : Int)), .cell a (acc.map dPr), .dat (.int ((p : Nat) : Int)), .dat (.int ((0 : Nat) : Int))]) (st_set (d := .int ((0 : Nat) : Int)) ev_int (by simp) rfl) ?_
      refine st_seq (fun Γ => Γ = [.dat (.int (((fIn 9 p m 0).1 : Nat) : Int)), .cell a (acc.map dPr), .dat (.int ((p : Nat) : Int)), .dat (.int (((fIn 9 p m 0).2 : Nat) : Int))]) (st_while (fun k Γ => ∃ q t : Nat, Γ = [.dat (.int (q : Int)), .cell a (acc.map dPr), .dat (.int ((p : Nat) : Int)), .dat (.int (t : Int))] ∧ 1 ≤ q ∧ q < 2 ^ k ∧ q ≤ 300 ∧ fIn k p q t = fIn 9 p m 0) 9 ⟨m, 0, rfl, m1, by omega, m3, rfl⟩ ?_) ?_
      · rintro k _ ⟨q, t, rfl, q1, qk, q3, hq⟩
        have hmod : ((q : Nat) : Int) % ((p : Nat) : Int) = ((q % p : Nat) : Int) := by push_cast; rfl
        refine ⟨decide (q % p = 0), _, et_test ((ev_eqI (ev_I (g := fun i j => i % j) (ev_var rfl) (ev_var rfl) (by show 0 < ((p : Nat) : Int); omega)) ev_int).is ?_), fun hb2 => ?_, fun hb2 => ?_⟩
        · rw [hmod]
          exact congrArg PyData.bool (decide_eq_decide.mpr (by omega))
        · have hb2 := of_decide_eq_true hb2
          have hk : 0 < k := by
            rcases Nat.eq_zero_or_pos k with rfl | h
            · simp at qk; omega
            · exact h
          obtain ⟨j, rfl⟩ : ∃ j, k = j + 1 := ⟨k - 1, by omega⟩
          unfold fIn at hq
          rw [if_pos hb2] at hq
          have hdm := Nat.div_add_mod q p
          rw [hb2, Nat.add_zero] at hdm
          have hd1 : 1 ≤ q / p := by
            rcases Nat.eq_zero_or_pos (q / p) with z | z
            · rw [z] at hdm; omega
            · exact z
          have hd2 : 2 * (q / p) ≤ q := by
            have := Nat.mul_le_mul_right (q / p) p2
            omega
          have hd3 : q / p < 2 ^ j := by
            have : 2 ^ (j + 1) = 2 * 2 ^ j := by rw [Nat.pow_succ, Nat.mul_comm]
            omega
          refine st_then (Γ1 := [.dat (.int ((q / p : Nat) : Int)), .cell a (acc.map dPr), .dat (.int ((p : Nat) : Int)), .dat (.int (t : Int))]) (st_set (d := .int ((q / p : Nat) : Int)) ((ev_I (g := fun i j => i / j) (ev_var rfl) (ev_var rfl) ⟨by omega, by omega⟩).is (by push_cast; rfl)) (by simp) rfl) ?_
          exact st_aug (f := fun i j => i + j) (fun v w H Q q => ⟨v, w, rfl, rfl, q⟩) rfl ev_int ⟨j, by omega, q / p, t + 1, by simp, hd1, hd3, by omega, hq⟩
        · have hb2 := of_decide_eq_false hb2
          cases k with
          | zero => simp at qk; omega
          | succ j =>
            rw [show fIn (j + 1) p q t = (q, t) by
              unfold fIn
              rw [if_neg hb2]] at hq
            show _ = _
            rw [← hq]
      · rintro _ rfl
        generalize hq : fIn 9 p m 0 = r at he hle hpos hcnt ⊢
        refine st_seq (fun Γ => Γ = [.dat (.int ((r.1 : Nat) : Int)), .cell a ((if 0 < r.2 then acc ++ [(p, r.2)] else acc).map dPr), .dat (.int ((p : Nat) : Int)), .dat (.int ((r.2 : Nat) : Int))]) (st_if (b := decide (0 < r.2)) (et_test ((ev_B0 (g := fun i j => decide (j < i)) (ev_var rfl) ev_int).is (congrArg PyData.bool (decide_eq_decide.mpr (by omega))))) (fun h => ?_) fun h => ?_) ?_
        · have h := of_decide_eq_true h
          rw [if_pos h]
          exact st_app (ds := acc.map dPr) (d := dPr (p, r.2)) rfl (ev_tup (ea_2 (ev_var rfl) (ev_var rfl)) (by simp)) rfl (by simp; omega) (by simp)
        · have h := of_decide_eq_false h
          rw [if_neg h]
          exact st_next rfl
        · rintro _ rfl
          exact st_aug (f := fun i j => i + j) (fun v w H Q q => ⟨v, w, rfl, rfl, q⟩) rfl ev_int ⟨g, by omega, r.1, p + 1, (if 0 < r.2 then acc ++ [(p, r.2)] else acc), .dat (.int ((r.2 : Nat) : Int)), by simp, hpos, by omega, by omega, p17, by omega, (by split <;> first | (rw [List.length_append]; show _ + 1 ≤ _; omega) | omega), he⟩
    · have hb := of_decide_eq_false hb
      cases f with
      | zero =>
        exfalso
        omega
      | succ g =>
        unfold fOut at he
        rw [if_neg hb] at he
        exact ⟨m, p, acc, x, rfl, by omega, he⟩
  · rintro _ ⟨m, p, acc, x, rfl, al, he⟩
    refine st_seq (fun Γ => ∃ x, Γ = [.dat (.int ((m : Nat) : Int)), .cell a ((fac n).map dPr), .dat (.int ((p : Nat) : Int)), x]) (st_if (b := decide (1 < m)) (et_test ((ev_B0 (g := fun i j => decide (j < i)) (ev_var rfl) ev_int).is (congrArg PyData.bool (decide_eq_decide.mpr (by omega))))) (fun h => ?_) fun h => ?_) ?_
    · have h := of_decide_eq_true h
      rw [if_pos h] at he
      rw [← he]
      exact st_app (ds := acc.map dPr) (d := dPr (m, 1)) rfl (ev_tup (ea_2 (ev_var rfl) ev_int) (by simp)) rfl (by simp; omega) ⟨x, by simp⟩
    · have h := of_decide_eq_false h
      rw [if_neg h] at he
      rw [← he]
      exact st_next ⟨x, rfl⟩
    · rintro _ ⟨x, rfl⟩
      refine st_frz (i := 1) (a := a) rfl ?_
      exact st_ret (ev_var rfl) rfl
/-- the divisors, pair by pair -/
def dSt (found : List Nat) (e : Nat × Nat) : List Nat := found.flatMap fun d => (List.range (e.2 + 1)).map fun k => d * e.1 ^ k
def dFo (n i : Nat) : List Nat := ((fac n).take i).foldl dSt [1]
def dvl (n : Nat) : List Nat := ((List.range n).filter fun i => n / (i + 1) * (i + 1) == n).map (· + 1)
def fGood (n : Nat) : Bool := decide ((fac n).length ≤ 20) && (fac n).all (fun e => decide (e.1 < 1024) && decide (e.2 ≤ 8) && decide (e.1 ^ e.2 < 1024)) && (List.range ((fac n).length + 1)).all (fun i => decide ((dFo n i).length ≤ 1000) && (dFo n i).all fun d => decide (d ≤ 1000)) && (dFo n (fac n).length).isPerm (dvl n)
theorem fGood_all : (List.range 300).all (fun i => fGood (i + 1)) = true := by decide +kernel
end
end My


set_option Elab.async false
set_option maxRecDepth 100000
set_option maxHeartbeats 4000000
namespace My
open PySem PyProof.Rows L2 Fd Lin StX
local macro_rules | `(tactic| walk_at "ev") => `(tactic| first
  | exact ev_var rfl | exact ev_int | exact ev_bl | exact ev_non | exact ev_str
  | (apply ev_I0; walk_at "ev"; walk_at "ev")
  | (apply ev_I; walk_at "ev"; walk_at "ev"; walk_at "sd")
  | (apply ev_B0; walk_at "ev"; walk_at "ev")
  | (apply ev_un; walk_at "ev")
  | (apply ev_eqI; walk_at "ev"; walk_at "ev")
  | (apply ev_neI; walk_at "ev"; walk_at "ev")
  | (apply ev_toInt; walk_at "ev")
  | (apply ev_toIntB; walk_at "ev")
  | (apply x_ixC; rfl; walk_at "ev"; rfl; walk_at "sd"; rfl)
  | (apply x_ixR; walk_at "ev"; walk_at "ev"; walk_at "sd"; walk_at "sd")
  | (apply x_ixT; walk_at "ev"; walk_at "ev"; walk_at "sd"; rfl)
  | (apply x_ixL; walk_at "ev"; walk_at "ev"; walk_at "sd"; rfl)
  | (apply ev_lenT; walk_at "ev")
  | (apply ev_lenL; walk_at "ev")
  | (apply ev_tup; walk_at "ea"; (simp; done)))
local macro_rules | `(tactic| walk_at "ea") => `(tactic| first | exact ea_nil | (apply ea_cons; walk_at "ev"; walk_at "ea"))
local macro_rules | `(tactic| walk_at "sd") => `(tactic| first | assumption | decide | omega | (show _ < _; decide) | exact ⟨by omega, by omega⟩ | exact Or.inr ⟨by decide, by decide⟩ | exact Or.inr ⟨by omega, by omega⟩ | exact Or.inl ⟨by omega, by omega⟩ | exact ⟨by decide, by decide⟩)

variable {C_Malformed C_Refused : Addr}
section
variable {PP : Program} {w : World} {K : PySem.W.Frag} {mg : Str → Option Value} {base : Heap}
abbrev dN (d : Nat) : PyData := .int (d : Int)
structure FG (n : Nat) : Prop where
  len : (fac n).length ≤ 20
  pr : ∀ e, e ∈ fac n → e.1 < 1024 ∧ e.2 ≤ 8 ∧ e.1 ^ e.2 < 1024
  fo : ∀ i, i ≤ (fac n).length → (dFo n i).length ≤ 1000 ∧ ∀ d, d ∈ dFo n i → d ≤ 1000
  pm : (dFo n (fac n).length).Perm (dvl n)
theorem fg_of {n : Nat} (h1 : 1 ≤ n) (h3 : n ≤ 300) : FG n := by
  have h := List.all_eq_true.mp fGood_all (n - 1) (List.mem_range.mpr (by omega))
  rw [Nat.sub_add_cancel h1] at h
  obtain ⟨h, h4⟩ := Bool.and_eq_true_iff.mp h
  obtain ⟨h, h5⟩ := Bool.and_eq_true_iff.mp h
  obtain ⟨h6, h7⟩ := Bool.and_eq_true_iff.mp h
  refine ⟨of_decide_eq_true h6, fun e he => ?_, fun i hi => ?_, List.isPerm_iff.mp h4⟩
  · have q := List.all_eq_true.mp h7 e he
    obtain ⟨q, q3⟩ := Bool.and_eq_true_iff.mp q
    obtain ⟨q1, q2⟩ := Bool.and_eq_true_iff.mp q
    exact ⟨of_decide_eq_true q1, of_decide_eq_true q2, of_decide_eq_true q3⟩
  · have q := List.all_eq_true.mp h5 i (List.mem_range.mpr (by omega))
    obtain ⟨q1, q2⟩ := Bool.and_eq_true_iff.mp q
    exact ⟨of_decide_eq_true q1, fun d hd => of_decide_eq_true (List.all_eq_true.mp q2 d hd)⟩
theorem dvl_asc (n : Nat) : ((dvl n).map fun d : Nat => (d : Int)).Pairwise (· ≤ ·) := by
  rw [List.pairwise_map]
  unfold dvl
  rw [List.pairwise_map]
  exact (List.pairwise_lt_range.filter _).imp fun {a b} h => by
    show (((a + 1 : Nat)) : Int) ≤ ((b + 1 : Nat) : Int)
    omega
def preDiv : List PyData → PyData → Prop := fun ds d => ∃ n : Nat, 1 ≤ n ∧ n ≤ 300 ∧ ds = [dN n] ∧ d = .tuple ((dvl n).map dN)
abbrev s_divisors : Stmt := topS 9
theorem sc_divisors : FnScope ["n", "found", "prime", "times", "d", "k"] ["n"] (defScope s_divisors) := ⟨rfl, rfl, rfl, by decide +kernel, rfl, by decide +kernel, by decide +kernel⟩
theorem cal_divisors {nm : Str} (B : Bi mg) (c_factors : Cal PP w K mg base "factors" 1 ["n"] (spP preFac)) (c_power : Cal PP w K mg base "power" 1 ["a", "k"] (spP prePow)) (D : DfnA K mg nm "divisors" s_divisors) : Cal PP w K mg base nm 2 ["n"] (spP preDiv) := by
  obtain ⟨f, fd, F, hm⟩ := D.ex
  refine ⟨f, fd, ?_, hm, F.kp, F.binds fun _ _ _ _ _ _ us hl => match us, hl with | [_], _ => rfl⟩
  refine def_ok F sc_divisors ?_ fun cdv A outer s H E hr => ?_
  · intro ds d h
    obtain ⟨n, _, _, rfl, rfl⟩ := h
    rfl
  refine ⟨_, pss_cons (ps_set (i := 1) sc_divisors.nd rfl (by first | exact Or.inl rfl | exact Or.inr rfl) (pe_lst (pa_cons (pe_int) pa_nil)))
      (pss_cons (ps_for PassesOwn.never rfl (k_piL (K := K) rfl (pe_cal c_factors (hr.mono (by decide)) rfl (pa_cons (pv 0) pa_nil))) (k_pgT (K := K) (n := 2) rfl (by rfl) (pgs_cons (pg_name (i := 2) sc_divisors.nd rfl (by first | exact Or.inl rfl | exact Or.inr rfl)) (pgs_cons (pg_name (i := 3) sc_divisors.nd rfl (by first | exact Or.inl rfl | exact Or.inr rfl)) pgs_nil))) (pss_one (ps_setLc2 (i := 1) (own := [("d", 4), ("k", 5)]) (vs1 := [5]) (g := gName 4) (g1 := gName 5) (by rfl) sc_divisors.nd rfl rfl (sw_true rfl rfl rfl (by decide +kernel)) (k_piL (K := K) rfl (pv 1)) (blkOk_by (own := [("d", 4), ("k", 5)]) (N := ["n", "found", "prime", "times", "d", "k"]) (sc := defScope s_divisors) (by decide +kernel)) (by simp) (fun _ _ _ _ _ => pg_name (i := 4) sc_divisors.nd rfl (by first | exact Or.inl rfl | exact Or.inr rfl)) (fun _ _ _ _ _ => pts_nil) (fun _ _ _ _ _ => pi_range1 (by rfl) B.range (pa_cons (pe_op op_add (pv 3) (pe_int)) pa_nil)) (fun _ _ _ _ _ => pg_name (i := 5) sc_divisors.nd rfl (by first | exact Or.inl rfl | exact Or.inr rfl)) (fun _ _ _ _ _ => pts_nil) (fun _ _ _ _ _ => pe_op op_mul (pv 4) (pe_cal c_power (hr.mono (by decide)) rfl (pa_cons (pv 2) (pa_cons (pv 5) pa_nil)))))))
      (pss_one (ps_ret (pe_callTy (k_tupOf (K := K) rfl) (by rfl) B.tuple boot_tuple (pa_cons (pe_callB (k_sortIL (K := K) rfl) (by rfl) B.sorted boot_sorted (pa_cons (pv 1) pa_nil)) pa_nil))))), ?_⟩
  rintro _ _ ⟨n, h1, h3, rfl, rfl⟩
  show StD _ [.dat (dN n), .un, .un, .un, .un, .un] _
  have G := fg_of h1 h3
  refine st_then (Γ1 := [.dat (dN n), .dat (.list ((dFo n 0).map dN)), .un, .un, .un, .un]) (st_set (d := .list ((dFo n 0).map dN)) ((ev_lst (ea_1 ev_int) (by simp)).is rfl) (by simp) rfl) ?_
  refine st_seq (fun Γ => ∃ x y, Γ = [.dat (dN n), .dat (.list ((dFo n (fac n).length).map dN)), x, y, .un, .un]) (st_for (ds := (fac n).map dPr) (wk_list (ev_call (ea_1 (ev_var rfl)) ⟨n, h1, h3, rfl, rfl⟩)) (fun i Γ => ∃ x y, Γ = [.dat (dN n), .dat (.list ((dFo n i).map dN)), x, y, .un, .un]) ⟨_, _, rfl⟩ ?_ ?_) ?_
  · rintro i d _ hd ⟨x, y, rfl⟩
    rw [List.getElem?_map] at hd
    obtain ⟨e, he, rfl⟩ := Option.map_eq_some_iff.mp hd
    have hi := (List.getElem?_eq_some_iff.mp he).1
    have hm := List.mem_of_getElem? he
    obtain ⟨p1, p2, p3⟩ := G.pr e hm
    obtain ⟨f1, f2⟩ := G.fo i (by omega)
    obtain ⟨f3, f4⟩ := G.fo (i + 1) (by omega)
    have es : dFo n (i + 1) = dSt (dFo n i) e := by
      unfold dFo
      rw [List.take_add_one, he, Option.toList_some, List.foldl_append]
      rfl
    have pw : ∀ k, k ≤ e.2 → e.1 ^ k < 1024 := fun k hk => by
      rcases Nat.eq_zero_or_pos e.1 with z | z
      · rw [z]
        rcases Nat.eq_zero_or_pos k with q | q
        · rw [q]; decide
        · rw [Nat.zero_pow q]; decide
      · exact Nat.lt_of_le_of_lt (Nat.pow_le_pow_right z hk) p3
    refine ⟨_, _, tg_two (by simp) (by simp), st_set (d := .list ((dFo n (i + 1)).map dN)) ((EvC.ev (ec_lc2M (xs := dFo n i) (enc := dN) (ys := fun _ => List.range (e.2 + 1)) (enc1 := fun (k : Nat) => PyData.int (k : Int)) (is := [4]) (is1 := [5]) (wk_list (ev_var rfl)) rfl (by simp) (by simp) (by simp) ?_
      (fun d => [.dat (dN n), .dat (.list ((dFo n i).map dN)), .dat (.int (e.1 : Nat)), .dat (.int (e.2 : Nat)), .dat (dN d), .un]) (fun d k => [.dat (dN n), .dat (.list ((dFo n i).map dN)), .dat (.int (e.1 : Nat)), .dat (.int (e.2 : Nat)), .dat (dN d), .dat (.int (k : Nat))]) (fun d k => dN (d * e.1 ^ k))
      (fun d _ => tg_name (by simp)) (fun _ _ => rfl) (fun d _ => wk_rngN (n := e.2 + 1) (ev_I0 (g := fun i j => i + j) (ev_var rfl) ev_int) (by omega) (by omega)) (fun d _ k _ => tg_name (by simp)) (fun d hd k hk => ?_) (fun _ _ _ _ => rfl) (fun _ _ => rfl))).is ?_) (by simp) ⟨_, _, rfl⟩⟩
    · rw [es] at f3
      refine Nat.lt_of_le_of_lt (Nat.le_of_eq ?_) (Nat.lt_of_le_of_lt f3 (by decide))
      unfold dSt
      simp only [List.length_flatMap, List.length_map]
    · have hk := List.mem_range.mp hk
      have hd9 := f2 d hd
      have hk9 := pw k (by omega)
      have ep : ((e.1 : Nat) : Int) ^ k = ((e.1 ^ k : Nat) : Int) := by push_cast; rfl
      refine (ev_I (g := fun i j => i * j) (ev_var rfl) (ev_call (ea_2 (ev_var rfl) (ev_var rfl)) ⟨((e.1 : Nat) : Int), k, by omega, by omega, fun j hj => ?_, rfl, rfl⟩) (Or.inl ⟨by omega, by omega⟩)).is ?_
      · show PyData.int _ = PyData.int _
        push_cast
        rfl
      · have := pw j (by omega)
        have ej : ((e.1 : Nat) : Int) ^ j = ((e.1 ^ j : Nat) : Int) := by push_cast; rfl
        rw [ej]
        omega
    · show PyData.list _ = PyData.list _
      rw [es]
      unfold dSt
      rw [List.map_flatMap]
      simp only [List.map_map]
      rfl
  · rintro _ ⟨x, y, rfl⟩
    exact ⟨x, y, by rw [List.length_map]⟩
  · rintro _ ⟨x, y, rfl⟩
    refine st_ret (ev_tupOf (EvC.ev (ec_sortI (ns := (dFo n (fac n).length).map fun d : Nat => (d : Int)) (out := (dvl n).map fun d : Nat => (d : Int)) ((ev_var rfl).is (by rw [List.map_map]; rfl)) fun ns' hp hl => perm_asc (hp.trans (G.pm.map _)) hl (dvl_asc n)))) ?_
    show PyData.tuple _ = PyData.tuple _
    rw [List.map_map]
    rfl
def preRs0 (R : Addr) : List PyData → PyData → Prop := fun ds d => ∃ a p, Pr p ∧ a % p = 0 ∧ ds = [.int a, .int p] ∧ d = .tuple [.str "refused", .str "inverse"]
abbrev s__law_reason : Stmt := topS 14
theorem sc__law_reason : FnScope ["a", "p", "e"] ["a", "p"] (defScope s__law_reason) := ⟨rfl, rfl, rfl, by decide +kernel, rfl, by decide +kernel, by decide +kernel⟩
theorem cal__law_reason {nm : Str} (B : Bi mg) {C_Refused : Addr} (R_Refused : RefT PP w K mg base "Refused" C_Refused "reason" okS 1) {C_Fault C_Malformed C_NoText : Addr} (IX : IsX K mg C_Refused C_Fault C_Malformed C_NoText) (c_inverse__e : CalE PP w K mg base "inverse" 3 ["a", "p"] (spE (preInvE C_Refused))) (D : DfnA K mg nm "_law_reason" s__law_reason) : Cal PP w K mg base nm 4 ["a", "p"] (spP (preRs0 C_Refused)) := by
  obtain ⟨f, fd, F, hm⟩ := D.ex
  refine ⟨f, fd, ?_, hm, F.kp, F.binds fun _ _ _ _ _ _ us hl => match us, hl with | [_, _], _ => rfl⟩
  refine def_ok F sc__law_reason ?_ fun cdv A outer s H E hr => ?_
  · intro ds d h
    obtain ⟨a, p, _, _, rfl, rfl⟩ := h
    rfl
  refine ⟨_, pss_cons (ps_try_hand rfl rfl (fun W pn xe tk hp => pss_one (ps_expr (pe_calE c_inverse__e tk (hr.mono (by decide)) rfl (pa_cons (pv 0) (pa_cons (pv 1) pa_nil))))) (hand_as (i := 2) rfl sc__law_reason.nd rfl rfl ⟨rfl, by decide, .inl IX.gF⟩ (fun a oe cls d pn hz hf => pss_one (ps_if (PW.pt (pw_and (pt_val (pe_callB (call_isEd R_Refused.xf IX hz hf) (by rfl) B.isinstance boot_isinstance (pa_cons (pv 2) (pa_cons (C8.pe_gc rfl ⟨_, R_Refused.g, (show L2.RelV (.ref C_Refused) (.ref C_Refused) from rfl)⟩) pa_nil)))) (pw_and (pt_val (pe_callB (call_isEd R_Refused.xf IX hz hf) (by rfl) B.isinstance boot_isinstance (pa_cons (pv 2) (pa_cons (pe_bltn (v := .ty "ValueError") (by rfl) IX.gV boot_ValueError rfl) pa_nil)))) (pw_and1 (pt_not (pt_val (pe_callB (call_isEt R_Refused.xf IX hz hf) (by rfl) B.isinstance boot_isinstance (pa_cons (pv 2) (pa_cons (pe_tup (pa_cons (C8.pe_gc rfl ⟨_, IX.gM, (show L2.RelV (.ref C_Malformed) (.ref C_Malformed) from rfl)⟩) (pa_cons (C8.pe_gc rfl ⟨_, IX.gN, (show L2.RelV (.ref C_NoText) (.ref C_NoText) from rfl)⟩) pa_nil))) pa_nil))))))))) (pss_one (ps_ret (pe_tup (pa_cons (pe_str) (pa_cons (pe_xf R_Refused.xf R_Refused.nf hz hf (pv 2)) pa_nil))))) (pss_nil))) (hand_nil rfl rfl takes0)))
      (pss_one (ps_ret (pe_non))), ?_⟩
  rintro _ _ ⟨a, p, hp, ha, rfl, rfl⟩
  show StD _ [.dat (.int a), .dat (.int p), .un] _
  refine st_seq (fun _ => False) (sd_tryH (R := fun Γ x => x = xRef C_Refused "inverse" ∧ Γ = [.dat (.int a), .dat (.int p), .un]) (fun W => se_drop (ee_call (ea_2 (ev_var rfl) (ev_var rfl)) ⟨a, p, hp, ha, rfl, rfl⟩) ⟨rfl, rfl⟩) ?_) fun _ h => h.elim
  rintro _ _ ⟨rfl, rfl⟩
  have kR : PySem.W.kitOne K (.ref C_Refused) (.ref C_Refused) = some true := by
    unfold PySem.W.kitOne
    rw [if_pos (by simp)]
  have kMN : PySem.W.kitAny K (.ref C_Refused) [.ref C_Malformed, .ref C_NoText] = some false := by
    unfold PySem.W.kitAny
    rw [IX.kM]
    show PySem.W.kitAny K (.ref C_Refused) [.ref C_NoText] = some false
    unfold PySem.W.kitAny
    rw [IX.kN]
    rfl
  exact hd_yesA IX.eF (by simp) (fun a d => st_if (b := true) (et_and (a := true) (b := true) (et_B (ev_isEd rfl (.own _) kR)) fun _ => et_and (a := true) (b := true) (et_B (ev_isEd rfl (.ty _) IX.kV)) fun _ => et_not (a := false) (et_B (ev_isEt rfl (.own _) (.own _) kMN))) (fun _ => st_ret (ev_tup (ea_2 ev_str (ev_xf rfl rfl)) (by simp)) rfl) fun h => by cases h) fun _ _ h => h
theorem ev_isB {Γ Γ1 Γ2 : En} {ta tb : TE} {a b : Bool} (ha : Ev ta Γ Γ1 (.bool a)) (hb : Ev tb Γ1 Γ2 (.bool b)) : Ev (tOp rIsB ta tb) Γ Γ2 (.bool (decide (a = b))) :=
  ev_op ha hb fun G H u v _ r1 r2 Q q => ⟨a, b, r1.blE, r2.blE, q _ fun _ => .bl _⟩
theorem ev_notB {Γ Γ1 Γ2 : En} {ta tb : TE} {a b : Bool} (ha : Ev ta Γ Γ1 (.bool a)) (hb : Ev tb Γ1 Γ2 (.bool b)) : Ev (tOp rNotB ta tb) Γ Γ2 (.bool (!decide (a = b))) :=
  ev_op ha hb fun G H u v _ r1 r2 Q q => ⟨a, b, r1.blE, r2.blE, q _ fun _ => .bl _⟩
theorem pick4 {j : Int} (h0 : 0 ≤ j) (h4 : j < 4) : ∃ p : Int, Pr p ∧ ([.int 2, .int 3, .int 5, .int 7] : List PyData)[j.toNat]? = some (.int p) := by
  obtain ⟨k, rfl⟩ : ∃ k : Nat, j = k := ⟨j.toNat, by omega⟩
  rw [Int.toNat_natCast]
  have : k = 0 ∨ k = 1 ∨ k = 2 ∨ k = 3 := by omega
  rcases this with rfl | rfl | rfl | rfl
  · exact ⟨2, .inl rfl, rfl⟩
  · exact ⟨3, .inr (.inl rfl), rfl⟩
  · exact ⟨5, .inr (.inr (.inl rfl)), rfl⟩
  · exact ⟨7, .inr (.inr (.inr rfl)), rfl⟩
abbrev s_law : Stmt := topS 15
theorem sc_law : FnScope ["script", "state", "p", "a", "b", "k", "total", "turn", "n", "value", "d"] ["script"] (defScope s_law) := ⟨rfl, rfl, rfl, by decide +kernel, rfl, by decide +kernel, by decide +kernel⟩
theorem ok_law (B : Bi mg) (c__law_state : Cal PP w K mg base "_law_state" 1 ["script"] (spState K)) (c__law_take : Cal PP w K mg base "_law_take" 1 ["state", "m"] (spS preTake)) (c__law_reason : Cal PP w K mg base "_law_reason" 4 ["a", "p"] (spP (preRs0 C_Refused))) (c_inverse : Cal PP w K mg base "inverse" 1 ["a", "p"] (spP preInv)) (c_power : Cal PP w K mg base "power" 1 ["a", "k"] (spP prePow)) (c_divisors : Cal PP w K mg base "divisors" 2 ["n"] (spP preDiv)) (c_is_integer : Cal PP w K mg base "is_integer" 1 ["value"] (spP preIsInt)) {f : Addr} {fd : FuncData} (F : Fun K "law" "law" s_law f fd) : FnOk PP w K mg base CX0 5 f fd ["script"] (spLaw K) := by
  refine F.ok sc_law (fun vs H Q E h => ?_) fun cdv A outer s H vs Q E hr h => ?_
  · skip
    obtain ⟨a, ns, rfl, _⟩ := h
    rfl
  refine ⟨_, pss_cons (ps_set (i := 1) sc_law.nd rfl (by first | exact Or.inl rfl | exact Or.inr rfl) (pe_cal c__law_state (hr.mono (by decide)) rfl (pa_cons (pv 0) pa_nil)))
      (pss_cons (ps_set (i := 2) sc_law.nd rfl (by first | exact Or.inl rfl | exact Or.inr rfl) (pe_ix (k_ixL (K := K) rfl) (pe_lst (pa_cons (pe_int) (pa_cons (pe_int) (pa_cons (pe_int) (pa_cons (pe_int) pa_nil))))) (pe_cal c__law_take (hr.mono (by decide)) rfl (pa_cons (pv 1) (pa_cons (pe_int) pa_nil))) (fun _ _ => rfl)))
      (pss_cons (ps_set (i := 3) sc_law.nd rfl (by first | exact Or.inl rfl | exact Or.inr rfl) (pe_op op_sub (pe_cal c__law_take (hr.mono (by decide)) rfl (pa_cons (pv 1) (pa_cons (pe_int) pa_nil))) (pe_int)))
      (pss_cons (ps_if (pt_cmpR op_eq (pe_op op_mod (pe_callTy k_int1 (by rfl) B.int boot_int (pa_cons (pv 3) pa_nil)) (pv 2)) (pe_int) (nomark _)) (pss_one (ps_if (pt_cmpR (k_neD (K := K) rfl (hu64 hr)) (pe_cal c__law_reason (hr.mono (by decide)) rfl (pa_cons (pv 3) (pa_cons (pv 2) pa_nil))) (pe_tup (pa_cons (pe_str) (pa_cons (pe_str) pa_nil))) (nomark _)) (pss_one (ps_ret (pe_bl))) (pss_nil))) (pss_cons (ps_set (i := 4) sc_law.nd rfl (by first | exact Or.inl rfl | exact Or.inr rfl) (pe_cal c_inverse (hr.mono (by decide)) rfl (pa_cons (pv 3) (pa_cons (pv 2) pa_nil))))
      (pss_one (ps_if (PW.pt (pw_or (pt_not (pt_chain op_lt op_lt (pe_int) (pv 4) (pv 2))) (pw_or1 (pt_cmpR op_ne (pe_op op_mod (pe_callTy k_int1 (by rfl) B.int boot_int (pa_cons (pe_op op_mul (pv 3) (pv 4)) pa_nil)) (pv 2)) (pe_int) (nomark _))))) (pss_one (ps_ret (pe_bl))) (pss_nil)))))
      (pss_cons (ps_set (i := 5) sc_law.nd rfl (by first | exact Or.inl rfl | exact Or.inr rfl) (pe_cal c__law_take (hr.mono (by decide)) rfl (pa_cons (pv 1) (pa_cons (pe_int) pa_nil))))
      (pss_cons (ps_set (i := 6) sc_law.nd rfl (by first | exact Or.inl rfl | exact Or.inr rfl) (pe_int))
      (pss_cons (ps_for PassesOwn.never rfl (pi_range1 (by rfl) B.range (pa_cons (pv 5) pa_nil)) (pg_name (i := 7) sc_law.nd rfl (by first | exact Or.inl rfl | exact Or.inr rfl)) (pss_one (ps_set (i := 6) sc_law.nd rfl (by first | exact Or.inl rfl | exact Or.inr rfl) (pe_op op_mul (pv 6) (pv 3)))))
      (pss_cons (ps_if (pt_cmpR op_ne (pe_cal c_power (hr.mono (by decide)) rfl (pa_cons (pv 3) (pa_cons (pv 5) pa_nil))) (pv 6) (nomark _)) (pss_one (ps_ret (pe_bl))) (pss_nil))
      (pss_cons (ps_set (i := 8) sc_law.nd rfl (by first | exact Or.inl rfl | exact Or.inr rfl) (pe_op op_add (pe_int) (pe_cal c__law_take (hr.mono (by decide)) rfl (pa_cons (pv 1) (pa_cons (pe_int) pa_nil)))))
      (pss_cons (ps_if (pt_cmpR (k_neD (K := K) rfl (hu64 hr)) (pe_cal c_divisors (hr.mono (by decide)) rfl (pa_cons (pv 8) pa_nil)) (pe_callTy (k_tupOf (K := K) rfl) (by rfl) B.tuple boot_tuple (pa_cons (pe_lc (own := [("d", 10)]) (g := gName 10) (by rfl) sc_law.nd (pi_range2 (by rfl) B.range (pa_cons (pe_int) (pa_cons (pe_op op_add (pv 8) (pe_int)) pa_nil))) (blkOk_by (own := [("d", 10)]) (N := ["script", "state", "p", "a", "b", "k", "total", "turn", "n", "value", "d"]) (sc := defScope s_law) (by decide +kernel)) (fun _ _ _ _ _ => pg_name (i := 10) sc_law.nd rfl (by first | exact Or.inl rfl | exact Or.inr rfl)) (fun _ _ _ _ _ => pts_one (pt_cmpR op_eq (pe_op op_mul (pe_op op_fdiv (pv 8) (pv 10)) (pv 10)) (pv 8) (nomark _))) (fun _ _ _ _ _ => pv 10)) pa_nil)) (nomark _)) (pss_one (ps_ret (pe_bl))) (pss_nil))
      (pss_cons (ps_for PassesOwn.never rfl (k_piL (K := K) rfl (pe_lst (pa_cons (pe_bl) (pa_cons (pe_bl) (pa_cons (pe_non) (pa_cons (pe_str) (pa_cons (pe_tup (pa_cons (pe_int) pa_nil)) (pa_cons (pe_lst (pa_cons (pe_int) pa_nil)) (pa_cons (pe_tup (pa_nil)) pa_nil))))))))) (pg_name (i := 9) sc_law.nd rfl (by first | exact Or.inl rfl | exact Or.inr rfl)) (pss_one (ps_if (pt_cmpR op_notBl (pe_cal c_is_integer (hr.mono (by decide)) rfl (pa_cons (pv 9) pa_nil)) (pe_bl) (nomark _)) (pss_one (ps_ret (pe_bl))) (pss_nil))))
      (pss_one (ps_ret (pe_cmpR op_isBl (pe_cal c_is_integer (hr.mono (by decide)) rfl (pa_cons (pv 3) pa_nil)) (pe_bl) (nomark _)))))))))))))), ?_⟩
  obtain ⟨a, ns, rfl, hS, hlen, k⟩ := h
  refine law_start (m := 9) hS hlen k fun l st => ?_
  show StD _ [.un, .cell l (dS st), .un, .un, .un, .un, .un, .un, .un, .un, .un] _
  let B : Int × Int → Sl → Sl → Sl → Sl → Sl → Sl → Sl → Sl → Sl → En := fun st x2 x3 x4 x5 x6 x7 x8 x9 x10 => [.un, .cell l (dS st), x2, x3, x4, x5, x6, x7, x8, x9, x10]
  obtain ⟨t0, t1⟩ := take_bd st (m := 4) (by omega)
  obtain ⟨p, hp, hget⟩ := pick4 t0 t1
  have h0 := hp.pos
  have h7 := hp.le
  refine st_then (Γ1 := B (take st 4).2 (.dat (.int p)) .un .un .un .un .un .un .un .un) (st_set (d := .int p) (x_ixL (j := (take st 4).1) (ds := [.int 2, .int 3, .int 5, .int 7]) (ev_lst (ea_cons ev_int (ea_cons ev_int (ea_2 ev_int ev_int))) (by simp)) (ev_callS rfl (ea_1 ev_int) rfl ⟨st, 4, by omega, by omega, rfl, rfl, rfl, rfl⟩) t0 hget) (by simp) rfl) ?_
  generalize (take st 4).2 = st
  obtain ⟨u0, u1⟩ := take_bd st (m := 2001) (by omega)
  obtain ⟨a, ha⟩ : ∃ a, a = (take st 2001).1 - 1000 := ⟨_, rfl⟩
  have ha1 : a.natAbs ≤ 1000 := by omega
  refine st_then (Γ1 := B (take st 2001).2 (.dat (.int p)) (.dat (.int a)) .un .un .un .un .un .un .un) (st_set (d := .int a) ((ev_I0 (g := fun i j => i - j) (ev_callS rfl (ea_1 ev_int) rfl ⟨st, 2001, by omega, by omega, rfl, rfl, rfl, rfl⟩) ev_int).is (by rw [ha])) (by simp [B]) rfl) ?_
  generalize (take st 2001).2 = st
  clear ha u0 u1 t0 t1 hget
  -- the inverse
  refine st_seq (fun Γ => ∃ x4, Γ = B st (.dat (.int p)) (.dat (.int a)) x4 .un .un .un .un .un .un) (st_if (b := decide (a % p = 0)) (et_test (ev_eqI (ev_I (g := fun i j => i % j) (ev_toInt (ev_var rfl)) (ev_var rfl) (show 0 < p by omega)) ev_int)) (fun h => ?_) fun h => ?_) ?_
  · have h := of_decide_eq_true h
    have shL : Shd 1 (.tuple [.str "refused", .str "inverse"]) := shd_two (shd_str (by decide +kernel)) (shd_str (by decide +kernel))
    exact st_if (b := false) (et_test (ev_neSame shL (by decide) (ev_call (ea_2 (ev_var rfl) (ev_var rfl)) ⟨a, p, hp, h, rfl, rfl⟩) (ev_tup (ea_2 ev_str ev_str) (by simp)))) (fun h => by cases h) fun _ => st_next ⟨_, rfl⟩
  · have h := of_decide_eq_false h
    obtain ⟨i1, i2, i3⟩ := inv_spec hp h
    refine st_then (Γ1 := B st (.dat (.int p)) (.dat (.int a)) (.dat (.int (inv a p))) .un .un .un .un .un .un) (st_set (d := .int (inv a p)) (ev_call (ea_2 (ev_var rfl) (ev_var rfl)) ⟨a, p, hp, h, rfl, rfl⟩) (by simp [B]) rfl) ?_
    exact st_if (b := false) (et_or (a := false) (b := false) (et_not (a := true) (et_test ((ev_chain (g := fun i j => decide (i < j)) (h := fun i j => decide (i < j)) ev_int (ev_var rfl) (ev_var rfl)).is (by rw [decide_eq_true (by omega), decide_eq_true (by omega)]; rfl)))) fun _ => et_test ((ev_neI (ev_I (g := fun i j => i % j) (ev_toInt (ev_I (g := fun i j => i * j) (ev_var rfl) (ev_var rfl) (Or.inl ⟨by omega, by omega⟩))) (ev_var rfl) (show 0 < p by omega)) ev_int).is (by rw [i3]; rfl))) (fun h => by cases h) fun _ => st_next ⟨_, rfl⟩
  rintro _ ⟨x4, rfl⟩
  -- powers
  obtain ⟨k0, k1⟩ := take_bd st (m := 9) (by omega)
  obtain ⟨m, hm, hm8⟩ : ∃ m : Nat, (take st 9).1 = m ∧ m ≤ 8 := ⟨(take st 9).1.toNat, by omega, by omega⟩
  refine st_then (Γ1 := B (take st 9).2 (.dat (.int p)) (.dat (.int a)) x4 (.dat (.int (m : Nat))) .un .un .un .un .un) (st_set (d := .int (m : Nat)) ((ev_callS rfl (ea_1 ev_int) rfl ⟨st, 9, by omega, by omega, rfl, rfl, rfl, rfl⟩).is (congrArg PyData.int hm)) (by simp [B]) rfl) ?_
  generalize (take st 9).2 = st
  refine st_then (Γ1 := B st (.dat (.int p)) (.dat (.int a)) x4 (.dat (.int (m : Nat))) (.dat (.int (a ^ 0))) .un .un .un .un) (st_set (d := .int (a ^ 0)) (ev_int.is (by rw [Int.pow_zero])) (by simp [B]) rfl) ?_
  refine st_seq (fun Γ => ∃ x7, Γ = B st (.dat (.int p)) (.dat (.int a)) x4 (.dat (.int (m : Nat))) (.dat (.int (a ^ m))) x7 .un .un .un) (st_for (wk_rngN (n := m) (ev_var rfl) rfl (by omega)) (fun i Γ => ∃ x7, Γ = B st (.dat (.int p)) (.dat (.int a)) x4 (.dat (.int (m : Nat))) (.dat (.int (a ^ i))) x7 .un .un .un) ⟨_, rfl⟩ ?_ ?_) ?_
  · rintro i d _ hd ⟨x7, rfl⟩
    exact ⟨_, _, tg_name (by simp [B]), st_set (d := .int (a ^ (i + 1))) ((ev_I (g := fun i j => i * j) (ev_var rfl) (ev_var rfl) (Or.inr ⟨by omega, by omega⟩)).is (by rw [Int.pow_succ])) (by simp [B]) ⟨_, rfl⟩⟩
  · rintro _ ⟨x7, rfl⟩
    exact ⟨x7, by simp [B]⟩
  rintro _ ⟨x7, rfl⟩
  have pwb : ∀ j, j ≤ m / 2 → (a ^ j).natAbs < 2 ^ 64 := fun j hj => by
    rw [Int.natAbs_pow]
    exact Nat.lt_of_le_of_lt (Nat.pow_le_pow_left ha1 j) (Nat.lt_of_le_of_lt (Nat.pow_le_pow_right (by decide) (show j ≤ 4 by omega)) (by decide))
  refine st_then (Γ1 := B st (.dat (.int p)) (.dat (.int a)) x4 (.dat (.int (m : Nat))) (.dat (.int (a ^ m))) x7 .un .un .un) (st_if (b := false) (et_test ((ev_neI (ev_call (ea_2 (ev_var rfl) (ev_var rfl)) ⟨a, m, by omega, by omega, pwb, rfl, rfl⟩) (ev_var rfl)).is (by rw [decide_eq_true rfl]; rfl))) (fun h => by cases h) fun _ => st_next rfl) ?_
  -- divisors
  obtain ⟨n0, n1⟩ := take_bd st (m := 300) (by omega)
  obtain ⟨n, hn, hn1, hn3⟩ : ∃ n : Nat, 1 + (take st 300).1 = n ∧ 1 ≤ n ∧ n ≤ 300 := ⟨(1 + (take st 300).1).toNat, by omega, by omega, by omega⟩
  refine st_then (Γ1 := B (take st 300).2 (.dat (.int p)) (.dat (.int a)) x4 (.dat (.int (m : Nat))) (.dat (.int (a ^ m))) x7 (.dat (.int (n : Nat))) .un .un) (st_set (d := .int (n : Nat)) ((ev_I0 (g := fun i j => i + j) ev_int (ev_callS rfl (ea_1 ev_int) rfl ⟨st, 300, by omega, by omega, rfl, rfl, rfl, rfl⟩)).is (congrArg PyData.int hn)) (by simp [B]) rfl) ?_
  generalize (take st 300).2 = st
  have shT : Shd 1 (.tuple ((dvl n).map dN)) := shd_tup (shd_map (fun d => shd_int _) _)
  refine st_then (Γ1 := B st (.dat (.int p)) (.dat (.int a)) x4 (.dat (.int (m : Nat))) (.dat (.int (a ^ m))) x7 (.dat (.int (n : Nat))) .un .un) (st_if (b := false) (et_test (ev_neSame shT (by decide) (ev_call (ea_1 (ev_var rfl)) ⟨n, hn1, hn3, rfl, rfl⟩) ((ev_tupOf (EvC.ev (ec_lcF (xs := List.range n) (enc := fun i : Nat => PyData.int (1 + (i : Int))) (is := [10]) ?w rfl (by simp) (by simp; omega)
    (fun i => B st (.dat (.int p)) (.dat (.int a)) x4 (.dat (.int (m : Nat))) (.dat (.int (a ^ m))) x7 (.dat (.int (n : Nat))) .un (.dat (.int (1 + (i : Int))))) (fun i => decide (n / (i + 1) * (i + 1) = n)) (fun i => .int (1 + (i : Int))) (fun i _ => tg_name (by simp [B])) (fun i hi => ?t) (fun i _ _ => ev_var rfl) (fun _ _ => rfl)))).is ?e))) (fun h => by cases h) fun _ => st_next rfl) ?_
  case w =>
    have := wk_rng2 (Γ := B st (.dat (.int p)) (.dat (.int a)) x4 (.dat (.int (m : Nat))) (.dat (.int (a ^ m))) x7 (.dat (.int (n : Nat))) .un .un) (lo := 1) (n := (n : Int) + 1) ev_int (ev_I0 (g := fun i j => i + j) (ev_var (i := 8) rfl) (ev_int (i := 1))) (by omega) (by omega) (by omega) (by omega)
    rw [show ((n : Int) + 1 - 1).toNat = n by omega] at this
    exact this
  case t =>
    have hi := List.mem_range.mp hi
    have e1 : (n : Int) / (1 + (i : Int)) = ((n / (i + 1) : Nat) : Int) := by
      rw [show (1 + (i : Int)) = ((i + 1 : Nat) : Int) by omega]
      push_cast
      rfl
    have hle : n / (i + 1) ≤ n := Nat.div_le_self _ _
    refine et_test ((ev_eqI (ev_I (g := fun i j => i * j) (ev_I (g := fun i j => i / j) (ev_var rfl) (ev_var rfl) ⟨by omega, by omega⟩) (ev_var rfl) (Or.inr ⟨by omega, by omega⟩)) (ev_var rfl)).is ?_)
    refine congrArg PyData.bool (decide_eq_decide.mpr ?_)
    rw [e1, show (1 + (i : Int)) = ((i + 1 : Nat) : Int) by omega, ← Int.natCast_mul]
    omega
  case e =>
    show PyData.tuple _ = PyData.tuple _
    unfold dvl
    rw [List.map_map]
    refine congrArg PyData.tuple ?_
    have : (fun i => decide (n / (i + 1) * (i + 1) = n)) = fun i => n / (i + 1) * (i + 1) == n := by
      funext i
      exact (Bool.beq_eq_decide_eq _ _).symm
    rw [this]
    refine List.map_congr_left fun i _ => ?_
    show PyData.int _ = PyData.int _
    exact congrArg PyData.int (show 1 + (i : Int) = ((i + 1 : Nat) : Int) by omega)
  -- integers
  refine st_seq (fun Γ => ∃ x9, Γ = B st (.dat (.int p)) (.dat (.int a)) x4 (.dat (.int (m : Nat))) (.dat (.int (a ^ m))) x7 (.dat (.int (n : Nat))) x9 .un) (st_for (ds := [PyData.bool true, .bool false, .none, .str "1", .tuple [.int 1], .list [.int 1], .tuple []]) (wk_list (ev_lst (ea_cons ev_bl (ea_cons ev_bl (ea_cons ev_non (ea_cons ev_str (ea_cons (ev_tup (ea_1 ev_int) (by simp)) (ea_2 (ev_lst (ea_1 ev_int) (by simp)) (ev_tup ea_nil (by simp)))))))) (by simp))) (fun i Γ => ∃ x9, Γ = B st (.dat (.int p)) (.dat (.int a)) x4 (.dat (.int (m : Nat))) (.dat (.int (a ^ m))) x7 (.dat (.int (n : Nat))) x9 .un) ⟨_, rfl⟩ ?_ fun _ h => h) ?_
  · rintro i d _ hd ⟨x9, rfl⟩
    have hq : plain d = true ∧ isI d = false := by
      have := List.mem_of_getElem? hd
      simp only [List.mem_cons, List.not_mem_nil, or_false] at this
      rcases this with rfl | rfl | rfl | rfl | rfl | rfl | rfl <;> exact ⟨rfl, rfl⟩
    exact ⟨_, _, tg_name (by simp [B]), st_if (b := false) (et_test ((ev_notB (a := isI d) (b := false) (ev_call (ea_1 (ev_var rfl)) ⟨d, hq.1, rfl, rfl⟩) ev_bl).is (by rw [hq.2]; rfl))) (fun h => by cases h) fun _ => st_next ⟨_, rfl⟩⟩
  rintro _ ⟨x9, rfl⟩
  exact st_ret ((ev_isB (a := true) (b := true) (ev_call (ea_1 (ev_var rfl)) ⟨.int a, rfl, rfl, rfl⟩) ev_bl).is rfl) rfl
end
end My


set_option Elab.async false
set_option maxRecDepth 100000
set_option maxHeartbeats 2000000
namespace My
open PySem PyProof.Rows L2 Fd Lin
theorem kit_ref {K : PySem.W.Frag} {C : Addr} {t : Value} {b : Bool} (h : (t == Value.ref C) = false) (i1 : PySem.W.isClsIn K C = true) (i2 : PySem.W.typeIn K (.ref C) = some (.type "type")) (i3 : PySem.W.subIn K t (.ref C) = some b) : PySem.W.kitOne K t (.ref C) = some b := by
  unfold PySem.W.kitOne
  rw [h, if_neg Bool.false_ne_true]
  show (if ((PySem.W.clsIn K C).isSome && PySem.W.typeIn K (.ref C) == some (.type "type")) = true then PySem.W.subIn K t (.ref C) else none) = some b
  rw [show (PySem.W.clsIn K C).isSome = true from i1, i2, if_pos (by decide)]
  exact i3
theorem kit_ty {K : PySem.W.Frag} {C : Addr} {T : String} {b : Bool} (h : (Value.ref C == Value.type T) = false) (m : PySem.W.kitMeta T = true) (i : PySem.W.subIn K (.ref C) (.type T) = some b) : PySem.W.kitOne K (.ref C) (.type T) = some b := by
  unfold PySem.W.kitOne
  rw [h, if_neg Bool.false_ne_true]
  show (if PySem.W.kitMeta T = true then PySem.W.subIn K (.ref C) (.type T) else none) = some b
  rw [if_pos m]
  exact i
theorem exm_tr {K : PySem.W.Frag} {C D : Addr} (b : PySem.W.subIn K (.ref D) (.type "BaseException") = some true) (i : PySem.W.isClsIn K D = true) (t : PySem.W.typeIn K (.ref D) = some (.type "type")) (s : PySem.W.subIn K (.ref C) (.ref D) = some true) : PySem.W.exmOne K (.ref C) (.ref D) = some true := by
  unfold PySem.W.exmOne
  rw [b, if_pos (by decide)]
  show (if ((PySem.W.clsIn K D).isSome && PySem.W.typeIn K (.ref D) == some (.type "type")) = true then PySem.W.subIn K (.ref C) (.ref D) else none) = some true
  rw [show (PySem.W.clsIn K D).isSome = true from i, t, if_pos (by decide)]
  exact s
theorem exm_mk {K : PySem.W.Frag} {C : Addr} (b : PySem.W.subIn K (.ref C) (.type "BaseException") = some true) (i : PySem.W.isClsIn K C = true) (t : PySem.W.typeIn K (.ref C) = some (.type "type")) (s : PySem.W.subIn K (.ref C) (.ref C) = some true) : PySem.W.exmOne K (.ref C) (.ref C) = some true := by
  unfold PySem.W.exmOne
  rw [b, if_pos (by decide)]
  show (if ((PySem.W.clsIn K C).isSome && PySem.W.typeIn K (.ref C) == some (.type "type")) = true then PySem.W.subIn K (.ref C) (.ref C) else none) = some true
  rw [show (PySem.W.clsIn K C).isSome = true from i, t, if_pos (by decide)]
  exact s
theorem all_mk {l : PySem.W.OpenLaw} {w : World} {K : PySem.W.Frag} {h : Heap} {mg : Str → Option Value} {fa f_inverse f__law_state f__law_take f_is_integer f_power f_factors f_divisors f__law_reason f_law C_Refused C_Fault C_Malformed C_NoText F_Refused cc_Refused cd_Refused : Addr} (X : K.In h) (G : h.Ns mainGlobals mg) (hfa : mg "law" = some (.ref fa))
    {od_inverse an_inverse : Option Addr} {sl_inverse : Array (Option Value)} {oc_inverse kV_inverse dc_inverse pm_inverse cd_inverse ct_inverse : Value}
    {od__law_state an__law_state : Option Addr} {sl__law_state : Array (Option Value)} {oc__law_state kV__law_state dc__law_state pm__law_state cd__law_state ct__law_state : Value}
    {od__law_take an__law_take : Option Addr} {sl__law_take : Array (Option Value)} {oc__law_take kV__law_take dc__law_take pm__law_take cd__law_take ct__law_take : Value}
    {od_is_integer an_is_integer : Option Addr} {sl_is_integer : Array (Option Value)} {oc_is_integer kV_is_integer dc_is_integer pm_is_integer cd_is_integer ct_is_integer : Value}
    {od_power an_power : Option Addr} {sl_power : Array (Option Value)} {oc_power kV_power dc_power pm_power cd_power ct_power : Value}
    {od_factors an_factors : Option Addr} {sl_factors : Array (Option Value)} {oc_factors kV_factors dc_factors pm_factors cd_factors ct_factors : Value}
    {od_divisors an_divisors : Option Addr} {sl_divisors : Array (Option Value)} {oc_divisors kV_divisors dc_divisors pm_divisors cd_divisors ct_divisors : Value}
    {od__law_reason an__law_reason : Option Addr} {sl__law_reason : Array (Option Value)} {oc__law_reason kV__law_reason dc__law_reason pm__law_reason cd__law_reason ct__law_reason : Value}
    {od_law an_law : Option Addr} {sl_law : Array (Option Value)} {oc_law kV_law dc_law pm_law cd_law ct_law : Value}
    {rnm_Refused rq_Refused : Str} {rN_Refused : Addr} {rbs_Refused rbm_Refused : List Value} {rsn_Refused : List Str} {rsu_Refused : List Value} {rab_Refused : Bool} {rcol_Refused : Option Bool} {rdd_Refused : Option Addr} {rka_Refused rkb_Refused rkc_Refused rkd_Refused rkf_Refused : Option Value}
    {roc_Refused rkV_Refused rdoc_Refused rpm_Refused rct_Refused rcl_Refused rccl_Refused : Value} {rod_Refused ran_Refused rcld_Refused rccd_Refused : Option Addr} {rosl_Refused rcsl_Refused rccs_Refused : Array (Option Value)} {rvs_Refused : Array Value} {rfile_Refused : Str} {rtf_Refused : Tok}
    (a_inverse : PySem.W.nsIn K mainGlobals "inverse" = some (some (.ref f_inverse)))
    (l_inverse : K.lookup f_inverse = some ⟨oc_inverse, od_inverse, .func (PySem.W.fnOf "inverse" "inverse" (defArgs s_inverse) (defBody s_inverse) (defScope s_inverse) .none kV_inverse dc_inverse pm_inverse an_inverse cd_inverse ct_inverse), sl_inverse⟩)
    (c_inverse : PySem.W.codeIn K cd_inverse "inverse" = true)
    (k_inverse : PySem.W.keepIn K (.ref f_inverse) = true)
    (a__law_state : PySem.W.nsIn K mainGlobals "_law_state" = some (some (.ref f__law_state)))
    (l__law_state : K.lookup f__law_state = some ⟨oc__law_state, od__law_state, .func (PySem.W.fnOf "_law_state" "_law_state" (defArgs s__law_state) (defBody s__law_state) (defScope s__law_state) .none kV__law_state dc__law_state pm__law_state an__law_state cd__law_state ct__law_state), sl__law_state⟩)
    (c__law_state : PySem.W.codeIn K cd__law_state "_law_state" = true)
    (k__law_state : PySem.W.keepIn K (.ref f__law_state) = true)
    (a__law_take : PySem.W.nsIn K mainGlobals "_law_take" = some (some (.ref f__law_take)))
    (l__law_take : K.lookup f__law_take = some ⟨oc__law_take, od__law_take, .func (PySem.W.fnOf "_law_take" "_law_take" (defArgs s__law_take) (defBody s__law_take) (defScope s__law_take) .none kV__law_take dc__law_take pm__law_take an__law_take cd__law_take ct__law_take), sl__law_take⟩)
    (c__law_take : PySem.W.codeIn K cd__law_take "_law_take" = true)
    (k__law_take : PySem.W.keepIn K (.ref f__law_take) = true)
    (a_is_integer : PySem.W.nsIn K mainGlobals "is_integer" = some (some (.ref f_is_integer)))
    (l_is_integer : K.lookup f_is_integer = some ⟨oc_is_integer, od_is_integer, .func (PySem.W.fnOf "is_integer" "is_integer" (defArgs s_is_integer) (defBody s_is_integer) (defScope s_is_integer) .none kV_is_integer dc_is_integer pm_is_integer an_is_integer cd_is_integer ct_is_integer), sl_is_integer⟩)
    (c_is_integer : PySem.W.codeIn K cd_is_integer "is_integer" = true)
    (k_is_integer : PySem.W.keepIn K (.ref f_is_integer) = true)
    (a_power : PySem.W.nsIn K mainGlobals "power" = some (some (.ref f_power)))
    (l_power : K.lookup f_power = some ⟨oc_power, od_power, .func (PySem.W.fnOf "power" "power" (defArgs s_power) (defBody s_power) (defScope s_power) .none kV_power dc_power pm_power an_power cd_power ct_power), sl_power⟩)
    (c_power : PySem.W.codeIn K cd_power "power" = true)
    (k_power : PySem.W.keepIn K (.ref f_power) = true)
    (a_factors : PySem.W.nsIn K mainGlobals "factors" = some (some (.ref f_factors)))
    (l_factors : K.lookup f_factors = some ⟨oc_factors, od_factors, .func (PySem.W.fnOf "factors" "factors" (defArgs s_factors) (defBody s_factors) (defScope s_factors) .none kV_factors dc_factors pm_factors an_factors cd_factors ct_factors), sl_factors⟩)
    (c_factors : PySem.W.codeIn K cd_factors "factors" = true)
    (k_factors : PySem.W.keepIn K (.ref f_factors) = true)
    (a_divisors : PySem.W.nsIn K mainGlobals "divisors" = some (some (.ref f_divisors)))
    (l_divisors : K.lookup f_divisors = some ⟨oc_divisors, od_divisors, .func (PySem.W.fnOf "divisors" "divisors" (defArgs s_divisors) (defBody s_divisors) (defScope s_divisors) .none kV_divisors dc_divisors pm_divisors an_divisors cd_divisors ct_divisors), sl_divisors⟩)
    (c_divisors : PySem.W.codeIn K cd_divisors "divisors" = true)
    (k_divisors : PySem.W.keepIn K (.ref f_divisors) = true)
    (a__law_reason : PySem.W.nsIn K mainGlobals "_law_reason" = some (some (.ref f__law_reason)))
    (l__law_reason : K.lookup f__law_reason = some ⟨oc__law_reason, od__law_reason, .func (PySem.W.fnOf "_law_reason" "_law_reason" (defArgs s__law_reason) (defBody s__law_reason) (defScope s__law_reason) .none kV__law_reason dc__law_reason pm__law_reason an__law_reason cd__law_reason ct__law_reason), sl__law_reason⟩)
    (c__law_reason : PySem.W.codeIn K cd__law_reason "_law_reason" = true)
    (k__law_reason : PySem.W.keepIn K (.ref f__law_reason) = true)
    (a_law : PySem.W.nsIn K mainGlobals "law" = some (some (.ref f_law)))
    (l_law : K.lookup f_law = some ⟨oc_law, od_law, .func (PySem.W.fnOf "law" "law" (defArgs s_law) (defBody s_law) (defScope s_law) .none kV_law dc_law pm_law an_law cd_law ct_law), sl_law⟩)
    (c_law : PySem.W.codeIn K cd_law "law" = true)
    (k_law : PySem.W.keepIn K (.ref f_law) = true)
    (rg_Refused : PySem.W.nsIn K mainGlobals "Refused" = some (some (.ref C_Refused)))
    (ro_Refused : K.lookup C_Refused = some (excClassObj rnm_Refused rq_Refused C_Refused rN_Refused rbs_Refused rbm_Refused true rsn_Refused rsu_Refused rab_Refused rcol_Refused rdd_Refused rka_Refused rkb_Refused rkc_Refused rkd_Refused rkf_Refused "ValueError.__new__"))
    (rm_Refused : PySem.HandSPX.refsVE rbm_Refused = true)
    (ra_Refused : PySem.W.findIn K (.ref C_Refused) "__setattr__" = some (some (.builtin "object.__setattr__")))
    (rb_Refused : PySem.W.subIn K (.ref C_Refused) (.type "BaseException") = some true)
    (rt_Refused : PySem.W.typeIn K (.ref C_Refused) = some (.type "type"))
    (rk_Refused : PySem.W.keepIn K (.ref C_Refused) = true)
    (ri_Refused : PySem.W.isClsIn K C_Refused = true)
    (rs_Refused : PySem.W.subIn K (.ref C_Refused) (.ref C_Refused) = some true)
    (rf_Refused : PySem.W.findIn K (.ref C_Refused) "__init__" = some (some (.ref F_Refused)))
    (rft_Refused : PySem.W.typeIn K (.ref F_Refused) = some (.type "function"))
    (rx1_Refused : PySem.W.findIn K (.ref C_Refused) "__getattribute__" = some (some (.builtin "BaseException.__getattribute__")))
    (rx2_Refused : PySem.W.findIn K (.ref C_Refused) "__getattr__" = some none)
    (rx3_Refused : PySem.W.hasDictIn K C_Refused = true)
    (rn_Refused : PySem.W.findIn K (.ref C_Refused) "reason" = some none)
    (rl_Refused : K.lookup F_Refused = some ⟨roc_Refused, rod_Refused, .func (PySem.W.fnX "__init__" "Refused.__init__" (defArgs s_Refused___init__) (defBody s_Refused___init__) (defScope s_Refused___init__) [(("__class__" : Str), cc_Refused)] .none rkV_Refused rdoc_Refused rpm_Refused ran_Refused (.ref cd_Refused) rct_Refused), rosl_Refused⟩)
    (rc_Refused : PySem.W.codeIn K (.ref cd_Refused) "Refused.__init__" = true)
    (rcc_Refused : K.lookup cc_Refused = some ⟨rcl_Refused, rcld_Refused, .cell (some (.ref C_Refused)), rcsl_Refused⟩)
    (rcd_Refused : K.lookup cd_Refused = some ⟨rccl_Refused, rccd_Refused, .fields rvs_Refused, rccs_Refused⟩)
    (rv_Refused : rvs_Refused[2]? = some (.str rfile_Refused rtf_Refused))
    (rfi_Refused : ((l.prog.main.file : Str) == rfile_Refused) = true)
    (rsu_Refused : PySem.W.mroIn K C_Refused (.ref C_Refused) = some true)
    (rup_Refused : PySem.W.ks_superIn K C_Refused C_Refused "__init__" = some (some (.builtin "ValueError.__init__")))
    (rve_Refused : PySem.W.subIn K (.ref C_Refused) (.type "ValueError") = some true)
    (rtop : (l.prog.main.scope.names.lookup ("super" : Str)).isSome = false)
    (rho : PySem.W.nsIn K PySem.cStatics "thirdparty.any" = some none)
    (rsup : PySem.W.nsIn K mainGlobals "super" = some none)
    (ig_Fault : PySem.W.nsIn K mainGlobals "Fault" = some (some (.ref C_Fault)))
    (ii_Fault : PySem.W.isClsIn K C_Fault = true)
    (it_Fault : PySem.W.typeIn K (.ref C_Fault) = some (.type "type"))
    (is_Fault : PySem.W.subIn K (.ref C_Refused) (.ref C_Fault) = some true)
    (ig_Malformed : PySem.W.nsIn K mainGlobals "Malformed" = some (some (.ref C_Malformed)))
    (ii_Malformed : PySem.W.isClsIn K C_Malformed = true)
    (it_Malformed : PySem.W.typeIn K (.ref C_Malformed) = some (.type "type"))
    (is_Malformed : PySem.W.subIn K (.ref C_Refused) (.ref C_Malformed) = some false)
    (ig_NoText : PySem.W.nsIn K mainGlobals "NoText" = some (some (.ref C_NoText)))
    (ii_NoText : PySem.W.isClsIn K C_NoText = true)
    (it_NoText : PySem.W.typeIn K (.ref C_NoText) = some (.type "type"))
    (is_NoText : PySem.W.subIn K (.ref C_Refused) (.ref C_NoText) = some false)
    (ib_Fault : PySem.W.subIn K (.ref C_Fault) (.type "BaseException") = some true)
    (id_Malformed : (Value.ref C_Refused == Value.ref C_Malformed) = false)
    (id_NoText : (Value.ref C_Refused == Value.ref C_NoText) = false)
    (iv : PySem.W.nsIn K mainGlobals "ValueError" = some none)
    (i1 : PySem.W.findIn K (.ref C_Refused) "__class__" = some (some (.builtin "object.__class__")))
    (i2 : PySem.W.specialIn K (.builtin "object.__class__") "__get__" = some (some (.builtin "getset_descriptor.__get__")))
    (i3 : PySem.W.takesIn K (.builtin "object.__class__") = some true)
    (i4 : PySem.W.mroIn K C_Refused (.type "object") = some true)
    (z_len : PySem.W.nsIn K mainGlobals "len" = some none)
    (z_int : PySem.W.nsIn K mainGlobals "int" = some none)
    (z_abs : PySem.W.nsIn K mainGlobals "abs" = some none)
    (z_range : PySem.W.nsIn K mainGlobals "range" = some none)
    (z_list : PySem.W.nsIn K mainGlobals "list" = some none)
    (z_tuple : PySem.W.nsIn K mainGlobals "tuple" = some none)
    (z_sorted : PySem.W.nsIn K mainGlobals "sorted" = some none)
    (z_zip : PySem.W.nsIn K mainGlobals "zip" = some none)
    (z_enumerate : PySem.W.nsIn K mainGlobals "enumerate" = some none)
    (z_reversed : PySem.W.nsIn K mainGlobals "reversed" = some none)
    (z_isinstance : PySem.W.nsIn K mainGlobals "isinstance" = some none)
    (z_bool : PySem.W.nsIn K mainGlobals "bool" = some none)
    (z_str : PySem.W.nsIn K mainGlobals "str" = some none)
    (z_sum : PySem.W.nsIn K mainGlobals "sum" = some none)
    (z_all : PySem.W.nsIn K mainGlobals "all" = some none)
    (z_any : PySem.W.nsIn K mainGlobals "any" = some none)
    (z_min : PySem.W.nsIn K mainGlobals "min" = some none)
    (z_max : PySem.W.nsIn K mainGlobals "max" = some none)
    (z_dict : PySem.W.nsIn K mainGlobals "dict" = some none)
    :
    ∃ fd : FuncData, (∀ (s : Shared) (v : Value), BindsTo s fd ⟨[v], []⟩ [("script", v)]) ∧ ∀ base : Heap, K.In base → base.Ns mainGlobals mg → FnOk l.prog w K mg base CX0 5 fa fd ["script"] (spLaw K) := by
  have e := hfa.symm.trans (PySem.W.mg_of X G a_law)
  cases e
  have B : Bi mg := ⟨PySem.W.mg_none_of X G z_len, PySem.W.mg_none_of X G z_int, PySem.W.mg_none_of X G z_abs, PySem.W.mg_none_of X G z_range, PySem.W.mg_none_of X G z_list, PySem.W.mg_none_of X G z_tuple, PySem.W.mg_none_of X G z_sorted, PySem.W.mg_none_of X G z_zip, PySem.W.mg_none_of X G z_enumerate, PySem.W.mg_none_of X G z_reversed, PySem.W.mg_none_of X G z_isinstance, PySem.W.mg_none_of X G z_bool, PySem.W.mg_none_of X G z_str, PySem.W.mg_none_of X G z_sum, PySem.W.mg_none_of X G z_all, PySem.W.mg_none_of X G z_any, PySem.W.mg_none_of X G z_min, PySem.W.mg_none_of X G z_max, PySem.W.mg_none_of X G z_dict⟩
  have RC_Refused : RefC l.prog K mg (nf_Refused cc_Refused cd_Refused) _ F_Refused C_Refused cc_Refused "reason" := ⟨⟨_, _, _, _, _, _, _, _, _, rfl, rl_Refused⟩, rc_Refused, rfl, ⟨_, _, _, rcc_Refused⟩, NdefX.nscope_by (show NdefX.nscB [("self" : Str), "reason", ("__class__" : Str)] [("self" : Str), "reason"] [("__class__" : Str)] (defScope s_Refused___init__) = true by decide +kernel), rfl, ⟨_, rfl, rfl⟩, ⟨_, _, _, _, _, _, rcd_Refused, rv_Refused, rfi_Refused⟩, rtop, rsu_Refused, rup_Refused, rve_Refused, rho, PySem.W.mg_none_of X G rsup, ⟨⟨_, _, _, _, _, _, _, _, _, _, _, _, _, _, _, ro_Refused, rm_Refused⟩, ra_Refused, rb_Refused, rt_Refused, rk_Refused⟩, rn_Refused⟩
  have R_Refused : ∀ base, RefT l.prog w K mg base "Refused" C_Refused "reason" okS 1 := fun base => refT_Refused RC_Refused (PySem.W.mg_of X G rg_Refused) rf_Refused rft_Refused (.all fun us hl => match us, hl with | [_, _], _ => rfl) ⟨rx1_Refused, rx2_Refused, rb_Refused, rx3_Refused⟩ (exm_mk rb_Refused ri_Refused rt_Refused rs_Refused)
  have IX : IsX K mg C_Refused C_Fault C_Malformed C_NoText := ⟨PySem.W.mg_of X G ig_Fault, PySem.W.mg_of X G ig_Malformed, PySem.W.mg_of X G ig_NoText, PySem.W.mg_none_of X G iv, exm_tr ib_Fault ii_Fault it_Fault is_Fault, kit_ty rfl (by decide +kernel) rve_Refused, kit_ref id_Malformed ii_Malformed it_Malformed is_Malformed, kit_ref id_NoText ii_NoText it_NoText is_NoText, i1, i2, i3, i4⟩
  have d_inverse : DfnA K mg "inverse" "inverse" s_inverse := ⟨_, _, fun_mk (st := s_inverse) l_inverse c_inverse k_inverse, PySem.W.mg_of X G a_inverse⟩
  have d__law_state : DfnA K mg "_law_state" "_law_state" s__law_state := ⟨_, _, fun_mk (st := s__law_state) l__law_state c__law_state k__law_state, PySem.W.mg_of X G a__law_state⟩
  have d__law_take : DfnA K mg "_law_take" "_law_take" s__law_take := ⟨_, _, fun_mk (st := s__law_take) l__law_take c__law_take k__law_take, PySem.W.mg_of X G a__law_take⟩
  have d_is_integer : DfnA K mg "is_integer" "is_integer" s_is_integer := ⟨_, _, fun_mk (st := s_is_integer) l_is_integer c_is_integer k_is_integer, PySem.W.mg_of X G a_is_integer⟩
  have d_power : DfnA K mg "power" "power" s_power := ⟨_, _, fun_mk (st := s_power) l_power c_power k_power, PySem.W.mg_of X G a_power⟩
  have d_factors : DfnA K mg "factors" "factors" s_factors := ⟨_, _, fun_mk (st := s_factors) l_factors c_factors k_factors, PySem.W.mg_of X G a_factors⟩
  have d_divisors : DfnA K mg "divisors" "divisors" s_divisors := ⟨_, _, fun_mk (st := s_divisors) l_divisors c_divisors k_divisors, PySem.W.mg_of X G a_divisors⟩
  have d__law_reason : DfnA K mg "_law_reason" "_law_reason" s__law_reason := ⟨_, _, fun_mk (st := s__law_reason) l__law_reason c__law_reason k__law_reason, PySem.W.mg_of X G a__law_reason⟩
  have d_inverse__e : DfnA K mg "inverse" "inverse" s_inverse__e := d_inverse
  have F := fun_mk (st := s_law) l_law c_law k_law
  refine ⟨PySem.W.fnOf "law" "law" (defArgs s_law) (defBody s_law) (defScope s_law) .none kV_law dc_law pm_law an_law cd_law ct_law, fun s v => .of_eq rfl, fun base _ _ => ?_⟩
  have q_inverse := cal_inverse (PP := l.prog) (w := w) (base := base) B   d_inverse
  have q__law_state := cal__law_state (PP := l.prog) (w := w) (base := base) B   d__law_state
  have q__law_take := cal__law_take (PP := l.prog) (w := w) (base := base) B   d__law_take
  have q_is_integer := cal_is_integer (PP := l.prog) (w := w) (base := base) B   d_is_integer
  have q_power := cal_power (PP := l.prog) (w := w) (base := base) B   d_power
  have q_inverse__e := cal_inverse__e (PP := l.prog) (w := w) (base := base) B  (R_Refused base)  d_inverse__e
  have q_factors := cal_factors (PP := l.prog) (w := w) (base := base) B   d_factors
  have q_divisors := cal_divisors (PP := l.prog) (w := w) (base := base) B  q_factors q_power d_divisors
  have q__law_reason := cal__law_reason (PP := l.prog) (w := w) (base := base) B  (R_Refused base) IX q_inverse__e d__law_reason
  exact ok_law B  q__law_state q__law_take q__law_reason q_inverse q_power q_divisors q_is_integer F
theorem walk {l : PySem.W.OpenLaw} {q : Program} {loose : List Str} {XP : (Str → Option Value) → Heap → Prop} {YP : World → Heap → Prop} {d : DefRec} {K : Params → PySem.W.Frag} (hn : l.most = some 63) (hdf : d.params.defaults = [])
    (hY : ∀ (w : World) (h : Heap), YP w h → (K w.params).In h)
    (F : ∀ (w : World) (mg : Str → Option Value) (fa : Addr) (h : Heap), (K w.params).In h → h.Ns mainGlobals mg → mg d.name = some (.ref fa) →
      ∃ fd : FuncData, (∀ (s : Shared) (u : Value), BindsTo s fd ⟨[u], []⟩ [("script", u)]) ∧ ∀ base : Heap, (K w.params).In base → base.Ns mainGlobals mg → FnOk l.prog w (K w.params) mg base CX0 5 fa fd ["script"] (spLaw (K w.params))) :
    PySem.W.WalkO q loose XP YP l.row.toRowW d [] (fun f vs => PySem.call f vs) :=
  L2.walk_of (n := 63) (k := 5) (x := "script") (CX := fun _ => CX0) (sp := fun w => spLaw (K w.params)) hn (by decide) hdf ⟨rfl, by decide, by decide⟩ hY F (fun _ _ a ns hl _ hS => ⟨a, ns, rfl, hS, hl, fun _ => rfl⟩) fun _ _ _ _ _ z => z
end My
open PySem PySem.W PyProof.Rows
set_option maxRecDepth 100000 in
set_option maxHeartbeats 0 in
theorem PySem.Challenge.cw_algebraparts_k00_numbers_holds : PySem.Challenge.rw_algebraparts_k00_numbers.Holds := by
  w_on; o_law; k_head; (case hw => w_witness2)
  k_fill
  refine My.walk (l := PySem.Challenge.rw_algebraparts_k00_numbers) rfl rfl (fun w h Y => PySem.W.kIn_of Y) ?F
  case F =>
    intro w mg fa h KX G hmg
    refine' My.all_mk KX G hmg ?a_inverse ?l_inverse ?c_inverse ?k_inverse ?a__law_state ?l__law_state ?c__law_state ?k__law_state ?a__law_take ?l__law_take ?c__law_take ?k__law_take ?a_is_integer ?l_is_integer ?c_is_integer ?k_is_integer ?a_power ?l_power ?c_power ?k_power ?a_factors ?l_factors ?c_factors ?k_factors ?a_divisors ?l_divisors ?c_divisors ?k_divisors ?a__law_reason ?l__law_reason ?c__law_reason ?k__law_reason ?a_law ?l_law ?c_law ?k_law ?rg_Refused ?ro_Refused ?rm_Refused ?ra_Refused ?rb_Refused ?rt_Refused ?rk_Refused ?ri_Refused ?rs_Refused ?rf_Refused ?rft_Refused ?rx1_Refused ?rx2_Refused ?rx3_Refused ?rn_Refused ?rl_Refused ?rc_Refused ?rcc_Refused ?rcd_Refused ?rv_Refused ?rfi_Refused ?rsu_Refused ?rup_Refused ?rve_Refused ?rtop ?rho ?rsup ?ig_Fault ?ii_Fault ?it_Fault ?is_Fault ?ig_Malformed ?ii_Malformed ?it_Malformed ?is_Malformed ?ig_NoText ?ii_NoText ?it_NoText ?is_NoText ?ib_Fault ?id_Malformed ?id_NoText ?iv ?i1 ?i2 ?i3 ?i4 ?z_len ?z_int ?z_abs ?z_range ?z_list ?z_tuple ?z_sorted ?z_zip ?z_enumerate ?z_reversed ?z_isinstance ?z_bool ?z_str ?z_sum ?z_all ?z_any ?z_min ?z_max ?z_dict
    (case a_inverse => k_is); (case l_inverse => k_is); (case c_inverse => k_is); (case k_inverse => k_is)
    (case a__law_state => k_is); (case l__law_state => k_is); (case c__law_state => k_is); (case k__law_state => k_is)
    (case a__law_take => k_is); (case l__law_take => k_is); (case c__law_take => k_is); (case k__law_take => k_is)
    (case a_is_integer => k_is); (case l_is_integer => k_is); (case c_is_integer => k_is); (case k_is_integer => k_is)
    (case a_power => k_is); (case l_power => k_is); (case c_power => k_is); (case k_power => k_is)
    (case a_factors => k_is); (case l_factors => k_is); (case c_factors => k_is); (case k_factors => k_is)
    (case a_divisors => k_is); (case l_divisors => k_is); (case c_divisors => k_is); (case k_divisors => k_is)
    (case a__law_reason => k_is); (case l__law_reason => k_is); (case c__law_reason => k_is); (case k__law_reason => k_is)
    (case a_law => k_is); (case l_law => k_is); (case c_law => k_is); (case k_law => k_is)
    (case rg_Refused => k_is); (case ro_Refused => k_is); (case rm_Refused => decide +kernel); (case ra_Refused => k_is)
    (case rb_Refused => k_is); (case rt_Refused => k_is); (case rk_Refused => k_is); (case ri_Refused => k_is)
    (case rs_Refused => k_is); (case rf_Refused => k_is); (case rft_Refused => k_is); (case rx1_Refused => k_is)
    (case rx2_Refused => k_is); (case rx3_Refused => k_is); (case rn_Refused => k_is); (case rl_Refused => k_is)
    (case rc_Refused => k_is); (case rcc_Refused => k_is); (case rcd_Refused => k_is); (case rv_Refused => rfl)
    (case rfi_Refused => rfl); (case rsu_Refused => k_is); (case rup_Refused => ks_is); (case rve_Refused => k_is)
    (case rtop => rfl); (case rho => k_is); (case rsup => k_is); (case ig_Fault => k_is)
    (case ii_Fault => k_is); (case it_Fault => k_is); (case is_Fault => k_is); (case ig_Malformed => k_is)
    (case ii_Malformed => k_is); (case it_Malformed => k_is); (case is_Malformed => k_is); (case ig_NoText => k_is)
    (case ii_NoText => k_is); (case it_NoText => k_is); (case is_NoText => k_is); (case ib_Fault => k_is)
    (case id_Malformed => rfl); (case id_NoText => rfl); (case iv => k_is); (case i1 => k_is)
    (case i2 => k_is); (case i3 => k_is); (case i4 => k_is); (case z_len => k_is)
    (case z_int => k_is); (case z_abs => k_is); (case z_range => k_is); (case z_list => k_is)
    (case z_tuple => k_is); (case z_sorted => k_is); (case z_zip => k_is); (case z_enumerate => k_is)
    (case z_reversed => k_is); (case z_isinstance => k_is); (case z_bool => k_is); (case z_str => k_is)
    (case z_sum => k_is); (case z_all => k_is); (case z_any => k_is); (case z_min => k_is)
    (case z_max => k_is); (case z_dict => k_is)


