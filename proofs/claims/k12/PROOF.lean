import PyProof.Rows.All
import Wide.All
import OpenK.AllK
import Wide.FinOn
import HandS.ForMost
import HandS.Codes
import HandS.Evl
import HandS.Walk
import HandS.DictComp
import HandS.SortInts
import HandS.IsInst
import HandS.TupAny
import HandS.Conv
import HandS.Strs
import HandS.Lambda
import HandS.Nested
import KE.SortKeyHeap
import KE.SortData
import KE.KSortKey
import KE.KStateDown
import HandS.Head0
import HandS.Head1
import HandS.Head2
import HandS.HeadEnd
import HandS.HeadHook1
import HandS.HeadHook2
import HandS.HeadHook4
import HandS.HeadWalk
import PyProof.TypeEq
import PyProof.InstEq
import HandS.More
import HandS.Dict
import HandS.HeadHook3
import KE.KDictPairs
import HandS.Deep
import PyProof.P3In
import HandS.TupLe
import HandS.Flow
import PySem.Challenge.RW_weakcourt_k12_derivations_are_checked
set_option Elab.async false
set_option linter.all false
set_option maxRecDepth 100000
set_option maxHeartbeats 4000000
/-! Weakcourt's proofs, the common part: the data of a heap as it stands in the model's memory, relations between memories, readings of comprehensions. -/
namespace Wc
open PySem L2
theorem u20 {k : Nat} {A : Around} (r : Room k A) : A.units + 20 < cLine := by have := r.un; omega
/-! ### promises by their number of arguments -/
abbrev V1 := V → Hp → VK → Prop
abbrev V2 := V → V → Hp → VK → Prop
abbrev V3 := V → V → V → Hp → VK → Prop
abbrev V4 := V → V → V → V → Hp → VK → Prop
abbrev V5 := V → V → V → V → V → Hp → VK → Prop
abbrev sp1 (R : V1) : Sp := fun vs H Q _ => ∃ x, vs = [x] ∧ R x H Q
abbrev sp2 (R : V2) : Sp := fun vs H Q _ => ∃ x y, vs = [x, y] ∧ R x y H Q
abbrev sp3 (R : V3) : Sp := fun vs H Q _ => ∃ x y z, vs = [x, y, z] ∧ R x y z H Q
abbrev sp4 (R : V4) : Sp := fun vs H Q _ => ∃ x y z u, vs = [x, y, z, u] ∧ R x y z u H Q
abbrev sp5 (R : V5) : Sp := fun vs H Q _ => ∃ x y z u v, vs = [x, y, z, u, v] ∧ R x y z u v H Q
/-! ### a def where it stands, with its code object: the rule for its body -/
structure Df (K : PySem.W.Frag) (x : Str) (st : Stmt) (f : Addr) (fd : FuncData) (cd : Value) : Prop where
  ok : ∀ {P : Program} {w : World} {mg : Str → Option Value} {base : PySem.Heap} {N ps : List Str} {k : Nat} {sp : Sp}, FnScope N ps (defScope st) → (∀ vs H Q E, sp vs H Q E → vs.length = ps.length) →
    (∀ (A : Around) (outer : List Env) (s : Shared) (H : Hp) (vs : List V) (Q : VK) (E : XK), Room k (A.deeper (PyProof.Rows.envOfC x (defScope st) s.heap.objs.size f cd)) → sp vs H Q E →
      ∃ t, PSs (cxOf CX0 P w K mg base N x (defScope st) f cd A outer s H E).nox (defBody st) t ∧ t { nx := fun _ H' => Q .non H', rt := Q } (start N vs) H) → FnOk P w K mg base CX0 (k + 1) f fd ps sp
theorem Df.of {K : PySem.W.Frag} {x : Str} {st : Stmt} {f : Addr} {oc : Value} {od an : Option Addr} {dV kV doc pm cd ct : Value} {osl : Array (Option Value)}
    (lk : K.lookup f = some ⟨oc, od, .func (PySem.W.fnOf x x (defArgs st) (defBody st) (defScope st) dV kV doc pm an cd ct), osl⟩) (hcd : PySem.W.codeIn K cd x = true) :
    Df K x st f (PySem.W.fnOf x x (defArgs st) (defBody st) (defScope st) dV kV doc pm an cd ct) cd :=
  ⟨fun S len hb => fn_of lk hcd S len fun A outer s H vs Q E hr hsp => let ⟨t, h, q⟩ := hb A outer s H vs Q E hr hsp; ⟨t, h.nox, q⟩⟩
/-! ### a def that may be called by its name: its promise, where it stands, how arguments bind -/
structure Cal (P : Program) (w : World) (K : PySem.W.Frag) (mg : Str → Option Value) (base : PySem.Heap) (k : Nat) (x : Str) (sp : Sp) (dvs : List V) : Prop where
  all : ∃ (f : Addr) (fd : FuncData) (ps : List Str) (ds : List Value), FnOk P w K mg base CX0 k f fd ps sp ∧ mg x = some (.ref f) ∧
    PySem.W.keepIn K (.ref f) = true ∧ Binds K fd ps ds ∧ Vals dvs ds
theorem Cal.mk0 {P : Program} {w : World} {K : PySem.W.Frag} {mg : Str → Option Value} {base : PySem.Heap} {k : Nat} {x : Str} {sp : Sp} {f : Addr} {fd : FuncData} {ps : List Str}
    (h : FnOk P w K mg base CX0 k f fd ps sp) (m : mg x = some (.ref f)) (kp : PySem.W.keepIn K (.ref f) = true) (b : Binds K fd ps []) : Cal P w K mg base k x sp [] := ⟨f, fd, ps, [], h, m, kp, b, .nil⟩
theorem pe_c {X : Cx} {j k : Nat} {x : Str} {sp : Sp} {dvs : List V} {e : Expr} {es : List Expr} {p pos : Pos} {t : TA}
    (c : Cal X.prog X.w X.K X.mg X.base k x sp dvs) (hr : Room j X.A) (hk : k ≤ j) (hg : Gl X x) (ha : PA X (e :: es) t)
    (h1 : (x == ("__debug__" : Str)) = false := by decide) (h2 : starEach (e :: es) X.env = (false, eval e X.env) :: starEach es X.env := by rfl)
    (h3 : (backTo pos (starEach es X.env)).any (·.1) = false := by rfl) : PE X (.Call (.Name x p) (e :: es) [] pos) (tCall sp dvs E0 t) :=
  let ⟨_, _, _, _, F, hm, kp, b, d⟩ := c.all
  pe_call F (hr.mono hk) hg hm kp b d pass0 ha h1 h2 h3
/-- tuple(xs) -/
def rTupS (K : PySem.W.Frag) : List V → Hp → VK → Prop := fun xs H Q => ∃ p ys, xs = [.ref p] ∧ ((SqL K H p ys ∧ ∀ l, H l = none → Q (.ref l) (upd H l (.tup ys))) ∨ (SqT K H p ys ∧ Q (.ref p) H))
/-- a comprehension without a test -/
theorem tyes {σ : L2.St} {H : Hp} {F G : Hp → Prop} (h : F H) : tYes σ H fun c H4 => if c = true then F H4 else G H4 := by
  show if true = true then F H else G H
  rw [if_pos rfl]
  exact h
/-- a number among numbers -/
theorem inV_int (n : Int) (ns : List Int) : inV (.int n) (ns.map V.int) = decide (n ∈ ns) := by
  induction ns with
  | nil => rfl
  | cons k r ih =>
    show (eqV (.int k) (.int n) || inV (.int n) (r.map V.int)) = _
    rw [ih]
    show (k == n || decide (n ∈ r)) = _
    by_cases e : k = n
    · subst e; simp
    · have e3 : ¬ n = k := fun z => e z.symm
      simp [e, e3]
theorem flat_ints (ns : List Int) : (ns.map V.int).all flatV = true := by
  rw [List.all_eq_true]
  intro x hx
  obtain ⟨n, _, rfl⟩ := List.mem_map.mp hx
  rfl
/-! ### memories -/
/-- all but what stands at M is as it was -/
def ExM (M : List Addr) (H H' : Hp) : Prop := ∀ a o, a ∉ M → H a = some o → H' a = some o
abbrev ExA (H H' : Hp) : Prop := ExM [] H H'
/-- every tuple is as it was; so are those of which the object is known -/
structure Tk (K : PySem.W.Frag) (H H' : Hp) : Prop where
  sq : ∀ a xs, SqT K H a xs → SqT K H' a xs
  zq : ∀ a (o : Obj) xs, H a = some (.frz o (.tup xs)) → H' a = some (.frz o (.tup xs))
instance {K : PySem.W.Frag} {H H' : Hp} : CoeFun (Tk K H H') fun _ => ∀ a xs, SqT K H a xs → SqT K H' a xs := ⟨Tk.sq⟩
/-- a tuple of which it is known that its object has no dict -/
def SqZ (H : Hp) (a : Addr) (xs : List V) : Prop := ∃ o : Obj, o.dict = none ∧ H a = some (.frz o (.tup xs))
theorem SqZ.sq {K : PySem.W.Frag} {H : Hp} {a : Addr} {xs : List V} (h : SqZ H a xs) : SqT K H a xs := let ⟨o, _, e⟩ := h; .inl (.inr ⟨o, e⟩)
theorem SqZ.mono {K : PySem.W.Frag} {H H' : Hp} {a : Addr} {xs : List V} (t : Tk K H H') (h : SqZ H a xs) : SqZ H' a xs := let ⟨o, n, e⟩ := h; ⟨o, n, t.zq _ _ _ e⟩
section
variable {K : PySem.W.Frag} {M : List Addr} {H H' H1 H2 : Hp} {a b p D : Addr} {o u : HO} {xs ys : List V}
theorem ExM.refl (M : List Addr) (H : Hp) : ExM M H H := fun _ _ _ h => h
theorem ExM.trans (h1 : ExM M H H1) (h2 : ExM M H1 H2) : ExM M H H2 := fun a o n h => h2 a o n (h1 a o n h)
theorem ExM.of (h : ExA H H') : ExM M H H' := fun a o _ e => h a o (by simp) e
theorem ExA.at (h : ExA H H') (e : H a = some o) : H' a = some o := h a o (by simp) e
theorem ExM.new (n : H p = none) : ExM M H (upd H p o) := fun a u _ e => by
  rw [upd_ne (ne_of_none e n)]; exact e
theorem ExM.put (h : ExM M H H') (n : H p = none) : ExM M H (upd H' p o) := fun a u m e => by
  rw [upd_ne (ne_of_none e n)]; exact h a u m e
theorem ExM.mem (h : ExM M H H') (n : p ∈ M) : ExM M H (upd H' p o) := fun a u m e => by
  rw [upd_ne (fun z => m (by rw [z]; exact n))]; exact h a u m e
theorem ExM.free (h : ExM M H H') (m : p ∉ M) (n : H' p = none) : H p = none := by
  cases q : H p with
  | none => rfl
  | some u => rw [h p u m q] at n; cases n
theorem ExA.free (h : ExA H H') (n : H' p = none) : H p = none := ExM.free h (by simp) n
theorem Tk.refl : Tk K H H := ⟨fun _ _ h => h, fun _ _ _ h => h⟩
theorem Tk.trans (h1 : Tk K H H1) (h2 : Tk K H1 H2) : Tk K H H2 := ⟨fun a xs h => h2.sq a xs (h1.sq a xs h), fun a o xs h => h2.zq a o xs (h1.zq a o xs h)⟩
theorem Tk.new (n : H p = none) : Tk K H (upd H p o) := ⟨fun a xs h => by
  rcases h with (h | ⟨v, h⟩) | h
  · exact .inl (.inl (by rw [upd_ne (ne_of_none h n)]; exact h))
  · exact .inl (.inr ⟨v, by rw [upd_ne (ne_of_none h n)]; exact h⟩)
  · exact .inr h, fun a v xs h => by rw [upd_ne (ne_of_none h n)]; exact h⟩
theorem Tk.all (h : ExA H H') : Tk K H H' := ⟨fun a xs e => by
  rcases e with (e | ⟨v, e⟩) | e
  · exact .inl (.inl (h.at e))
  · exact .inl (.inr ⟨v, h.at e⟩)
  · exact .inr e, fun a v xs e => h.at e⟩
/-- what is no tuple, and no tuple locked, may be written -/
theorem Tk.upd (n : ∀ xs, H p ≠ some (.tup xs)) (n2 : ∀ v xs, H p ≠ some (.frz v (.tup xs))) : Tk K H (L2.upd H p o) := ⟨fun a xs h => by
  rcases h with (h | ⟨v, h⟩) | h
  · exact .inl (.inl (by rw [upd_ne (fun z => n xs (by rw [← z]; exact h))]; exact h))
  · exact .inl (.inr ⟨v, by rw [upd_ne (fun z => n2 v xs (by rw [← z]; exact h))]; exact h⟩)
  · exact .inr h, fun a v xs h => by rw [upd_ne (fun z => n2 v xs (by rw [← z]; exact h))]; exact h⟩
theorem Tk.lst (h : H p = some (.lst xs)) : Tk K H (L2.upd H p o) := Tk.upd (fun _ q => by rw [h] at q; cases q) (fun _ _ q => by rw [h] at q; cases q)
theorem Tk.dic {kvs : List (Key × V)} (h : H p = some (.dK kvs)) : Tk K H (L2.upd H p o) := Tk.upd (fun _ q => by rw [h] at q; cases q) (fun _ _ q => by rw [h] at q; cases q)
theorem Tk.frz {kvs : List (Key × V)} {v : Obj} (h : H p = some (.frz v (.dK kvs))) : Tk K H (L2.upd H p o) := Tk.upd (fun _ q => by rw [h] at q; cases q) (fun _ _ q => by rw [h] at q; cases q)
theorem SqL.all (h : ExA H H') (e : SqL K H a xs) : SqL K H' a xs := by
  rcases e with (e | ⟨v, e⟩) | e
  · exact .inl (.inl (h.at e))
  · exact .inl (.inr ⟨v, h.at e⟩)
  · exact .inr e
end
/-- tuple(xs), a new object without a dict -/
def rTupZ (K : PySem.W.Frag) : List V → Hp → VK → Prop := fun xs H Q => ∃ p ys, xs = [.ref p] ∧ SqL K H p ys ∧ ∀ l (o : Obj), H l = none → o.dict = none → Q (.ref l) (upd H l (.frz o (.tup ys)))
theorem SqZ.of {H : Hp} {a : Addr} {xs : List V} {o : Obj} (n : o.dict = none) (h : H a = some (.frz o (.tup xs))) : SqZ H a xs := ⟨o, n, h⟩
/-! ### a heap of the program, as data -/
abbrev Rf := Option Int
def rV : Rf → V
  | none => .non
  | some i => .int i
inductive Ob where
  | rcd (n : Int) (fs : List Rf)
  | weak (n : Int) (t : Rf)
  | tab (n : Int) (es : List (Int × Int))
def Ob.num : Ob → Int
  | .rcd n _ => n
  | .weak n _ => n
  | .tab n _ => n
structure Hd where
  nx : Int
  regs : List Rf
  kept : List Int
  obs : List Ob
  wat : List (Int × Int)
def Hd.nums (h : Hd) : List Int := h.obs.map Ob.num
def Rf.ok (S : List Int) (r : Rf) : Prop := ∀ i, r = some i → i ∈ S
def Ob.ok (S : List Int) : Ob → Prop
  | .rcd _ fs => fs.length ≤ 1000 ∧ ∀ r ∈ fs, Rf.ok S r
  | .weak _ t => Rf.ok S t
  | .tab _ es => es.length ≤ 1000 ∧ (es.map (·.1)).Nodup ∧ ∀ e ∈ es, e.1 ∈ S ∧ e.2 ∈ S
structure Hd.Ok (h : Hd) : Prop where
  up : h.nums.Pairwise (· < ·)
  size : h.obs.length ≤ 50
  nreg : h.regs.length ≤ 1000
  regs : ∀ r ∈ h.regs, Rf.ok h.nums r
  obs : ∀ o ∈ h.obs, o.ok h.nums
  kept : ∀ i ∈ h.kept, i ∈ h.nums
  wat : ∀ e ∈ h.wat, e.1 ∈ h.nums
  low : ∀ n ∈ h.nums, 0 ≤ n ∧ n < h.nx
  nxl : 0 ≤ h.nx ∧ h.nx ≤ 999
  kup : h.kept.Pairwise (· < ·)
  tok : ∀ e ∈ h.wat, 0 ≤ e.2 ∧ e.2 ≤ 999
  nwat : h.wat.length ≤ 50
  rpos : h.regs ≠ []
/-- what an object leads to -/
def ledTo (o : Ob) (got gone : List Int) : List Int := match o with
  | .rcd _ fs => fs.filterMap id
  | .weak _ none => []
  | .weak _ (some t) => if t ∈ gone then [] else [t]
  | .tab _ es => (es.filter fun e => decide (e.1 ∈ got)).map (·.2)
/-! ### .. as it stands in memory: tuples all through -/
section
variable (K : PySem.W.Frag) (H : Hp)
def PairAt (a : Addr) (p : Int × Int) : Prop := SqT K H a [.int p.1, .int p.2]
def ObAt (a : Addr) : Ob → Prop
  | .rcd n fs => ∃ t, SqT K H a [.str "record", .int n, .ref t] ∧ SqZ H t (fs.map rV)
  | .weak n r => SqT K H a [.str "weak", .int n, rV r]
  | .tab n es => ∃ t ps, SqT K H a [.str "table", .int n, .ref t] ∧ SqZ H t (ps.map .ref) ∧ Paired (PairAt K H) ps es
def ObsAt (o : Addr) (h : Hd) : Prop := ∃ os, SqT K H o (os.map V.ref) ∧ Paired (ObAt K H) os h.obs
def HeapAt (a : Addr) (h : Hd) : Prop := ∃ r k o w ws, SqT K H a [.str "heap", .int h.nx, .ref r, .ref k, .ref o, .ref w] ∧ SqZ H r (h.regs.map rV) ∧ SqT K H k (h.kept.map .int) ∧
  ObsAt K H o h ∧ SqT K H w (ws.map .ref) ∧ Paired (PairAt K H) ws h.wat
end
section
variable {K : PySem.W.Frag} {H H' : Hp} {a : Addr}
theorem pmp {α β : Type} {F G : α → β → Prop} {l : List α} {m : List β} (h : Paired F l m) (f : ∀ a b, F a b → G a b) : Paired G l m := Paired.mapP h f
theorem PairAt.mono (t : Tk K H H') {p : Int × Int} (h : PairAt K H a p) : PairAt K H' a p := t _ _ h
theorem ObAt.mono (t : Tk K H H') {o : Ob} (h : ObAt K H a o) : ObAt K H' a o := by
  cases o with
  | rcd n fs => obtain ⟨q, h1, h2⟩ := h; exact ⟨q, t _ _ h1, h2.mono t⟩
  | weak n r => exact t _ _ h
  | tab n es => obtain ⟨q, ps, h1, h2, h3⟩ := h; exact ⟨q, ps, t _ _ h1, h2.mono t, pmp h3 fun _ _ z => PairAt.mono t z⟩
theorem ObsAt.mono (t : Tk K H H') {h : Hd} (x : ObsAt K H a h) : ObsAt K H' a h := by
  obtain ⟨os, h1, h2⟩ := x
  exact ⟨os, t _ _ h1, pmp h2 fun _ _ z => ObAt.mono t z⟩
theorem HeapAt.mono (t : Tk K H H') {h : Hd} (x : HeapAt K H a h) : HeapAt K H' a h := by
  obtain ⟨r, k, o, w, ws, h1, h2, h3, h4, h5, h6⟩ := x
  exact ⟨r, k, o, w, ws, t _ _ h1, h2.mono t, t _ _ h3, h4.mono t, t _ _ h5, pmp h6 fun _ _ z => PairAt.mono t z⟩
theorem pget {α β : Type} {F : α → β → Prop} : ∀ {l : List α} {m : List β} {i : Nat} {x : α}, Paired F l m → l[i]? = some x → ∃ y, m[i]? = some y ∧ F x y
  | _, _, _, _, .nil, e => by simp at e
  | _, _, 0, _, .cons r _, e => by simp at e; subst e; exact ⟨_, rfl, r⟩
  | _, _, i + 1, x, .cons _ t, e => by
    obtain ⟨u, h1, h2⟩ := pget (i := i) (x := x) t (by simpa using e)
    exact ⟨u, by simpa using h1, h2⟩
theorem pget' {α β : Type} {F : α → β → Prop} : ∀ {l : List α} {m : List β} {i : Nat} {y : β}, Paired F l m → m[i]? = some y → ∃ x, l[i]? = some x ∧ F x y
  | _, _, _, _, .nil, e => by simp at e
  | _, _, 0, _, .cons r _, e => by simp at e; subst e; exact ⟨_, rfl, r⟩
  | _, _, i + 1, y, .cons _ t, e => by
    obtain ⟨u, h1, h2⟩ := pget' (i := i) (y := y) t (by simpa using e)
    exact ⟨u, by simpa using h1, h2⟩
theorem plen {α β : Type} {F : α → β → Prop} : ∀ {l : List α} {m : List β}, Paired F l m → l.length = m.length
  | _, _, .nil => rfl
  | _, _, .cons _ t => by rw [List.length_cons, List.length_cons, plen t]
theorem psnoc {α β : Type} {F : α → β → Prop} {x : α} {y : β} (q : F x y) : ∀ {l : List α} {m : List β}, Paired F l m → Paired F (l ++ [x]) (m ++ [y])
  | _, _, .nil => .cons q .nil
  | _, _, .cons r t => .cons r (psnoc q t)
/-- the number of an object, at its place -/
theorem ObAt.num {o : Ob} (h : ObAt K H a o) : ∃ k v, SqT K H a [.str k, .int o.num, v] := by
  cases o with
  | rcd n fs => obtain ⟨q, h1, h2⟩ := h; exact ⟨_, _, h1⟩
  | weak n r => exact ⟨_, _, h⟩
  | tab n es => obtain ⟨q, ps, h1, h2, h3⟩ := h; exact ⟨_, _, h1⟩
end
/-! ### items of short rows -/
theorem at0 {x : V} {r : List V} : atI (x :: r) (0 : Int) = some x := atI_nat (j := 0) rfl
theorem at1 {x y : V} {r : List V} : atI (x :: y :: r) (1 : Int) = some y := atI_nat (j := 1) rfl
theorem at2 {x y z : V} {r : List V} : atI (x :: y :: z :: r) (2 : Int) = some z := atI_nat (j := 2) rfl
theorem at3 {x y z w : V} {r : List V} : atI (x :: y :: z :: w :: r) (3 : Int) = some w := atI_nat (j := 3) rfl
theorem at4 {x y z w v : V} {r : List V} : atI (x :: y :: z :: w :: v :: r) (4 : Int) = some v := atI_nat (j := 4) rfl
theorem at5 {x y z w v u : V} {r : List V} : atI (x :: y :: z :: w :: v :: u :: r) (5 : Int) = some u := atI_nat (j := 5) rfl
theorem sz {n : Nat} (h : n ≤ 100000) : n ≤ sizeLine := Nat.le_trans h (by decide)
theorem szl {n : Nat} (h : n ≤ 100000) : n < sizeLine := Nat.lt_of_le_of_lt h (by decide)
/-! ### data of any depth: tuples of tuples of numbers, texts, None -/
inductive Dt where
  | non
  | bl (b : Bool)
  | int (i : Int)
  | str (s : Str)
  | tup (ds : List Dt)
mutual
def Is (K : PySem.W.Frag) (H : Hp) : Dt → V → Prop
  | .non, v => v = .non
  | .bl b, v => v = .bl b
  | .int i, v => v = .int i
  | .str s, v => v = .str s
  | .tup ds, v => ∃ a xs, v = .ref a ∧ SqT K H a xs ∧ IsL K H ds xs
def IsL (K : PySem.W.Frag) (H : Hp) : List Dt → List V → Prop
  | [], xs => xs = []
  | d :: ds, xs => ∃ x r, xs = x :: r ∧ Is K H d x ∧ IsL K H ds r
end
mutual
def Dt.dep : Dt → Nat
  | .tup ds => 1 + Dt.depL ds
  | _ => 0
def Dt.depL : List Dt → Nat
  | [] => 0
  | d :: ds => max d.dep (Dt.depL ds)
end
mutual
/-- rows that are not too long -/
def Dt.thin : Dt → Prop
  | .tup ds => ds.length ≤ 100000 ∧ Dt.thinL ds
  | _ => True
def Dt.thinL : List Dt → Prop
  | [] => True
  | d :: ds => d.thin ∧ Dt.thinL ds
end
theorem thin_get : ∀ {ds : List Dt} {i : Nat} {d : Dt}, Dt.thinL ds → ds[i]? = some d → d.thin
  | [], i, d, _, e => by simp at e
  | d :: ds, 0, d', h, e => by
    have e : d = d' := by simpa using e
    subst e
    exact h.1
  | d :: ds, i + 1, d', h, e => thin_get (i := i) h.2 (by simpa using e)
theorem thin_ints : ∀ ns : List Int, Dt.thinL (ns.map Dt.int)
  | [] => trivial
  | _ :: ns => ⟨trivial, thin_ints ns⟩
theorem IsL.len {K : PySem.W.Frag} {H : Hp} : ∀ {ds : List Dt} {xs : List V}, IsL K H ds xs → xs.length = ds.length
  | [], xs, h => by
    have e : xs = [] := h
    rw [e]; rfl
  | d :: ds, xs, h => by
    obtain ⟨x, r, e, _, h2⟩ := h
    rw [e, List.length_cons, List.length_cons, IsL.len h2]
theorem IsL.get {K : PySem.W.Frag} {H : Hp} : ∀ {ds : List Dt} {xs : List V} {i : Nat} {d : Dt}, IsL K H ds xs → ds[i]? = some d → ∃ x, xs[i]? = some x ∧ Is K H d x
  | [], xs, i, d, h, e => by simp at e
  | d :: ds, xs, 0, d', h, e => by
    obtain ⟨x, r, e1, h1, _⟩ := h
    have e : d = d' := by simpa using e
    subst e
    rw [e1]; exact ⟨x, rfl, h1⟩
  | d :: ds, xs, i + 1, d', h, e => by
    obtain ⟨x, r, e1, _, h2⟩ := h
    obtain ⟨y, h3, h4⟩ := IsL.get (i := i) h2 (by simpa using e)
    rw [e1]; exact ⟨y, by simpa using h3, h4⟩
theorem dep_get : ∀ {ds : List Dt} {i : Nat} {d : Dt}, ds[i]? = some d → d.dep ≤ Dt.depL ds
  | [], i, d, e => by simp at e
  | d :: ds, 0, d', e => by
    have e : d = d' := by simpa using e
    subst e
    exact Nat.le_max_left _ _
  | d :: ds, i + 1, d', e => Nat.le_trans (dep_get (i := i) (by simpa using e)) (Nat.le_max_right _ _)
theorem IsL.ints {K : PySem.W.Frag} {H : Hp} : ∀ ns : List Int, IsL K H (ns.map Dt.int) (ns.map V.int)
  | [] => rfl
  | n :: ns => ⟨_, _, rfl, rfl, IsL.ints ns⟩
theorem depL_ints : ∀ ns : List Int, Dt.depL (ns.map Dt.int) = 0
  | [] => rfl
  | n :: ns => by
    show max 0 (Dt.depL (ns.map Dt.int)) = 0
    rw [depL_ints ns]; rfl
theorem tyx_tup {K : PySem.W.Frag} {H : Hp} {a : Addr} {xs : List V} (h : SqT K H a xs) : TyX K H (.ref a) (.type "tuple") := by
  rcases h with (h | ⟨o, h⟩) | ⟨o, its, n, h1, h2, _⟩
  · exact .base (.tup h)
  · exact .fTuple h
  · exact .kTuple h1 h2
/-! ### a list or a tuple that is walked -/
def iSeq (K : PySem.W.Frag) (tl : TE) : TI := fun σ H R => iList K tl σ H R ∨ iTup K tl σ H R
theorem pi_seq {X : Cx} {tg l : Expr} {tl : TE} (hl : PE X l tl) : PI X tg l (iSeq X.K tl) :=
  ⟨fun pins s σ H R I h => h.elim ((pi_list hl).run pins s σ H R I) ((pi_tup hl).run pins s σ H R I)⟩
/-- a list or a tuple -/
def SqS (K : PySem.W.Frag) (H : Hp) (a : Addr) (xs : List V) : Prop := SqL K H a xs ∨ SqT K H a xs
theorem SqS.all {K : PySem.W.Frag} {H H' : Hp} {a : Addr} {xs : List V} (e : ExA H H') (h : SqS K H a xs) : SqS K H' a xs := h.elim (fun z => .inl (SqL.all e z)) fun z => .inr (Tk.all e _ _ z)
theorem seq_at {K : PySem.W.Frag} {tl : TE} {σ : L2.St} {H : Hp} {R : It → Hp → Prop} {c : Addr} {xs : List V} (h : SqS K H c xs) (ht : ∀ Q : VK, Q (.ref c) H → tl σ H Q)
    (k : ∀ J G, Walk J xs.length G (YAt xs) → (∀ H', ExA H H' → G H') → R J H) : iSeq K tl σ H R := by
  rcases h with h | h
  · exact .inl (ht _ ⟨c, rfl, ⟨xs, h⟩, k _ _ walk_list fun H' e => SqL.all e h⟩)
  · exact .inr (ht _ ⟨c, rfl, ⟨xs, h⟩, k _ _ walk_tup fun H' e => Tk.all e _ _ h⟩)
/-! ### what stands beside a list that may change -/
theorem SqL.exm {K : PySem.W.Frag} {M : List Addr} {H H' : Hp} {a : Addr} {xs : List V} (h : ExM M H H') (m : a ∉ M) (e : SqL K H a xs) : SqL K H' a xs := by
  rcases e with (e | ⟨v, e⟩) | e
  · exact .inl (.inl (h a _ m e))
  · exact .inl (.inr ⟨v, h a _ m e⟩)
  · exact .inr e
theorem Tk.exm {K : PySem.W.Frag} {b : Addr} {H H' : Hp} {xs : List V} (h : ExM [b] H H') (hb : H b = some (.lst xs)) : Tk K H H' := by
  have ne : ∀ a o, H a = some o → o ≠ .lst xs → a ∉ [b] := fun a o q z m => by
    have e : a = b := by simpa using m
    rw [e, hb] at q
    exact z (Option.some.inj q).symm
  refine ⟨fun a ys e => ?_, fun a o ys e => h a _ (ne a _ e (fun z => nomatch z)) e⟩
  rcases e with (e | ⟨v, e⟩) | e
  · exact .inl (.inl (h a _ (ne a _ e (fun z => nomatch z)) e))
  · exact .inl (.inr ⟨v, h a _ (ne a _ e (fun z => nomatch z)) e⟩)
  · exact .inr e
/-- the law's source of numbers: a list of a list of numbers and a place in it -/
def Bx (H : Hp) (b d : Addr) (ds : List Int) : Prop := (∃ n : Nat, H b = some (.lst [.ref d, .int (n : Int)])) ∧ H d = some (.lst (ds.map V.int)) ∧ d ≠ b
section
variable {K : PySem.W.Frag} {H H' H0 : Hp} {b d p : Addr} {ds : List Int} {o : HO}
theorem Bx.tk (x : Bx H b d ds) (h : ExM [b] H H') : Tk K H H' := let ⟨⟨_, e⟩, _, _⟩ := x; Tk.exm h e
theorem Bx.keep (x : Bx H b d ds) (h : ExA H H') : Bx H' b d ds := let ⟨⟨n, e⟩, e2, e3⟩ := x; ⟨⟨n, ExA.at h e⟩, ExA.at h e2, e3⟩
theorem Bx.put (x : Bx H b d ds) (x0 : Bx H0 b d ds) (n : H0 p = none) : Bx (upd H p o) b d ds := by
  obtain ⟨⟨k, e⟩, e2, e3⟩ := x
  obtain ⟨⟨k0, f⟩, f2, _⟩ := x0
  exact ⟨⟨k, by rw [upd_ne (ne_of_none f n)]; exact e⟩, by rw [upd_ne (ne_of_none f2 n)]; exact e2, e3⟩
theorem Bx.new (x : Bx H b d ds) (n : H p = none) : Bx (upd H p o) b d ds := x.put x n
theorem Bx.ne (x : Bx H b d ds) (n : H p = none) : p ∉ [b] := fun m => by
  have e : p = b := by simpa using m
  obtain ⟨⟨k, q⟩, _⟩ := x
  rw [e, q] at n; cases n
end
/-- a list of numbers, apart from the source -/
def Nm (K : PySem.W.Frag) (H : Hp) (b a : Addr) (ns : List Int) : Prop := SqL K H a (ns.map V.int) ∧ a ∉ [b]
theorem Nm.keep {K : PySem.W.Frag} {H H' : Hp} {b a : Addr} {ns : List Int} (x : Nm K H b a ns) (h : ExM [b] H H') : Nm K H' b a ns := ⟨SqL.exm h x.2 x.1, x.2⟩
/-! ### comprehensions: what holds of the turn, of the row made so far and of the memory -/
def LcP (M : List Addr) (H : Hp) (D : Addr) (Acc : Nat → List V → Hp → Prop) (i : Nat) (H' : Hp) : Prop := ExM M H H' ∧ ∃ acc, H' D = some (.lst acc) ∧ acc.length ≤ i ∧ Acc i acc H'
section
variable {M : List Addr} {H H1 H5 : Hp} {D : Addr} {Acc : Nat → List V → Hp → Prop} {i : Nat} {acc : List V} {y : V}
theorem LcP.yes (hD : H D = none) (hM : D ∉ M) (hi : i ≤ 40000) (e : ExM M H H1) (h1 : H1 D = some (.lst acc)) (h2 : acc.length ≤ i) (e2 : ExM M H1 H5) (h : Acc (i + 1) (acc ++ [y]) (upd H5 D (.lst (acc ++ [y])))) :
    ∃ acc', H5 D = some (.lst acc') ∧ acc'.length < sizeLine ∧ LcP M H D Acc (i + 1) (upd H5 D (.lst (acc' ++ [y]))) :=
  ⟨acc, e2 D _ hM h1, szl (by omega), (e.trans e2).put hD, acc ++ [y], upd_same, by rw [List.length_append, List.length_singleton]; omega, h⟩
theorem LcP.no (hM : D ∉ M) (e : ExM M H H1) (h1 : H1 D = some (.lst acc)) (h2 : acc.length ≤ i) (e2 : ExM M H1 H5) (h : Acc (i + 1) acc H5) : LcP M H D Acc (i + 1) H5 :=
  ⟨e.trans e2, acc, e2 D _ hM h1, by omega, h⟩
end
theorem lcM (M : List Addr) {J : It} {n : Nat} {G : Hp → Prop} {Y : Nat → Hp → V → Hp → Prop} (w : Walk J n G Y) {g : TG} {tt : TT} {te : TE} {vs : List Nat} {σ : L2.St} {H : Hp} {D : Addr} {Qd : Hp → Prop}
    (hD : H D = none) (Acc : Nat → List V → Hp → Prop) (h0 : Acc 0 [] (upd H D (.lst []))) (hG : ∀ H', ExM M H H' → G H')
    (hs : ∀ i x H1 H2 acc, i < n → ExM M H H1 → H1 D = some (.lst acc) → acc.length ≤ i → Acc i acc H1 → Y i H1 x H2 → g x (wipe σ vs) H2 fun σ2 H3 => wipe σ2 vs = wipe σ vs ∧ tt σ2 H3 fun c H4 =>
      if c = true then te σ2 H4 fun y H5 => ∃ acc', H5 D = some (.lst acc') ∧ acc'.length < sizeLine ∧ LcP M H D Acc (i + 1) (upd H5 D (.lst (acc' ++ [y]))) else LcP M H D Acc (i + 1) H4)
    (hd : ∀ H' acc, ExM M H H' → H' D = some (.lst acc) → acc.length ≤ n → Acc n acc H' → Qd H') :
    ∃ W : Nat → Nat → Hp → Prop, (∃ m, W 0 m (upd H D (.lst []))) ∧ ∀ i m H, W i m H →
      (J.stop i H ∧ Qd H) ∨ (J.go i H ∧ ∃ Nx : Hp → Prop, (∀ H', Nx H' → ∃ m', m' < m ∧ W (i + 1) m' H') ∧ ∀ x H', J.yld i H x H' → g x (wipe σ vs) H' fun σ2 H2 => wipe σ2 vs = wipe σ vs ∧ tt σ2 H2 fun b H3 =>
        if b = true then te σ2 H3 fun y H4 => ∃ acc, H4 D = some (.lst acc) ∧ acc.length < sizeLine ∧ Nx (upd H4 D (.lst (acc ++ [y]))) else Nx H3) := by
  refine lc_it w (LcP M H D Acc) ⟨ExM.new hD, [], upd_same, Nat.le_refl _, h0⟩ (fun i H' _ p => hG H' p.1) (fun i x H1 H2 hi p y => ?_)
    fun H' p => by obtain ⟨e, acc, h1, h2, h3⟩ := p; exact hd H' acc e h1 h2 h3
  obtain ⟨e, acc, h1, h2, h3⟩ := p
  exact hs i x H1 H2 acc hi e h1 h2 h3 y
/-! ### the same of dicts with number keys -/
def DcP (M : List Addr) (H : Hp) (D : Addr) (Acc : Nat → List (Key × V) → Hp → Prop) (i : Nat) (H' : Hp) : Prop := ExM M H H' ∧ ∃ acc, H' D = some (.dK acc) ∧ acc.length ≤ i ∧ Acc i acc H'
theorem DcP.yes {M : List Addr} {H H1 H5 : Hp} {D : Addr} {Acc : Nat → List (Key × V) → Hp → Prop} {i : Nat} {acc : List (Key × V)} {k : Key} {y z : V} (hD : H D = none) (hM : D ∉ M) (hi : i ≤ 40000) (e : ExM M H H1) (h1 : H1 D = some (.dK acc)) (h2 : acc.length ≤ i)
    (ek : y = kV k) (e2 : ExM M H1 H5) (h : Acc (i + 1) (putK acc k z) (upd H5 D (.dK (putK acc k z)))) :
    ∃ kvs k, y = kV k ∧ H5 D = some (.dK kvs) ∧ kvs.length < sizeLine ∧ DcP M H D Acc (i + 1) (upd H5 D (.dK (putK kvs k z))) :=
  ⟨acc, k, ek, e2 D _ hM h1, szl (by omega), (e.trans e2).put hD, putK acc k z, upd_same, Nat.le_trans (length_putK _ _ _) (by omega), h⟩
theorem dcM (M : List Addr) {J : It} {n : Nat} {G : Hp → Prop} {Y : Nat → Hp → V → Hp → Prop} (w : Walk J n G Y) {g : TG} {tt : TT} {tk tv : TE} {vs : List Nat} {σ : L2.St} {H : Hp} {D : Addr} {Qd : Hp → Prop}
    (hD : H D = none) (Acc : Nat → List (Key × V) → Hp → Prop) (h0 : Acc 0 [] (upd H D (.dK []))) (hG : ∀ H', ExM M H H' → G H')
    (hs : ∀ i x H1 H2 acc, i < n → ExM M H H1 → H1 D = some (.dK acc) → acc.length ≤ i → Acc i acc H1 → Y i H1 x H2 → g x (wipe σ vs) H2 fun σ2 H3 => wipe σ2 vs = wipe σ vs ∧ tt σ2 H3 fun c H4 =>
      if c = true then tk σ2 H4 fun y H5 => tv σ2 H5 fun z H6 => ∃ kvs k, y = kV k ∧ H6 D = some (.dK kvs) ∧ kvs.length < sizeLine ∧ DcP M H D Acc (i + 1) (upd H6 D (.dK (putK kvs k z))) else DcP M H D Acc (i + 1) H4)
    (hd : ∀ H' acc, ExM M H H' → H' D = some (.dK acc) → acc.length ≤ n → Acc n acc H' → Qd H') :
    ∃ W : Nat → Nat → Hp → Prop, (∃ m, W 0 m (upd H D (.dK []))) ∧ ∀ i m H, W i m H →
      (J.stop i H ∧ Qd H) ∨ (J.go i H ∧ ∃ Nx : Hp → Prop, (∀ H', Nx H' → ∃ m', m' < m ∧ W (i + 1) m' H') ∧ ∀ x H', J.yld i H x H' → g x (wipe σ vs) H' fun σ2 H2 => wipe σ2 vs = wipe σ vs ∧ tt σ2 H2 fun b H3 =>
        if b = true then tk σ2 H3 fun y H4 => tv σ2 H4 fun z H5 => ∃ kvs k, y = kV k ∧ H5 D = some (.dK kvs) ∧ kvs.length < sizeLine ∧ Nx (upd H5 D (.dK (putK kvs k z))) else Nx H3) := by
  refine ⟨fun i m H' => m + i = n ∧ DcP M H D Acc i H', ⟨n, rfl, ExM.new hD, [], upd_same, Nat.le_refl _, h0⟩, ?_⟩
  rintro i m H' ⟨hm, p⟩
  obtain ⟨e, acc, h1, h2, h3⟩ := id p
  have q := hG H' e
  by_cases hi : i < n
  · exact .inr ⟨w.goes i H' hi q, DcP M H D Acc (i + 1), fun H2 p2 => ⟨m - 1, by omega, by omega, p2⟩, fun x H2 y => hs i x H' H2 acc hi e h1 h2 h3 (w.yields i H' x H2 hi q y)⟩
  · have en : i = n := by omega
    subst en
    exact .inl ⟨w.stops H' q, hd H' acc e h1 h2 h3⟩
end Wc
/-! Comprehensions whose turns change nothing that stood before: what they make, at once. -/
namespace Wc
open PySem L2
theorem tsnoc {α : Type} {l : List α} {i : Nat} {x : α} (h : l[i]? = some x) : l.take (i + 1) = l.take i ++ [x] := by
  rw [List.take_add_one, h]; rfl
theorem zip_all {α β : Type} {F : α → β → Prop} : ∀ {l : List α} {m : List β}, Paired F l m → ∀ p ∈ l.zip m, F p.1 p.2
  | _, _, .nil, p, hp => by simp at hp
  | _, _, .cons r t, p, hp => by
    rcases List.mem_cons.mp hp with e | e
    · rw [e]; exact r
    · exact zip_all t p e
theorem zip_fst {α β : Type} {F : α → β → Prop} : ∀ {l : List α} {m : List β}, Paired F l m → (l.zip m).map (·.1) = l
  | _, _, .nil => rfl
  | _, _, .cons r t => congrArg (_ :: ·) (zip_fst t)
theorem zip_snd {α β : Type} {F : α → β → Prop} : ∀ {l : List α} {m : List β}, Paired F l m → (l.zip m).map (·.2) = m
  | _, _, .nil => rfl
  | _, _, .cons r t => congrArg (_ :: ·) (zip_snd t)
theorem filter_snd {α β : Type} (f : β → Bool) : ∀ l : List (α × β), (l.filter fun p => f p.2).map (·.2) = (l.map (·.2)).filter f
  | [] => rfl
  | p :: l => by
    rw [List.filter_cons, List.map_cons, List.filter_cons]
    split
    · rw [List.map_cons, filter_snd f l]
    · exact filter_snd f l
theorem paired_map {α β γ : Type} {F : α → γ → Prop} (g : β → α) : ∀ {l : List β} {m : List γ}, Paired (fun x y => F (g x) y) l m → Paired F (l.map g) m
  | _, _, .nil => .nil
  | _, _, .cons r t => .cons r (paired_map g t)
theorem paired_mapR {α β γ : Type} {F : γ → α → Prop} (g : β → α) : ∀ {l : List β} {m : List γ}, Paired (fun y x => F y (g x)) m l → Paired F m (l.map g)
  | _, _, .nil => .nil
  | _, _, .cons r t => .cons r (paired_mapR g t)
theorem papp {α β : Type} {F : α → β → Prop} {l2 : List α} {m2 : List β} (q : Paired F l2 m2) : ∀ {l : List α} {m : List β}, Paired F l m → Paired F (l ++ l2) (m ++ m2)
  | _, _, .nil => q
  | _, _, .cons r t => .cons r (papp q t)
theorem zip_refs {β : Type} {F : Addr → β → Prop} {l : List Addr} {m : List β} (h : Paired F l m) : l.map V.ref = (l.zip m).map fun q => V.ref q.1 := by
  have e := congrArg (List.map V.ref) (zip_fst h)
  rw [List.map_map] at e
  exact e.symm
theorem zip_len {α β : Type} {F : α → β → Prop} {l : List α} {m : List β} (h : Paired F l m) : (l.zip m).length = l.length := by
  have e := congrArg List.length (zip_fst h)
  rwa [List.length_map] at e
theorem filter_all {α : Type} : ∀ l : List α, l.filter (fun _ => true) = l := fun l => List.filter_eq_self.mpr fun _ _ => rfl
theorem paired_swap {α β : Type} {F : α → β → Prop} : ∀ {l : List α} {m : List β}, Paired F l m → Paired (fun y x => F x y) m l
  | _, _, .nil => .nil
  | _, _, .cons r t => .cons r (paired_swap t)
/-- values that are references -/
theorem paired_refs {α : Type} {F : Addr → α → Prop} : ∀ {l : List α} {ys : List V}, Paired (fun x y => ∃ a, y = V.ref a ∧ F a x) l ys → ∃ as : List Addr, ys = as.map V.ref ∧ Paired F as l
  | _, _, .nil => ⟨[], rfl, .nil⟩
  | _, _, .cons r t => by
    obtain ⟨a, rfl, h⟩ := r
    obtain ⟨as, rfl, h2⟩ := paired_refs t
    exact ⟨a :: as, rfl, .cons h h2⟩
/-- values that are known -/
theorem paired_vals {α : Type} {f : α → V} : ∀ {l : List α} {ys : List V}, Paired (fun x y => y = f x) l ys → ys = l.map f
  | _, _, .nil => rfl
  | _, _, .cons r t => by rw [paired_vals t, r]; rfl
theorem zip_filter {α β : Type} {F : α → β → Prop} {l : List α} {m : List β} (h : Paired F l m) (f : β → Bool) : ((l.zip m).filter fun q => f q.2).map (fun q => q.2) = m.filter f :=
  (filter_snd f (l.zip m)).trans (by rw [zip_snd h])
theorem zip_filter_map {α β γ : Type} {F : α → β → Prop} {l : List α} {m : List β} (h : Paired F l m) (f : β → Bool) (g : β → γ) : ((l.zip m).filter fun q => f q.2).map (fun q => g q.2) = (m.filter f).map g := by
  have e := congrArg (List.map g) ((filter_snd f (l.zip m)).trans (by rw [zip_snd h]))
  rw [List.map_map] at e
  exact e
theorem lcR {α : Type} (K : PySem.W.Frag) (e : α → V) (xs : List α) (f : α → Bool) (rel : α → V → Hp → Prop) (st : α → L2.St) {J : It} {G : Hp → Prop} {n : Nat} {zs : List V} (wk : Walk J n G (YAt zs)) (hzs : zs = xs.map e) (hn : n = xs.length) (hz : xs.length ≤ 40000)
    {g : TG} {tt : TT} {te : TE} {vs : List Nat} {σ : L2.St} {H : Hp} {D : Addr} {Qd : Hp → Prop} (hD : H D = none) (hG : ∀ H', ExA H H' → G H') (mono : ∀ x y H1 H2, Tk K H1 H2 → rel x y H1 → rel x y H2)
    (hg : ∀ x H1, x ∈ xs → ExA H H1 → ∀ R : L2.St → Hp → Prop, R (st x) H1 → g (e x) (wipe σ vs) H1 R) (hw : ∀ x, wipe (st x) vs = wipe σ vs)
    (ht : ∀ x H1, x ∈ xs → ExA H H1 → ∀ R : Bool → Hp → Prop, (∀ H2, ExA H1 H2 → R (f x) H2) → tt (st x) H1 R)
    (he : ∀ x H1, x ∈ xs → f x = true → ExA H H1 → ∀ R : VK, (∀ y H2, ExA H1 H2 → rel x y H2 → R y H2) → te (st x) H1 R)
    (hd : ∀ H' ys, ExA H H' → H' D = some (.lst ys) → Paired (fun x y => rel x y H') (xs.filter f) ys → Qd H') :
    ∃ W : Nat → Nat → Hp → Prop, (∃ m, W 0 m (upd H D (.lst []))) ∧ ∀ i m H, W i m H →
      (J.stop i H ∧ Qd H) ∨ (J.go i H ∧ ∃ Nx : Hp → Prop, (∀ H', Nx H' → ∃ m', m' < m ∧ W (i + 1) m' H') ∧ ∀ x H', J.yld i H x H' → g x (wipe σ vs) H' fun σ2 H2 => wipe σ2 vs = wipe σ vs ∧ tt σ2 H2 fun b H3 =>
        if b = true then te σ2 H3 fun y H4 => ∃ acc, H4 D = some (.lst acc) ∧ acc.length < sizeLine ∧ Nx (upd H4 D (.lst (acc ++ [y]))) else Nx H3) := by
  subst hzs hn
  refine lcM [] wk hD (fun i acc H' => Paired (fun x y => rel x y H') ((xs.take i).filter f) acc) .nil (fun H' x => hG H' x) (fun i x H1 H2 acc hi e1 k1 k2 hacc y => ?_) (fun H' acc e1 k1 k2 hacc => ?_)
  · obtain ⟨rfl, hx⟩ := y
    obtain ⟨u, hu⟩ : ∃ u, xs[i]? = some u := ⟨_, List.getElem?_eq_getElem hi⟩
    rw [List.getElem?_map, hu] at hx
    obtain rfl : e u = x := Option.some.inj hx
    have mu := List.mem_of_getElem? hu
    refine hg u H2 mu e1 _ ⟨hw u, ht u H2 mu e1 _ fun H3 e3 => ?_⟩
    have htk := tsnoc hu
    cases c : f u with
    | false =>
      refine iteF (LcP.no (by simp) e1 k1 k2 e3 ?_)
      rw [htk, List.filter_append, List.filter_cons, c]
      simp only [List.filter_nil, List.append_nil, Bool.false_eq_true, if_false]
      exact pmp hacc fun x y z => mono x y _ _ (Tk.all e3) z
    | true =>
      refine iteT (he u H3 mu c (e1.trans e3) _ fun y H4 e4 hr => LcP.yes hD (by simp) (by omega) e1 k1 k2 (e3.trans e4) ?_)
      have hk : H4 D = some (.lst acc) := ExA.at (e3.trans e4) k1
      rw [htk, List.filter_append, List.filter_cons, c]
      simp only [List.filter_nil, if_true]
      have h2 : Paired (fun x b => rel x b (upd H4 D (.lst (acc ++ [y])))) ((xs.take i).filter f) acc := pmp hacc fun a b z => mono a b _ _ (Tk.trans (Tk.all (e3.trans e4)) (Tk.lst hk)) z
      have h3 : rel u y (upd H4 D (.lst (acc ++ [y]))) := mono _ _ _ _ (Tk.lst hk) hr
      exact psnoc (α := α) (β := V) (F := fun (x : α) (b : V) => rel x b (upd H4 D (.lst (acc ++ [y])))) (x := u) (y := y) h3 (l := (xs.take i).filter f) (m := acc) h2
  · rw [List.take_length] at hacc
    exact hd H' acc e1 k1 hacc
/-- [x for x in xs if t] -/
theorem lcF {α : Type} (K : PySem.W.Frag) (e : α → V) (xs : List α) (f : α → Bool) (st : α → L2.St) {J : It} {G : Hp → Prop} {n : Nat} {zs : List V} (wk : Walk J n G (YAt zs)) (hzs : zs = xs.map e) (hn : n = xs.length) (hz : xs.length ≤ 40000)
    {g : TG} {tt : TT} {te : TE} {vs : List Nat} {σ : L2.St} {H : Hp} {D : Addr} {Qd : Hp → Prop} (v : α → V) (hD : H D = none) (hG : ∀ H', ExA H H' → G H')
    (hg : ∀ x H1, x ∈ xs → ExA H H1 → ∀ R : L2.St → Hp → Prop, R (st x) H1 → g (e x) (wipe σ vs) H1 R) (hw : ∀ x, wipe (st x) vs = wipe σ vs)
    (ht : ∀ x H1, x ∈ xs → ExA H H1 → ∀ R : Bool → Hp → Prop, (∀ H2, ExA H1 H2 → R (f x) H2) → tt (st x) H1 R)
    (he : ∀ x H1, x ∈ xs → f x = true → ExA H H1 → ∀ R : VK, (∀ H2, ExA H1 H2 → R (v x) H2) → te (st x) H1 R)
    (hd : ∀ H', ExA H H' → H' D = some (.lst ((xs.filter f).map v)) → Qd H') :
    ∃ W : Nat → Nat → Hp → Prop, (∃ m, W 0 m (upd H D (.lst []))) ∧ ∀ i m H, W i m H →
      (J.stop i H ∧ Qd H) ∨ (J.go i H ∧ ∃ Nx : Hp → Prop, (∀ H', Nx H' → ∃ m', m' < m ∧ W (i + 1) m' H') ∧ ∀ x H', J.yld i H x H' → g x (wipe σ vs) H' fun σ2 H2 => wipe σ2 vs = wipe σ vs ∧ tt σ2 H2 fun b H3 =>
        if b = true then te σ2 H3 fun y H4 => ∃ acc, H4 D = some (.lst acc) ∧ acc.length < sizeLine ∧ Nx (upd H4 D (.lst (acc ++ [y]))) else Nx H3) :=
  lcR K e xs f (fun x y _ => y = v x) st wk hzs hn hz hD hG (fun _ _ _ _ _ z => z) hg hw ht (fun x H1 m c e R q => he x H1 m c e R fun H2 e2 => q _ H2 e2 rfl)
    fun H' ys e k p => hd H' e (by rw [k, paired_vals p])
theorem tyesR {σ : L2.St} {H : Hp} {R : Bool → Hp → Prop} (h : ∀ H2, ExA H H2 → R true H2) : tYes σ H R := h H (ExM.refl _ _)
/-! ### two clauses -/
def flat2 {α β : Type} (xs : List α) (ys : α → List β) (f : α → β → Bool) : List (α × β) := xs.flatMap fun x => ((ys x).filter (f x)).map fun y => (x, y)
theorem flat2_snoc {α β : Type} (xs : List α) (x : α) (ys : α → List β) (f : α → β → Bool) : flat2 (xs ++ [x]) ys f = flat2 xs ys f ++ ((ys x).filter (f x)).map fun y => (x, y) := by
  unfold flat2; rw [List.flatMap_append, List.flatMap_cons, List.flatMap_nil, List.append_nil]
theorem lc2R {α β : Type} (K : PySem.W.Frag) (e : α → V) (xs : List α) (e1 : β → V) (ys : α → List β) (f : α → β → Bool) (rel : α → β → V → Hp → Prop) (st : α → L2.St) (st1 : α → β → L2.St) {J : It} {G : Hp → Prop} {n : Nat} {zs : List V}
    (wk : Walk J n G (YAt zs)) (hzs : zs = xs.map e) (hn : n = xs.length) (hz : xs.length ≤ 100) (hy : ∀ x ∈ xs, (ys x).length ≤ 1000)
    {g g1 : TG} {tt tt1 : TT} {wi1 : TI} {te : TE} {vs vs1 : List Nat} {σ : L2.St} {H : Hp} {D : Addr} {Qd : Hp → Prop} (hD : H D = none) (hG : ∀ H', ExA H H' → G H') (mono : ∀ x y v H1 H2, Tk K H1 H2 → rel x y v H1 → rel x y v H2)
    (hg : ∀ x H1, x ∈ xs → ExA H H1 → ∀ R : L2.St → Hp → Prop, R (st x) H1 → g (e x) (wipe σ vs) H1 R) (hw : ∀ x, wipe (st x) vs = wipe σ vs) (ht : ∀ x H1, ∀ R : Bool → Hp → Prop, R true H1 → tt (st x) H1 R)
    (hi1 : ∀ x H1, x ∈ xs → ExA H H1 → ∀ R : It → Hp → Prop, (∀ J G, Walk J (ys x).length G (YAt ((ys x).map e1)) → (∀ H', ExA H H' → G H') → R J H1) → wi1 (st x) H1 R)
    (hg1 : ∀ x y H1, x ∈ xs → y ∈ ys x → ExA H H1 → ∀ R : L2.St → Hp → Prop, R (st1 x y) H1 → g1 (e1 y) (wipe (st x) vs1) H1 R) (hw1 : ∀ x y, wipe (st1 x y) vs1 = wipe (st x) vs1)
    (ht1 : ∀ x y H1, x ∈ xs → y ∈ ys x → ExA H H1 → ∀ R : Bool → Hp → Prop, R (f x y) H1 → tt1 (st1 x y) H1 R)
    (he : ∀ x y H1, x ∈ xs → y ∈ ys x → f x y = true → ExA H H1 → ∀ R : VK, (∀ v H2, ExA H1 H2 → rel x y v H2 → R v H2) → te (st1 x y) H1 R)
    (hd : ∀ H' vs, ExA H H' → H' D = some (.lst vs) → Paired (fun p v => rel p.1 p.2 v H') (flat2 xs ys f) vs → Qd H') :
    ∃ W : Nat → Nat → Hp → Prop, (∃ m, W 0 m (upd H D (.lst []))) ∧ ∀ i m H, W i m H →
      (J.stop i H ∧ Qd H) ∨ (J.go i H ∧ ∃ Nx : Hp → Prop, (∀ H', Nx H' → ∃ m', m' < m ∧ W (i + 1) m' H') ∧ ∀ x H', J.yld i H x H' → g x (wipe σ vs) H' fun σ2 H2 => wipe σ2 vs = wipe σ vs ∧ tt σ2 H2 fun b H3 =>
        if b = true then wi1 σ2 H3 fun J1 H4 => ∃ W1 : Nat → Nat → Hp → Prop, (∃ m, W1 0 m H4) ∧ ∀ j k H, W1 j k H →
          (J1.stop j H ∧ Nx H) ∨ (J1.go j H ∧ ∃ Nx1 : Hp → Prop, (∀ H', Nx1 H' → ∃ k', k' < k ∧ W1 (j + 1) k' H') ∧ ∀ x H', J1.yld j H x H' → g1 x (wipe σ2 vs1) H' fun σ3 H5 => wipe σ3 vs1 = wipe σ2 vs1 ∧ tt1 σ3 H5 fun b H6 =>
            if b = true then te σ3 H6 fun y H7 => ∃ acc, H7 D = some (.lst acc) ∧ acc.length < sizeLine ∧ Nx1 (upd H7 D (.lst (acc ++ [y]))) else Nx1 H6)
        else Nx H3) := by
  subst hzs hn
  let Pv : Nat → Hp → Prop := fun i H' => ExA H H' ∧ ∃ acc, H' D = some (.lst acc) ∧ acc.length ≤ 1000 * i ∧ Paired (fun p v => rel p.1 p.2 v H') (flat2 (xs.take i) ys f) acc
  refine ⟨fun i m H' => m + i = xs.length ∧ Pv i H', ⟨xs.length, rfl, ExM.new hD, [], upd_same, Nat.zero_le _, .nil⟩, ?_⟩
  rintro i m H1 ⟨hm, ex1, acc, k1, k2, hacc⟩
  by_cases hi : i < xs.length
  · refine .inr ⟨wk.goes i H1 hi (hG _ ex1), Pv (i + 1), fun H2 p => ⟨m - 1, by omega, by omega, p⟩, fun xv H2 yy => ?_⟩
    obtain ⟨rfl, hx⟩ := wk.yields i H1 xv H2 hi (hG _ ex1) yy
    obtain ⟨x, hxi⟩ : ∃ x, xs[i]? = some x := ⟨_, List.getElem?_eq_getElem hi⟩
    rw [List.getElem?_map, hxi] at hx
    obtain rfl : e x = xv := Option.some.inj hx
    have mx := List.mem_of_getElem? hxi
    have tki := tsnoc hxi
    refine hg x _ mx ex1 _ ⟨hw x, ht x _ _ (iteT (hi1 x _ mx ex1 _ fun J1 G1 w1 hG1 => ?_))⟩
    let Pi : Nat → Hp → Prop := fun j H' => ExA H H' ∧ ∃ acc, H' D = some (.lst acc) ∧ acc.length ≤ 1000 * i + j ∧ Paired (fun p v => rel p.1 p.2 v H') (flat2 (xs.take i) ys f ++ (((ys x).take j).filter (f x)).map fun y => (x, y)) acc
    refine ⟨fun j k H' => k + j = (ys x).length ∧ Pi j H', ⟨(ys x).length, rfl, ex1, acc, k1, k2, by rw [List.take_zero, List.filter_nil, List.map_nil, List.append_nil]; exact hacc⟩, ?_⟩
    rintro j k H3 ⟨hk, ex3, ac, c1, c2, hac⟩
    by_cases hj : j < (ys x).length
    · refine .inr ⟨w1.goes j H3 hj (hG1 _ ex3), Pi (j + 1), fun H4 p => ⟨k - 1, by omega, by omega, p⟩, fun yv H4 yy => ?_⟩
      obtain ⟨rfl, hyv⟩ := w1.yields j H3 yv H4 hj (hG1 _ ex3) yy
      obtain ⟨y, hyj⟩ : ∃ y, (ys x)[j]? = some y := ⟨_, List.getElem?_eq_getElem hj⟩
      rw [List.getElem?_map, hyj] at hyv
      obtain rfl : e1 y = yv := Option.some.inj hyv
      have my := List.mem_of_getElem? hyj
      have tkj := tsnoc hyj
      refine hg1 x y _ mx my ex3 _ ⟨hw1 x y, ht1 x y _ mx my ex3 _ ?_⟩
      cases c : f x y with
      | false =>
        refine iteF ⟨ex3, ac, c1, by omega, ?_⟩
        rw [tkj, List.filter_append, List.filter_cons, c]
        simp only [List.filter_nil, List.append_nil, Bool.false_eq_true, if_false]
        exact hac
      | true =>
        refine iteT (he x y _ mx my c ex3 _ fun v H5 e5 hr => ?_)
        have c15 : H5 D = some (.lst ac) := ExA.at e5 c1
        have zy := hy x mx
        refine ⟨ac, c15, szl (by omega), (ex3.trans e5).put hD, ac ++ [v], upd_same, by rw [List.length_append, List.length_singleton]; omega, ?_⟩
        rw [tkj, List.filter_append, List.filter_cons, c]
        simp only [List.filter_nil, if_true]
        rw [List.map_append, ← List.append_assoc]
        have tt := Tk.lst (K := K) (o := .lst (ac ++ [v])) c15
        have h2 : Paired (fun (p : α × β) (b : V) => rel p.1 p.2 b (upd H5 D (.lst (ac ++ [v])))) (flat2 (xs.take i) ys f ++ (((ys x).take j).filter (f x)).map fun y => (x, y)) ac := pmp hac fun a b z => mono _ _ _ _ _ (Tk.trans (Tk.all e5) tt) z
        exact psnoc (F := fun (p : α × β) (b : V) => rel p.1 p.2 b (upd H5 D (.lst (ac ++ [v])))) (x := (x, y)) (mono _ _ _ _ _ tt hr) h2
    · have ej : j = (ys x).length := by omega
      subst ej
      have zy := hy x mx
      refine .inl ⟨w1.stops H3 (hG1 _ ex3), ex3, ac, c1, by omega, ?_⟩
      rw [tki, flat2_snoc]
      rw [List.take_length] at hac
      exact hac
  · have en : i = xs.length := by omega
    subst en
    rw [List.take_length] at hacc
    exact .inl ⟨wk.stops H1 (hG _ ex1), hd H1 acc ex1 k1 hacc⟩
end Wc
/-! A dict comprehension of two clauses: {k: v for a in x if .. for b in y if ..}. -/
namespace Wc
open PySem PySem.Spec PyProof.Rows L2
abbrev dd (kx vx ta ia : Expr) (ca : List Expr) (tb ib : Expr) (cb : List Expr) (sc : Scope) (ps : Pos) : Expr :=
  .DictComp kx vx [⟨ta, ia, ca, 0⟩, ⟨tb, ib, cb, 0⟩] sc ps
abbrev tsts (cs : List Expr) (env : Env) : Sem Bool :=
  forIn cs true fun c r =>
    if r = true then do
      let ok ← isTrue c env (eval c env)
      pure (ForInStep.yield ok)
    else pure (ForInStep.yield r)
section
variable {kx vx ta ia tb ib : Expr} {ca cb : List Expr} {sc : Scope} {ps : Pos} {it : Value} {Da : Addr} {env : Env}
theorem dd_out {acc : Value} : compTurn (dd kx vx ta ia ca tb ib cb sc ps) 0 it acc env = (do
        standAt ia.pos
        match ← pyNext it with
        | none =>
          pure (.done .next)
        | some u =>
          letOwnedTupleGo ta it u
          assign ta env u
          let mut ok := true
          for c in ca do
            if ok then ok ← isTrue c env (eval c env)
          if ok then
            let y ← eval ib env
            standAt ib.pos
            let y ← foldedSetIterable ib env y
            let _ ← runOwn (.compStart (dd kx vx ta ia ca tb ib cb sc ps) 1 (← holding [y] (pyIter y)) acc env) env
          again (.compLoop (dd kx vx ta ia ca tb ib cb sc ps) 0 it acc env)) := by rfl
theorem dd_in : compTurn (dd kx vx ta ia ca tb ib cb sc ps) 1 it (.ref Da) env = (do
        standAt ib.pos
        match ← pyNext it with
        | none =>
          pure (.done .next)
        | some u =>
          letOwnedTupleGo tb it u
          assign tb env u
          let mut ok := true
          for c in cb do
            if ok then ok ← isTrue c env (eval c env)
          if ok then
            (do
              let k ← eval kx env
              let u ← holding [k] (eval vx env)
              standAt { kx.pos with endLine := vx.pos.endLine, endCol := vx.pos.endCol }
              holding [k, u] (dictSet Da k u))
          again (.compLoop (dd kx vx ta ia ca tb ib cb sc ps) 1 it (.ref Da) env)) := by rfl
end
section
variable {P : Program} {w : World} {A : Around} {R : Result → Shared → Prop} {s : Shared}
variable {kx vx ta ia tb ib : Expr} {ca cb : List Expr} {sc : Scope} {ps : Pos} {it acc : Value} {Da : Addr} {env : Env}
/-- what is wanted of an error in a turn -/
abbrev bad (P : Program) (w : World) (A : Around) (env : Env) (R : Result → Shared → Prop) := notedBy (model P w) A env fun e s' => R (.error e) s'
theorem dd_loop0 (fold : ∀ x, foldedSetIterable ib env x = pure x) (I : Nat → Shared → Prop)
    (turn : ∀ n s, I n s → wpAny (model P w) A (pyNext it) (fun r s1 =>
      match r with
      | none => R (.ok .next) s1
      | some v => wpAny (model P w) A (letOwnedTupleGo ta it v) (fun _ s2 =>
          wpAny (model P w) A (assign ta env v) (fun _ s3 =>
            wpAny (model P w) A (tsts ca env) (fun ok s4 =>
              if ok = true then
                wpAny (model P w) A (eval ib env) (fun x s5 =>
                  wpAny (model P w) A (pyIter x) (fun jt s6 =>
                    codeAny (model P w) A (.compStart (dd kx vx ta ia ca tb ib cb sc ps) 1 jt acc env) (fun r s7 =>
                      match r with
                      | .ok _ => ∃ m, m < n ∧ I m s7
                      | .error _ => False) s6) (bad P w A env R) s5) (bad P w A env R) s4
              else ∃ m, m < n ∧ I m s4) (bad P w A env R) s3) (bad P w A env R) s2) (bad P w A env R) s1) (bad P w A env R) s)
    (n : Nat) (h : I n s) : codeAny (model P w) A (.compLoop (dd kx vx ta ia ca tb ib cb sc ps) 0 it acc env) R s := by
  refine codeAny_loop rfl I (fun n s hI => ?_) n h
  show wpAny _ A ((compTurn (dd kx vx ta ia ca tb ib cb sc ps) 0 it acc env).onRaise fun x => do noteFrame x env; theTreesLotGoes x) _ _ s
  refine wpAny_noted ?_
  rw [dd_out]
  refine wpAny_bind <| wpAny_standAt <| wpAny_bind <| wpAny_mono (turn n s hI) (fun r s1 h1 => ?_) fun _ _ z => z
  match r, h1 with
  | none, h1 => exact wpAny_pure h1
  | some v, h1 =>
    refine wpAny_bind <| wpAny_mono h1 (fun _ s2 h2 => ?_) fun _ _ z => z
    refine wpAny_bind <| wpAny_mono h2 (fun _ s3 h3 => ?_) fun _ _ z => z
    refine wpAny_bind <| wpAny_mono h3 (fun ok s4 h4 => ?_) fun _ _ z => z
    match ok, h4 with
    | false, h4 => exact wpAny_pure ⟨rfl, h4⟩
    | true, h4 =>
      refine wpAny_bind <| wpAny_mono h4 (fun x s5 h5 => ?_) fun _ _ z => z
      refine wpAny_bind <| wpAny_standAt <| wpAny_bind <| wpAny_of_eq (fold x) <| wpAny_bind <| wpAny_holding <| wpAny_mono h5 (fun jt s6 h6 => ?_) fun _ _ z => z
      refine wpAny_bind <| wpAny_runOwn ?_
      rw [Around.mark_none]
      refine codeAny_mono h6 fun r s7 hr => ?_
      match r, hr with
      | .ok f, hr => first | exact wpAny_pure ⟨rfl, hr⟩ | exact wpAny_bind (wpAny_pure (wpAny_pure ⟨rfl, hr⟩))
      | .error e, hr => exact hr.elim
theorem dd_loop1 (I : Nat → Shared → Prop)
    (turn : ∀ n s, I n s → wpAny (model P w) A (pyNext it) (fun r s1 =>
      match r with
      | none => R (.ok .next) s1
      | some v => wpAny (model P w) A (letOwnedTupleGo tb it v) (fun _ s2 =>
          wpAny (model P w) A (assign tb env v) (fun _ s3 =>
            wpAny (model P w) A (tsts cb env) (fun ok s4 =>
              if ok = true then
                wpAny (model P w) A (eval kx env) (fun k s5 =>
                  wpAny (model P w) A (eval vx env) (fun u s6 =>
                    wpAny (model P w) A (dictSet Da k u) (fun _ s7 => ∃ m, m < n ∧ I m s7) (bad P w A env R) s6) (bad P w A env R) s5) (bad P w A env R) s4
              else ∃ m, m < n ∧ I m s4) (bad P w A env R) s3) (bad P w A env R) s2) (bad P w A env R) s1) (bad P w A env R) s)
    (n : Nat) (h : I n s) : codeAny (model P w) A (.compLoop (dd kx vx ta ia ca tb ib cb sc ps) 1 it (.ref Da) env) R s := by
  refine codeAny_loop rfl I (fun n s hI => ?_) n h
  show wpAny _ A ((compTurn (dd kx vx ta ia ca tb ib cb sc ps) 1 it (.ref Da) env).onRaise fun x => do noteFrame x env; theTreesLotGoes x) _ _ s
  refine wpAny_noted ?_
  rw [dd_in]
  refine wpAny_bind <| wpAny_standAt <| wpAny_bind <| wpAny_mono (turn n s hI) (fun r s1 h1 => ?_) fun _ _ z => z
  match r, h1 with
  | none, h1 => exact wpAny_pure h1
  | some v, h1 =>
    refine wpAny_bind <| wpAny_mono h1 (fun _ s2 h2 => ?_) fun _ _ z => z
    refine wpAny_bind <| wpAny_mono h2 (fun _ s3 h3 => ?_) fun _ _ z => z
    refine wpAny_bind <| wpAny_mono h3 (fun ok s4 h4 => ?_) fun _ _ z => z
    match ok, h4 with
    | false, h4 => exact wpAny_pure ⟨rfl, h4⟩
    | true, h4 =>
      refine wpAny_bind <| wpAny_bind <| wpAny_mono h4 (fun k s5 h5 => ?_) fun _ _ z => z
      refine wpAny_bind <| wpAny_holding <| wpAny_mono h5 (fun u s6 h6 => ?_) fun _ _ z => z
      exact wpAny_bind <| wpAny_standAt <| wpAny_holding <| wpAny_mono h6 (fun _ s7 h7 => wpAny_pure ⟨rfl, h7⟩) fun _ _ z => z
/-- the second clause begins -/
theorem dd_start1 (h0 : codeAny (model P w) A (.compLoop (dd kx vx ta ia ca tb ib cb sc ps) 1 it acc env) R s)
    (h : wpAny (model P w) A (pyIter it) (fun jt s' => codeAny (model P w) A (.compLoop (dd kx vx ta ia ca tb ib cb sc ps) 1 jt acc env) R s')
      (notedBy (model P w) A env fun x s' => R (.error x) s') s) :
    codeAny (model P w) A (.compStart (dd kx vx ta ia ca tb ib cb sc ps) 1 it acc env) R s := by
  refine codeAny_of_tree ?_
  show wpAny _ _ ((compStart (dd kx vx ta ia ca tb ib cb sc ps) 1 it acc env).onRaise fun x => do noteFrame x env; standAt theWindowsPlace) _ _ s
  refine wpAny_notedAt ?_
  unfold compStart
  show wpAny _ _ (ask >>= _) _ _ s
  refine wpAny_bind <| wpAny_askSetting <| wpAny_ite ?_
  split
  · first | exact wpAny_bind (wpAny_pure (wpAny_pure ⟨rfl, h0⟩)) | exact wpAny_pure ⟨rfl, h0⟩
  · first
      | exact wpAny_bind <| wpAny_rule <| wpAny_bind <| wpAny_standAt <| wpAny_bind <| wpAny_mono h (fun jt s' h' => wpAny_pure ⟨rfl, h'⟩) fun _ _ x => x
      | (refine wpAny_bind <| wpAny_rule ?_
         show wpAny _ _ (standAt ib.pos >>= _) _ _ s
         exact wpAny_bind <| wpAny_standAt <| wpAny_bind <| wpAny_mono h (fun jt s' h' => wpAny_pure ⟨rfl, h'⟩) fun _ _ x => x)
end
/-- the reading: behind the first clause's store and tests the second source's own loop. vs: the block's names; vb: those of the second target -/
def tDd (wa : TI) (ga : TG) (ua : TT) (wb : TI) (gb : TG) (ub : TT) (tk tv : TE) (vs vb : List Nat) : TE := fun σ H Q => wa σ H fun J H1 => ∀ D, H1 D = none →
  ∃ W : Nat → Nat → Hp → Prop, (∃ m, W 0 m (upd H1 D (.dK []))) ∧ ∀ i m H, W i m H →
    (J.stop i H ∧ Q (.ref D) H) ∨
    (J.go i H ∧ ∃ Nx : Hp → Prop, (∀ H', Nx H' → ∃ m', m' < m ∧ W (i + 1) m' H') ∧
      ∀ x H', J.yld i H x H' → ga x (wipe σ vs) H' fun σ2 H2 => wipe σ2 vs = wipe σ vs ∧ ua σ2 H2 fun c H3 =>
        if c = true then
          wb σ2 H3 fun J1 H4 => ∃ W1 : Nat → Nat → Hp → Prop, (∃ m, W1 0 m H4) ∧ ∀ j k H, W1 j k H →
            (J1.stop j H ∧ Nx H) ∨
            (J1.go j H ∧ ∃ Ny : Hp → Prop, (∀ H', Ny H' → ∃ k', k' < k ∧ W1 (j + 1) k' H') ∧
              ∀ x H', J1.yld j H x H' → gb x (wipe σ2 vb) H' fun σ3 H5 => wipe σ3 vb = wipe σ2 vb ∧ ub σ3 H5 fun c H6 =>
                if c = true then tk σ3 H6 fun y H7 => tv σ3 H7 fun z H8 => ∃ kvs k, y = kV k ∧ H8 D = some (.dK kvs) ∧ kvs.length < sizeLine ∧ Ny (upd H8 D (.dK (putK kvs k z)))
                else Ny H6)
        else Nx H3)
section
variable {X : Cx}
/-- everywhere in a block -/
abbrev Blk (X : Cx) (sc : Scope) (F : Cx → Prop) : Prop := ∀ (s : Shared) (H : Hp) (C : Addr) (cl : List (Str × Addr)) (fp : List Addr), F (X.blk s H sc (compEnvC sc cl C X.env) fp)
theorem pe_dc2 {kx vx ta ia tb ib : Expr} {ca cb : List Expr} {sc : Scope} {own : List (Str × Nat)} {vs1 : List Nat} {ps : Pos} {wa wb : TI} {ga gb : TG} {ua ub : TT} {tk tv : TE}
    (hc : X.calm = true) (hN : X.N.Nodup) (hia : PI X ta ia wa) (ok : BlkOk X.N X.env.scope sc own) (hv : ∀ i ∈ vs1, i ∈ own.map (·.2))
    (hga : Blk X sc fun B => PG B ta ga) (hua : Blk X sc fun B => PTs B ca ua) (hib : Blk X sc fun B => PI B tb ib wb) (hgb : Blk X sc fun B => PG B tb gb) (hub : Blk X sc fun B => PTs B cb ub)
    (hk : Blk X sc fun B => PE B kx tk) (he : Blk X sc fun B => PE B vx tv) (fa : ∀ x, foldedSetIterable ia X.env x = pure x := by intro _; rfl) (fb : ∀ env x, foldedSetIterable ib env x = pure x := by intro _ _; rfl) :
    PE X (dd kx vx ta ia ca tb ib cb sc ps) (tDd wa ga ua wb gb ub tk tv (own.map (·.2)) vs1) := by
  refine ⟨fun pins s σ H Q I h => ?_⟩
  rw [arm_eval_DictComp]
  have hfree : ∀ y ∈ sc.names, y.2 = .free → ∃ c, X.env.cells.lookup y.1 = some c := fun y hy e => (ok.free y hy e).elim (fun k => I.ok.has _ (.inl k)) fun k => I.ok.has _ (.inr k)
  refine wpAny_comprehension_free rfl fa (closure_ok hfree) ok.kind (fun y hy e => by rw [ok.uniq y hy, e]) ?_
  refine thn (hia.run pins s σ H _ I h) fun xv s1 hx => thn hx fun itv s2 hh => ?_
  obtain ⟨it, fp, tn, J, H2, rfl, I2, T, st2, f2, q⟩ := hh
  refine wpAny_newObj_type (newEnv_comp ?_)
  generalize hD : s2.heap.objs.size = D
  have hDn : H2 D = none := I2.hok.fresh (Nat.le_of_eq hD)
  obtain ⟨W, ⟨m0, w0⟩, turn⟩ := q D hDn
  -- the new dict is laid
  generalize hs3 : ({ s2 with heap := s2.heap.push { cls := .type "dict", data := .dict #[] } } : Shared) = s3
  have h3 : s3.heap = s2.heap.push { cls := .type "dict", data := .dict #[] } := by rw [← hs3]
  have I3 : Inv X pins σ (upd H2 D (.dK [])) s3 := by
    rw [← hs3]
    exact I2.laid (t' := s2.toks) (fun b o e => Heap.get?_push_of_some _ e) (Nat.le_of_eq hD) (by rw [← hD]; exact dk_empty s2.heap I2.big)
  have low : ∀ b ∈ fp, b < s2.heap.objs.size := fun b hb => let ⟨_, e, _⟩ := T.obj _ _ st2 b hb; Heap.lt_size e
  have f3 : ∀ b ∈ fp, FpOk X pins (upd H2 D (.dK [])) b ∧ b < s3.heap.objs.size := fun b hb =>
    ⟨⟨by rw [upd_ne (by rw [← hD]; exact Nat.ne_of_lt (low b hb))]; exact (f2 b hb).1, (f2 b hb).2⟩, by rw [h3, Heap.size_push]; exact Nat.lt_succ_of_lt (low b hb)⟩
  have st3 : tn 0 s3.heap := T.keep _ _ _ st2 fun b _ o e => by rw [h3]; exact Heap.get?_push_of_some _ e
  have I4 := block_start I3 ok hN f3
  have qg := hga s3 (upd H2 D (.dK [])) s3.heap.objs.size (cellsFrom (s3.heap.objs.size + 1) sc.names (cloFrom X.env.cells sc.names [])) fp
  have qt := hua s3 (upd H2 D (.dK [])) s3.heap.objs.size (cellsFrom (s3.heap.objs.size + 1) sc.names (cloFrom X.env.cells sc.names [])) fp
  have qi1 := hib s3 (upd H2 D (.dK [])) s3.heap.objs.size (cellsFrom (s3.heap.objs.size + 1) sc.names (cloFrom X.env.cells sc.names [])) fp
  have qg1 := hgb s3 (upd H2 D (.dK [])) s3.heap.objs.size (cellsFrom (s3.heap.objs.size + 1) sc.names (cloFrom X.env.cells sc.names [])) fp
  have qt1 := hub s3 (upd H2 D (.dK [])) s3.heap.objs.size (cellsFrom (s3.heap.objs.size + 1) sc.names (cloFrom X.env.cells sc.names [])) fp
  have qk := hk s3 (upd H2 D (.dK [])) s3.heap.objs.size (cellsFrom (s3.heap.objs.size + 1) sc.names (cloFrom X.env.cells sc.names [])) fp
  have qe := he s3 (upd H2 D (.dK [])) s3.heap.objs.size (cellsFrom (s3.heap.objs.size + 1) sc.names (cloFrom X.env.cells sc.names [])) fp
  show codeAny _ _ (.compStart (dd kx vx ta ia ca tb ib cb sc ps) 0 (.ref it) (.ref D) (compEnvC sc (cellsFrom (s3.heap.objs.size + 1) sc.names (cloFrom X.env.cells sc.names [])) s3.heap.objs.size X.env))
    (compPost (model X.prog X.w) X.A X.xe none (EP X pins σ Q) (.ref D) s3.heap.objs.size) { s3 with heap := pushCells (s3.heap.push { cls := .type "dict", data := .dict #[] }) sc.names }
  have nfp : ∀ b ∈ fp, (upd H2 D (.dK [])) b = none := fun b hb => (f3 b hb).1.1
  generalize hce : compEnvC sc (cellsFrom (s3.heap.objs.size + 1) sc.names (cloFrom X.env.cells sc.names [])) s3.heap.objs.size X.env = ce at I4 qg qt qi1 qg1 qt1 qk qe ⊢
  have cL : ce.locals = s3.heap.objs.size := by subst hce; rfl
  generalize hH3 : upd H2 D (.dK []) = H3 at I3 I4 qg qt qi1 qg1 qt1 qk qe w0 nfp f3
  generalize hs4 : ({ s3 with heap := pushCells (s3.heap.push { cls := .type "dict", data := .dict #[] }) sc.names } : Shared) = s4 at I4 ⊢
  have st4 : tn 0 s4.heap := T.keep _ _ _ st3 fun b _ o e => by rw [← hs4]; exact pushCells_keeps _ _ _ _ (Heap.get?_push_of_some _ e)
  have stat : ∀ {σ' : L2.St} {H' : Hp} {s' : Shared}, Inv (X.blk s3 H3 sc ce fp) [] σ' H' s' → (∀ b ∈ fp, H' b = none) → ∀ b ∈ fp, FpOk (X.blk s3 H3 sc ce fp) [] H' b := fun {σ' H' s'} I' hn b hb =>
    ⟨hn b hb, (I'.ok.exf b hb).1, I'.ok.exfs b hb, .inl hb, fun x c e => (I'.ok.exf b hb).2 x c e, fun p hp => by cases (show p ∈ ([] : List (Addr × Obj)) ++ [] from hp)⟩
  have lp : codeAny (model X.prog X.w) X.A (.compLoop (dd kx vx ta ia ca tb ib cb sc ps) 0 (.ref it) (.ref D) ce) (compPost (model X.prog X.w) X.A X.xe none (EP X pins σ Q) (.ref D) s3.heap.objs.size) s4 := by
    refine dd_loop0 (fb ce) (fun n s' => ∃ i H', Inv (X.blk s3 H3 sc ce fp) [] (wipe σ (own.map (·.2))) H' s' ∧ tn i s'.heap ∧ (∀ b ∈ fp, H' b = none) ∧ W i n H') (fun n s5 hn5 => ?_) m0 ⟨0, H3, I4, st4, nfp, w0⟩
    obtain ⟨i, H5, I5, st5, n5, w5⟩ := hn5
    rcases turn i n H5 w5 with ⟨stop, qq⟩ | ⟨go, Nx, hNx, step⟩
    · refine thnF (T.done (X.blk s3 H3 sc ce fp) rfl rfl rfl hc i [] s5 _ H5 (fun _ _ => False) I5 (stat I5 n5) st5 stop) fun r s6 hr6 => ?_
      obtain ⟨rfl, I6⟩ := hr6
      have I7 : Inv X pins σ H5 s6 := I3.call' (ch := fp) I6.os I6.base I6.hok I6.bare fun b hb => let z := (f3 b hb).1; ⟨z.2.2.2.1, z.2.1, z.2.2.2.2.1, z.2.2.2.2.2⟩
      have nC : H5 s3.heap.objs.size = none := by have z : H5 ce.locals = none := I6.free; rwa [cL] at z
      obtain ⟨m, hm, _⟩ := I6.loc
      have hm : s6.heap.Ns ce.locals m := hm
      rw [cL] at hm
      refine ⟨m, hm, fun h'' sb => ?_⟩
      obtain ⟨g0, g1, g2, g3, g4, g5⟩ := I3.fpOk (Nat.le_refl _) nC
      exact ⟨.ref D, H5, I7.turned (t' := s6.toks) (fun b o hb e => (sb.2 b hb).trans e) g0 g1 g3 g4 g5, rfl, qq⟩
    · refine thnF (T.item (X.blk s3 H3 sc ce fp) rfl rfl rfl hc i [] s5 _ H5 (fun _ _ => False) I5 (stat I5 n5) st5 go) fun r s6 hr6 => ?_
      obtain ⟨u, rfl, h6⟩ := hr6
      refine thnF h6 fun _ s7 hh7 => ?_
      obtain ⟨x, H7, I7, r7, y7, st7, n7⟩ := hh7
      have I7' := I7.pinned (stat I7 n7) (T.obj _ _ st7)
      refine thnF (qg.run _ s7 _ H7 x u _ I7' r7 (step x H7 y7)) fun _ s8 hh8 => ?_
      obtain ⟨σ8, H8, I8, hw8, q8⟩ := hh8
      refine thnF (qt.run _ s8 σ8 H8 _ I8 q8) fun c s9 hh9 => ?_
      obtain ⟨H9, I9, q9⟩ := hh9
      -- where a turn of the outer loop ends
      have fin : ∀ {σ9 : L2.St} {s' : Shared} {H' : Hp}, Inv (X.blk s3 H3 sc ce fp) ([] ++ pinsAt fp s7.heap) σ9 H' s' → (wipe σ (own.map (·.2))).length = σ9.length →
          (∀ (j : Nat) v, (wipe σ (own.map (·.2)))[j]? = some (some v) → σ9[j]? = some (some v)) → Nx H' →
          ∃ m, m < n ∧ ∃ i H', Inv (X.blk s3 H3 sc ce fp) [] (wipe σ (own.map (·.2))) H' s' ∧ tn i s'.heap ∧ (∀ b ∈ fp, H' b = none) ∧ W i m H' := fun {σ9 s' H'} I' hl hk nx => by
        obtain ⟨m', hm, w'⟩ := hNx H' nx
        have pin' : ∀ b ∈ fp, ∀ o, s7.heap.get? b = some o → s'.heap.get? b = some o ∧ H' b = none := fun b hb o e =>
          let z := I'.pin (b, o) (List.mem_append_right _ (List.mem_append_right _ (mem_pinsAt hb e))); ⟨z.1, z.2.1⟩
        exact ⟨m', hm, i + 1, H', (I'.unpinned (pins := [])).weak hl hk, T.keep _ _ _ st7 fun b hb o e => (pin' b hb o e).1, fun b hb => let ⟨o, e, _⟩ := T.obj _ _ st7 b hb; (pin' b hb o e).2, w'⟩
      have hl8 : (wipe σ (own.map (·.2))).length = σ8.length := by rw [← hw8, wipe_length]
      have hk8 : ∀ (j : Nat) v, (wipe σ (own.map (·.2)))[j]? = some (some v) → σ8[j]? = some (some v) := fun j v e => by rw [← hw8] at e; exact (wipe_some e).1
      have hk9 : ∀ (j : Nat) v, (wipe σ (own.map (·.2)))[j]? = some (some v) → (wipe σ8 vs1)[j]? = some (some v) := fun j v e => by
        rw [← hw8] at e
        rw [wipe_out fun z => (wipe_some e).2 (hv j z)]
        exact (wipe_some e).1
      match c, q9 with
      | false, q9 => exact fin I9 hl8 hk8 (by simpa using q9)
      | true, q9 =>
        simp only [if_true] at q9 ⊢
        refine thnF (qi1.run _ s9 σ8 H9 _ I9 q9) fun xv s10 hx => thnF hx fun itv s11 hh => ?_
        obtain ⟨jt, fq, tm, J1, H11, rfl, I11, T1, st11, f11, W1, ⟨m1, w1⟩, turn1⟩ := hh
        have stat1 : ∀ {H' : Hp}, (∀ b ∈ fq, H' b = none) → ∀ b ∈ fq, FpOk (X.blk s3 H3 sc ce fp) ([] ++ pinsAt fp s7.heap) H' b := fun hn b hb => ⟨hn b hb, (f11 b hb).2⟩
        have lq : codeAny (model X.prog X.w) X.A (.compLoop (dd kx vx ta ia ca tb ib cb sc ps) 1 (.ref jt) (.ref D) ce) (fun r s' =>
            match r with
            | .ok _ => ∃ m, m < n ∧ ∃ i H', Inv (X.blk s3 H3 sc ce fp) [] (wipe σ (own.map (·.2))) H' s' ∧ tn i s'.heap ∧ (∀ b ∈ fp, H' b = none) ∧ W i m H'
            | .error _ => False) s11 := by
          refine dd_loop1 (fun k s' => ∃ j H', Inv (X.blk s3 H3 sc ce fp) ([] ++ pinsAt fp s7.heap) (wipe σ8 vs1) H' s' ∧ tm j s'.heap ∧ (∀ b ∈ fq, H' b = none) ∧ W1 j k H') (fun k s12 hh12 => ?_) m1
            ⟨0, H11, I11.weak (wipe_length _ _) (fun j v e => (wipe_some e).1), st11, fun b hb => (f11 b hb).1, w1⟩
          obtain ⟨j, H12, I12, st12, n12, w12⟩ := hh12
          rcases turn1 j k H12 w12 with ⟨stop1, nx1⟩ | ⟨go1, Ny, hNy, step1⟩
          · refine thnF (T1.done (X.blk s3 H3 sc ce fp) rfl rfl rfl hc j _ s12 (wipe σ8 vs1) H12 (fun _ _ => False) I12 (stat1 n12) st12 stop1) fun r s13 hr => ?_
            obtain ⟨rfl, I13⟩ := hr
            exact fin I13 (hl8.trans (wipe_length σ8 vs1).symm) hk9 nx1
          · refine thnF (T1.item (X.blk s3 H3 sc ce fp) rfl rfl rfl hc j _ s12 (wipe σ8 vs1) H12 (fun _ _ => False) I12 (stat1 n12) st12 go1) fun r s13 hr => ?_
            obtain ⟨u1, rfl, h13⟩ := hr
            refine thnF h13 fun _ s14 hh => ?_
            obtain ⟨x1, H14, I14, r14, y14, st14, n14⟩ := hh
            have I14' := I14.pinned (stat1 n14) (T1.obj _ _ st14)
            refine thnF (qg1.run _ s14 (wipe σ8 vs1) H14 x1 u1 _ I14' r14 (step1 x1 H14 y14)) fun _ s15 hh => ?_
            obtain ⟨σ15, H15, I15, hw15, q15⟩ := hh
            refine thnF (qt1.run _ s15 σ15 H15 _ I15 q15) fun c1 s16 hh => ?_
            obtain ⟨H16, I16, q16⟩ := hh
            have fin1 : ∀ {s' : Shared} {H' : Hp}, Inv (X.blk s3 H3 sc ce fp) (([] ++ pinsAt fp s7.heap) ++ pinsAt fq s14.heap) σ15 H' s' → Ny H' →
                ∃ m, m < k ∧ ∃ j H', Inv (X.blk s3 H3 sc ce fp) ([] ++ pinsAt fp s7.heap) (wipe σ8 vs1) H' s' ∧ tm j s'.heap ∧ (∀ b ∈ fq, H' b = none) ∧ W1 j m H' := fun {s' H'} I' nx => by
              obtain ⟨m', hm, w'⟩ := hNy H' nx
              have pin' : ∀ b ∈ fq, ∀ o, s14.heap.get? b = some o → s'.heap.get? b = some o ∧ H' b = none := fun b hb o e =>
                let z := I'.pin (b, o) (List.mem_append_right _ (List.mem_append_right _ (mem_pinsAt hb e))); ⟨z.1, z.2.1⟩
              exact ⟨m', hm, j + 1, H', I'.unpinned.weak (by rw [← hw15, wipe_length]) (fun j v e => by rw [← hw15] at e; exact (wipe_some e).1), T1.keep _ _ _ st14 fun b hb o e => (pin' b hb o e).1,
                fun b hb => let ⟨o, e, _⟩ := T1.obj _ _ st14 b hb; (pin' b hb o e).2, w'⟩
            match c1, q16 with
            | false, q16 => exact fin1 I16 (by simpa using q16)
            | true, q16 =>
              simp only [if_true] at q16 ⊢
              refine thnF (qk.run _ s16 σ15 H16 _ I16 q16) fun z s17 hh => ?_
              obtain ⟨yk, H17, I17, r17, q17⟩ := hh
              refine thnF (qe.run _ s17 σ15 H17 _ I17 q17) fun z2 s18 hh => ?_
              obtain ⟨yv, H18, I18, r18, kvs, k', rfl, hD18, hz18, ny⟩ := hh
              exact d_dictSet (X := X.blk s3 H3 sc ce fp) I18 hD18 hz18 r17 r18 fun s19 I19 => fin1 I19 ny
        exact dd_start1 lq (T1.self X.A 0 _ _ _ st11 lq)
  exact codeAny_compStart_dict lp (T.self X.A 0 _ _ _ st4 lp)
end
end Wc
/-! What can be obtained: rounds, the mathematics. -/
namespace Wc
/-- n follows from objects of S by another reason than a register -/
def Ob.fol (cs : List Int) (S : Int → Prop) (n : Int) : Ob → Prop
  | .rcd _ fs => some n ∈ fs
  | .weak _ t => t = some n ∧ n ∉ cs
  | .tab _ es => ∃ k, (k, n) ∈ es ∧ S k
def Fol (h : Hd) (cs : List Int) (S : Int → Prop) (n : Int) : Prop := ∃ o ∈ h.obs, S o.num ∧ o.fol cs S n
/-- obtainable within so many rounds -/
def In (h : Hd) (cs : List Int) : Nat → Int → Prop
  | 0 => fun n => some n ∈ h.regs
  | k + 1 => fun n => In h cs k n ∨ Fol h cs (In h cs k) n
def Obt (h : Hd) (cs : List Int) (n : Int) : Prop := ∃ k, In h cs k n
section
variable {h : Hd} {cs ds : List Int} {S S' : Int → Prop} {n : Int}
theorem Ob.fol_mono (hs : ∀ n, S n → S' n) {o : Ob} (x : o.fol cs S n) : o.fol cs S' n := by
  cases o with
  | rcd _ _ => exact x
  | weak _ _ => exact x
  | tab _ _ => obtain ⟨k, h1, h2⟩ := x; exact ⟨k, h1, hs k h2⟩
theorem Fol.mono (hs : ∀ n, S n → S' n) (x : Fol h cs S n) : Fol h cs S' n := by
  obtain ⟨o, h1, h2, h3⟩ := x
  exact ⟨o, h1, hs _ h2, Ob.fol_mono hs h3⟩
theorem In.succ {k : Nat} (x : In h cs k n) : In h cs (k + 1) n := .inl x
theorem In.le {k j : Nat} (hk : k ≤ j) (x : In h cs k n) : In h cs j n := by
  induction hk with
  | refl => exact x
  | step _ ih => exact .inl ih
theorem Ob.fol_in {S : List Int} {T : Int → Prop} {o : Ob} (ok : o.ok S) (x : o.fol cs T n) : n ∈ S := by
  cases o with
  | rcd m fs => exact ok.2 _ x n rfl
  | weak m t => exact ok n x.1
  | tab m es => obtain ⟨k, h1, _⟩ := x; exact (ok.2.2 _ h1).2
theorem In.num (ok : h.Ok) : ∀ {k : Nat} {n : Int}, In h cs k n → n ∈ h.nums
  | 0, n, x => ok.regs _ x n rfl
  | k + 1, n, .inl x => In.num ok x
  | k + 1, n, .inr ⟨o, ho, _, hf⟩ => Ob.fol_in (ok.obs o ho) hf
theorem Obt.num (ok : h.Ok) (x : Obt h cs n) : n ∈ h.nums := let ⟨_, y⟩ := x; In.num ok y
/-- fewer condemned, more is obtained -/
theorem Ob.fol_less (hc : ∀ n, n ∈ ds → n ∈ cs) {o : Ob} (x : o.fol cs S n) : o.fol ds S n := by
  cases o with
  | rcd _ _ => exact x
  | weak _ _ => exact ⟨x.1, fun z => x.2 (hc _ z)⟩
  | tab _ _ => exact x
theorem In.less (hc : ∀ n, n ∈ ds → n ∈ cs) : ∀ {k : Nat} {n : Int}, In h cs k n → In h ds k n
  | 0, _, x => x
  | _ + 1, _, .inl x => .inl (In.less hc x)
  | _ + 1, _, .inr ⟨o, ho, h2, h3⟩ => .inr ⟨o, ho, In.less hc h2, Ob.fol_mono (fun _ z => In.less hc z) (Ob.fol_less hc h3)⟩
theorem Obt.less (hc : ∀ n, n ∈ ds → n ∈ cs) (x : Obt h cs n) : Obt h ds n := let ⟨k, y⟩ := x; ⟨k, In.less hc y⟩
/-- what is closed has all that is obtained -/
theorem Obt.closed (h0 : ∀ n, some n ∈ h.regs → S n) (h1 : ∀ n, Fol h cs S n → S n) (x : Obt h cs n) : S n := by
  obtain ⟨k, x⟩ := x
  induction k generalizing n with
  | zero => exact h0 n x
  | succ k ih =>
    rcases x with x | x
    · exact ih x
    · exact h1 n (x.mono fun m z => ih z)
theorem Obt.reg (x : some n ∈ h.regs) : Obt h cs n := ⟨0, x⟩
theorem two {k j : Nat} {m : Int} (x : In h cs k n) (y : In h cs j m) : ∃ i, In h cs i n ∧ In h cs i m := ⟨max k j, x.le (Nat.le_max_left _ _), y.le (Nat.le_max_right _ _)⟩
theorem Obt.fol (x : Fol h cs (Obt h cs) n) : Obt h cs n := by
  obtain ⟨o, ho, ⟨k, hk⟩, hf⟩ := x
  cases o with
  | rcd m fs => exact ⟨k + 1, .inr ⟨_, ho, hk, hf⟩⟩
  | weak m t => exact ⟨k + 1, .inr ⟨_, ho, hk, hf⟩⟩
  | tab m es =>
    obtain ⟨q, h1, j, hj⟩ := hf
    obtain ⟨i, a, b⟩ := two hk hj
    exact ⟨i + 1, .inr ⟨_, ho, a, q, h1, b⟩⟩
end
/-- what an object leads to, and what follows from it -/
theorem mem_ledTo {o : Ob} {gs cs : List Int} {n : Int} : n ∈ ledTo o gs cs ↔ o.fol cs (· ∈ gs) n := by
  cases o with
  | rcd m fs => simp [ledTo, Ob.fol]
  | weak m t =>
    cases t with
    | none => simp [ledTo, Ob.fol]
    | some i =>
      show n ∈ (if i ∈ cs then [] else [i]) ↔ (some i = some n ∧ n ∉ cs)
      by_cases c : i ∈ cs
      · rw [if_pos c]
        constructor
        · intro z; cases z
        · rintro ⟨e, z⟩; exact absurd (Option.some.inj e ▸ c) z
      · rw [if_neg c]
        constructor
        · intro z
          have e : n = i := by simpa using z
          subst e; exact ⟨rfl, c⟩
        · rintro ⟨e, _⟩
          have e := Option.some.inj e
          subst e; simp
  | tab m es =>
    show n ∈ ((es.filter fun e => decide (e.1 ∈ gs)).map (·.2)) ↔ ∃ k, (k, n) ∈ es ∧ k ∈ gs
    rw [List.mem_map]
    constructor
    · rintro ⟨e, he, rfl⟩
      obtain ⟨h1, h2⟩ := List.mem_filter.mp he
      exact ⟨e.1, h1, of_decide_eq_true h2⟩
    · rintro ⟨k, h1, h2⟩
      exact ⟨(k, n), List.mem_filter.mpr ⟨h1, decide_eq_true h2⟩, rfl⟩
/-! ### rows without repetition -/
theorem nd_sub {l m : List Int} (h : l.Nodup) (s : ∀ n ∈ l, n ∈ m) : l.length ≤ m.length := by
  induction l generalizing m with
  | nil => exact Nat.zero_le _
  | cons x r ih =>
    have hx : x ∈ m := s x List.mem_cons_self
    obtain ⟨nx, nr⟩ := List.nodup_cons.mp h
    have q := ih (m := m.erase x) nr fun n hn => (List.mem_erase_of_ne (fun e => nx (by rw [← e]; exact hn))).mpr (s n (List.mem_cons_of_mem _ hn))
    rw [List.length_erase_of_mem hx] at q
    have : 0 < m.length := List.length_pos_of_mem hx
    rw [List.length_cons]
    omega
/-- two rising rows with the same members are one -/
theorem up_same : ∀ {l m : List Int}, l.Pairwise (· < ·) → m.Pairwise (· < ·) → (∀ n, n ∈ l ↔ n ∈ m) → l = m
  | [], [], _, _, _ => rfl
  | [], y :: m, _, _, h => absurd ((h y).mpr List.mem_cons_self) (by simp)
  | x :: l, [], _, _, h => absurd ((h x).mp List.mem_cons_self) (by simp)
  | x :: l, y :: m, hl, hm, h => by
    obtain ⟨hx, hl'⟩ := List.pairwise_cons.mp hl
    obtain ⟨hy, hm'⟩ := List.pairwise_cons.mp hm
    have e : x = y := by
      rcases List.mem_cons.mp ((h x).mp List.mem_cons_self) with e | e
      · exact e
      · rcases List.mem_cons.mp ((h y).mpr List.mem_cons_self) with e2 | e2
        · exact e2.symm
        · have := hx y e2
          have := hy x e
          omega
    subst e
    have hh : ∀ n, n ∈ l ↔ n ∈ m := fun n => by
      constructor
      · intro z
        rcases List.mem_cons.mp ((h n).mp (List.mem_cons_of_mem _ z)) with e | e
        · subst e; exact absurd (hx n z) (by omega)
        · exact e
      · intro z
        rcases List.mem_cons.mp ((h n).mpr (List.mem_cons_of_mem _ z)) with e | e
        · subst e; exact absurd (hy n z) (by omega)
        · exact e
    rw [up_same hl' hm' hh]
theorem up_of {l : List Int} (h : l.Pairwise (· ≤ ·)) (nd : l.Nodup) : l.Pairwise (· < ·) := by
  induction l with
  | nil => exact .nil
  | cons x r ih =>
    obtain ⟨h1, h2⟩ := List.pairwise_cons.mp h
    obtain ⟨n1, n2⟩ := List.nodup_cons.mp nd
    exact List.pairwise_cons.mpr ⟨fun y hy => by
      have := h1 y hy
      have : x ≠ y := fun e => n1 (by rw [e]; exact hy)
      omega, ih h2 n2⟩
/-! ### the rounds as they are found, one behind the other -/
structure RI (h : Hd) (cs : List Int) (d : Nat) (G : List (Int × Int)) (W : List Int) : Prop where
  ndG : (G.map (·.1)).Nodup
  ndW : W.Nodup
  mem : ∀ n, n ∈ G.map (·.1) ↔ ∃ j, j < d ∧ In h cs j n
  new : ∀ n, n ∈ W ↔ In h cs d n ∧ ¬ ∃ j, j < d ∧ In h cs j n
  val : ∀ n v, (n, v) ∈ G → ∃ k : Nat, v = k ∧ In h cs k n ∧ ∀ j, j < k → ¬ In h cs j n
structure RoundsOf (h : Hd) (cs : List Int) (G : List (Int × Int)) : Prop where
  nd : (G.map (·.1)).Nodup
  all : ∀ n, n ∈ G.map (·.1) ↔ Obt h cs n
  val : ∀ n v, (n, v) ∈ G → ∃ k : Nat, v = k ∧ In h cs k n ∧ ∀ j, j < k → ¬ In h cs j n
def addW (G : List (Int × Int)) (W : List Int) (d : Nat) : List (Int × Int) := G ++ W.map fun n => (n, (d : Int))
section
variable {h : Hd} {cs : List Int} {d : Nat} {G : List (Int × Int)} {W : List Int}
theorem addW_keys : (addW G W d).map (·.1) = G.map (·.1) ++ W := by
  unfold addW
  rw [List.map_append, List.map_map]
  congr 1
  exact List.map_id' W
theorem RI.dis (r : RI h cs d G W) {n : Int} (hn : n ∈ W) : n ∉ G.map (·.1) := fun z => ((r.new n).mp hn).2 ((r.mem n).mp z)
theorem RI.ndA (r : RI h cs d G W) : ((addW G W d).map (·.1)).Nodup := by
  rw [addW_keys]
  exact List.nodup_append.mpr ⟨r.ndG, r.ndW, fun a ha b hb e => r.dis hb (e ▸ ha)⟩
theorem RI.memA (r : RI h cs d G W) (n : Int) : n ∈ (addW G W d).map (·.1) ↔ In h cs d n := by
  rw [addW_keys, List.mem_append, r.mem, r.new]
  constructor
  · rintro (⟨j, hj, x⟩ | x)
    · exact x.le (by omega)
    · exact x.1
  · intro x
    by_cases c : ∃ j, j < d ∧ In h cs j n
    · exact .inl c
    · exact .inr ⟨x, c⟩
theorem RI.size (r : RI h cs d G W) (ok : h.Ok) : (addW G W d).length ≤ h.nums.length := by
  have q := nd_sub r.ndA fun n hn => In.num ok ((r.memA n).mp hn)
  rwa [List.length_map] at q
theorem RI.more (hw : W ≠ []) : G.length < (addW G W d).length := by
  unfold addW
  rw [List.length_append, List.length_map]
  have := List.length_pos_iff.mpr hw
  omega
/-- a round: who is asked, and what is found -/
theorem RI.step (r : RI h cs d G W) {as W' : List Int} (ha : ∀ n ∈ as, n ∈ (addW G W d).map (·.1)) (hb : ∀ n, n ∈ (addW G W d).map (·.1) → (n ∈ W ∨ ∃ m es, Ob.tab m es ∈ h.obs ∧ m = n) → n ∈ as)
    (nd : W'.Nodup) (hw : ∀ n, n ∈ W' ↔ n ∉ (addW G W d).map (·.1) ∧ ∃ o ∈ h.obs, o.num ∈ as ∧ o.fol cs (· ∈ (addW G W d).map (·.1)) n) : RI h cs (d + 1) (addW G W d) W' := by
  refine ⟨r.ndA, nd, fun n => ?_, fun n => ?_, fun n v hv => ?_⟩
  · rw [r.memA]
    exact ⟨fun x => ⟨d, by omega, x⟩, fun ⟨j, hj, x⟩ => x.le (by omega)⟩
  · rw [hw n]
    have e1 : (∃ j, j < d + 1 ∧ In h cs j n) ↔ In h cs d n := ⟨fun ⟨j, hj, x⟩ => x.le (by omega), fun x => ⟨d, by omega, x⟩⟩
    rw [e1, r.memA]
    constructor
    · rintro ⟨hn, o, ho, hoa, hf⟩
      exact ⟨.inr ⟨o, ho, (r.memA _).mp (ha _ hoa), Ob.fol_mono (fun m z => (r.memA m).mp z) hf⟩, hn⟩
    · rintro ⟨x, hn⟩
      refine ⟨hn, ?_⟩
      rcases x with x | ⟨o, ho, h1, hf⟩
      · exact absurd x hn
      · refine ⟨o, ho, ?_, Ob.fol_mono (fun m z => (r.memA m).mpr z) hf⟩
        refine hb _ ((r.memA _).mpr h1) ?_
        by_cases c : o.num ∈ W
        · exact .inl c
        · refine .inr ?_
          -- found before the last round: then n would have been found, but for a table
          have h2 : ∃ j, j < d ∧ In h cs j o.num := by
            by_cases c2 : ∃ j, j < d ∧ In h cs j o.num
            · exact c2
            · exact absurd ((r.new _).mpr ⟨h1, c2⟩) c
          obtain ⟨j, hj, x⟩ := h2
          cases o with
          | rcd m fs => exact absurd (In.le (by omega : j + 1 ≤ d) (.inr ⟨_, ho, x, hf⟩)) hn
          | weak m t => exact absurd (In.le (by omega : j + 1 ≤ d) (.inr ⟨_, ho, x, hf⟩)) hn
          | tab m es => exact ⟨m, es, ho, rfl⟩
  · rcases List.mem_append.mp hv with z | z
    · exact r.val n v z
    · obtain ⟨m, hm, e⟩ := List.mem_map.mp z
      cases e
      have q := (r.new _).mp hm
      exact ⟨d, rfl, q.1, fun j hj x => q.2 ⟨j, hj, x⟩⟩
theorem RI.first {W : List Int} (nd : W.Nodup) (hw : ∀ n, n ∈ W ↔ some n ∈ h.regs) : RI h cs 0 [] W :=
  ⟨List.nodup_nil, nd, fun n => ⟨fun z => by simp at z, fun ⟨j, hj, _⟩ => absurd hj (by omega)⟩, fun n => (hw n).trans ⟨fun z => ⟨z, fun ⟨j, hj, _⟩ => absurd hj (by omega)⟩, fun z => z.1⟩, fun n v z => by simp at z⟩
theorem RI.done (r : RI h cs d G []) : RoundsOf h cs G := by
  refine ⟨r.ndG, fun n => ⟨fun z => let ⟨j, _, x⟩ := (r.mem n).mp z; ⟨j, x⟩, fun x => ?_⟩, r.val⟩
  have stop : ∀ n, In h cs d n → ∃ j, j < d ∧ In h cs j n := fun n y => by
    by_cases c : ∃ j, j < d ∧ In h cs j n
    · exact c
    · exact absurd ((r.new n).mpr ⟨y, c⟩) (by simp)
  refine Obt.closed (S := fun n => n ∈ G.map (·.1)) (fun n z => (r.mem n).mpr (stop n (In.le (Nat.zero_le d) z))) (fun n z => ?_) x
  have hd : ∀ m, m ∈ G.map (·.1) → In h cs (d - 1) m := fun m hm => let ⟨j, hj, y⟩ := (r.mem m).mp hm; y.le (by omega)
  by_cases d0 : d = 0
  · obtain ⟨o, _, h1, _⟩ := z
    obtain ⟨j, hj, _⟩ := (r.mem _).mp h1
    omega
  · have y : In h cs (d - 1 + 1) n := .inr (z.mono hd)
    exact (r.mem n).mpr (stop n (y.le (by omega)))
end
end Wc
namespace Wc
open PySem PySem.Spec PyProof.Rows L2
/-- t.index(x): the first place, items of any flat kinds -/
def rIndexT (K : PySem.W.Frag) : V → List V → Hp → VK → Prop := fun x xs H Q => ∃ (a : Addr) (ys : List V) (y : V) (j : Nat) (z : V), x = V.ref a ∧ xs = [y] ∧ SqT K H a ys ∧ flatV y = true ∧ ys.all flatV = true ∧ ys[j]? = some z ∧ eqV z y = true ∧
  (∀ (m : Nat) (z' : V), m < j → ys[m]? = some z' → eqV z' y = false) ∧ Q (.int (j : Nat)) H
theorem mt_indexT {X : Cx} : MtR X "tuple.index" (rIndexT X.K) := by
  intro pins s σ H x xs v us Q I rx rxs h
  obtain ⟨a, ys, y, j, z, rfl, rfl, hq, fy, fys, hz, hzj, hno, q⟩ := h
  cases rx
  cases rxs with
  | cons ry rt =>
    rename_i uy ut
    cases rt
    obtain ⟨its, rv, pl, hsz⟩ := I.tuple hq
    obtain ⟨⟨cls, dd, dt, sl⟩, ho, hc, n, hd⟩ := pl
    simp only at hc hd
    subst hc
    subst hd
    obtain ⟨u, hu, ru⟩ := rv.get hz
    obtain ⟨hjl, hje⟩ := List.getElem?_eq_some_iff.mp hu
    have hvl := rv.length
    have hj : j < its.toArray.size := by simpa using hjl
    refine call_meets PySem.F.slot_tuple_index ⟨_, ho, rfl⟩ PySem.F.entry_tuple_index (PySem.F.args_tuple_index_2 _ _) (TI.tuple_indexAt a its.toArray n dd sl uy (eqU y) j hj ?_ ?_)
      ⟨ho, fun u' hu' => mem_eqAt ry fy rv fys u' (by simpa using hu'), ⟨.int (j : Nat), H, I.tok _, ⟨_, rfl⟩, q⟩⟩
    · have e1 : its.toArray[j] = u := by simpa using hje
      rw [e1, eqU_of ru (flat_at fys hz)]
      exact hzj
    · intro m hm hmj
      have hml : m < its.length := by simpa using hm
      have hmy : m < ys.length := by omega
      have hy' : ys[m]? = some ys[m] := List.getElem?_eq_getElem hmy
      obtain ⟨u2, hu2, ru2⟩ := rv.get hy'
      obtain ⟨_, hme⟩ := List.getElem?_eq_some_iff.mp hu2
      have e1 : its.toArray[m] = u2 := by simpa using hme
      rw [e1, eqU_of ru2 (flat_at fys hy')]
      exact hno m _ hmj hy'
section
open PySem.Calls
theorem call_tupleZ {X : Cx} : CallR X (.type "tuple") (rTupZ X.K) := by
  intro pins s σ H xs us Q I r h
  obtain ⟨p, ys, rfl, hq, q⟩ := h
  obtain ⟨u, rfl, rx⟩ := vals1 r
  cases rx
  obtain ⟨its, r', pl, hz⟩ := I.list hq
  have hlen := r'.length
  refine call_tuple_list pl.isList (fun h' kp => ?_) (by simp only [List.size_toArray] <;> omega)
  have I1 : Inv X pins σ H { s with heap := h' } := I.kept (t' := s.toks) kp
  have I2 : Inv X pins σ (upd H h'.objs.size (.frz { cls := .type "tuple", data := .seq its.toArray } (.tup ys))) { s with heap := h'.push { cls := .type "tuple", data := .seq its.toArray } } :=
    I1.laid (t' := s.toks) (fun b o e => Heap.get?_push_of_some _ e) (Nat.le_refl _) (show ObjOk X.prog X.w _ _ _ (.frz _ (.tup ys)) from ⟨Heap.get?_push_size _ rfl, hz, its, r', IsTup.new _ _⟩)
  exact ⟨.ref h'.objs.size, _, I2, rfl, q _ _ (I1.hok.fresh (Nat.le_refl _)) rfl⟩
/-- a method of a tuple of which it is known that its object has no dict -/
def tBMZ (r : V → List V → Hp → VK → Prop) (to : TE) (t : TA) : TE := fun σ H Q => to σ H fun x H1 => (∃ p xs, x = .ref p ∧ SqZ H1 p xs) ∧ t σ H1 fun xs H2 => r x xs H2 Q
theorem pe_bmZ {X : Cx} {o e : Expr} {es : List Expr} {to : TE} {t : TA} {name : Str} {apos cpos : Pos} {id : String} {r : V → List V → Hp → VK → Prop} (pa : PlainAttrs "tuple") (slot : Slot "tuple" name id) (hty : typeOf (.builtin id) = pure (.type "method_descriptor")) (hm : MtR X id r) (ho : PE X o to) (ha : PA X (e :: es) t)
    (hbase : attributeBase o name X.env (eval o X.env) = eval o X.env := by rfl)
    (hfew : ((backTo cpos (starEach (e :: es) X.env)).all (fun x => !x.1) && (backToKw cpos (keywordEach [] X.env)).all (fun x => x.1.isSome)
      && decide ((e :: es).length + ([] : List Keyword).length + (if ([] : List Keyword).isEmpty then 0 else 1) < 30)) = true := by rfl)
    (hline : (apos.endLine == cpos.line) = true := by rfl) (hs : starEach (e :: es) X.env = (false, eval e X.env) :: starEach es X.env := by rfl) (hplain : (backTo cpos (starEach es X.env)).any (·.1) = false := by rfl) :
    PE X (.Call (.Attribute o name apos) (e :: es) [] cpos) (tBMZ r to t) := by
  refine ⟨fun pins s σ H Q I h => ?_⟩
  refine wpAny_Call_method_late hbase hfew hline rfl (thn (ho.run pins s σ H _ I h) fun v s1 ⟨x, H1, I1, r1, ty, q1⟩ => ?_)
  obtain ⟨p, xs, rfl, ob, hd, hz⟩ := ty
  cases r1
  obtain ⟨e1, _, its, _, ho2, e2, hc, _⟩ := I1.hok p _ hz
  rw [e1] at e2
  cases e2
  refine ⟨"tuple", id, pa, slot, hty, ⟨ob, e1, hc⟩, fun a e => ?_, ?_⟩
  · cases e
    exact ⟨ob, e1, hd⟩
  have hA := ha.run cpos pins s1 σ H1 _ I1 q1
  rw [hs] at hA ⊢
  refine Calls.callWith_builtin (by show (false || (backTo cpos (starEach es X.env)).any (·.1)) = false; rw [hplain] <;> rfl) (Calls.evalArgs_plain ?_)
  exact thn hA fun us s2 ⟨vs, H2, I2, r2, q2⟩ => hm pins s2 σ H2 (.ref p) vs _ us Q I2 rfl r2 q2
end
/-- the first place of a number among numbers and None -/
def ixR (rs : List Rf) (n : Int) : Nat := rs.findIdx (· == some n)
theorem flat_rfs (rs : List Rf) : (rs.map rV).all flatV = true := by
  rw [List.all_eq_true]
  intro x hx
  obtain ⟨r, _, rfl⟩ := List.mem_map.mp hx
  cases r <;> rfl
theorem eqV_rf (r : Rf) (n : Int) : eqV (rV r) (.int n) = (r == some n) := by
  cases r with
  | none => rfl
  | some i =>
    show (i == n) = (some i == some n)
    by_cases e : i = n
    · subst e; simp
    · simp [e]
theorem inV_rf (n : Int) (rs : List Rf) : inV (.int n) (rs.map rV) = decide (some n ∈ rs) := by
  induction rs with
  | nil => rfl
  | cons k r ih =>
    show (eqV (rV k) (.int n) || inV (.int n) (r.map rV)) = _
    rw [ih, eqV_rf]
    by_cases e : k = some n
    · subst e; simp
    · have e3 : ¬ some n = k := fun z => e z.symm
      simp [e, e3]
theorem indexT_ok {K : PySem.W.Frag} {H : Hp} {a : Addr} {rs : List Rf} {n : Int} {Q : VK} (h : SqT K H a (rs.map rV)) (m : some n ∈ rs) (q : Q (.int (ixR rs n : Nat)) H) : rIndexT K (.ref a) [.int n] H Q := by
  have hl : ixR rs n < rs.length := List.findIdx_lt_length_of_exists ⟨_, m, by simp⟩
  refine ⟨a, _, .int n, ixR rs n, rV rs[ixR rs n], rfl, rfl, h, rfl, flat_rfs rs, ?_, ?_, ?_, q⟩
  · rw [List.getElem?_map, List.getElem?_eq_getElem hl]; rfl
  · rw [eqV_rf]; exact List.findIdx_getElem (p := (· == some n)) (w := hl)
  · intro k z' hk hz'
    have hkl : k < rs.length := Nat.lt_trans hk hl
    rw [List.getElem?_map, List.getElem?_eq_getElem hkl] at hz'
    obtain rfl : rV rs[k] = z' := Option.some.inj hz'
    rw [eqV_rf]
    exact List.not_of_lt_findIdx (p := (· == some n)) hk
end Wc
/-! sorted(d, key=lambda x: (ranks[x], x)) over a dict of numbers. -/
namespace Wc
open PySem PySem.Spec PyProof.Rows L2
/-- one call of the key: a new pair, all else as it was -/
theorem lam_key {P : Program} {w : World} {A : Around} {s : Shared} {f c' : Addr} {pm ctv : Value} {params : Arguments} {scope : Scope} {cl : List (Str × Addr)} {pn dn qual : Str} {p1 p2 p3 p4 p5 : Pos} {k0 : Nat} {g cell : Addr} {vs : List (Key × Value)} {v zv : Value} {k z : Int}
    (hroom : A.depth < recursionLimit) (lim : s.heap.NoLimit)
    (hf : s.heap.get? f = some (PySem.W.kla_obj "<lambda>" qual params (.Tuple [.Subscript (.Name dn p1) (.Name pn p2) p3, .Name pn p4] k0 p5) scope cl pm c' ctv))
    (hcd : s.heap.CodeRec (.ref c') qual) (kind : scope.kind = .function) (co : scope.isCoroutine = false) (gen : scope.isGenerator = false) (nocell : ∀ y ∈ scope.names, y.2 ≠ .cell)
    (hpn : scope.names.lookup pn = some .local) (hdn : scope.names.lookup dn = some .free)
    (d1 : (pn == ("__debug__" : Str)) = false) (d2 : (dn == ("__debug__" : Str)) = false) (d3 : (dn == ("__classdict__" : Str)) = false)
    (hbind : ∀ u, bindArgs (PySem.W.kla_fn "<lambda>" qual params (.Tuple [.Subscript (.Name dn p1) (.Name pn p2) p3, .Name pn p4] k0 p5) scope cl pm (.ref c') ctv) ⟨[u], []⟩ = pure [(pn, u)])
    (hcell : cl.lookup dn = some cell) (hIs : s.heap.IsCell cell (some (.ref g))) (dd : s.heap.DictOf (mixKind P w) g vs) (hval : valueAt vs (Sum.inl k) = some zv) (hz : RelV (.int z) zv) (hv : RelV (.int k) v) :
    wpAny (model P w) A (call (.ref f) [v]) (PySem.W.KeyPure (.tuple [.int z, .int k]) s) (fun _ _ => False) s := by
  obtain ⟨tz, rfl⟩ := hz
  obtain ⟨tv, rfl⟩ := hv
  have rc : codeAny (model P w) A (.call (.ref f) ⟨[.int k tv], []⟩) (fun r s' => match r with
      | .ok (.ret u) => PySem.W.KeyPure (.tuple [.int z, .int k]) s u s'
      | _ => False) s := by
    refine PySem.W.kla_callFunE hroom hf rfl co gen rfl hcd ?_
    rw [hbind]
    refine wpAny_pure (wpAny_newFunctionEnv nocell (fun y hy => ?_) (fun h1 hns hsb => ⟨lim.fresh _ hsb, ?_⟩) kind)
    · obtain ⟨n, u⟩ := y
      have e : (n, u) = (pn, Value.int k tv) := by simpa using hy
      cases e
      exact hpn
    have kp : ∀ b o, s.heap.get? b = some o → h1.get? b = some o := fun b o e => hsb.extBut b o (Nat.ne_of_lt (Heap.lt_size e)) (Heap.get?_push_of_some _ e)
    show codeAny _ _ (.expr _ (PySem.W.envX qual scope s.heap.objs.size f (.ref c') cl)) _ _
    refine PySem.W.kla_codeExpr ?_
    refine wpAny_Tuple_spliced ?_
    show wpAny _ _ (spliced ((false, eval (.Subscript (.Name dn p1) (.Name pn p2) p3) (PySem.W.envX qual scope s.heap.objs.size f (.ref c') cl)) :: backTo p5 (starEach [.Name pn p4] (PySem.W.envX qual scope s.heap.objs.size f (.ref c') cl)))) _ _ _
    refine Calls.spliced_cons ?_
    refine subD_of PySem.F.slot_dict_getitem.lookup (fun _ _ => rfl) ?_
    have dd1 : h1.DictOf (mixKind P w) g vs := by
      obtain ⟨o, es, ep, e, r⟩ := dd
      exact ⟨o, es, ep, kp _ _ e, r⟩
    refine wpAny_Name (wpAny_loadName_free kind hdn hcell (by obtain ⟨o, e, r⟩ := hIs; exact ⟨o, kp _ _ e, r⟩) ?_ d3) d2
    refine wpAny_Name (wpAny_loadName_local kind hpn hns (v := Value.int k tv) (by simp) ?_) d1
    refine ⟨dd1.typeIs, ?_⟩
    refine wpAny_getItem_of (kV_is (k := Sum.inl k) ⟨tv, rfl⟩) dd1.mapOf hval ?_
    show wpAny _ _ (spliced ((false, eval (.Name pn p4) (PySem.W.envX qual scope s.heap.objs.size f (.ref c') cl)) :: backTo p5 (starEach [] (PySem.W.envX qual scope s.heap.objs.size f (.ref c') cl)))) _ _ _
    refine Calls.spliced_cons ?_
    refine wpAny_Name (wpAny_loadName_local kind hpn hns (v := Value.int k tv) (by simp) ?_) d1
    refine Calls.spliced_nil ⟨by show 2 ≤ sizeLine; decide, ?_⟩
    refine ⟨_, _, rfl, fun b o e => Heap.get?_push_of_some _ (kp b o e), ?_⟩
    exact .tuple (Heap.get?_push_size _ rfl) rfl rfl (.cons (.int z _) (.cons (.int k _) .nil))
  refine wpAny_call (codeAny_mono rc fun r s' hq => ?_)
  match r, hq with
  | .ok (.ret u), hq => exact hq
end Wc
namespace Wc
open PySem PySem.Spec PyProof.Rows L2
/-- by rank, then by number -/
abbrev rkLe (rk : Int → Int) : Int → Int → Bool := fun p q => decide (rk p < rk q ∨ (rk p = rk q ∧ p ≤ q))
theorem vals_of_each {vs : List Value} {ns : List Int} (h : PySem.W.EachIs (fun v n => RelV (V.int n) v) vs ns) : Vals (ns.map V.int) vs := by
  induction h with
  | nil => exact .nil
  | cons r _ ih => exact .cons r ih
theorem sortLam_run {X : Cx} {pins : List (Addr × Obj)} {σ : L2.St} {H : Hp} {s : Shared} {d f : Addr} {kvs : List (Key × V)} {ks : List Int} {rk : Int → Int} {Q : VK} {E : Value → Shared → Prop}
    (I : Inv X pins σ H s) (hcalm : X.calm = true) (hd : Rd H d (.dK kvs)) (hks : kvs.map (·.1) = ks.map Sum.inl) (hz : ks.length ≤ 1000) (hu : X.A.units + 20 < cLine)
    (turn : ∀ (v : Value) (n : Int), RelV (.int n) v → n ∈ ks → ∀ (h : Heap) (tk : Nat), (∀ b o, s.heap.get? b = some o → h.get? b = some o) →
      wpAny (model X.prog X.w) X.A.in1.in1 (call (.ref f) [v]) (PySem.W.KeyPure (.tuple [.int (rk n), .int n]) { s with heap := h, toks := tk }) (fun _ _ => False) { s with heap := h, toks := tk })
    (q : ∀ p, H p = none → Q (.ref p) (upd H p (.lst ((ks.mergeSort (rkLe rk)).map V.int)))) :
    wpAny (model X.prog X.w) X.A (call (.builtin "sorted") [.ref d] [(Str.ofString "key", .ref f)]) (EP X pins σ Q) E s := by
  obtain ⟨z, lo, vs, rel, dd⟩ := dk_rd I.hok hd
  obtain ⟨ep, hat⟩ := dd.dictAt
  have hkeys : vs.map (·.1) = ks.map Sum.inl := rel.keys.symm.trans hks
  have hl : vs.length = ks.length := by
    have e := congrArg List.length hkeys
    rwa [List.length_map, List.length_map] at e
  have h16 : vs.length ≤ sizeLine := by rw [hl]; exact Nat.le_trans hz (by decide)
  refine call_function_entry_kw PyProof.Rows.kind_sorted PyProof.Rows.plain_sorted PyProof.Rows.entry_sorted (ksk_s1 _ _) ?_
  unfold Builtin.«sorted»
  refine wpAny_bind (m := checkCount "sorted" 1 1 _) (wpAny_pure ?_)
  refine wpAny_bind (PySem.W.kdu_collect (A := X.A.in1) (PySem.W.kdl_dict (knd := mixKind X.prog X.w) (kvs := vs) (ep := ep) lo) (I.ok.hd hcalm) hat h16 fun h1 tk acc hk hacc => ?_)
  have hal : acc.toList.length = ks.length := by rw [Array.length_toList, hacc.1, hl]
  have each : PySem.W.EachIs (fun v n => RelV (V.int n) v) acc.toList ks := by
    have get : ∀ (j : Nat) v, acc.toList[j]? = some v → ∃ n, ks[j]? = some n ∧ RelV (V.int n) v := fun j v e => by
      obtain ⟨k, x, e1, e2⟩ := hacc.2 j v (by rw [← Array.getElem?_toList]; exact e)
      have e3 : (vs.map (·.1))[j]? = some k := by rw [List.getElem?_map, e1]; rfl
      rw [hkeys, List.getElem?_map] at e3
      cases e4 : ks[j]? with
      | none => rw [e4] at e3; cases e3
      | some y =>
        rw [e4] at e3
        have e5 : Sum.inl y = k := Option.some.inj e3
        subst e5
        rcases keyIs_shape (show keyIs (Sum.inl y) v = true from e2) with ⟨i, t, ek, ev⟩ | ⟨z, t, ek, ev⟩
        · cases ek
          exact ⟨y, rfl, t, ev⟩
        · cases ek
    have go : ∀ (as : List Value) (bs : List Int), as.length = bs.length → (∀ (j : Nat) v, as[j]? = some v → ∃ n, bs[j]? = some n ∧ RelV (V.int n) v) → PySem.W.EachIs (fun v n => RelV (V.int n) v) as bs := by
      intro as
      induction as with
      | nil =>
        intro bs hl _
        cases bs with
        | nil => exact .nil
        | cons b r => simp at hl
      | cons a r ih =>
        intro bs hl hg
        cases bs with
        | nil => simp at hl
        | cons b t =>
          obtain ⟨n, e, rn⟩ := hg 0 a rfl
          have e : b = n := by simpa using e
          subst e
          exact .cons rn (ih t (by simpa using hl) fun j v e => by simpa using hg (j + 1) v (by simpa using e))
    exact go _ _ hal get
  have I1 : Inv X pins σ H { s with heap := h1, toks := tk } := I.kept hk
  have zl : acc.toList.length ≤ sizeLine := by rw [hal]; exact Nat.le_trans hz (by decide)
  refine wpAny_bind (wpAny_newList ?_ zl)
  have hoL : (h1.push (seqObj "list" acc.toList.toArray 0)).get? h1.objs.size = some (seqObj "list" acc.toList.toArray 0) := Heap.get?_push_size _ rfl
  show wpAny _ _ _ _ _ { s with heap := h1.push (seqObj "list" acc.toList.toArray 0), toks := tk }
  have hal2 : PySem.W.AllAlike (ks.map fun n => PyData.tuple [.int (rk n), .int n]) := by
    intro a ha b hb
    obtain ⟨_, _, rfl⟩ := List.mem_map.mp ha
    obtain ⟨_, _, rfl⟩ := List.mem_map.mp hb
    rfl
  have hsk : PySem.W.Sortable (ks.map fun n => PyData.tuple [.int (rk n), .int n]) := .inl fun a ha => by
    obtain ⟨_, _, rfl⟩ := List.mem_map.mp ha
    exact ⟨_, _, rfl⟩
  refine wpAny_bind (wpAny_holding (wpAny_call_entry_kw PyProof.Rows.slot_list_sort ⟨_, hoL, rfl⟩ PyProof.Rows.entry_list_sort ?_ (ksk_l1 _ _)))
  show wpAny _ _ (PySem.Builtin.«list.sort» ⟨[.ref h1.objs.size], [(Str.ofString "key", .ref f)]⟩) _ _ _
  rw [ksk_t1]
  refine PySem.W.keyH_tree (kz := ks.map fun n => PyData.tuple [.int (rk n), .int n]) (s := { s with heap := h1.push (seqObj "list" acc.toList.toArray 0), toks := tk }) hoL (by rw [List.length_map, hal]) zl hal2 hsk (fun a ha => ?_)
    (PySem.W.keyH_turns each fun v x hR hx h tk' kp => ?_) fun h2 tk2 out c kp hD ko => ?_
  · obtain ⟨_, _, rfl⟩ := List.mem_map.mp ha
    show X.A.units + 1 + 1 + _ < cLine
    have e : ∀ (a b : Int), (PyData.tuple [.int a, .int b]).depth ≤ 4 := fun a b => by simp [PyData.depth, PyData.depthAll]
    have := e (rk ‹Int›) ‹Int›
    omega
  · refine turn v x hR hx h tk' fun b o e => ?_
    exact kp b o (Nat.ne_of_lt (Heap.lt_size (hk b o e))) (Heap.get?_push_of_some _ (hk b o e))
  · have eo := PySem.W.keyedOut_each (fun n => PyData.tuple [.int (rk n), .int n]) ko each
    rw [PySem.W.dataLe_ii] at eo
    have vo := vals_of_each eo
    have hlen : ((ks.mergeSort (rkLe rk)).map V.int).length ≤ sizeLine := by
      rw [List.length_map, List.length_mergeSort]
      exact Nat.le_trans hz (by decide)
    refine ⟨_, rfl, ?_⟩
    refine wpAny_pure ⟨_, rfl, .ref h1.objs.size, upd H h1.objs.size (.lst ((ks.mergeSort (rkLe rk)).map V.int)), I1.laid (t' := tk2) (fun b u e => ?_) (Nat.le_refl _)
      (show ObjOk X.prog X.w _ _ _ (.lst _) from ⟨hlen, out, c, vo, hD⟩), rfl, q _ (I1.hok.fresh (Nat.le_refl _))⟩
    exact kp b u (Nat.ne_of_lt (Heap.lt_size e)) (Heap.get?_push_of_some _ e)
end Wc
namespace Wc
open PySem PySem.Spec PyProof.Rows L2 LamX NdefX
/-- sorted(a, key=lambda x: (ranks[x], x)): ranks in the slot jd -/
def SortRest (T : List (Addr × Str)) (jd : Nat) (σ : L2.St) (Q : VK) (x : V) (H1 : Hp) : Prop := Tabs T H1 ∧ ∃ (d g : Addr) (kvs dvs : List (Key × V)) (ks : List Int) (rk : Int → Int),
  x = .ref d ∧ H1 d = some (.dK kvs) ∧ kvs.map (·.1) = ks.map Sum.inl ∧ ks.length ≤ 1000 ∧ σ[jd]? = some (some (.ref g)) ∧ H1 g = some (.dK dvs) ∧ (∀ n ∈ ks, valV dvs (Sum.inl n) = some (.int (rk n))) ∧
  ∀ H2 p, ExtN H1 H2 → Tabs T H2 → H2 p = none → Q (.ref p) (upd H2 p (.lst ((ks.mergeSort (rkLe rk)).map V.int)))
def tSortLam (T : List (Addr × Str)) (jd : Nat) (ta : TE) : TE := fun σ H Q => ta σ H (SortRest T jd σ Q)
def oneOf (R : V → Hp → Prop) : List V → Hp → Prop := fun vs H => match vs with
  | [x] => R x H
  | _ => False
theorem pe_sortLam {X : Cx} {T : List (Addr × Str)} {c Pa : Addr} {a : Expr} {ta : TE} {params : Arguments} {scope : Scope} {pn dn : Str} {p p1 p2 p3 p4 p5 lpos kpos pos : Pos} {k0 jd : Nat}
    (hcalm : X.calm = true) (hr : Room 4 X.A) (TB : TabB X.base X.mg c Pa) (hcode : X.env.code = .ref c) (hm : (Pa, X.env.qual ++ "<lambda>") ∈ T) (hu : ∀ p ∈ T, p.1 = Pa → p.2 = X.env.qual ++ "<lambda>")
    (hdef : defaultsOf params X.env = ([], []))
    (kind : scope.kind = .function) (co : scope.isCoroutine = false) (gen : scope.isGenerator = false) (nocell : ∀ y ∈ scope.names, y.2 ≠ .cell) (hpn : scope.names.lookup pn = some .local) (hdn : scope.names.lookup dn = some .free)
    (hfr : ∀ y ∈ scope.names, y.2 = .free → X.env.scope.names.lookup y.1 = some .cell) (hN : X.N[jd]? = some dn)
    (d1 : (pn == ("__debug__" : Str)) = false) (d2 : (dn == ("__debug__" : Str)) = false) (d3 : (dn == ("__classdict__" : Str)) = false)
    (hbind : ∀ (cl : List (Str × Addr)) (pm cdv ctv u : Value), bindArgs (PySem.W.kla_fn "<lambda>" (X.env.qual ++ "<lambda>") params (.Tuple [.Subscript (.Name dn p1) (.Name pn p2) p3, .Name pn p4] k0 p5) scope cl pm cdv ctv) ⟨[u], []⟩ = pure [(pn, u)])
    (hg : Gl X "sorted") (hmg : X.mg "sorted" = none) (ha : PE X a ta)
    (hse : starEach [a] X.env = (false, eval a X.env) :: starEach [] X.env := by rfl) (he : backTo pos (starEach [a] X.env) = (false, eval a X.env) :: backTo pos (starEach [] X.env) := by rfl) (hpl : (backTo pos (starEach [a] X.env)).any (·.1) = false := by rfl) :
    PE X (.Call (.Name "sorted" p) [a] [⟨some "key", .Lambda params (.Tuple [.Subscript (.Name dn p1) (.Name pn p2) p3, .Name pn p4] k0 p5) scope lpos, kpos⟩] pos) (tSortLam T jd ta) := by
  refine ⟨fun pins s σ H Q I h => ?_⟩
  have hboot : bootBuiltins "sorted" = some (.builtin "sorted") := by decide +kernel
  refine wpAny_Call_Name_kw (ld_blt I hg hmg hboot ?_)
  have h0 : tCons ta tNil σ H (oneOf (SortRest T jd σ Q)) := h
  refine PyProof.Rows.callWith_kw (thn ((pa_cons ha pa_nil hse).run pos pins s σ H _ I h0) fun us s1 hh => ?_) he hpl (by rfl) (by rfl)
  obtain ⟨vs, H1, I1, r1, hh⟩ := hh
  obtain ⟨x, rfl⟩ : ∃ x, vs = [x] := by
    match vs, hh with
    | [x], _ => exact ⟨x, rfl⟩
  obtain ⟨hT, d, g, kvs, dvs, ks, rk, rfl, hd, hks, hz, hs, hgd, hrk, q⟩ : SortRest T jd σ Q x H1 := hh
  cases r1 with
  | cons rx rr =>
  cases rr
  have ed := rx
  cases ed
  have hfree : ∀ y ∈ scope.names, y.2 = .free → ∃ c, X.env.cells.lookup y.1 = some c := fun y hy e => I.ok.has _ (.inl (hfr y hy e))
  show wpAny _ _ (evalAll [do let v ← eval (.Lambda params (.Tuple [.Subscript (.Name dn p1) (.Name pn p2) p3, .Name pn p4] k0 p5) scope lpos) X.env; standAt pos; pure v]) _ _ s1
  refine wpAny_evalAll_cons (wpAny_bind (lam_make2 I1 TB hcode hm hu hT hdef hfree fun f c' pm ctv H2 s2 I2 ex tb hf hfn hfrs hco => wpAny_bind (wpAny_standAt (wpAny_pure ?_))))
  refine wpAny_evalAll_nil ?_
  show wpAny _ _ (call (.builtin "sorted") [.ref d] [(Str.ofString "key", .ref f)]) _ _ s2
  have hd2 : H2 d = some (.dK kvs) := ex d _ hd (fun _ z => nomatch z)
  have hg2 : H2 g = some (.dK dvs) := ex g _ hgd (fun _ z => nomatch z)
  -- what the lambda has captured
  obtain ⟨m, hn, hl⟩ := id I2.loc
  have hcl : X.env.scope.names.lookup dn = some .cell := hfr (dn, .free) (PySem.mem_of_lookup hdn) rfl
  obtain ⟨ug, rg, lk⟩ := hl jd dn (.ref g) hN hs (.inr (.inl hcl))
  have erg : ug = Value.ref g := rg
  subst erg
  obtain ⟨cell, hcell, hIs⟩ : ∃ cell, X.env.cells.lookup dn = some cell ∧ s2.heap.IsCell cell (some (.ref g)) := by
    rcases lk with ⟨k, _⟩ | ⟨_, cc, e, z⟩
    · have k' : X.env.scope.names.lookup dn = some .local := k
      rw [hcl] at k'; cases k'
    · exact ⟨cc, e, z⟩
  have hcell2 : (cloFrom X.env.cells scope.names []).lookup dn = some cell := clo_has hfree (PySem.mem_of_lookup hdn) hcell
  obtain ⟨zz, lo, vg, rel, dd⟩ := dk_of I2.hok hg2
  obtain ⟨cd, oc, cvs, ct, ec, hoc, hdc, hvc⟩ := codeO_at I2.hok hco
  refine sortLam_run (ks := ks) (rk := rk) I2 hcalm (.inl hd2) hks hz (by have := hr.un; omega) (fun v n rv hn' h tk kp => ?_) fun p hp => q H2 p ex tb hp
  have hroom : X.A.in1.in1.depth < recursionLimit := by
    have := hr.dp
    show X.A.depth < recursionLimit
    omega
  obtain ⟨zv, hzv, rz⟩ := RelO.some_of (v := .int (rk n)) (o := valueAt vg (Sum.inl n)) (by rw [← hrk n hn']; exact rel.val _)
  have dd' : h.DictOf (mixKind X.prog X.w) g vg := by
    obtain ⟨o, es, ep, e, r⟩ := dd
    exact ⟨o, es, ep, kp _ _ e, r⟩
  have hIs' : h.IsCell cell (some (.ref g)) := by
    obtain ⟨o, e, r⟩ := hIs
    exact ⟨o, kp _ _ e, r⟩
  exact lam_key (s := { s2 with heap := h, toks := tk }) hroom (I2.nolimit.keeps kp) (kp _ _ hf) ⟨cd, oc, cvs, ct, ec, kp _ _ hoc, hdc, hvc⟩ kind co gen nocell hpn hdn d1 d2 d3 (hbind _ _ _ _) hcell2 hIs' dd' hzv rz rv
end Wc
namespace Wc
open PySem PySem.Spec PyProof.Rows L2 LamX
/-! ### a def of a program whose head tells its facts by a Hook -/
/-- the def's code object and its table, as K tells them -/
structure LamAt (K : PySem.W.Frag) (base : PySem.Heap) (mg : Str → Option Value) (x : Str) (cd : Value) : Prop where
  code : cd = .ref (He.cT K (x, none)).1
  tb : TabB base mg (He.cT K (x, none)).1 (He.cT K (x, none)).2
theorem FunD.df {K : PySem.W.Frag} {x : Str} {st : Stmt} {p : Str × Option Str} {fd : FuncData} (F : FunD K x x (defArgs st) (defBody st) (defScope st) [] [] (He.fAd K p) fd) :
    ∃ cd, Df K x st (He.fAd K p) fd cd ∧ cd = .ref (He.cT K p).1 := by
  obtain ⟨oc, od, dV, kV, doc, pm, an, cdv, ct, osl, rfl, lk, hcd, _, _⟩ := F.ex
  obtain ⟨c, rfl⟩ := He.codeIn_ref hcd
  refine ⟨.ref c, Df.of lk hcd, ?_⟩
  show Value.ref c = .ref (He.codeOf K p)
  rw [He.codeOf_eq lk rfl]
end Wc
/-! Derivations: reasons, ranks, steps; the mathematics. -/
namespace Wc
open PySem L2
/-! ### reasons -/
inductive Rs where
  | reg (k : Nat)
  | fld (n : Int) (k : Nat)
  | ent (n key : Int)
  | drf (n : Int)
def Rs.row : Rs → List V
  | .reg k => [.str "register", .int (k : Nat)]
  | .fld n k => [.str "field", .int n, .int (k : Nat)]
  | .ent n key => [.str "entry", .int n, .int key]
  | .drf n => [.str "deref", .int n]
def Rs.dt : Rs → Dt
  | .reg k => .tup [.str "register", .int (k : Nat)]
  | .fld n k => .tup [.str "field", .int n, .int (k : Nat)]
  | .ent n key => .tup [.str "entry", .int n, .int key]
  | .drf n => .tup [.str "deref", .int n]
def Rs.names : Rs → List Int
  | .reg _ => []
  | .fld n _ => [n]
  | .ent n key => [n, key]
  | .drf n => [n]
theorem Rs.names_len (r : Rs) : r.names.length ≤ 2 := by cases r <;> simp [Rs.names]
def RsAt (K : PySem.W.Frag) (H : Hp) (a : Addr) (r : Rs) : Prop := SqT K H a r.row
theorem RsAt.mono {K : PySem.W.Frag} {H H' : Hp} {a : Addr} {r : Rs} (t : Tk K H H') (h : RsAt K H a r) : RsAt K H' a r := t _ _ h
theorem RsAt.is {K : PySem.W.Frag} {H : Hp} {a : Addr} {r : Rs} (h : RsAt K H a r) : Is K H r.dt (.ref a) := by
  cases r with
  | reg k => exact ⟨a, _, rfl, h, _, _, rfl, rfl, _, _, rfl, rfl, rfl⟩
  | fld n k => exact ⟨a, _, rfl, h, _, _, rfl, rfl, _, _, rfl, rfl, _, _, rfl, rfl, rfl⟩
  | ent n k => exact ⟨a, _, rfl, h, _, _, rfl, rfl, _, _, rfl, rfl, _, _, rfl, rfl, rfl⟩
  | drf n => exact ⟨a, _, rfl, h, _, _, rfl, rfl, _, _, rfl, rfl, rfl⟩
/-- None, or a reason -/
def RsV (K : PySem.W.Frag) (H : Hp) (r : Option Rs) (v : V) : Prop := match r with
  | none => v = .non
  | some r => ∃ a, v = .ref a ∧ RsAt K H a r
theorem RsV.mono {K : PySem.W.Frag} {H H' : Hp} {r : Option Rs} {v : V} (t : Tk K H H') (h : RsV K H r v) : RsV K H' r v := by
  cases r with
  | none => exact h
  | some r => obtain ⟨a, e, h⟩ := h; exact ⟨a, e, RsAt.mono t h⟩
/-- the reason that this object gives, others being those of ls -/
def rsFrom (ls cs : List Int) (n : Int) : Ob → Option Rs
  | .rcd m fs => if some n ∈ fs then some (.fld m (ixR fs n)) else none
  | .weak m t => if t = some n ∧ n ∉ cs then some (.drf m) else none
  | .tab m es => ((es.filter fun e => decide (e.2 = n) && decide (e.1 ∈ ls)).head?).map fun e => .ent m e.1
def rsAll (h : Hd) (ls cs : List Int) (n : Int) : List Rs := (h.obs.filter fun o => decide (o.num ∈ ls)).filterMap (rsFrom ls cs n)
section
variable {h : Hd} {ls ms cs : List Int} {n : Int} {o : Ob} {r : Rs}
theorem rsFrom_congr (e : ∀ m, m ∈ ls ↔ m ∈ ms) (o : Ob) : rsFrom ls cs n o = rsFrom ms cs n o := by
  cases o with
  | rcd m fs => rfl
  | weak m t => rfl
  | tab m es =>
    show ((es.filter fun e => decide (e.2 = n) && decide (e.1 ∈ ls)).head?).map _ = ((es.filter fun e => decide (e.2 = n) && decide (e.1 ∈ ms)).head?).map _
    congr 3
    funext x
    rw [decide_eq_decide.mpr (e x.1)]
theorem rsAll_congr (e : ∀ m, m ∈ ls ↔ m ∈ ms) : rsAll h ls cs n = rsAll h ms cs n := by
  unfold rsAll
  have e1 : (fun o : Ob => decide (o.num ∈ ls)) = fun o => decide (o.num ∈ ms) := by
    funext o; exact decide_eq_decide.mpr (e o.num)
  have e2 : rsFrom ls cs n = rsFrom ms cs n := by funext o; exact rsFrom_congr e o
  rw [e1, e2]
/-- what a reason names -/
theorem rsFrom_names (e : rsFrom ls cs n o = some r) : ∀ m ∈ r.names, m = o.num ∨ m ∈ ls := by
  cases o with
  | rcd m fs =>
    have e : (if some n ∈ fs then some (Rs.fld m (ixR fs n)) else none) = some r := e
    split at e
    · cases e; intro k hk; have hk : k = m := by simpa [Rs.names] using hk
      exact .inl hk
    · cases e
  | weak m t =>
    have e : (if t = some n ∧ n ∉ cs then some (Rs.drf m) else none) = some r := e
    split at e
    · cases e; intro k hk; have hk : k = m := by simpa [Rs.names] using hk
      exact .inl hk
    · cases e
  | tab m es =>
    have e : ((es.filter fun e => decide (e.2 = n) && decide (e.1 ∈ ls)).head?).map (fun e => Rs.ent m e.1) = some r := e
    obtain ⟨q, hq, rfl⟩ := Option.map_eq_some_iff.mp e
    have hm := List.mem_of_head? hq
    obtain ⟨_, h2⟩ := List.mem_filter.mp hm
    have h3 := (Bool.and_eq_true_iff.mp h2).2
    intro k hk
    rcases List.mem_cons.mp (show k ∈ [m, q.1] from hk) with z | z
    · exact .inl z
    · have z : k = q.1 := by simpa using z
      subst z; exact .inr (of_decide_eq_true h3)
/-- there is one exactly if n follows -/
theorem rsFrom_some : (∃ r, rsFrom ls cs n o = some r) ↔ o.fol cs (· ∈ ls) n := by
  cases o with
  | rcd m fs =>
    show (∃ r, (if some n ∈ fs then some (Rs.fld m (ixR fs n)) else none) = some r) ↔ some n ∈ fs
    split
    · rename_i c; exact ⟨fun _ => c, fun _ => ⟨_, rfl⟩⟩
    · rename_i c; exact Iff.intro (fun ⟨_, z⟩ => nomatch z) (fun z => absurd z c)
  | weak m t =>
    show (∃ r, (if t = some n ∧ n ∉ cs then some (Rs.drf m) else none) = some r) ↔ (t = some n ∧ n ∉ cs)
    split
    · rename_i c; exact ⟨fun _ => c, fun _ => ⟨_, rfl⟩⟩
    · rename_i c; exact Iff.intro (fun ⟨_, z⟩ => nomatch z) (fun z => absurd z c)
  | tab m es =>
    show (∃ r, ((es.filter fun e => decide (e.2 = n) && decide (e.1 ∈ ls)).head?).map (fun e => Rs.ent m e.1) = some r) ↔ ∃ k, (k, n) ∈ es ∧ k ∈ ls
    constructor
    · rintro ⟨r, e⟩
      obtain ⟨q, hq, _⟩ := Option.map_eq_some_iff.mp e
      obtain ⟨h1, h2⟩ := List.mem_filter.mp (List.mem_of_head? hq)
      obtain ⟨h3, h4⟩ := Bool.and_eq_true_iff.mp h2
      have h3 := of_decide_eq_true h3
      refine ⟨q.1, ?_, of_decide_eq_true h4⟩
      rw [← h3]; exact h1
    · rintro ⟨k, h1, h2⟩
      have hm : (k, n) ∈ es.filter fun e => decide (e.2 = n) && decide (e.1 ∈ ls) := List.mem_filter.mpr ⟨h1, by simp [h2]⟩
      cases e : es.filter (fun e => decide (e.2 = n) && decide (e.1 ∈ ls)) with
      | nil => rw [e] at hm; cases hm
      | cons q t => exact ⟨_, rfl⟩
theorem rsAll_mem : r ∈ rsAll h ls cs n ↔ ∃ o ∈ h.obs, o.num ∈ ls ∧ rsFrom ls cs n o = some r := by
  unfold rsAll
  rw [List.mem_filterMap]
  constructor
  · rintro ⟨o, h1, h2⟩
    obtain ⟨h3, h4⟩ := List.mem_filter.mp h1
    exact ⟨o, h3, of_decide_eq_true h4, h2⟩
  · rintro ⟨o, h1, h2, h3⟩
    exact ⟨o, List.mem_filter.mpr ⟨h1, decide_eq_true h2⟩, h3⟩
theorem rsAll_some : rsAll h ls cs n ≠ [] ↔ Fol h cs (· ∈ ls) n := by
  constructor
  · intro e
    obtain ⟨r, hr⟩ := List.exists_mem_of_ne_nil _ e
    obtain ⟨o, h1, h2, h3⟩ := rsAll_mem.mp hr
    exact ⟨o, h1, h2, rsFrom_some.mp ⟨r, h3⟩⟩
  · rintro ⟨o, h1, h2, h3⟩ e
    obtain ⟨r, hr⟩ := rsFrom_some.mpr h3
    have := rsAll_mem.mpr ⟨o, h1, h2, hr⟩
    rw [e] at this; cases this
end
/-! ### ranks -/
theorem least {p : Nat → Prop} : ∀ {k : Nat}, p k → ∃ j, j ≤ k ∧ p j ∧ ∀ i, i < j → ¬ p i := by
  intro k
  induction k using Nat.strongRecOn with
  | _ k ih =>
    intro hk
    by_cases c : ∃ i, i < k ∧ p i
    · obtain ⟨i, hi, pi⟩ := c
      obtain ⟨j, h1, h2, h3⟩ := ih i hi pi
      exact ⟨j, by omega, h2, h3⟩
    · exact ⟨k, Nat.le_refl _, hk, fun i hi z => c ⟨i, hi, z⟩⟩
def Rnk (h : Hd) (cs : List Int) (k : Nat) (n : Int) : Prop := In h cs k n ∧ ∀ j, j < k → ¬ In h cs j n
open Classical in
noncomputable def rnk (h : Hd) (cs : List Int) (n : Int) : Nat := if e : ∃ k, Rnk h cs k n then choose e else 0
open Classical in
noncomputable def low (h : Hd) (cs : List Int) (k : Nat) : List Int := h.nums.filter fun m => decide (In h cs k m)
/-- the first reason of n, by its rank -/
noncomputable def bst (h : Hd) (cs : List Int) (n : Int) : Rs := match rnk h cs n with
  | 0 => .reg (ixR h.regs n)
  | k + 1 => ((rsAll h (low h cs k) cs n).head?).getD (.reg 0)
section
variable {h : Hd} {cs : List Int} {n m : Int} {k j : Nat}
theorem Rnk.uniq (a : Rnk h cs k n) (b : Rnk h cs j n) : k = j := by
  rcases Nat.lt_trichotomy k j with z | z | z
  · exact absurd a.1 (b.2 k z)
  · exact z
  · exact absurd b.1 (a.2 j z)
theorem Rnk.eq (a : Rnk h cs k n) : rnk h cs n = k := by
  unfold rnk
  have e : ∃ k, Rnk h cs k n := ⟨k, a⟩
  rw [dif_pos e]
  exact Rnk.uniq (Classical.choose_spec e) a
theorem Obt.rnk (x : Obt h cs n) : Rnk h cs (rnk h cs n) n := by
  obtain ⟨k, hk⟩ := x
  obtain ⟨j, _, h2, h3⟩ := least (p := fun k => In h cs k n) hk
  have a : Rnk h cs j n := ⟨h2, h3⟩
  rw [a.eq]; exact a
open Classical in
theorem mem_low (ok : h.Ok) : m ∈ low h cs k ↔ In h cs k m := by
  unfold low
  rw [List.mem_filter]
  refine Iff.intro (fun z => ?_) fun z => ⟨In.num ok z, ?_⟩
  · exact of_decide_eq_true z.2
  · exact decide_eq_true z
theorem rnk_le (z : In h cs k n) : rnk h cs n ≤ k := by
  have a := Obt.rnk ⟨k, z⟩
  rcases Nat.lt_or_ge k (rnk h cs n) with q | q
  · exact absurd z (a.2 k q)
  · exact q
theorem in_iff (x : Obt h cs n) : In h cs k n ↔ rnk h cs n ≤ k := ⟨rnk_le, fun q => In.le q (Obt.rnk x).1⟩
theorem bst_zero (e : rnk h cs n = 0) : bst h cs n = .reg (ixR h.regs n) := by unfold bst; rw [e]
theorem bst_succ (ok : h.Ok) (e : rnk h cs n = k + 1) {ls : List Int} (hl : ∀ m, m ∈ ls ↔ In h cs k m) {r : Rs} (hr : (rsAll h ls cs n).head? = some r) : bst h cs n = r := by
  unfold bst
  rw [e]
  show ((rsAll h (low h cs k) cs n).head?).getD (.reg 0) = r
  rw [rsAll_congr (ms := ls) fun m => (mem_low ok).trans (hl m).symm, hr]; rfl
/-- what is of a later round follows from the round before -/
theorem Rnk.fol (a : Rnk h cs (k + 1) n) : Fol h cs (In h cs k) n := by
  rcases a.1 with z | z
  · exact absurd z (a.2 k (by omega))
  · exact z
theorem Fol.congr {S T : Int → Prop} (e : ∀ n, S n ↔ T n) : Fol h cs S n ↔ Fol h cs T n := ⟨Fol.mono fun n z => (e n).mp z, Fol.mono fun n z => (e n).mpr z⟩
theorem rs_some (x : Obt h cs n) (e : rnk h cs n = k + 1) {ls : List Int} (hl : ∀ m, m ∈ ls ↔ In h cs k m) : ∃ r t, rsAll h ls cs n = r :: t := by
  have a := Obt.rnk x
  rw [e] at a
  have q := rsAll_some.mpr ((Fol.congr hl).mpr a.fol)
  cases z : rsAll h ls cs n with
  | nil => exact absurd z q
  | cons r t => exact ⟨r, t, rfl⟩
theorem bst_names (ok : h.Ok) (x : Obt h cs n) : ∀ m ∈ (bst h cs n).names, Obt h cs m ∧ rnk h cs m < rnk h cs n := by
  intro m hm
  cases e : rnk h cs n with
  | zero => rw [bst_zero e] at hm; cases hm
  | succ k =>
    obtain ⟨r, t, hr⟩ := rs_some x e (ls := low h cs k) fun m => mem_low ok
    have e2 := bst_succ ok e (ls := low h cs k) (fun m => mem_low ok) (by rw [hr]; rfl)
    rw [e2] at hm
    obtain ⟨o, h1, h2, h3⟩ := rsAll_mem.mp (show r ∈ rsAll h (low h cs k) cs n by rw [hr]; exact List.mem_cons_self)
    have key : In h cs k m := by
      rcases rsFrom_names h3 m hm with z | z
      · rw [z]; exact (mem_low ok).mp h2
      · exact (mem_low ok).mp z
    exact ⟨⟨k, key⟩, by have := rnk_le key; omega⟩
/-- every lower rank is somebody's: there are no more rounds than objects -/
theorem Rnk.below (a : Rnk h cs (k + 1) n) : ∃ m, Rnk h cs k m := by
  by_cases c : ∃ m, Rnk h cs k m
  · exact c
  · exfalso
    have f := a.fol
    cases k with
    | zero =>
      obtain ⟨o, h1, h2, _⟩ := f
      exact c ⟨o.num, h2, fun j hj => absurd hj (by omega)⟩
    | succ k =>
      have back : ∀ m, In h cs (k + 1) m → In h cs k m := fun m z => by
        by_cases q : In h cs k m
        · exact q
        · exact absurd ⟨m, z, fun j hj x => q (x.le (by omega))⟩ c
      exact a.2 (k + 1) (by omega) (.inr (f.mono back))
theorem rank_row (ok : h.Ok) : ∀ {k : Nat} {n : Int}, Rnk h cs k n → ∃ l : List Int, l.length = k + 1 ∧ l.Nodup ∧ ∀ m ∈ l, m ∈ h.nums ∧ ∃ j, j ≤ k ∧ Rnk h cs j m
  | 0, n, a => ⟨[n], rfl, by simp, fun m hm => by
      have e : m = n := by simpa using hm
      subst e; exact ⟨In.num ok a.1, 0, Nat.le_refl _, a⟩⟩
  | k + 1, n, a => by
    obtain ⟨m, b⟩ := a.below
    obtain ⟨l, h1, h2, h3⟩ := rank_row ok b
    refine ⟨n :: l, by rw [List.length_cons, h1], List.nodup_cons.mpr ⟨fun z => ?_, h2⟩, fun q hq => ?_⟩
    · obtain ⟨_, j, hj, c⟩ := h3 n z
      have := a.uniq c
      omega
    · rcases List.mem_cons.mp hq with e | z
      · subst e; exact ⟨In.num ok a.1, k + 1, Nat.le_refl _, a⟩
      · obtain ⟨z1, j, z2, z3⟩ := h3 q z
        exact ⟨z1, j, by omega, z3⟩
theorem rank_lt (ok : h.Ok) (x : Obt h cs n) : rnk h cs n < h.obs.length := by
  obtain ⟨l, h1, h2, h3⟩ := rank_row ok (Obt.rnk x)
  have q := nd_sub h2 fun m hm => (h3 m hm).1
  unfold Hd.nums at q
  rw [List.length_map] at q
  omega
theorem obt_in (ok : h.Ok) : Obt h cs n ↔ In h cs h.obs.length n := ⟨fun x => (in_iff x).mpr (Nat.le_of_lt (rank_lt ok x)), fun z => ⟨_, z⟩⟩
/-! ### the steps of a derivation -/
inductive Need (h : Hd) (cs : List Int) (n : Int) : Int → Prop
  | base : Need h cs n n
  | step {m k : Int} : Need h cs n m → k ∈ (bst h cs m).names → Need h cs n k
theorem Need.obt (ok : h.Ok) (x : Obt h cs n) (y : Need h cs n m) : Obt h cs m := by
  induction y with
  | base => exact x
  | step _ hk ih => exact (bst_names ok ih _ hk).1
abbrev rkLt (rk : Int → Nat) (p q : Int) : Prop := rk p < rk q ∨ (rk p = rk q ∧ p < q)
theorem rkLt.irr {rk : Int → Nat} {p : Int} : ¬ rkLt rk p p := by rintro (z | ⟨_, z⟩) <;> omega
theorem rkLt.asym {rk : Int → Nat} {p q : Int} (a : rkLt rk p q) : ¬ rkLt rk q p := by
  rintro b
  rcases a with a | ⟨a, a'⟩ <;> rcases b with b | ⟨b, b'⟩ <;> omega
structure Drv (h : Hd) (cs : List Int) (n : Int) (L : List Int) : Prop where
  up : L.Pairwise (rkLt (rnk h cs))
  mem : ∀ m, m ∈ L ↔ Need h cs n m
theorem rk_same {rk : Int → Nat} : ∀ {l m : List Int}, l.Pairwise (rkLt rk) → m.Pairwise (rkLt rk) → (∀ n, n ∈ l ↔ n ∈ m) → l = m
  | [], [], _, _, _ => rfl
  | [], y :: m, _, _, h => absurd ((h y).mpr List.mem_cons_self) (by simp)
  | x :: l, [], _, _, h => absurd ((h x).mp List.mem_cons_self) (by simp)
  | x :: l, y :: m, hl, hm, h => by
    obtain ⟨hx, hl'⟩ := List.pairwise_cons.mp hl
    obtain ⟨hy, hm'⟩ := List.pairwise_cons.mp hm
    have e : x = y := by
      rcases List.mem_cons.mp ((h x).mp List.mem_cons_self) with e | e
      · exact e
      · rcases List.mem_cons.mp ((h y).mpr List.mem_cons_self) with e2 | e2
        · exact e2.symm
        · exact absurd (hx y e2) (rkLt.asym (hy x e))
    subst e
    have hh : ∀ n, n ∈ l ↔ n ∈ m := fun n => by
      constructor
      · intro z
        rcases List.mem_cons.mp ((h n).mp (List.mem_cons_of_mem _ z)) with e | e
        · subst e; exact absurd (hx n z) rkLt.irr
        · exact e
      · intro z
        rcases List.mem_cons.mp ((h n).mpr (List.mem_cons_of_mem _ z)) with e | e
        · subst e; exact absurd (hy n z) rkLt.irr
        · exact e
    rw [rk_same hl' hm' hh]
theorem Drv.uniq {L M : List Int} (a : Drv h cs n L) (b : Drv h cs n M) : L = M := rk_same a.up b.up fun m => (a.mem m).trans (b.mem m).symm
theorem rk_of {rk : Int → Nat} {l : List Int} (h : l.Pairwise fun p q => rk p < rk q ∨ (rk p = rk q ∧ p ≤ q)) (nd : l.Nodup) : l.Pairwise (rkLt rk) := by
  induction l with
  | nil => exact .nil
  | cons x r ih =>
    obtain ⟨h1, h2⟩ := List.pairwise_cons.mp h
    obtain ⟨n1, n2⟩ := List.nodup_cons.mp nd
    exact List.pairwise_cons.mpr ⟨fun y hy => by
      have a := h1 y hy
      have b : x ≠ y := fun e => n1 (by rw [e]; exact hy)
      rcases a with a | ⟨a, a'⟩
      · exact .inl a
      · exact .inr ⟨a, by omega⟩, ih h2 n2⟩
theorem Drv.nd {L : List Int} (a : Drv h cs n L) : L.Nodup := a.up.imp fun {p q} z e => by subst e; exact rkLt.irr z
theorem Drv.len (ok : h.Ok) (x : Obt h cs n) {L : List Int} (a : Drv h cs n L) : L.length ≤ h.nums.length :=
  nd_sub a.nd fun m hm => Obt.num ok (Need.obt ok x ((a.mem m).mp hm))
/-- the steps, as data -/
noncomputable def drvDt (h : Hd) (cs : List Int) (L : List Int) : Dt := .tup (L.map fun m => .tup [.int m, (bst h cs m).dt])
end
end Wc
/-! a == b, a != b of built-in types -/
namespace Wc
open PySem PySem.TypeEq
open Sem (wp)
theorem slot_type_ne : Slot "type" (cmpInfo .NotEq).2.1 "object.__ne__" :=
  .of (owner := "object") (n := "__ne__") (by rw [typeLookup_type, builtinLookup_eq_fast]; kernel_rfl) (by decide +kernel) (by decide +kernel) (by decide +kernel)
    (by first | exact .inl (by decide +kernel) | exact .inr (by decide +kernel)) (by rw [isSubtype_type]; kernel_rfl)
theorem slot_type_ne_refl : Slot "type" (cmpInfo .NotEq).2.2 "object.__ne__" :=
  .of (owner := "object") (n := "__ne__") (by rw [typeLookup_type, builtinLookup_eq_fast]; kernel_rfl) (by decide +kernel) (by decide +kernel) (by decide +kernel)
    (by first | exact .inl (by decide +kernel) | exact .inr (by decide +kernel)) (by rw [isSubtype_type]; kernel_rfl)
section
variable {prog : Program} {w : World} {A : Around} {E : Value → Shared → Prop} {s : Shared}
theorem special_ty_same {X : String} (hX : ∀ s' : Shared, s'.TypeIs (.type X) "type") {Q : Option Value → Shared → Prop} (h : Q (some (.bool true)) s) :
    wpAny (model prog w) A (callSpecialIfBound? (.type X) "__eq__" [.type X]) Q E s :=
  wpAny_callSpecialIfBound?_slot (T := "type") (id := "object.__eq__") (hX s) slot_type_eq (call_gives slot_type_eq (hX s) F.entry_object_eq (F.args_object_eq_2 _ _) (object_eq_same rfl (by simp)) h)
theorem special_ty_other {X Y : String} (hX : ∀ s' : Shared, s'.TypeIs (.type X) "type") (hne : (Value.type X == Value.type Y) = false) {Q : Option Value → Shared → Prop} (h : Q (some .notImplemented) s) :
    wpAny (model prog w) A (callSpecialIfBound? (.type X) "__eq__" [.type Y]) Q E s :=
  wpAny_callSpecialIfBound?_slot (T := "type") (id := "object.__eq__") (hX s) slot_type_eq (call_gives slot_type_eq (hX s) F.entry_object_eq (F.args_object_eq_2 _ _) (object_eq_other rfl hne) h)
theorem obj_ne_same {X : String} (hX : ∀ s' : Shared, s'.TypeIs (.type X) "type") {Q : Value → Shared → Prop} (hq : Q (.bool false) s) :
    wpAny (model prog w) A (Builtin.«object.__ne__» ⟨[.type X, .type X], []⟩) (fun fin s' => ∃ v, fin = .done (.ret v) ∧ Q v s') E s := by
  unfold Builtin.«object.__ne__»
  repeat (first | with_reducible refine wpAny_cRoomFor_byValue rfl ?_ | with_reducible refine special_ty_same hX ?_ | wp_step)
  all_goals exact ⟨_, rfl, hq⟩
theorem obj_ne_other {X Y : String} (hX : ∀ s' : Shared, s'.TypeIs (.type X) "type") (hne : (Value.type X == Value.type Y) = false) {Q : Value → Shared → Prop} (hq : Q .notImplemented s) :
    wpAny (model prog w) A (Builtin.«object.__ne__» ⟨[.type X, .type Y], []⟩) (fun fin s' => ∃ v, fin = .done (.ret v) ∧ Q v s') E s := by
  unfold Builtin.«object.__ne__»
  repeat (first | with_reducible refine wpAny_cRoomFor_byValue rfl ?_ | with_reducible refine special_ty_other hX hne ?_ | wp_step)
  all_goals exact ⟨_, rfl, hq⟩
theorem ne_type_same {X : String} (hX : ∀ s' : Shared, s'.TypeIs (.type X) "type") {Q : Value → Shared → Prop} (h : Q (.bool false) s) : wpAny (model prog w) A (compareOp .NotEq (.type X) (.type X)) Q E s := by
  show wpAny _ A (richCompare .NotEq _ _) Q E s
  exact wpAny_richCompare_same (T := "type") (hX s) (hX s) slot_type_ne
    (wpAny_call_entry slot_type_ne (hX s) F.cmpEntry_ne (obj_ne_same hX ⟨(by intro e; cases e), h⟩) (F.cmpArgs_ne _ _))
theorem rc_ne_same_decline {M : Model} {a b : Value} {T id : String} {k : Bool} {Q : Value → Shared → Prop} (ha : ∀ s' : Shared, s'.TypeIs a T) (hb : ∀ s' : Shared, s'.TypeIs b T)
    (h1 : Slot T (cmpInfo .NotEq).2.1 id) (h2 : Slot T (cmpInfo .NotEq).2.2 id) (hv : [a, b].any Value.onHeap = false) (hk : isSame a b = pure k)
    (hc : wpAny M A (call (.builtin id) [a, b]) (fun v s₁ => v = .notImplemented ∧ wpAny M A (call (.builtin id) [b, a]) (fun v s₂ => v = .notImplemented ∧ Q (.bool (!k)) s₂) E s₁) E s) :
    wpAny M A (richCompare .NotEq a b) Q E s := by
  rcases hi : cmpInfo CmpOp.NotEq with ⟨sym, f, r⟩
  rw [hi] at h1 h2
  simp only [richCompare, hi, (ha s).oneThing_none]
  try with_reducible refine wpAny_holding ?_
  refine wpAny_bind (wpAny_cRoomFor_or (.inl hv) ?_)
  refine wpAny_bind (wpAny_typeOf (ha s) (wpAny_bind (wpAny_typeOf (hb s) ?_)))
  simp only [bne_self_eq_false, Bool.false_eq_true, if_false, pure_bind, Bool.not_false, if_true]
  refine wpAny_bind (m := tryCompare a _ b) (wpAny_tryCompare_declines (ha s) h1 (wpAny_mono hc (fun v s₁ h₁ => ⟨h₁.1, ?_⟩) fun _ _ x => x))
  refine wpAny_bind (m := tryCompare b _ a) (wpAny_tryCompare_declines (hb s₁) h2 (wpAny_mono h₁.2 (fun v s₂ h₂ => ⟨h₂.1, ?_⟩) fun _ _ x => x))
  refine wpAny_bind (wpAny_rule (wpAny_bind (wpAny_of_eq hk (wpAny_pure h₂.2))))
theorem ne_type_other {X Y : String} (hX : ∀ s' : Shared, s'.TypeIs (.type X) "type") (hY : ∀ s' : Shared, s'.TypeIs (.type Y) "type") (hne : (Value.type X == Value.type Y) = false) {Q : Value → Shared → Prop} (h : Q (.bool true) s) : wpAny (model prog w) A (compareOp .NotEq (.type X) (.type Y)) Q E s := by
  have hne' : (Value.type Y == Value.type X) = false := by
    rw [Bool.eq_false_iff] at hne ⊢
    intro e
    exact hne (by rw [beq_iff_eq] at e ⊢; exact e.symm)
  show wpAny _ A (richCompare .NotEq _ _) Q E s
  exact rc_ne_same_decline (T := "type") (k := false) hX hY slot_type_ne slot_type_ne_refl rfl (by rw [isSame_plain rfl, hne])
    (wpAny_call_entry slot_type_ne (hX s) F.cmpEntry_ne (obj_ne_other hX hne ⟨rfl, wpAny_call_entry slot_type_ne_refl (hY s) F.cmpEntry_ne (obj_ne_other hY hne' ⟨rfl, h⟩) (F.cmpArgs_ne _ _)⟩) (F.cmpArgs_ne _ _))
end
end Wc
namespace Wc
open PySem PySem.Spec PyProof.Rows L2
/-- a built-in type that bears "type" -/
def MetaTy (T : String) : Prop := ∀ s' : Shared, s'.TypeIs (.type T) "type"
/-- x's type against a written one -/
def rEqTy : R2 := fun x y H Q => ∃ a b, x = .ty a ∧ y = .ty b ∧ MetaTy a ∧ MetaTy b ∧ Q (.bl (decide (a = b))) H
def rNeTy : R2 := fun x y H Q => ∃ a b, x = .ty a ∧ y = .ty b ∧ MetaTy a ∧ MetaTy b ∧ Q (.bl (!decide (a = b))) H
theorem op_eqTy {X : Cx} : OpR X (compareOp .Eq) rEqTy := by
  intro pins s σ H x y v u Q I rx ry h
  obtain ⟨a, b, rfl, rfl, ma, mb, q⟩ := h
  cases (show v = Value.type a from rx)
  cases (show u = Value.type b from ry)
  by_cases e : a = b
  · subst e
    rw [decide_eq_true rfl] at q
    exact TypeEq.eq_type_same ma ⟨.bl true, H, I, rfl, q⟩
  · rw [decide_eq_false e] at q
    exact TypeEq.eq_type_other ma mb (by rw [ty_beq, decide_eq_false e]) ⟨.bl false, H, I, rfl, q⟩
theorem op_neTy {X : Cx} : OpR X (compareOp .NotEq) rNeTy := by
  intro pins s σ H x y v u Q I rx ry h
  obtain ⟨a, b, rfl, rfl, ma, mb, q⟩ := h
  cases (show v = Value.type a from rx)
  cases (show u = Value.type b from ry)
  by_cases e : a = b
  · subst e
    rw [decide_eq_true rfl] at q
    exact ne_type_same ma ⟨.bl false, H, I, rfl, q⟩
  · rw [decide_eq_false e] at q
    exact ne_type_other ma mb (by rw [ty_beq, decide_eq_false e]) ⟨.bl true, H, I, rfl, q⟩
end Wc
/-! dict(xs), xs a tuple of pairs of numbers; d.get(k) of a dict of the module with text keys -/
namespace Wc
open PySem PySem.Spec PyProof.Rows L2
/-- the values of the pairs, as they stand -/
theorem pair_vals {X : Cx} {pins : List (Addr × Obj)} {σ : L2.St} {H : Hp} {s : Shared} (I : Inv X pins σ H s) : ∀ {ps : List Addr} {es : List (Int × Int)}, Paired (Wc.PairAt X.K H) ps es →
    ∃ vs : List (Value × Value), vs.length = ps.length ∧ KV (es.map fun e => ((Sum.inl e.1 : Key), V.int e.2)) (List.zipWith (fun (e : Int × Int) (v : Value × Value) => ((Sum.inl e.1 : Key), v.2)) es vs) ∧
      ∀ (j : Nat) (p : Addr) (e : Int × Int), ps[j]? = some p → es[j]? = some e → ∃ u v, vs[j]? = some (u, v) ∧ RelV (.int e.1) u ∧ IsTup s.heap p #[u, v]
  | _, _, .nil => ⟨[], rfl, .nil, fun j p e h => by simp at h⟩
  | p :: ps, e :: es, .cons r t => by
    obtain ⟨vs, l, kv, h⟩ := pair_vals I t
    obtain ⟨its, rv, tp, _⟩ := I.tuple r
    obtain ⟨u, v, rfl, r1, r2⟩ := rv.two
    refine ⟨(u, v) :: vs, by rw [List.length_cons, List.length_cons, l], .cons ⟨rfl, r2⟩ kv, fun j p' e' h1 h2 => ?_⟩
    cases j with
    | zero =>
      have e1 : p = p' := by simpa using h1
      have e2 : e = e' := by simpa using h2
      subst e1 e2
      exact ⟨u, v, rfl, r1, by simpa using tp⟩
    | succ j => exact h j p' e' (by simpa using h1) (by simpa using h2)
def rDictT (K : PySem.W.Frag) : List V → Hp → VK → Prop := fun xs H Q => ∃ (a : Addr) (ps : List Addr) (es : List (Int × Int)), xs = [.ref a] ∧ SqZ H a (ps.map V.ref) ∧ Paired (Wc.PairAt K H) ps es ∧ es.length ≤ 1000 ∧
  ∀ q, H q = none → Q (.ref q) (upd H q (.dK (mergeK [] (es.map fun e => ((Sum.inl e.1 : Key), V.int e.2)))))
theorem call_dictT {X : Cx} (hcalm : X.calm = true) : CallR X (.type "dict") (rDictT X.K) := by
  intro pins s σ H xs us Q I r h
  obtain ⟨a, ps, es, rfl, ⟨ob, hdn, hz⟩, hp, hlen, q⟩ := h
  obtain ⟨u, rfl, ru⟩ := vals1 r
  cases ru
  obtain ⟨e1, _, its, rv, ho2, e2, hc, n, hd⟩ := I.hok a _ hz
  rw [e1] at e2
  cases e2
  obtain ⟨vs, lv, kv, hv⟩ := pair_vals I hp
  have lpe := plen hp
  have lits : its.length = ps.length := by
    have := rv.length
    rw [List.length_map] at this
    exact this.symm
  have key := PySem.call_dict_pairs (prog := X.prog) (w := X.w) (A := X.A) (E := X.xe) (s := s) (knd := mixKind X.prog X.w) (kvs := List.zipWith (fun (e : Int × Int) (v : Value × Value) => ((Sum.inl e.1 : Key), v.2)) es vs)
    (Q := EP X pins σ Q) (PySem.PairArg.tuple (prog := X.prog) (w := X.w) a its.toArray (fun j => ps.getD j 0) vs) (I.ok.hd hcalm) ⟨⟨ob, n, e1, hc, hdn, hd⟩, by rw [List.size_toArray, lits, lv], fun j k v hj => ?_⟩ ⟨?_, fun i k v hr => ?_⟩ ?_ fun h' tk dd hk => ?_
  · exact key
  · have hj' : j < ps.length := by
      have := (List.getElem?_eq_some_iff.mp hj).1
      omega
    obtain ⟨p, hp'⟩ : ∃ p, ps[j]? = some p := ⟨_, List.getElem?_eq_getElem hj'⟩
    obtain ⟨e, he⟩ : ∃ e, es[j]? = some e := ⟨_, List.getElem?_eq_getElem (by omega)⟩
    obtain ⟨u, v', hv1, hv2, hv3⟩ := hv j p e hp' he
    rw [hv1] at hj
    cases hj
    have ep : ps.getD j 0 = p := by rw [List.getD_eq_getElem?_getD, hp']; rfl
    refine ⟨?_, .inl (by show s.heap.IsTuple (ps.getD j 0) _; rw [ep]; exact hv3)⟩
    obtain ⟨y, hy, ry⟩ := rv.get (i := j) (x := .ref p) (by rw [List.getElem?_map, hp']; rfl)
    cases ry
    show its.toArray[j]? = some (Value.ref (ps.getD j 0))
    rw [List.getElem?_toArray, hy, ep]
  · rw [List.length_zipWith]; omega
  · have hr : vs[i]? = some (k, v) := hr
    have hi : i < vs.length := (List.getElem?_eq_some_iff.mp hr).1
    obtain ⟨p, hp'⟩ : ∃ p, ps[i]? = some p := ⟨_, List.getElem?_eq_getElem (by omega)⟩
    obtain ⟨e, he⟩ : ∃ e, es[i]? = some e := ⟨_, List.getElem?_eq_getElem (by omega)⟩
    obtain ⟨u, v', hv1, hv2, hv3⟩ := hv i p e hp' he
    rw [hr] at hv1
    cases hv1
    refine ⟨Sum.inl e.1, by rw [List.getElem?_zipWith, he, hr], kV_is (k := Sum.inl e.1) hv2⟩
  · rw [lv, lpe]; exact Nat.le_trans hlen (by decide)
  · refine ⟨.ref s.heap.objs.size, _, I.laid (a := s.heap.objs.size) (o := .dK (mergeK [] (es.map fun e => ((Sum.inl e.1 : Key), V.int e.2)))) (t' := tk) (fun b o e => hk b o (by simp) e) (Nat.le_refl _) (dk_new ?_ (beq_eq_false_iff_ne.mpr (Ne.symm (Nat.ne_of_lt I.big))) (KV.merge kv .nil) dd), rfl, q _ (I.hok.fresh (Nat.le_refl _))⟩
    have h1 := length_mergeK (es.map fun e => ((Sum.inl e.1 : Key), V.int e.2)) []
    rw [List.length_nil, List.length_map, Nat.zero_add] at h1
    exact Nat.le_trans h1 (Nat.le_trans hlen (by decide))
/-! ### d.get(k), d a dict of the module -/
def KLk (K : PySem.W.Frag) (d : Addr) (z : Str) (v : V) : Prop := ∃ r, PySem.W.nsIn K d z = some r ∧ RelV v (r.getD .none)
def tKGet (K : PySem.W.Frag) (d : Addr) (ty : TE) : TE := fun σ H Q => ty σ H fun y H1 => ∃ z v, y = .str z ∧ KLk K d z v ∧ Q v H1
theorem pe_kget {X : Cx} {d : Addr} {es : Array DictEntry} {n : Nat} {x : Str} {p apos cpos : Pos} {e : Expr} {ty : TE} (D : KDict X.K X.w d es n) (hg : Gl X x) (hm : X.mg x = some (.ref d)) (he : PE X e ty) (m : M1 X (.Name x p) "get" apos e cpos)
    (hd : (x == ("__debug__" : Str)) = false := by decide) : PE X (.Call (.Attribute (.Name x p) "get" apos) [e] [] cpos) (tKGet X.K d ty) := by
  refine ⟨fun pins s σ H Q I h => ?_⟩
  have ho : PE X (.Name x p) (tC (.ref d)) := pe_glob hg hm rfl hd
  refine wpAny_Call_method m.base m.few m.line PySem.F.plainAttrs_dict PySem.F.slot_dict_get PySem.F.type_dict_get (thn (ho.run pins s σ H (fun v H1 => v = .ref d ∧ H1 = H) I ⟨rfl, rfl⟩) fun u s1 ⟨x', H1, I1, rx, ex, eH⟩ => ?_)
  subst ex eH
  obtain rfl : u = Value.ref d := rx
  have mo := PySem.W.mapOf_K (prog := X.prog) (w := X.w) I1.kIn D.at_ D.lit
  refine ⟨mo.typeIs, mo.noDict, ?_⟩
  rw [m.trees]
  refine Calls.callWith_builtin rfl (Calls.evalArgs_plain (Calls.spliced_cons (thn (he.run pins s1 σ H1 _ I1 h) fun iv s2 ⟨y, H2, I2, ry, z, v, ey, ⟨r, er, rv⟩, q⟩ => Calls.spliced_nil ?_)))
  subst ey
  obtain ⟨t, rfl⟩ := ry
  have mo2 := PySem.W.mapOf_K (prog := X.prog) (w := X.w) I2.kIn D.at_ D.lit
  refine call_meetsIn PySem.F.slot_dict_get mo2.typeIs PySem.F.entry_dict_get (PySem.F.args_dict_get_2 _ _) (meets_dict_get (strKind X.prog X.w) d (strKind_is X.prog X.w z t) D.low) ⟨_, mo2, v, H2, I2.tok _, ?_, q⟩
  rw [PySem.W.find_K D.at_ er]
  exact rv
end Wc
/-! a pair of numbers among a tuple of such pairs -/
namespace Wc
open PySem PySem.Spec PyProof.Rows L2
def pD (e : Int × Int) : PyData := .tuple [.int e.1, .int e.2]
theorem pair_dp {K : PySem.W.Frag} {H : Hp} {a : Addr} {e : Int × Int} (h : Wc.PairAt K H a e) : Dp K H (.ref a) (pD e) := .tup h (.cons (.int _) (.cons (.int _) .nil))
theorem pairs_dp {K : PySem.W.Frag} {H : Hp} : ∀ {ps : List Addr} {es : List (Int × Int)}, Paired (Wc.PairAt K H) ps es → DpAll K H (ps.map V.ref) (es.map pD)
  | _, _, .nil => .nil
  | _, _, .cons r t => .cons (pair_dp r) (pairs_dp t)
theorem pD_eqv (e d : Int × Int) : PyData.eqv (pD e) (pD d) = decide (d = e) := by
  obtain ⟨a, b⟩ := e
  obtain ⟨c, f⟩ := d
  have h : PyData.eqv (pD (a, b)) (pD (c, f)) = ((a == c) && (b == f)) := by simp [pD, PyData.eqv, PyData.eqvAll]
  rw [h]
  by_cases e1 : a = c
  · by_cases e2 : b = f
    · subst e1 e2; simp
    · have : ¬ ((c, f) = (a, b)) := fun z => e2 (Prod.mk.inj z).2.symm
      rw [decide_eq_false this]; simp [e2]
  · have : ¬ ((c, f) = (a, b)) := fun z => e1 (Prod.mk.inj z).1.symm
    rw [decide_eq_false this]; simp [e1]
theorem any_pD (d : Int × Int) : ∀ es : List (Int × Int), ((es.map pD).any fun z => PyData.eqv z (pD d)) = decide (d ∈ es)
  | [] => rfl
  | e :: es => by
    rw [List.map_cons, List.any_cons, any_pD d es, pD_eqv]
    by_cases c1 : d = e
    · subst c1; simp
    · simp [c1]
def rInP (K : PySem.W.Frag) : R2 := fun x y H Q => ∃ (a t : Addr) (e : Int × Int) (ps : List Addr) (es : List (Int × Int)), x = .ref a ∧ y = .ref t ∧ Wc.PairAt K H a e ∧ SqT K H t (ps.map V.ref) ∧ Paired (Wc.PairAt K H) ps es ∧ Q (.bl (decide (e ∈ es))) H
theorem pD_lay (e : Int × Int) : (pD e).canLay0 = true := by simp [pD, PyData.canLay0, PyData.canLayAll0]
theorem pD_lays : ∀ es : List (Int × Int), PyData.canLayAll0 (es.map pD) = true
  | [] => by simp [PyData.canLayAll0]
  | e :: r => by
    rw [List.map_cons]
    simp only [PyData.canLayAll0, pD_lay e, pD_lays r, Bool.and_self]
theorem op_inP {X : Cx} (hu : X.A.units + 20 < cLine) : OpR X (compareOp .In) (rInP X.K) := by
  intro pins s σ H x y v u Q I rx ry h
  obtain ⟨a, t, e, ps, es, rfl, rfl, ha, ht, hp, q⟩ := h
  obtain ⟨as, r1⟩ := Dp.reads I (pD e) (.ref a) v (pair_dp ha) rx
  obtain ⟨bs, r2⟩ := Dp.reads I (.tuple (es.map pD)) (.ref t) u (.tup ht (pairs_dp hp)) ry
  refine SeqAt.in_tuple_reads r2 r1 (pD_lays es) (pD_lay e) ?_ ⟨.bl _, H, I, rfl, ?_⟩
  · have : (pD e).depth ≤ 4 := by simp [pD, PyData.depth, PyData.depthAll]
    omega
  · rw [any_pD]; exact q
end Wc
namespace Wc
open PySem L2
/-! ### tuples joined, cut -/
theorem cat_any {K : PySem.W.Frag} {H : Hp} {a b : Addr} {xs ys : List V} {Q : VK} (ha : SqT K H a xs) (hb : SqT K H b ys) (hz : xs.length + ys.length ≤ 100000) (q : ∀ p H', ExA H H' → SqT K H' p (xs ++ ys) → Q (.ref p) H') : rCatA K (.ref a) (.ref b) H Q := by
  refine ⟨a, b, xs, ys, rfl, rfl, ha, hb, sz hz, fun e => ?_, fun _ e => ?_, fun _ _ p fp => q p _ (ExM.new fp) (SqT.of upd_same)⟩
  · subst e; exact q b H (ExM.refl _ _) hb
  · subst e; exact q a H (ExM.refl _ _) (by rw [List.append_nil]; exact ha)
theorem cut_to {xs : List V} {i : Nat} (h : i ≤ xs.length) : cutV xs none (some (i : Int)) = xs.take i := by
  unfold cutV
  rw [HT.sIx_nat, HT.sIx_none, Nat.min_eq_left h]
  simp
theorem cut_from {xs : List V} {i : Nat} (h : i ≤ xs.length) : cutV xs (some (i : Int)) none = xs.drop i := by
  unfold cutV
  rw [HT.sIx_nat, HT.sIx_none, Nat.min_eq_left h]
  rw [List.take_of_length_le (by rw [List.length_drop]; omega)]
theorem sl_to {K : PySem.W.Frag} {H : Hp} {a : Addr} {xs : List V} {i : Nat} {Q : VK} (ha : SqT K H a xs) (h : i < xs.length) (q : ∀ p H', ExA H H' → SqT K H' p (xs.take i) → Q (.ref p) H') : rSlT K (.ref a) none (some (i : Int)) H Q := by
  refine ⟨a, xs, rfl, ha, fun z => ?_, fun p fp => q p _ (ExM.new fp) (by rw [cut_to (by omega)]; exact SqT.of upd_same)⟩
  have z2 := z.2
  rw [HT.sIx_nat, Nat.min_eq_left (by omega)] at z2
  omega
theorem sl_from {K : PySem.W.Frag} {H : Hp} {a : Addr} {xs : List V} {i : Nat} {Q : VK} (ha : SqT K H a xs) (h0 : 0 < i) (h : i ≤ xs.length) (q : ∀ p H', ExA H H' → SqT K H' p (xs.drop i) → Q (.ref p) H') : rSlT K (.ref a) (some (i : Int)) none H Q := by
  refine ⟨a, xs, rfl, ha, fun z => ?_, fun p fp => q p _ (ExM.new fp) (by rw [cut_from h]; exact SqT.of upd_same)⟩
  have z2 := z.1
  rw [HT.sIx_nat, Nat.min_eq_left h] at z2
  omega
end Wc
namespace Wc
open PySem L2
def topS (i : Nat) : Stmt := PySem.Challenge.pw_weakcourt_k12_derivations_are_checked.main.body.getD i (.Pass ⟨0, 0, 0, 0⟩)
abbrev s_registers_of : Stmt := topS 1
abbrev N_registers_of : List Str := ["heap"]
theorem sc_registers_of : FnScope N_registers_of ["heap"] (defScope s_registers_of) := ⟨rfl, rfl, rfl, by decide +kernel, rfl, by decide +kernel, by decide +kernel⟩
abbrev s_objects_of : Stmt := topS 2
abbrev N_objects_of : List Str := ["heap"]
theorem sc_objects_of : FnScope N_objects_of ["heap"] (defScope s_objects_of) := ⟨rfl, rfl, rfl, by decide +kernel, rfl, by decide +kernel, by decide +kernel⟩
abbrev s_by_number : Stmt := topS 3
abbrev N_by_number : List Str := ["heap", "thing"]
theorem sc_by_number : FnScope N_by_number ["heap"] (defScope s_by_number) := ⟨rfl, rfl, rfl, by decide +kernel, rfl, by decide +kernel, by decide +kernel⟩
abbrev s_objects_among : Stmt := topS 4
abbrev N_objects_among : List Str := ["references", "number"]
theorem sc_objects_among : FnScope N_objects_among ["references"] (defScope s_objects_among) := ⟨rfl, rfl, rfl, by decide +kernel, rfl, by decide +kernel, by decide +kernel⟩
abbrev s_led_to : Stmt := topS 6
abbrev N_led_to : List Str := ["thing", "got", "condemned", "key", "value"]
theorem sc_led_to : FnScope N_led_to ["thing", "got", "condemned"] (defScope s_led_to) := ⟨rfl, rfl, rfl, by decide +kernel, rfl, by decide +kernel, by decide +kernel⟩
abbrev s_rounds : Stmt := topS 7
abbrev N_rounds : List Str := ["heap", "condemned", "things", "gone", "number", "got", "depth", "newest", "asked", "found"]
theorem sc_rounds : FnScope N_rounds ["heap", "condemned"] (defScope s_rounds) := ⟨rfl, rfl, rfl, by decide +kernel, rfl, by decide +kernel, by decide +kernel⟩
abbrev s_named : Stmt := topS 10
abbrev N_named : List Str := ["reason"]
theorem sc_named : FnScope N_named ["reason"] (defScope s_named) := ⟨rfl, rfl, rfl, by decide +kernel, rfl, by decide +kernel, by decide +kernel⟩
abbrev s_derive : Stmt := topS 11
abbrev N_derive : List Str := ["heap", "condemned", "number", "depths", "things", "reasons", "waiting", "asked", "other", "ordered", "step"]
theorem sc_derive : FnScope N_derive ["heap", "condemned", "number"] (defScope s_derive) := ⟨rfl, rfl, rfl, by decide +kernel, rfl, by decide +kernel, by decide +kernel⟩
abbrev s_best_reason : Stmt := topS 12
abbrev N_best_reason : List Str := ["heap", "things", "depths", "condemned", "number", "lower", "other", "reasons", "reason"]
theorem sc_best_reason : FnScope N_best_reason ["heap", "things", "depths", "condemned", "number"] (defScope s_best_reason) := ⟨rfl, rfl, rfl, by decide +kernel, rfl, by decide +kernel, by decide +kernel⟩
abbrev s_reason_from : Stmt := topS 13
abbrev N_reason_from : List Str := ["thing", "lower", "condemned", "number", "keys", "key", "value"]
theorem sc_reason_from : FnScope N_reason_from ["thing", "lower", "condemned", "number"] (defScope s_reason_from) := ⟨rfl, rfl, rfl, by decide +kernel, rfl, by decide +kernel, by decide +kernel⟩
abbrev s_check_derivation : Stmt := topS 14
abbrev N_check_derivation : List Str := ["heap", "condemned", "steps", "things", "earlier", "step", "number", "reason", "other"]
theorem sc_check_derivation : FnScope N_check_derivation ["heap", "condemned", "steps"] (defScope s_check_derivation) := ⟨rfl, rfl, rfl, by decide +kernel, rfl, by decide +kernel, by decide +kernel⟩
abbrev s_has_shape : Stmt := topS 15
abbrev N_has_shape : List Str := ["step", "number", "reason"]
theorem sc_has_shape : FnScope N_has_shape ["step"] (defScope s_has_shape) := ⟨rfl, rfl, rfl, by decide +kernel, rfl, by decide +kernel, by decide +kernel⟩
abbrev s_is_reason : Stmt := topS 16
abbrev N_is_reason : List Str := ["reason", "kind", "part"]
theorem sc_is_reason : FnScope N_is_reason ["reason"] (defScope s_is_reason) := ⟨rfl, rfl, rfl, by decide +kernel, rfl, by decide +kernel, by decide +kernel⟩
abbrev s_found_by : Stmt := topS 17
abbrev N_found_by : List Str := ["heap", "things", "reason", "thing"]
theorem sc_found_by : FnScope N_found_by ["heap", "things", "reason"] (defScope s_found_by) := ⟨rfl, rfl, rfl, by decide +kernel, rfl, by decide +kernel, by decide +kernel⟩
abbrev s_at_index : Stmt := topS 18
abbrev N_at_index : List Str := ["row", "index"]
theorem sc_at_index : FnScope N_at_index ["row", "index"] (defScope s_at_index) := ⟨rfl, rfl, rfl, by decide +kernel, rfl, by decide +kernel, by decide +kernel⟩
abbrev s__law_of : Stmt := topS 20
abbrev N__law_of : List Str := ["heap", "number", "row"]
theorem sc__law_of : FnScope N__law_of ["heap", "number"] (defScope s__law_of) := ⟨rfl, rfl, rfl, by decide +kernel, rfl, by decide +kernel, by decide +kernel⟩
abbrev s__law_states : Stmt := topS 21
abbrev N__law_states : List Str := ["heap", "number", "reason", "kind", "row"]
theorem sc__law_states : FnScope N__law_states ["heap", "number", "reason"] (defScope s__law_states) := ⟨rfl, rfl, rfl, by decide +kernel, rfl, by decide +kernel, by decide +kernel⟩
abbrev s__law_named : Stmt := topS 22
abbrev N__law_named : List Str := ["reason"]
theorem sc__law_named : FnScope N__law_named ["reason"] (defScope s__law_named) := ⟨rfl, rfl, rfl, by decide +kernel, rfl, by decide +kernel, by decide +kernel⟩
abbrev s__law_cell : Stmt := topS 23
abbrev N__law_cell : List Str := ["script", "k"]
theorem sc__law_cell : FnScope N__law_cell ["script", "k"] (defScope s__law_cell) := ⟨rfl, rfl, rfl, by decide +kernel, rfl, by decide +kernel, by decide +kernel⟩
abbrev s__law_digits : Stmt := topS 24
abbrev N__law_digits : List Str := ["script", "first", "last", "digits", "k", "cell", "turn", "seed"]
theorem sc__law_digits : FnScope N__law_digits ["script", "first", "last"] (defScope s__law_digits) := ⟨rfl, rfl, rfl, by decide +kernel, rfl, by decide +kernel, by decide +kernel⟩
abbrev s__law_box : Stmt := topS 25
abbrev N__law_box : List Str := ["script", "first", "last"]
theorem sc__law_box : FnScope N__law_box ["script", "first", "last"] (defScope s__law_box) := ⟨rfl, rfl, rfl, by decide +kernel, rfl, by decide +kernel, by decide +kernel⟩
abbrev s__law_draw : Stmt := topS 26
abbrev N__law_draw : List Str := ["box", "many", "at"]
theorem sc__law_draw : FnScope N__law_draw ["box", "many"] (defScope s__law_draw) := ⟨rfl, rfl, rfl, by decide +kernel, rfl, by decide +kernel, by decide +kernel⟩
abbrev s__law_number : Stmt := topS 27
abbrev N__law_number : List Str := ["box", "numbers"]
theorem sc__law_number : FnScope N__law_number ["box", "numbers"] (defScope s__law_number) := ⟨rfl, rfl, rfl, by decide +kernel, rfl, by decide +kernel, by decide +kernel⟩
abbrev s__law_object : Stmt := topS 28
abbrev N__law_object : List Str := ["box", "number", "numbers", "kind", "k", "entries", "key", "value", "entry"]
theorem sc__law_object : FnScope N__law_object ["box", "number", "numbers"] (defScope s__law_object) := ⟨rfl, rfl, rfl, by decide +kernel, rfl, by decide +kernel, by decide +kernel⟩
abbrev s__law_heap : Stmt := topS 29
abbrev N__law_heap : List Str := ["box", "most", "many", "numbers", "at", "k", "objects", "number", "registers", "kept", "watches"]
theorem sc__law_heap : FnScope N__law_heap ["box", "most"] (defScope s__law_heap) := ⟨rfl, rfl, rfl, by decide +kernel, rfl, by decide +kernel, by decide +kernel⟩
abbrev s__law_some : Stmt := topS 30
abbrev N__law_some : List Str := ["box", "numbers", "number"]
theorem sc__law_some : FnScope N__law_some ["box", "numbers"] (defScope s__law_some) := ⟨rfl, rfl, rfl, by decide +kernel, rfl, by decide +kernel, by decide +kernel⟩
abbrev s__law_numbers : Stmt := topS 31
abbrev N__law_numbers : List Str := ["heap", "row"]
theorem sc__law_numbers : FnScope N__law_numbers ["heap"] (defScope s__law_numbers) := ⟨rfl, rfl, rfl, by decide +kernel, rfl, by decide +kernel, by decide +kernel⟩
abbrev s__law_true_reason : Stmt := topS 32
abbrev N__law_true_reason : List Str := ["box", "heap", "rows", "k", "row", "entry"]
theorem sc__law_true_reason : FnScope N__law_true_reason ["box", "heap"] (defScope s__law_true_reason) := ⟨rfl, rfl, rfl, by decide +kernel, rfl, by decide +kernel, by decide +kernel⟩
abbrev s__law_any_reason : Stmt := topS 33
abbrev N__law_any_reason : List Str := ["box", "heap", "numbers", "one", "two", "kind"]
theorem sc__law_any_reason : FnScope N__law_any_reason ["box", "heap"] (defScope s__law_any_reason) := ⟨rfl, rfl, rfl, by decide +kernel, rfl, by decide +kernel, by decide +kernel⟩
abbrev s__law_same : Stmt := topS 34
abbrev N__law_same : List Str := ["actual", "expected", "k"]
theorem sc__law_same : FnScope N__law_same ["actual", "expected"] (defScope s__law_same) := ⟨rfl, rfl, rfl, by decide +kernel, rfl, by decide +kernel, by decide +kernel⟩
abbrev s__law_is_derivation : Stmt := topS 35
abbrev N__law_is_derivation : List Str := ["heap", "gone", "steps", "before", "step", "named_v"]
theorem sc__law_is_derivation : FnScope N__law_is_derivation ["heap", "gone", "steps"] (defScope s__law_is_derivation) := ⟨rfl, rfl, rfl, by decide +kernel, rfl, by decide +kernel, by decide +kernel⟩
abbrev s_law : Stmt := topS 36
abbrev N_law : List Str := ["script", "box", "heap", "gone", "steps", "number", "k", "step", "others", "wrong", "at", "changed"]
theorem sc_law : FnScope N_law ["script"] (defScope s_law) := ⟨rfl, rfl, rfl, by decide +kernel, rfl, by decide +kernel, by decide +kernel⟩
structure Txt (mg : Str → Option Value) : Prop where
  all : mg "all" = none
  bool : mg "bool" = none
  dict : mg "dict" = none
  int : mg "int" = none
  isinstance : mg "isinstance" = none
  len : mg "len" = none
  list : mg "list" = none
  range : mg "range" = none
  sorted : mg "sorted" = none
  str : mg "str" = none
  tuple : mg "tuple" = none
  type : mg "type" = none
/-! ### dicts with number keys -/
def dictOf (os : List Addr) (obs : List Ob) : List (Key × V) := List.zipWith (fun a o => ((Sum.inl o.num : Key), V.ref a)) os obs
theorem key_has {kvs : List (Key × V)} {ks : List Int} (h : kvs.map (·.1) = ks.map Sum.inl) (n : Int) : (valV kvs (Sum.inl n)).isSome = decide (n ∈ ks) := by
  rw [← valV_any]
  induction kvs generalizing ks with
  | nil =>
    cases ks with
    | nil => rfl
    | cons k r => simp at h
  | cons p r ih =>
    cases ks with
    | nil => simp at h
    | cons k t =>
      simp only [List.map_cons, List.cons.injEq] at h
      rw [List.any_cons, ih h.2, h.1]
      by_cases e : k = n
      · subst e; simp
      · have e2 : ¬ ((Sum.inl k : Key) = Sum.inl n) := fun z => e (Sum.inl.inj z)
        have e3 : ¬ n = k := fun z => e z.symm
        simp [e2, e3]
theorem dictOf_keys : ∀ {os : List Addr} {obs : List Ob}, os.length = obs.length → (dictOf os obs).map (·.1) = (obs.map Ob.num).map Sum.inl
  | [], [], _ => rfl
  | [], _ :: _, h => by simp at h
  | _ :: _, [], h => by simp at h
  | a :: os, o :: obs, h => by
    show (Sum.inl o.num : Key) :: (dictOf os obs).map (·.1) = _
    rw [dictOf_keys (by simpa using h)]
    rfl
theorem dictOf_len {os : List Addr} {obs : List Ob} (h : os.length = obs.length) : (dictOf os obs).length = obs.length := by
  unfold dictOf; rw [List.length_zipWith, h, Nat.min_self]
theorem dictOf_at {os : List Addr} {obs : List Ob} {i : Nat} {a : Addr} {o : Ob} (h1 : os[i]? = some a) (h2 : obs[i]? = some o) : (dictOf os obs)[i]? = some (Sum.inl o.num, .ref a) := by
  unfold dictOf; rw [List.getElem?_zipWith, h1, h2]
/-- looked up by its number -/
theorem dictOf_get {K : PySem.W.Frag} {H : Hp} : ∀ {os : List Addr} {obs : List Ob} {n : Int}, Paired (ObAt K H) os obs → n ∈ obs.map Ob.num →
    ∃ a o, valV (dictOf os obs) (Sum.inl n) = some (.ref a) ∧ o ∈ obs ∧ o.num = n ∧ ObAt K H a o
  | _, _, n, .nil, h => by simp at h
  | a :: os, o :: obs, n, .cons r t, h => by
    by_cases e : o.num = n
    · exact ⟨a, o, valV_pos (by show (Sum.inl o.num : Key) = _; rw [e]), List.mem_cons_self, e, r⟩
    · have h' : n ∈ obs.map Ob.num := by
        rcases List.mem_cons.mp h with z | z
        · exact absurd z.symm e
        · exact z
      obtain ⟨a', o', h1, h2, h3, h4⟩ := dictOf_get t h'
      refine ⟨a', o', ?_, List.mem_cons_of_mem _ h2, h3, h4⟩
      show valV ((Sum.inl o.num, V.ref a) :: dictOf os obs) (Sum.inl n) = _
      rw [valV_neg (fun z => e (Sum.inl.inj z))]
      exact h1
theorem take_snoc {α : Type} {l : List α} {i : Nat} {x : α} (h : l[i]? = some x) : l.take (i + 1) = l.take i ++ [x] := by
  rw [List.take_add_one, h]; rfl
theorem num_notin {obs : List Ob} {os : List Addr} {i : Nat} {o : Ob} (hl : os.length = obs.length) (nd : (obs.map Ob.num).Nodup) (h : obs[i]? = some o) : valV ((dictOf os obs).take i) (Sum.inl o.num) = none := by
  have hk : ((dictOf os obs).take i).map (·.1) = ((obs.map Ob.num).take i).map Sum.inl := by
    rw [List.map_take, dictOf_keys hl, List.map_take]
  have q := key_has hk o.num
  cases e : valV ((dictOf os obs).take i) (Sum.inl o.num) with
  | none => rfl
  | some v =>
    rw [e] at q
    have m : o.num ∈ (obs.map Ob.num).take i := of_decide_eq_true q.symm
    obtain ⟨j, hj⟩ := List.getElem?_of_mem m
    have hlt : j < i := by
      have := (List.getElem?_eq_some_iff.mp hj).1
      rw [List.length_take] at this; omega
    rw [List.getElem?_take_of_lt hlt] at hj
    have hi : (obs.map Ob.num)[i]? = some o.num := by rw [List.getElem?_map, h]; rfl
    exact absurd (nd_ix nd hj hi) (Nat.ne_of_lt hlt)
theorem nodup_of_up {l : List Int} (h : l.Pairwise (· < ·)) : l.Nodup := h.imp fun h => Int.ne_of_lt h
section
variable (K : PySem.W.Frag)
def R_registers_of : V1 := fun x H Q => ∃ a h, x = .ref a ∧ HeapAt K H a h ∧ ∀ r, SqZ H r (h.regs.map rV) → Q (.ref r) H
abbrev sp_registers_of : Sp := sp1 (R_registers_of K)
def R_objects_of : V1 := fun x H Q => ∃ a h, x = .ref a ∧ HeapAt K H a h ∧ ∀ o, ObsAt K H o h → Q (.ref o) H
abbrev sp_objects_of : Sp := sp1 (R_objects_of K)
def R_by_number : V1 := fun x H Q => ∃ a h, x = .ref a ∧ HeapAt K H a h ∧ h.Ok ∧ ∀ p H' os, H p = none → ExA H H' → Paired (ObAt K H') os h.obs → H' p = some (.dK (dictOf os h.obs)) → Q (.ref p) H'
abbrev sp_by_number : Sp := sp1 (R_by_number K)
/-- a new list of numbers -/
def NewL (ns : List Int) (H : Hp) (Q : VK) : Prop := ∀ p H', H p = none → ExA H H' → H' p = some (.lst (ns.map .int)) → Q (.ref p) H'
/-- a new tuple of numbers -/
def NewT (ns : List Int) (H : Hp) (Q : VK) : Prop := ∀ p H', H p = none → ExA H H' → H' p = some (.tup (ns.map .int)) → Q (.ref p) H'
def R_objects_among : V1 := fun x H Q => ∃ (a : Addr) (rs : List Rf), x = .ref a ∧ SqT K H a (rs.map rV) ∧ rs.length ≤ 1000 ∧ NewL (rs.filterMap id) H Q
abbrev sp_objects_among : Sp := sp1 (R_objects_among K)
def Ob.small : Ob → Prop
  | .rcd _ fs => fs.length ≤ 1000
  | .weak _ _ => True
  | .tab _ es => es.length ≤ 1000
theorem Ob.ok.small {S : List Int} {o : Ob} (h : o.ok S) : o.small := by
  cases o with
  | rcd n fs => exact h.1
  | weak n t => trivial
  | tab n es => exact h.1
/-- a dict whose keys are these numbers -/
def KeysAt (H : Hp) (g : Addr) (gs : List Int) : Prop := ∃ kvs, H g = some (.dK kvs) ∧ kvs.map (·.1) = gs.map Sum.inl
def R_led_to : V3 := fun x y z H Q => ∃ (a : Addr) (o : Ob) (g : Addr) (gs : List Int) (c : Addr) (cs : List Int), x = .ref a ∧ y = .ref g ∧ z = .ref c ∧ ObAt K H a o ∧ o.small ∧ KeysAt H g gs ∧ KeysAt H c cs ∧ NewL (ledTo o gs cs) H Q
abbrev sp_led_to : Sp := sp3 (R_led_to K)
end
section
variable {P : Program} {w : World} {K : PySem.W.Frag} {mg : Str → Option Value} {base : Heap}
theorem ok_registers_of {f : Addr} {fd : FuncData} {cd : Value} (F : Df K "registers_of" s_registers_of f fd cd) (T : Txt mg) : FnOk P w K mg base CX0 1 f fd ["heap"] (sp_registers_of K) := by
  have nd := sc_registers_of.nd
  refine F.ok sc_registers_of (fun vs H Q E h => ?_) (fun A outer s H vs Q E hr h => ?_)
  · obtain ⟨_, rfl, _⟩ := h; rfl
  have hu := hu_of hr
  obtain ⟨x0, rfl, h⟩ := h
  refine ⟨_, (pss_one (ps_ret (pe_ix (r := rIxT K) ix_tup (pv 0) pe_int (fun _ _ => rfl)))), ?_⟩
  obtain ⟨a, h, rfl, ⟨r, k, o, w, ws, h1, h2, _⟩, q⟩ := h
  exact ⟨_, rfl, a, _, _, _, rfl, rfl, h1, at2, q r h2⟩
theorem ok_objects_of {f : Addr} {fd : FuncData} {cd : Value} (F : Df K "objects_of" s_objects_of f fd cd) (T : Txt mg) : FnOk P w K mg base CX0 1 f fd ["heap"] (sp_objects_of K) := by
  have nd := sc_objects_of.nd
  refine F.ok sc_objects_of (fun vs H Q E h => ?_) (fun A outer s H vs Q E hr h => ?_)
  · obtain ⟨_, rfl, _⟩ := h; rfl
  have hu := hu_of hr
  obtain ⟨x0, rfl, h⟩ := h
  refine ⟨_, (pss_one (ps_ret (pe_ix (r := rIxT K) ix_tup (pv 0) pe_int (fun _ _ => rfl)))), ?_⟩
  obtain ⟨a, h, rfl, ⟨r, k, o, w, ws, h1, h2, h3, h4, _⟩, q⟩ := h
  exact ⟨_, rfl, a, _, _, _, rfl, rfl, h1, at4, q o h4⟩
theorem ok_by_number {f : Addr} {fd : FuncData} {cd : Value} (F : Df K "by_number" s_by_number f fd cd) (T : Txt mg) (C_objects_of : Cal P w K mg base 1 "objects_of" (sp_objects_of K) []) : FnOk P w K mg base CX0 2 f fd ["heap"] (sp_by_number K) := by
  have nd := sc_by_number.nd
  refine F.ok sc_by_number (fun vs H Q E h => ?_) (fun A outer s H vs Q E hr h => ?_)
  · obtain ⟨_, rfl, _⟩ := h; rfl
  have hu := hu_of hr
  obtain ⟨x0, rfl, h⟩ := h
  refine ⟨_, (pss_one (ps_ret (pe_dc (own := [("thing", 1)]) rfl nd (show PI _ _ _ (iTup K _) from pi_tup (pe_c C_objects_of hr (by first | exact Nat.le_refl _ | decide) rfl (pa_cons (pv 0) pa_nil))) (blkOk_by (own := [("thing", 1)]) (N := N_by_number) (sc := defScope s_by_number) (by decide +kernel)) (fun _ _ _ _ _ => (pg_name (i := 1) nd rfl (by first | exact Or.inl rfl | exact Or.inr rfl))) (fun _ _ _ _ _ => pts_nil) (fun _ _ _ _ _ => (pe_ix (r := rIxT K) ix_tup (pv 1) pe_int (fun _ _ => rfl))) (fun _ _ _ _ _ => (pv 1))))), ?_⟩
  obtain ⟨a, h, rfl, hA, ok, q⟩ := h
  refine ⟨_, rfl, _, rfl, a, h, rfl, hA, fun o hO => ?_⟩
  obtain ⟨os, ho, hp⟩ := hO
  have hl := plen hp
  refine ⟨o, rfl, ⟨_, ho⟩, fun D hD => ?_⟩
  refine dcM [] (walk_tup (xs := os.map V.ref)) hD (fun i acc _ => acc = (dictOf os h.obs).take i) rfl (fun H' e => Tk.all e _ _ ho) (fun i x H1 H2 acc hi e h1 h2 hacc y => ?_) (fun H' acc e h1 h2 hacc => ?_)
  · obtain ⟨rfl, hx⟩ := y
    rw [List.getElem?_map] at hx
    cases hos : os[i]? with
    | none => rw [hos] at hx; cases hx
    | some a1 =>
      rw [hos] at hx
      obtain ⟨o1, ho1, hob⟩ := pget hp hos
      obtain rfl : V.ref a1 = x := Option.some.inj hx
      obtain ⟨kn, vn, hn⟩ := (ObAt.mono (Tk.all e) hob).num
      refine ⟨rfl, tyes ⟨_, rfl, a1, _, _, _, rfl, rfl, hn, at1, _, rfl, ?_⟩⟩
      have hi' : i < 50 := by
        have z := (List.getElem?_eq_some_iff.mp ho1).1
        have := ok.size
        omega
      refine DcP.yes (k := Sum.inl o1.num) hD (by simp) (by omega) e h1 h2 rfl (ExM.refl _ _) ?_
      rw [hacc, putK_new _ (num_notin hl (nodup_of_up ok.up) ho1), take_snoc (dictOf_at hos ho1)]
  · refine q D H' os hD e (pmp hp fun _ _ z => ObAt.mono (Tk.all e) z) ?_
    rw [h1, hacc, List.length_map, hl, ← dictOf_len hl, List.take_length]
theorem ok_objects_among {f : Addr} {fd : FuncData} {cd : Value} (F : Df K "objects_among" s_objects_among f fd cd) (T : Txt mg) : FnOk P w K mg base CX0 1 f fd ["references"] (sp_objects_among K) := by
  have nd := sc_objects_among.nd
  refine F.ok sc_objects_among (fun vs H Q E h => ?_) (fun A outer s H vs Q E hr h => ?_)
  · obtain ⟨_, rfl, _⟩ := h; rfl
  have hu := hu_of hr
  obtain ⟨x0, rfl, h⟩ := h
  refine ⟨_, (pss_one (ps_ret (pe_lc (own := [("number", 1)]) rfl nd (show PI _ _ _ (iTup K _) from pi_tup (pv 0)) (blkOk_by (own := [("number", 1)]) (N := N_objects_among) (sc := defScope s_objects_among) (by decide +kernel)) (fun _ _ _ _ _ => (pg_name (i := 1) nd rfl (by first | exact Or.inl rfl | exact Or.inr rfl))) (fun _ _ _ _ _ => (pts_one (pt_cmpR op_notN (pv 1) pe_non (nomark _)))) (fun _ _ _ _ _ => (pv 1))))), ?_⟩
  obtain ⟨a, rs, rfl, hA, hz, q⟩ := h
  refine ⟨_, rfl, a, rfl, ⟨_, hA⟩, fun D hD => ?_⟩
  refine lcM [] (walk_tup (xs := rs.map rV)) hD (fun i acc _ => acc = ((rs.take i).filterMap id).map V.int) rfl (fun H' e => Tk.all e _ _ hA) (fun i x H1 H2 acc hi e h1 h2 hacc y => ?_) (fun H' acc e h1 h2 hacc => ?_)
  · obtain ⟨rfl, hx⟩ := y
    rw [List.length_map] at hi
    obtain ⟨r, hr⟩ : ∃ r, rs[i]? = some r := ⟨rs[i], List.getElem?_eq_getElem hi⟩
    rw [List.getElem?_map, hr] at hx
    obtain rfl : rV r = x := Option.some.inj hx
    refine ⟨rfl, _, rfl, rfl, _, rfl, ?_⟩
    have ht := take_snoc hr
    cases r with
    | none => exact iteF (LcP.no (by simp) e h1 h2 (ExM.refl _ _) (by rw [hacc, ht, List.filterMap_append]; simp))
    | some n => exact iteT ⟨_, rfl, LcP.yes hD (by simp) (by omega) e h1 h2 (ExM.refl _ _) (by rw [hacc, ht, List.filterMap_append, List.map_append]; rfl)⟩
  · refine q D H' hD e ?_
    rw [h1, hacc, List.length_map, List.take_length]
theorem ok_led_to {f : Addr} {fd : FuncData} {cd : Value} (F : Df K "led_to" s_led_to f fd cd) (T : Txt mg) (C_objects_among : Cal P w K mg base 1 "objects_among" (sp_objects_among K) []) : FnOk P w K mg base CX0 2 f fd ["thing", "got", "condemned"] (sp_led_to K) := by
  have nd := sc_led_to.nd
  refine F.ok sc_led_to (fun vs H Q E h => ?_) (fun A outer s H vs Q E hr h => ?_)
  · obtain ⟨_, _, _, rfl, _⟩ := h; rfl
  have hu := hu_of hr
  obtain ⟨x0, x1, x2, rfl, h⟩ := h
  refine ⟨_, (pss_cons (ps_if (pt_cmpR op_eq (pe_ix (r := rIxT K) ix_tup (pv 0) pe_int (fun _ _ => rfl)) pe_str (nomark _)) (pss_one (ps_ret (pe_c C_objects_among hr (by first | exact Nat.le_refl _ | decide) rfl (pa_cons (pe_ix (r := rIxT K) ix_tup (pv 0) pe_int (fun _ _ => rfl)) pa_nil)))) pss_nil)
    (pss_cons (ps_if (pt_cmpR op_eq (pe_ix (r := rIxT K) ix_tup (pv 0) pe_int (fun _ _ => rfl)) pe_str (nomark _)) (pss_one (ps_ret (pe_lc (own := [("key", 3), ("value", 4)]) rfl nd (show PI _ _ _ (iTup K _) from pi_tup (pe_ix (r := rIxT K) ix_tup (pv 0) pe_int (fun _ _ => rfl))) (blkOk_by (own := [("key", 3), ("value", 4)]) (N := N_led_to) (sc := defScope s_led_to) (by decide +kernel)) (fun _ _ _ _ _ => (show PG _ _ (gTup K 2 _) from pg_tup rfl (pgs_cons (pg_name (i := 3) nd rfl (by first | exact Or.inl rfl | exact Or.inr rfl)) (pgs_cons (pg_name (i := 4) nd rfl (by first | exact Or.inl rfl | exact Or.inr rfl)) pgs_nil)))) (fun _ _ _ _ _ => (pts_one (pt_cmp (pc_din hu (pv 3) (pv 1)) rfl))) (fun _ _ _ _ _ => (pv 4))))) pss_nil)
    (pss_cons (ps_if (PW.pt (pw_or (pt_cmpR op_isN (pe_ix (r := rIxT K) ix_tup (pv 0) pe_int (fun _ _ => rfl)) pe_non (nomark _)) (pw_or1 (pt_cmp (pc_din hu (pe_ix (r := rIxT K) ix_tup (pv 0) pe_int (fun _ _ => rfl)) (pv 2)) rfl)))) (pss_one (ps_ret (pe_lst pa_nil))) pss_nil)
    (pss_one (ps_ret (pe_lst (pa_cons (pe_ix (r := rIxT K) ix_tup (pv 0) pe_int (fun _ _ => rfl)) pa_nil))))))), ?_⟩
  obtain ⟨a, o, g, gs, c, cs, rfl, rfl, rfl, hO, sm, ⟨gk, hg, hgk⟩, ⟨ck, hc, hck⟩, q⟩ := h
  cases o with
  | rcd n fs =>
    obtain ⟨t, h1, h2⟩ := hO
    refine ⟨_, rfl, a, _, _, _, rfl, rfl, h1, at0, rfl, _, rfl, iteT ?_⟩
    exact ⟨_, rfl, a, _, _, _, rfl, rfl, h1, at2, _, rfl, t, fs, rfl, h2.sq, sm, q⟩
  | weak n t =>
    have h1 : SqT K H a [.str "weak", .int n, rV t] := hO
    refine ⟨_, rfl, a, _, _, _, rfl, rfl, h1, at0, rfl, _, rfl, iteF ?_⟩
    refine ⟨_, rfl, a, _, _, _, rfl, rfl, h1, at0, rfl, _, rfl, iteF ?_⟩
    refine ⟨_, rfl, a, _, _, _, rfl, rfl, h1, at2, rfl, _, rfl, ?_⟩
    cases t with
    | none => exact iteT (iteT ⟨Nat.zero_le _, fun p hp => q p _ hp (ExM.new hp) upd_same⟩)
    | some i =>
      refine iteF ⟨_, rfl, a, _, _, _, rfl, rfl, h1, at2, _, rfl, c, _, rfl, DGet.k (k := Sum.inl i) hc, _, rfl, ?_⟩
      rw [key_has hck i]
      have q : NewL (if i ∈ cs then [] else [i]) H Q := q
      by_cases m : i ∈ cs
      · rw [decide_eq_true m]
        rw [if_pos m] at q
        exact iteT ⟨Nat.zero_le _, fun p hp => q p _ hp (ExM.new hp) upd_same⟩
      · rw [decide_eq_false m]
        rw [if_neg m] at q
        exact iteF ⟨_, rfl, a, _, _, _, rfl, rfl, h1, at2, sz (by show 1 ≤ 100000; decide), fun p hp => q p _ hp (ExM.new hp) upd_same⟩
  | tab n es =>
    obtain ⟨t, ps, h1, hz2, h3⟩ := hO; have h2 := hz2.sq (K := K)
    refine ⟨_, rfl, a, _, _, _, rfl, rfl, h1, at0, rfl, _, rfl, iteF ?_⟩
    refine ⟨_, rfl, a, _, _, _, rfl, rfl, h1, at0, rfl, _, rfl, iteT ?_⟩
    refine ⟨_, rfl, a, _, _, _, rfl, rfl, h1, at2, t, rfl, ⟨_, h2⟩, fun D hD => ?_⟩
    have hl := plen h3
    have sm' : es.length ≤ 1000 := sm
    refine lcM [] (walk_tup (xs := ps.map V.ref)) hD (fun i acc _ => acc = (((es.take i).filter fun e => decide (e.1 ∈ gs)).map (·.2)).map V.int) rfl (fun H' e => Tk.all e _ _ h2) (fun i x H1 H2 acc hi e k1 k2 hacc y => ?_) (fun H' acc e k1 k2 hacc => ?_)
    · obtain ⟨rfl, hx⟩ := y
      rw [List.length_map] at hi
      obtain ⟨p, hp⟩ : ∃ p, ps[i]? = some p := ⟨ps[i], List.getElem?_eq_getElem hi⟩
      obtain ⟨e1, he1, hpa⟩ := pget h3 hp
      rw [List.getElem?_map, hp] at hx
      obtain rfl : V.ref p = x := Option.some.inj hx
      refine ⟨p, _, rfl, Tk.all e _ _ hpa, rfl, _, _, rfl, _, _, rfl, ⟨rfl, rfl, ?_⟩⟩
      refine ⟨_, rfl, _, rfl, g, _, rfl, DGet.k (k := Sum.inl e1.1) (ExA.at e hg), _, rfl, ?_⟩
      rw [key_has hgk e1.1]
      have ht := take_snoc he1
      by_cases m : e1.1 ∈ gs
      · rw [decide_eq_true m]
        refine iteT ⟨_, rfl, LcP.yes hD (by simp) (by omega) e k1 k2 (ExM.refl _ _) ?_⟩
        rw [hacc, ht, List.filter_append, List.map_append, List.map_append]
        simp [m]
      · rw [decide_eq_false m]
        refine iteF (LcP.no (by simp) e k1 k2 (ExM.refl _ _) ?_)
        rw [hacc, ht, List.filter_append, List.map_append, List.map_append]
        simp [m]
    · refine q D H' hD e ?_
      rw [k1, hacc, List.length_map, hl, List.take_length]
      rfl
end
end Wc
namespace Wc
open PySem L2
/-! ### comprehensions of two clauses into a dict -/
abbrev dIn (gb : TG) (ub : TT) (tk tv : TE) (vb : List Nat) (σ2 : L2.St) (D : Addr) (Nx : Hp → Prop) (J1 : It) (H4 : Hp) : Prop :=
  ∃ W1 : Nat → Nat → Hp → Prop, (∃ m, W1 0 m H4) ∧ ∀ j k H, W1 j k H →
            (J1.stop j H ∧ Nx H) ∨
            (J1.go j H ∧ ∃ Ny : Hp → Prop, (∀ H', Ny H' → ∃ k', k' < k ∧ W1 (j + 1) k' H') ∧
              ∀ x H', J1.yld j H x H' → gb x (wipe σ2 vb) H' fun σ3 H5 => wipe σ3 vb = wipe σ2 vb ∧ ub σ3 H5 fun c H6 =>
                if c = true then tk σ3 H6 fun y H7 => tv σ3 H7 fun z H8 => ∃ kvs k, y = kV k ∧ H8 D = some (.dK kvs) ∧ kvs.length < sizeLine ∧ Ny (upd H8 D (.dK (putK kvs k z)))
                else Ny H6)
theorem ddI {J1 : It} {n1 : Nat} {G1 : Hp → Prop} {Y1 : Nat → Hp → V → Hp → Prop} (w1 : Walk J1 n1 G1 Y1) {gb : TG} {ub : TT} {tk tv : TE} {vb : List Nat} {σ2 : L2.St} {D : Addr} {Nx : Hp → Prop} {H5 : Hp}
    (Pv : Nat → Hp → Prop) (h0 : Pv 0 H5) (hG : ∀ j H, j ≤ n1 → Pv j H → G1 H)
    (hs : ∀ j x H1 H2, j < n1 → Pv j H1 → Y1 j H1 x H2 → gb x (wipe σ2 vb) H2 fun σ3 H5 => wipe σ3 vb = wipe σ2 vb ∧ ub σ3 H5 fun c H6 =>
      if c = true then tk σ3 H6 fun y H7 => tv σ3 H7 fun z H8 => ∃ kvs k, y = kV k ∧ H8 D = some (.dK kvs) ∧ kvs.length < sizeLine ∧ Pv (j + 1) (upd H8 D (.dK (putK kvs k z))) else Pv (j + 1) H6)
    (hd : ∀ H, Pv n1 H → Nx H) : dIn gb ub tk tv vb σ2 D Nx J1 H5 := by
  refine ⟨fun j k H => k + j = n1 ∧ Pv j H, ⟨n1, rfl, h0⟩, fun j k H q => ?_⟩
  obtain ⟨e, p⟩ := q
  have g := hG j H (by omega) p
  by_cases hj : j < n1
  · exact .inr ⟨w1.goes j H hj g, Pv (j + 1), fun H' p' => ⟨k - 1, by omega, by omega, p'⟩, fun x H' y => hs j x H H' hj p (w1.yields j H x H' hj g y)⟩
  · have ej : j = n1 := by omega
    subst ej
    exact .inl ⟨w1.stops H g, hd H p⟩
theorem ddM {J : It} {n : Nat} {G : Hp → Prop} {Y : Nat → Hp → V → Hp → Prop} (w : Walk J n G Y) {ga gb : TG} {ua ub : TT} {wb : TI} {tk tv : TE} {vs vb : List Nat} {σ : L2.St} {H5 : Hp} {D : Addr} {Qd : Hp → Prop}
    (Pv : Nat → Hp → Prop) (h0 : Pv 0 H5) (hG : ∀ j H, j ≤ n → Pv j H → G H)
    (hs : ∀ i x H1 H2, i < n → Pv i H1 → Y i H1 x H2 → ga x (wipe σ vs) H2 fun σ2 H3 => wipe σ2 vs = wipe σ vs ∧ ua σ2 H3 fun c H4 =>
      if c = true then wb σ2 H4 fun J1 H5 => dIn gb ub tk tv vb σ2 D (Pv (i + 1)) J1 H5 else Pv (i + 1) H4)
    (hd : ∀ H, Pv n H → Qd H) :
    ∃ W : Nat → Nat → Hp → Prop, (∃ m, W 0 m H5) ∧ ∀ i m H, W i m H →
      (J.stop i H ∧ Qd H) ∨
      (J.go i H ∧ ∃ Nx : Hp → Prop, (∀ H', Nx H' → ∃ m', m' < m ∧ W (i + 1) m' H') ∧
        ∀ x H', J.yld i H x H' → ga x (wipe σ vs) H' fun σ2 H2 => wipe σ2 vs = wipe σ vs ∧ ua σ2 H2 fun c H3 =>
          if c = true then wb σ2 H3 fun J1 H4 => dIn gb ub tk tv vb σ2 D Nx J1 H4 else Nx H3) := by
  refine ⟨fun j k H => k + j = n ∧ Pv j H, ⟨n, rfl, h0⟩, fun j k H q => ?_⟩
  obtain ⟨e, p⟩ := q
  have g := hG j H (by omega) p
  by_cases hj : j < n
  · exact .inr ⟨w.goes j H hj g, Pv (j + 1), fun H' p' => ⟨k - 1, by omega, by omega, p'⟩, fun x H' y => hs j x H H' hj p (w.yields j H x H' hj g y)⟩
  · have ej : j = n := by omega
    subst ej
    exact .inl ⟨w.stops H g, hd H p⟩
/-! ### dicts of numbers, of marks -/
def dI (G : List (Int × Int)) : List (Key × V) := G.map fun q => ((Sum.inl q.1 : Key), V.int q.2)
def dB (W : List Int) : List (Key × V) := W.map fun n => ((Sum.inl n : Key), V.bl true)
theorem dI_keys (G : List (Int × Int)) : (dI G).map (·.1) = (G.map (·.1)).map Sum.inl := by unfold dI; rw [List.map_map, List.map_map]; rfl
theorem dB_keys (W : List Int) : (dB W).map (·.1) = W.map Sum.inl := by unfold dB; rw [List.map_map]; rfl
def addK (W : List Int) (n : Int) : List Int := if n ∈ W then W else W ++ [n]
theorem dB_put (W : List Int) (n : Int) : putK (dB W) (Sum.inl n) (.bl true) = dB (addK W n) := by
  have q := key_has (dB_keys W) n
  unfold addK
  by_cases m : n ∈ W
  · rw [if_pos m]
    rw [decide_eq_true m] at q
    unfold putK
    rw [valV_any, q, if_pos rfl]
    unfold dB
    rw [List.map_map]
    refine List.map_congr_left fun k _ => ?_
    show (if (Sum.inl k : Key) = Sum.inl n then ((Sum.inl k : Key), V.bl true) else (Sum.inl k, V.bl true)) = _
    split <;> rfl
  · rw [if_neg m]
    rw [decide_eq_false m] at q
    rw [putK_new _ (by cases e : valV (dB W) (Sum.inl n) with | none => rfl | some v => rw [e] at q; cases q)]
    unfold dB
    rw [List.map_append]
    rfl
theorem dI_put {G : List (Int × Int)} {n d : Int} (h : n ∉ G.map (·.1)) : putK (dI G) (Sum.inl n) (.int d) = dI (G ++ [(n, d)]) := by
  have q := key_has (dI_keys G) n
  rw [decide_eq_false h] at q
  rw [putK_new _ (by cases e : valV (dI G) (Sum.inl n) with | none => rfl | some v => rw [e] at q; cases q)]
  unfold dI
  rw [List.map_append]
  rfl
theorem addK_nd {W : List Int} {n : Int} (h : W.Nodup) : (addK W n).Nodup := by
  unfold addK
  split
  · exact h
  · rename_i m
    exact List.nodup_append.mpr ⟨h, by simp, fun a ha b hb e => m (by have : b = n := by simpa using hb
                                                                      subst this; rw [← e]; exact ha)⟩
theorem mem_addK {W : List Int} {n k : Int} : k ∈ addK W n ↔ k ∈ W ∨ k = n := by
  unfold addK
  split
  · rename_i m
    constructor
    · exact Or.inl
    · rintro (z | rfl)
      · exact z
      · exact m
  · simp
theorem mem_take_snoc {α : Type} {l : List α} {i : Nat} {x y : α} (h : l[i]? = some x) : y ∈ l.take (i + 1) ↔ y ∈ l.take i ∨ y = x := by
  rw [take_snoc h]; simp
theorem dI_len (G : List (Int × Int)) : (dI G).length = G.length := by unfold dI; rw [List.length_map]
theorem dB_len (W : List Int) : (dB W).length = W.length := by unfold dB; rw [List.length_map]
section
variable (K : PySem.W.Frag)
def R_rounds : V2 := fun x y H Q => ∃ (a : Addr) (h : Hd) (c : Addr) (cs : List Int), x = .ref a ∧ y = .ref c ∧ HeapAt K H a h ∧ h.Ok ∧ SqS K H c (cs.map .int) ∧ cs.length ≤ 1000 ∧
  ∀ p H' G, RoundsOf h cs G → H p = none → ExA H H' → H' p = some (.dK (dI G)) → Q (.ref p) H'
abbrev sp_rounds : Sp := sp2 (R_rounds K)
end
/-- what rounds keeps through its loop: the dicts things, gone, got; newest -/
structure Rw (K : PySem.W.Frag) (H0 H : Hp) (h : Hd) (cs : List Int) (th gn gt nw : Addr) (G : List (Int × Int)) (W : List Int) : Prop where
  ex : ExA H0 H
  fg : H0 gt = none
  fw : H0 nw = none
  aT : ∃ os, Paired (ObAt K H) os h.obs ∧ H th = some (.dK (dictOf os h.obs))
  aN : H gn = some (.dK (dB cs))
  aG : H gt = some (.dK (dI G))
  aW : H nw = some (.dK (dB W))
  n1 : th ≠ gt
  n2 : gn ≠ gt
  n3 : th ≠ nw
  n4 : gn ≠ nw
  n5 : gt ≠ nw
/-- .. while one of the two is locked -/
structure Rk (K : PySem.W.Frag) (H0 H : Hp) (h : Hd) (cs : List Int) (th gn gt nw : Addr) (gd wd : HO) : Prop where
  ex : ExA H0 H
  fg : H0 gt = none
  fw : H0 nw = none
  aT : ∃ os, Paired (ObAt K H) os h.obs ∧ H th = some (.dK (dictOf os h.obs))
  aN : H gn = some (.dK (dB cs))
  aG : H gt = some gd
  aW : H nw = some wd
  n1 : th ≠ gt
  n2 : gn ≠ gt
  n3 : th ≠ nw
  n4 : gn ≠ nw
  n5 : gt ≠ nw
section
variable {K : PySem.W.Frag} {H0 H H' : Hp} {h : Hd} {cs : List Int} {th gn gt nw : Addr} {gd wd u : HO} {G : List (Int × Int)} {W : List Int}
theorem Rw.rk (r : Rw K H0 H h cs th gn gt nw G W) : Rk K H0 H h cs th gn gt nw (.dK (dI G)) (.dK (dB W)) := ⟨r.ex, r.fg, r.fw, r.aT, r.aN, r.aG, r.aW, r.n1, r.n2, r.n3, r.n4, r.n5⟩
theorem Rk.rw (r : Rk K H0 H h cs th gn gt nw (.dK (dI G)) (.dK (dB W))) : Rw K H0 H h cs th gn gt nw G W := ⟨r.ex, r.fg, r.fw, r.aT, r.aN, r.aG, r.aW, r.n1, r.n2, r.n3, r.n4, r.n5⟩
theorem Rk.setG (r : Rk K H0 H h cs th gn gt nw gd wd) (t : Tk K H (upd H gt u)) : Rk K H0 (upd H gt u) h cs th gn gt nw u wd := by
  obtain ⟨os, h1, h2⟩ := r.aT
  exact ⟨r.ex.put r.fg, r.fg, r.fw, ⟨os, pmp h1 fun _ _ z => ObAt.mono t z, by rw [upd_ne r.n1]; exact h2⟩, by rw [upd_ne r.n2]; exact r.aN, upd_same, by rw [upd_ne r.n5.symm]; exact r.aW, r.n1, r.n2, r.n3, r.n4, r.n5⟩
theorem Rk.setW (r : Rk K H0 H h cs th gn gt nw gd wd) (t : Tk K H (upd H nw u)) : Rk K H0 (upd H nw u) h cs th gn gt nw gd u := by
  obtain ⟨os, h1, h2⟩ := r.aT
  exact ⟨r.ex.put r.fw, r.fg, r.fw, ⟨os, pmp h1 fun _ _ z => ObAt.mono t z, by rw [upd_ne r.n3]; exact h2⟩, by rw [upd_ne r.n4]; exact r.aN, by rw [upd_ne r.n5]; exact r.aG, upd_same, r.n1, r.n2, r.n3, r.n4, r.n5⟩
theorem Rk.keep (r : Rk K H0 H h cs th gn gt nw gd wd) (e : ExA H H') : Rk K H0 H' h cs th gn gt nw gd wd := by
  obtain ⟨os, h1, h2⟩ := r.aT
  exact ⟨r.ex.trans e, r.fg, r.fw, ⟨os, pmp h1 fun _ _ z => ObAt.mono (Tk.all e) z, ExA.at e h2⟩, ExA.at e r.aN, ExA.at e r.aG, ExA.at e r.aW, r.n1, r.n2, r.n3, r.n4, r.n5⟩
/-- the object of a number, by things -/
theorem Rk.look (r : Rk K H0 H h cs th gn gt nw gd wd) {n : Int} (hn : n ∈ h.nums) : ∃ a o, DGet H th (.int n) (some (.ref a)) ∧ o ∈ h.obs ∧ o.num = n ∧ ObAt K H a o := by
  obtain ⟨os, h1, h2⟩ := r.aT
  obtain ⟨a, o, q, q1, q2, q3⟩ := dictOf_get h1 hn
  exact ⟨a, o, .inl ⟨_, Sum.inl n, .inl h2, rfl, q.symm⟩, q1, q2, q3⟩
end
theorem ob_uniq {h : Hd} (ok : h.Ok) {o p : Ob} (ho : o ∈ h.obs) (hp : p ∈ h.obs) (e : o.num = p.num) : o = p := by
  have key : ∀ (l : List Ob), (l.map Ob.num).Pairwise (· < ·) → o ∈ l → p ∈ l → o = p := by
    intro l
    induction l with
    | nil => intro _ z _; cases z
    | cons x r ih =>
      intro up h1 h2
      obtain ⟨u1, u2⟩ := List.pairwise_cons.mp (show (x.num :: r.map Ob.num).Pairwise (· < ·) from up)
      rcases List.mem_cons.mp h1 with e1 | m1
      · rcases List.mem_cons.mp h2 with e2 | m2
        · rw [e1, e2]
        · have := u1 _ (List.mem_map_of_mem (f := Ob.num) m2); rw [← e1] at this; omega
      · rcases List.mem_cons.mp h2 with e2 | m2
        · have := u1 _ (List.mem_map_of_mem (f := Ob.num) m1); rw [← e2] at this; omega
        · exact ih u2 m1 m2
  exact key h.obs ok.up ho hp
theorem In.same {h : Hd} {cs ds : List Int} (e : ∀ n, n ∈ cs ↔ n ∈ ds) (k : Nat) (n : Int) : In h cs k n ↔ In h ds k n := ⟨In.less fun m z => (e m).mpr z, In.less fun m z => (e m).mp z⟩
theorem RoundsOf.same {h : Hd} {cs ds : List Int} {G : List (Int × Int)} (e : ∀ n, n ∈ cs ↔ n ∈ ds) (r : RoundsOf h cs G) : RoundsOf h ds G :=
  ⟨r.nd, fun n => (r.all n).trans ⟨fun ⟨k, x⟩ => ⟨k, (In.same e k n).mp x⟩, fun ⟨k, x⟩ => ⟨k, (In.same e k n).mpr x⟩⟩, fun n v z => let ⟨k, a, b, c⟩ := r.val n v z; ⟨k, a, (In.same e k n).mp b, fun j hj x => c j hj ((In.same e j n).mpr x)⟩⟩
section
variable {P : Program} {w : World} {K : PySem.W.Frag} {mg : Str → Option Value} {base : Heap}
theorem ok_rounds {f : Addr} {fd : FuncData} {cd : Value} (F : Df K "rounds" s_rounds f fd cd) (T : Txt mg) (C_registers_of : Cal P w K mg base 1 "registers_of" (sp_registers_of K) []) (C_by_number : Cal P w K mg base 2 "by_number" (sp_by_number K) []) (C_objects_among : Cal P w K mg base 1 "objects_among" (sp_objects_among K) []) (C_led_to : Cal P w K mg base 2 "led_to" (sp_led_to K) []) : FnOk P w K mg base CX0 3 f fd ["heap", "condemned"] (sp_rounds K) := by
  have nd := sc_rounds.nd
  refine F.ok sc_rounds (fun vs H Q E h => ?_) (fun A outer s H vs Q E hr h => ?_)
  · obtain ⟨_, _, rfl, _⟩ := h; rfl
  have hu := hu_of hr
  obtain ⟨x0, x1, rfl, h⟩ := h
  refine ⟨_, (pss_cons (ps_set (i := 2) nd rfl (by first | exact Or.inl rfl | exact Or.inr rfl) (pe_c C_by_number hr (by first | exact Nat.le_refl _ | decide) rfl (pa_cons (pv 0) pa_nil)))
    (pss_cons (ps_set (i := 3) nd rfl (by first | exact Or.inl rfl | exact Or.inr rfl) (pe_dc (own := [("number", 4)]) rfl nd (show PI _ _ _ (iSeq K _) from pi_seq (pv 1)) (blkOk_by (own := [("number", 4)]) (N := N_rounds) (sc := defScope s_rounds) (by decide +kernel)) (fun _ _ _ _ _ => (pg_name (i := 4) nd rfl (by first | exact Or.inl rfl | exact Or.inr rfl))) (fun _ _ _ _ _ => pts_nil) (fun _ _ _ _ _ => (pv 4)) (fun _ _ _ _ _ => pe_bl)))
    (pss_cons (ps_set (i := 5) nd rfl (by first | exact Or.inl rfl | exact Or.inr rfl) pe_dnewK)
    (pss_cons (ps_set (i := 6) nd rfl (by first | exact Or.inl rfl | exact Or.inr rfl) pe_int)
    (pss_cons (ps_set (i := 7) nd rfl (by first | exact Or.inl rfl | exact Or.inr rfl) (pe_dc (own := [("number", 4)]) rfl nd (show PI _ _ _ (iList K _) from pi_list (pe_c C_objects_among hr (by first | exact Nat.le_refl _ | decide) rfl (pa_cons (pe_c C_registers_of hr (by first | exact Nat.le_refl _ | decide) rfl (pa_cons (pv 0) pa_nil)) pa_nil))) (blkOk_by (own := [("number", 4)]) (N := N_rounds) (sc := defScope s_rounds) (by decide +kernel)) (fun _ _ _ _ _ => (pg_name (i := 4) nd rfl (by first | exact Or.inl rfl | exact Or.inr rfl))) (fun _ _ _ _ _ => pts_nil) (fun _ _ _ _ _ => (pv 4)) (fun _ _ _ _ _ => pe_bl)))
    (pss_cons (ps_while PassesOwn.never (pt_truth (pv 7) (by intro _; rfl)) (pss_cons (ps_lock (ps_for PassesOwn.never rfl (pi_keys (pv 7)) (pg_name (i := 4) nd rfl (by first | exact Or.inl rfl | exact Or.inr rfl))
    (pss_one (ps_dput hu (pv 5) (pv 4) (pv 6) rfl))))
    (pss_cons (ps_lock (ps_setLc (i := 8) (own := [("number", 4)]) rfl nd rfl rfl (sw_true rfl rfl rfl (by decide +kernel)) (pi_keys (pv 5)) (blkOk_by (own := [("number", 4)]) (N := N_rounds) (sc := defScope s_rounds) (by decide +kernel)) (fun _ _ _ _ _ => (pg_name (i := 4) nd rfl (by first | exact Or.inl rfl | exact Or.inr rfl))) (fun _ _ _ _ _ => (pts_one (PW.pt (pw_or (pt_cmp (pc_din hu (pv 4) (pv 7)) rfl) (pw_or1 (pt_cmpR op_eq (pe_ix (r := rIxT K) ix_tup (pe_dget hu (pv 2) (pv 4) (fun _ _ => rfl)) pe_int (fun _ _ => rfl)) pe_str (nomark _))))))) (fun _ _ _ _ _ => (pv 4))))
    (pss_cons (ps_set (i := 7) nd rfl (by first | exact Or.inl rfl | exact Or.inr rfl) (pe_dc2 (own := [("number", 4), ("found", 9)]) (vs1 := [9]) rfl nd (show PI _ _ _ (iList K _) from pi_list (pv 8)) (blkOk_by (own := [("number", 4), ("found", 9)]) (N := N_rounds) (sc := defScope s_rounds) (by decide +kernel)) (by decide) (fun _ _ _ _ _ => (pg_name (i := 4) nd rfl (by first | exact Or.inl rfl | exact Or.inr rfl))) (fun _ _ _ _ _ => pts_nil) (fun _ _ _ _ _ => (show PI _ _ _ (iList K _) from pi_list (pe_c C_led_to hr (by first | exact Nat.le_refl _ | decide) rfl (pa_cons (pe_dget hu (pv 2) (pv 4) (fun _ _ => rfl)) (pa_cons (pv 5) (pa_cons (pv 3) pa_nil)))))) (fun _ _ _ _ _ => (pg_name (i := 9) nd rfl (by first | exact Or.inl rfl | exact Or.inr rfl))) (fun _ _ _ _ _ => (pts_one (pt_cmp (pc_dnotin hu (pv 9) (pv 5)) rfl))) (fun _ _ _ _ _ => (pv 9)) (fun _ _ _ _ _ => pe_bl)))
    (pss_one (ps_aug (i := 6) nd rfl (by first | exact Or.inl rfl | exact Or.inr rfl) pe_int ip_add))))))
    (pss_one (ps_ret (pv 5))))))))), ?_⟩
  obtain ⟨a, h, c, cs, rfl, rfl, hA, ok, hC, hcz, q⟩ := h
  -- things
  refine ⟨_, rfl, _, rfl, a, h, rfl, hA, ok, fun th H1 os f1 e1 hos hth => ?_⟩
  -- gone
  have hC1 := SqS.all e1 hC
  refine seq_at hC1 (fun _ z => ⟨_, rfl, z⟩) fun J G wk hG gn fgn => ?_
  refine dcM [] wk fgn (fun i acc _ => ∃ ks, acc = dB ks ∧ ∀ n, n ∈ ks ↔ n ∈ cs.take i) ⟨[], rfl, by simp⟩ (fun H' e => hG H' e) (fun i x H2 H3 acc hi e k1 k2 hacc y => ?_) (fun H2 acc e2 k1 k2 hacc => ?_)
  · obtain ⟨rfl, hx⟩ := y
    rw [List.length_map] at hi
    obtain ⟨n, hn⟩ : ∃ n, cs[i]? = some n := ⟨cs[i], List.getElem?_eq_getElem hi⟩
    rw [List.getElem?_map, hn] at hx
    obtain rfl : V.int n = x := Option.some.inj hx
    obtain ⟨ks, rfl, hk⟩ := hacc
    refine ⟨rfl, tyes ⟨_, rfl, ?_⟩⟩
    refine DcP.yes (k := Sum.inl n) fgn (by simp) (by omega) e k1 k2 rfl (ExM.refl _ _) ⟨addK ks n, dB_put ks n, fun m => ?_⟩
    rw [mem_addK, hk, mem_take_snoc hn]
  obtain ⟨ks, rfl, hks⟩ := hacc
  rw [List.length_map, List.take_length] at hks
  have hth2 : H2 th = some (.dK (dictOf os h.obs)) := ExA.at e2 hth
  have hgn2 : H2 gn = some (.dK (dB ks)) := k1
  have nth_gn : th ≠ gn := ne_of_none hth fgn
  -- got, depth
  intro gt fgt
  have hth3 : (upd H2 gt (.dK [])) th = some (.dK (dictOf os h.obs)) := by rw [upd_ne (ne_of_none hth2 fgt)]; exact hth2
  have hgn3 : (upd H2 gt (.dK [])) gn = some (.dK (dB ks)) := by rw [upd_ne (ne_of_none hgn2 fgt)]; exact hgn2
  have hgt3 : (upd H2 gt (.dK [])) gt = some (.dK []) := upd_same
  have n_tg : th ≠ gt := ne_of_none hth2 fgt
  have n_gg : gn ≠ gt := ne_of_none hgn2 fgt
  have E2 : ExA H H2 := e1.trans e2
  have fgt0 : H gt = none := ExA.free E2 fgt
  have E3 : ExA H (upd H2 gt (.dK [])) := E2.put fgt0
  have T3 : Tk K H (upd H2 gt (.dK [])) := Tk.all E3
  have P3 : Paired (ObAt K (upd H2 gt (.dK []))) os h.obs := pmp hos fun _ _ z => ObAt.mono (Tk.trans (Tk.all e2) (Tk.new fgt)) z
  generalize upd H2 gt (.dK []) = H3 at hth3 hgn3 hgt3 E3 T3 P3 ⊢
  -- the registers
  refine ⟨_, rfl, _, rfl, a, h, rfl, HeapAt.mono T3 hA, fun r hr => ?_⟩
  refine ⟨_, rfl, r, h.regs, rfl, hr.sq, ok.nreg, fun l H4 fl e4 hl => ?_⟩
  refine ⟨l, rfl, ⟨_, SqL.of hl⟩, fun nw fnw => ?_⟩
  have hl' : ∀ H', ExA H4 H' → SqL K H' l ((h.regs.filterMap id).map V.int) := fun H' e => SqL.of (ExA.at e hl)
  have mreg : ∀ n, n ∈ h.regs.filterMap id ↔ some n ∈ h.regs := fun n => by simp
  refine dcM [] (walk_list (xs := (h.regs.filterMap id).map V.int)) fnw (fun i acc _ => ∃ ks, acc = dB ks ∧ ks.Nodup ∧ ∀ n, n ∈ ks ↔ n ∈ (h.regs.filterMap id).take i) ⟨[], rfl, by simp, by simp⟩ hl' (fun i x H5 H6 acc hi e k1 k2 hacc y => ?_) (fun H5 acc e5 k1 k2 hacc => ?_)
  · obtain ⟨rfl, hx⟩ := y
    rw [List.length_map] at hi
    have hz : i < 1000 := Nat.lt_of_lt_of_le hi (Nat.le_trans (List.length_filterMap_le _ _) ok.nreg)
    obtain ⟨n, hn⟩ : ∃ n, (h.regs.filterMap id)[i]? = some n := ⟨_, List.getElem?_eq_getElem hi⟩
    rw [List.getElem?_map, hn] at hx
    obtain rfl : V.int n = x := Option.some.inj hx
    obtain ⟨js, rfl, nd1, hk⟩ := hacc
    refine ⟨rfl, tyes ⟨_, rfl, ?_⟩⟩
    refine DcP.yes (k := Sum.inl n) fnw (by simp) (by omega) e k1 k2 rfl (ExM.refl _ _) ⟨addK js n, dB_put js n, addK_nd nd1, fun m => ?_⟩
    rw [mem_addK, hk, mem_take_snoc hn]
  obtain ⟨W, rfl, ndW, hW⟩ := hacc
  rw [List.length_map, List.take_length] at hW
  have E5 : ExA H H5 := (E3.trans e4).trans e5
  have nwE : ∀ {b : Addr} {o : HO}, H3 b = some o → b ≠ nw := fun hb => ne_of_none (ExA.at e4 hb) fnw
  have R0 : Rw K H H5 h ks th gn gt nw [] W := ⟨E5, fgt0, ExA.free (E3.trans e4) fnw, ⟨os, pmp P3 fun _ _ z => ObAt.mono (Tk.all (e4.trans e5)) z, ExA.at (e4.trans e5) hth3⟩, ExA.at (e4.trans e5) hgn3, ExA.at (e4.trans e5) hgt3, k1, n_tg, n_gg, nwE hth3, nwE hgn3, nwE hgt3⟩
  have hcs : ∀ n, n ∈ ks ↔ n ∈ cs := hks
  have I0 : RI h ks 0 [] W := RI.first ndW fun n => (hW n).trans (mreg n)
  -- the loop
  refine ⟨fun m σ' H' => ∃ (d : Nat) (G : List (Int × Int)) (W : List Int) (nw : Addr) (u4 u8 : Option V), m + G.length = h.nums.length + 1 ∧ σ' = [some (.ref a), some (.ref c), some (.ref th), some (.ref gn), u4, some (.ref gt), some (.int (d : Int)), some (.ref nw), u8, none] ∧
      RI h ks d G W ∧ Rw K H H' h ks th gn gt nw G W, ⟨h.nums.length + 1, 0, [], W, nw, none, none, rfl, rfl, I0, R0⟩, ?_⟩
  rintro m σ' H' ⟨d, G, W, nw, u4, u8, hm, rfl, I, R⟩
  refine ⟨_, rfl, !(dB W).isEmpty, .inr (.inr ⟨_, R.aW, rfl⟩), ?_⟩
  by_cases hW : W = []
  · subst hW
    exact iteF ⟨_, rfl, q gt H' G (I.done.same hcs) fgt0 R.ex R.aG⟩
  have hne : (!(dB W).isEmpty) = true := by
    cases W with
    | nil => exact absurd rfl hW
    | cons _ _ => rfl
  rw [hne]
  refine iteT ⟨fun σ2 H2 => ∃ (W' : List Int) (nw' : Addr) (v4 v8 : Option V), σ2 = [some (.ref a), some (.ref c), some (.ref th), some (.ref gn), v4, some (.ref gt), some (.int ((d + 1 : Nat) : Int)), some (.ref nw'), v8, none] ∧
      RI h ks (d + 1) (addW G W d) W' ∧ Rw K H H2 h ks th gn gt nw' (addW G W d) W', ?_, ?_⟩
  · rintro σ2 H2 ⟨W', nw', v4, v8, rfl, I', R'⟩
    have z1 := I.size ok
    have z2 := RI.more (G := G) (d := d) hW
    exact ⟨h.nums.length + 1 - (addW G W d).length, by omega, d + 1, addW G W d, W', nw', v4, v8, by omega, rfl, I', R'⟩
  -- got[number] = depth, for the newest
  refine ⟨nw, _, R.aW, trivial, fun od => ?_⟩
  have Rl : Rk K H (upd H' nw (.frz od (.dK (dB W)))) h ks th gn gt nw (.dK (dI G)) (.frz od (.dK (dB W))) := R.rk.setW (Tk.dic R.aW)
  refine ⟨_, rfl, nw, od, rfl, .inl ⟨_, upd_same, ?_⟩⟩
  generalize upd H' nw (.frz od (.dK (dB W))) = H1 at Rl ⊢
  refine for_it (walk_keys (d := nw) (o := od) (kvs := dB W)) (fun i σ2 H2 => ∃ v4, σ2 = [some (.ref a), some (.ref c), some (.ref th), some (.ref gn), v4, some (.ref gt), some (.int (d : Int)), some (.ref nw), u8, none] ∧
      Rk K H H2 h ks th gn gt nw (.dK (dI (G ++ (W.take i).map fun n => (n, (d : Int))))) (.frz od (.dK (dB W)))) ⟨u4, rfl, by simpa using Rl⟩ (fun i σ2 H2 _ p => p.elim fun _ z => z.2.aW) (fun i x σ2 H2 H3 hi p y => ?_) (fun σ2 H2 p => ?_)
  · obtain ⟨v4, rfl, r⟩ := p
    obtain ⟨rfl, k, v, hk, rfl⟩ := y
    rw [dB_len] at hi
    obtain ⟨n, hn⟩ : ∃ n, W[i]? = some n := ⟨_, List.getElem?_eq_getElem hi⟩
    have hk' : (dB W)[i]? = some (Sum.inl n, .bl true) := by unfold dB; rw [List.getElem?_map, hn]; rfl
    rw [hk'] at hk
    cases hk
    have hnw : n ∈ W := List.mem_of_getElem? hn
    have ng : n ∉ (G ++ (W.take i).map fun n => (n, (d : Int))).map (·.1) := by
      rw [List.map_append, List.map_map, List.mem_append]
      rintro (z | z)
      · exact I.dis hnw z
      · have z' : n ∈ W.take i := by
          obtain ⟨m, hm, e⟩ := List.mem_map.mp z
          have e : m = n := e
          rw [← e]; exact hm
        obtain ⟨j, hj⟩ := List.getElem?_of_mem z'
        have hlt : j < i := by
          have := (List.getElem?_eq_some_iff.mp hj).1
          rw [List.length_take] at this; omega
        rw [List.getElem?_take_of_lt hlt] at hj
        exact absurd (nd_ix I.ndW hj hn) (Nat.ne_of_lt hlt)
    have zl : (dI (G ++ (W.take i).map fun n => (n, (d : Int)))).length < sizeLine := by
      rw [dI_len, List.length_append, List.length_map]
      have z1 := I.size ok
      unfold addW at z1
      rw [List.length_append, List.length_map] at z1
      have z2 : (W.take i).length ≤ W.length := by rw [List.length_take]; omega
      have z3 : h.nums.length ≤ 50 := by unfold Hd.nums; rw [List.length_map]; exact ok.size
      exact szl (by omega)
    refine ⟨_, rfl, _, rfl, _, rfl, gt, _, rfl, DPut.k (k := Sum.inl n) r.aG zl, some (.int n), rfl, ?_⟩
    have r2 := r.setG (u := .dK (putK (dI (G ++ (W.take i).map fun n => (n, (d : Int)))) (Sum.inl n) (.int (d : Int)))) (Tk.dic r.aG)
    rw [dI_put ng] at r2
    rw [dI_put ng, take_snoc hn, List.map_append, ← List.append_assoc]
    rw [List.append_assoc] at r2 ⊢
    simpa using r2
  obtain ⟨v4, rfl, r⟩ := p
  rw [dB_len, List.take_length] at r
  refine ⟨r.aW, ?_⟩
  have R2 : Rw K H (upd H2 nw (.dK (dB W))) h ks th gn gt nw (addW G W d) W := (r.setW (u := .dK (dB W)) (Tk.frz r.aW)).rw
  generalize upd H2 nw (.dK (dB W)) = H3 at R2 ⊢
  -- who is asked
  have keysI : (dI (addW G W d)).map (·.1) = ((addW G W d).map (·.1)).map Sum.inl := dI_keys _
  have zK : ((addW G W d).map (·.1)).length ≤ 50 := by
    rw [List.length_map]
    have z1 := I.size ok
    have z3 : h.nums.length ≤ 50 := by unfold Hd.nums; rw [List.length_map]; exact ok.size
    omega
  have hnum : ∀ n, n ∈ (addW G W d).map (·.1) → n ∈ h.nums := fun n z => In.num ok ((I.memA n).mp z)
  refine ⟨gt, _, R2.aG, trivial, fun od => ?_⟩
  have Rl := R2.rk.setG (u := .frz od (.dK (dI (addW G W d)))) (Tk.dic R2.aG)
  refine ⟨_, rfl, gt, od, rfl, .inl ⟨_, upd_same, fun D hD => ?_⟩⟩
  generalize upd H3 gt (.frz od (.dK (dI (addW G W d)))) = H4 at Rl hD ⊢
  refine lcM [] (walk_keys (d := gt) (o := od) (kvs := dI (addW G W d))) hD (fun i acc _ => ∃ as : List Int, acc = as.map V.int ∧ (∀ m ∈ as, m ∈ (addW G W d).map (·.1)) ∧
      ∀ m, m ∈ ((addW G W d).map (·.1)).take i → (m ∈ W ∨ ∃ k es, Ob.tab k es ∈ h.obs ∧ k = m) → m ∈ as) ⟨[], rfl, by simp, by simp⟩ (fun H' e => ExA.at e Rl.aG) (fun i x H5 H6 acc hi e k1 k2 hacc y => ?_) (fun H5 acc e5 k1 k2 hacc => ?_)
  · obtain ⟨rfl, k, v, hk, rfl⟩ := y
    rw [dI_len] at hi
    obtain ⟨n, hn⟩ : ∃ n, ((addW G W d).map (·.1))[i]? = some n := ⟨_, List.getElem?_eq_getElem (by rw [List.length_map]; exact hi)⟩
    have hk' : ((dI (addW G W d)).map (·.1))[i]? = some (Sum.inl n) := by rw [keysI, List.getElem?_map, hn]; rfl
    rw [List.getElem?_map, hk] at hk'
    obtain rfl : k = Sum.inl n := Option.some.inj hk'
    have hin : n ∈ (addW G W d).map (·.1) := List.mem_of_getElem? hn
    obtain ⟨as, rfl, ha, hb⟩ := hacc
    have r5 := Rl.keep e
    have zi : i ≤ 40000 := by rw [List.length_map] at zK; omega
    have yes : ∀ H7, ExA H6 H7 → ∃ acc', H7 D = some (.lst acc') ∧ acc'.length < sizeLine ∧ LcP [] H4 D (fun i acc _ => ∃ as : List Int, acc = as.map V.int ∧ (∀ m ∈ as, m ∈ (addW G W d).map (·.1)) ∧
      ∀ m, m ∈ ((addW G W d).map (·.1)).take i → (m ∈ W ∨ ∃ k es, Ob.tab k es ∈ h.obs ∧ k = m) → m ∈ as) (i + 1) (upd H7 D (.lst (acc' ++ [.int n]))) := fun H7 e7 => by
      refine LcP.yes hD (by simp) zi e k1 k2 e7 ⟨as ++ [n], by rw [List.map_append]; rfl, fun m hm => ?_, fun m hm hq => ?_⟩
      · rcases List.mem_append.mp hm with z | z
        · exact ha m z
        · have : m = n := by simpa using z
          rw [this]; exact hin
      · rcases (mem_take_snoc hn).mp hm with z | z
        · exact List.mem_append_left _ (hb m z hq)
        · rw [z]; simp
    refine ⟨rfl, _, rfl, _, rfl, nw, _, rfl, DGet.k (k := Sum.inl n) r5.aW, _, rfl, ?_⟩
    rw [key_has (dB_keys W) n]
    by_cases mW : n ∈ W
    · rw [decide_eq_true mW]
      exact iteT (iteT ⟨_, rfl, yes _ (ExM.refl _ _)⟩)
    rw [decide_eq_false mW]
    refine iteF ?_
    obtain ⟨ao, o, hg, ho, hon, hob⟩ := r5.look (hnum n hin)
    refine ⟨_, rfl, _, rfl, th, _, rfl, hg, ?_⟩
    have no : (∀ k es, Ob.tab k es ∈ h.obs → k ≠ n) → LcP [] H4 D (fun i acc _ => ∃ as : List Int, acc = as.map V.int ∧ (∀ m ∈ as, m ∈ (addW G W d).map (·.1)) ∧
      ∀ m, m ∈ ((addW G W d).map (·.1)).take i → (m ∈ W ∨ ∃ k es, Ob.tab k es ∈ h.obs ∧ k = m) → m ∈ as) (i + 1) H6 := fun nt => by
      refine LcP.no (by simp) e k1 k2 (ExM.refl _ _) ⟨as, rfl, ha, fun m hm hq => ?_⟩
      rcases (mem_take_snoc hn).mp hm with z | rfl
      · exact hb m z hq
      · rcases hq with z | ⟨k, es, h1, h2⟩
        · exact absurd z mW
        · exact absurd h2 (nt k es h1)
    cases o with
    | rcd n' fs =>
      obtain ⟨t, h1, _⟩ := hob
      exact ⟨ao, _, _, _, rfl, rfl, h1, at0, rfl, _, rfl, iteF (no fun k es h1 h2 => by cases ob_uniq ok ho h1 (hon.trans h2.symm))⟩
    | weak n' t =>
      have h1 : SqT K H6 ao [.str "weak", .int n', rV t] := hob
      exact ⟨ao, _, _, _, rfl, rfl, h1, at0, rfl, _, rfl, iteF (no fun k es h1 h2 => by cases ob_uniq ok ho h1 (hon.trans h2.symm))⟩
    | tab n' es =>
      obtain ⟨t, ps, h1, _⟩ := hob
      exact ⟨ao, _, _, _, rfl, rfl, h1, at0, rfl, _, rfl, iteT ⟨_, rfl, yes _ (ExM.refl _ _)⟩⟩
  obtain ⟨as, rfl, ha, hb⟩ := hacc
  rw [dI_len, ← List.length_map (f := fun q : Int × Int => q.1), List.take_length] at hb
  rw [dI_len] at k2
  have r5 := Rl.keep e5
  refine ⟨r5.aG, ?_⟩
  have R6 : Rw K H (upd H5 gt (.dK (dI (addW G W d)))) h ks th gn gt nw (addW G W d) W := (r5.setG (u := .dK (dI (addW G W d))) (Tk.frz r5.aG)).rw
  have hask : (upd H5 gt (.dK (dI (addW G W d)))) D = some (.lst (as.map V.int)) := by
    rw [upd_ne (ne_of_none Rl.aG hD).symm]; exact k1
  generalize upd H5 gt (.dK (dI (addW G W d))) = H6 at R6 hask ⊢
  -- what is found
  refine ⟨_, rfl, D, rfl, ⟨_, SqL.of hask⟩, fun N hN => ?_⟩
  have zN : ∀ W' : List Int, W'.Nodup → (∀ n ∈ W', n ∈ h.nums) → (dB W').length < sizeLine := fun W' n1 n2 => by
    have z1 := nd_sub n1 n2
    have z3 : h.nums.length ≤ 50 := by unfold Hd.nums; rw [List.length_map]; exact ok.size
    rw [dB_len]
    exact szl (by omega)
  have Fnd : ∀ (l : List Int) (n : Int), (∃ o ∈ h.obs, o.num ∈ l ∧ o.fol ks (· ∈ (addW G W d).map (·.1)) n) → n ∈ h.nums := fun l n ⟨o, ho, _, hf⟩ => Ob.fol_in (ok.obs o ho) hf
  refine ddM (walk_list (xs := as.map V.int)) (fun i H7 => ExA H6 H7 ∧ ∃ W' : List Int, H7 N = some (.dK (dB W')) ∧ W'.Nodup ∧ ∀ n, n ∈ W' ↔ n ∉ (addW G W d).map (·.1) ∧ ∃ o ∈ h.obs, o.num ∈ as.take i ∧ o.fol ks (· ∈ (addW G W d).map (·.1)) n)
    ⟨ExM.new hN, [], upd_same, List.nodup_nil, fun n => by simp⟩ (fun i H7 _ p => SqL.of (ExA.at p.1 hask)) (fun i x H7 H8 hi p y => ?_) (fun H7 p => ?_)
  · obtain ⟨rfl, hx⟩ := y
    obtain ⟨e7, W', hW', ndW', mW'⟩ := p
    rw [List.length_map] at hi
    obtain ⟨m, hm⟩ : ∃ m, as[i]? = some m := ⟨_, List.getElem?_eq_getElem hi⟩
    rw [List.getElem?_map, hm] at hx
    obtain rfl : V.int m = x := Option.some.inj hx
    have hmK := ha m (List.mem_of_getElem? hm)
    have R7 := R6.rk.keep e7
    obtain ⟨ao, o, hg, ho, hon, hob⟩ := R7.look (hnum m hmK)
    refine ⟨rfl, tyes ?_⟩
    refine ⟨_, rfl, _, rfl, th, _, rfl, hg, _, rfl, _, rfl, ?_⟩
    refine ⟨_, _, _, rfl, ao, o, gt, (addW G W d).map (·.1), gn, ks, rfl, rfl, rfl, hob, (ok.obs o ho).small, ⟨_, R7.aG, keysI⟩, ⟨_, R7.aN, dB_keys ks⟩, fun l H9 fl e9 hl => ?_⟩
    refine ⟨l, rfl, ⟨_, SqL.of hl⟩, ?_⟩
    have nNl : N ≠ l := ne_of_none hW' fl
    refine ddI (walk_list (xs := (ledTo o ((addW G W d).map (·.1)) ks).map V.int)) (fun j H10 => ExA H6 H10 ∧ H10 l = some (.lst ((ledTo o ((addW G W d).map (·.1)) ks).map V.int)) ∧ ∃ W2 : List Int, H10 N = some (.dK (dB W2)) ∧ W2.Nodup ∧
        ∀ n, n ∈ W2 ↔ n ∉ (addW G W d).map (·.1) ∧ ((∃ o ∈ h.obs, o.num ∈ as.take i ∧ o.fol ks (· ∈ (addW G W d).map (·.1)) n) ∨ n ∈ (ledTo o ((addW G W d).map (·.1)) ks).take j))
      ⟨ExM.trans e7 e9, hl, W', ExA.at e9 hW', ndW', fun n => by rw [mW' n]; simp⟩ (fun j H10 _ p => SqL.of p.2.1) (fun j x H10 H11 hj p y => ?_) (fun H10 p => ?_)
    · obtain ⟨rfl, hx⟩ := y
      obtain ⟨e10, hl10, W2, hW2, nd2, mW2⟩ := p
      rw [List.length_map] at hj
      obtain ⟨n, hn⟩ : ∃ n, (ledTo o ((addW G W d).map (·.1)) ks)[j]? = some n := ⟨_, List.getElem?_eq_getElem hj⟩
      rw [List.getElem?_map, hn] at hx
      obtain rfl : V.int n = x := Option.some.inj hx
      have R10 := R6.rk.keep e10
      refine ⟨rfl, _, rfl, _, rfl, gt, _, rfl, DGet.k (k := Sum.inl n) R10.aG, _, rfl, ?_⟩
      rw [key_has keysI n]
      by_cases c : n ∈ (addW G W d).map (·.1)
      · rw [decide_eq_true c]
        refine iteF ⟨e10, hl10, W2, hW2, nd2, fun k => ?_⟩
        rw [mW2 k, mem_take_snoc hn]
        constructor
        · rintro ⟨z1, z2⟩
          exact ⟨z1, z2.elim .inl fun z => .inr (.inl z)⟩
        · rintro ⟨z1, z2 | z2 | rfl⟩
          · exact ⟨z1, .inl z2⟩
          · exact ⟨z1, .inr z2⟩
          · exact absurd c z1
      · rw [decide_eq_false c]
        have nd3 : (addK W2 n).Nodup := addK_nd nd2
        have hm3 : ∀ k, k ∈ addK W2 n ↔ k ∉ (addW G W d).map (·.1) ∧ ((∃ o ∈ h.obs, o.num ∈ as.take i ∧ o.fol ks (· ∈ (addW G W d).map (·.1)) k) ∨ k ∈ (ledTo o ((addW G W d).map (·.1)) ks).take (j + 1)) := fun k => by
          rw [mem_addK, mW2 k, mem_take_snoc hn]
          constructor
          · rintro (⟨z1, z2⟩ | rfl)
            · exact ⟨z1, z2.elim .inl fun z => .inr (.inl z)⟩
            · exact ⟨c, .inr (.inr rfl)⟩
          · rintro ⟨z1, z2 | z2 | z2⟩
            · exact .inl ⟨z1, .inl z2⟩
            · exact .inl ⟨z1, .inr z2⟩
            · exact .inr z2
        have hin2 : ∀ k ∈ W2, k ∈ h.nums := fun k hk => by
          rcases ((mW2 k).mp hk).2 with z | z
          · exact Fnd _ _ z
          · exact Ob.fol_in (ok.obs o ho) (mem_ledTo.mp (List.mem_of_mem_take z))
        refine iteT ⟨_, rfl, dB W2, Sum.inl n, rfl, hW2, zN W2 nd2 hin2, ExM.put e10 (ExA.free (ExM.refl _ _) hN), ?_, addK W2 n, ?_, nd3, hm3⟩
        · rw [upd_ne nNl.symm]; exact hl10
        · rw [dB_put]; exact upd_same
    · obtain ⟨e10, hl10, W2, hW2, nd2, mW2⟩ := p
      rw [List.length_map, List.take_length] at mW2
      refine ⟨e10, W2, hW2, nd2, fun n => ?_⟩
      rw [mW2 n, mem_ledTo]
      constructor
      · rintro ⟨z1, ⟨o1, h1, h2, h3⟩ | z⟩
        · exact ⟨z1, o1, h1, (mem_take_snoc hm).mpr (.inl h2), h3⟩
        · exact ⟨z1, o, ho, (mem_take_snoc hm).mpr (.inr hon), z⟩
      · rintro ⟨z1, o1, h1, h2, h3⟩
        rcases (mem_take_snoc hm).mp h2 with z | z
        · exact ⟨z1, .inl ⟨o1, h1, z, h3⟩⟩
        · have e1 := ob_uniq ok h1 ho (z.trans hon.symm)
          rw [e1] at h3
          exact ⟨z1, .inr h3⟩
  obtain ⟨e7, W', hW', ndW', mW'⟩ := p
  rw [List.length_map, List.take_length] at mW'
  have R7 := R6.rk.keep e7
  have fN : H6 N = none := hN
  refine ⟨.int (d : Int), rfl, _, _, rfl, rfl, W', N, _, _, rfl, I.step ha hb ndW' mW', ?_⟩
  exact ⟨R7.ex, R7.fg, ExA.free R6.ex hN, R7.aT, R7.aN, R7.aG, hW', R7.n1, R7.n2, (let ⟨_, z⟩ := R6.aT; ne_of_none z.2 fN), ne_of_none R6.aN fN, ne_of_none R6.aG fN⟩
end
end Wc
namespace Wc
open PySem L2
/-! ### {x: True for x in xs} -/
def dedup (xs : List Int) : List Int := xs.foldl addK []
theorem dedup_snoc (xs : List Int) (n : Int) : dedup (xs ++ [n]) = addK (dedup xs) n := by unfold dedup; rw [List.foldl_append]; rfl
theorem mem_foldK (xs : List Int) : ∀ acc n, n ∈ xs.foldl addK acc ↔ n ∈ acc ∨ n ∈ xs := by
  induction xs with
  | nil => intro acc n; simp
  | cons x r ih => intro acc n; rw [List.foldl_cons, ih, mem_addK, List.mem_cons]; exact ⟨fun z => z.elim (fun z => z.elim .inl fun e => .inr (.inl e)) fun z => .inr (.inr z), fun z => z.elim (fun z => .inl (.inl z)) fun z => z.elim (fun e => .inl (.inr e)) .inr⟩
theorem mem_dedup {xs : List Int} {n : Int} : n ∈ dedup xs ↔ n ∈ xs := by unfold dedup; rw [mem_foldK]; simp
theorem nd_foldK (xs : List Int) : ∀ acc, acc.Nodup → (xs.foldl addK acc).Nodup := by
  induction xs with
  | nil => intro acc h; exact h
  | cons x r ih => intro acc h; exact ih _ (addK_nd h)
theorem nd_dedup (xs : List Int) : (dedup xs).Nodup := nd_foldK xs [] (by simp)
theorem dedup_self {xs : List Int} (h : xs.Nodup) : dedup xs = xs := by
  have key : ∀ (l acc : List Int), (acc ++ l).Nodup → l.foldl addK acc = acc ++ l := fun l => by
    induction l with
    | nil => intro acc _; rw [List.append_nil]; rfl
    | cons x r ih =>
      intro acc h
      have nx : x ∉ acc := fun z => (List.nodup_append.mp h).2.2 x z x List.mem_cons_self rfl
      rw [List.foldl_cons, show addK acc x = acc ++ [x] by unfold addK; rw [if_neg nx], ih _ (by rw [List.append_assoc]; exact h), List.append_assoc]; rfl
  exact key xs [] (by simpa using h)
theorem dcB {J : It} {G : Hp → Prop} {n : Nat} {zs : List V} (wk : Walk J n G (YAt zs)) (xs : List Int) (hzs : zs = xs.map V.int) (hn : n = xs.length) (hz : xs.length ≤ 40000) (st : Int → L2.St) {g : TG} {tt : TT} {tk tv : TE} {vs : List Nat} {σ : L2.St} {H : Hp} {D : Addr} {Qd : Hp → Prop}
    (hD : H D = none) (hG : ∀ H', ExA H H' → G H') (hg : ∀ x H1, ∀ R : L2.St → Hp → Prop, R (st x) H1 → g (V.int x) (wipe σ vs) H1 R) (hw : ∀ x, wipe (st x) vs = wipe σ vs) (ht : ∀ x H1, ∀ R : Bool → Hp → Prop, R true H1 → tt (st x) H1 R)
    (hk : ∀ x H1, ∀ R : VK, R (V.int x) H1 → tk (st x) H1 R) (hv : ∀ x H1, ∀ R : VK, R (V.bl true) H1 → tv (st x) H1 R) (hd : ∀ H', ExA H H' → H' D = some (.dK (dB (dedup xs))) → Qd H') :
    ∃ W : Nat → Nat → Hp → Prop, (∃ m, W 0 m (upd H D (.dK []))) ∧ ∀ i m H, W i m H →
      (J.stop i H ∧ Qd H) ∨ (J.go i H ∧ ∃ Nx : Hp → Prop, (∀ H', Nx H' → ∃ m', m' < m ∧ W (i + 1) m' H') ∧ ∀ x H', J.yld i H x H' → g x (wipe σ vs) H' fun σ2 H2 => wipe σ2 vs = wipe σ vs ∧ tt σ2 H2 fun b H3 =>
        if b = true then tk σ2 H3 fun y H4 => tv σ2 H4 fun z H5 => ∃ kvs k, y = kV k ∧ H5 D = some (.dK kvs) ∧ kvs.length < sizeLine ∧ Nx (upd H5 D (.dK (putK kvs k z))) else Nx H3) := by
  subst hzs hn
  refine dcM [] wk hD (fun i acc _ => acc = dB (dedup (xs.take i))) rfl (fun H' x => hG H' x) (fun i x H1 H2 acc hi e k1 k2 hacc y => ?_) (fun H' acc e k1 k2 hacc => ?_)
  · obtain ⟨rfl, hx⟩ := y
    obtain ⟨u, hu⟩ : ∃ u, xs[i]? = some u := ⟨_, List.getElem?_eq_getElem hi⟩
    rw [List.getElem?_map, hu] at hx
    obtain rfl : V.int u = x := Option.some.inj hx
    refine hg u _ _ ⟨hw u, ht u _ _ (iteT (hk u _ _ (hv u _ _ ?_)))⟩
    refine DcP.yes (k := Sum.inl u) hD (by simp) (by omega) e k1 k2 rfl (ExM.refl _ _) ?_
    rw [hacc, take_snoc hu, dedup_snoc, dB_put]
  · rw [List.take_length] at hacc
    exact hd H' e (by rw [k1, hacc])
end Wc
namespace Wc
open PySem L2
/-- rising, and these -/
def UpSet (ns : List Int) (S : Int → Prop) : Prop := ns.Pairwise (· < ·) ∧ ∀ n, n ∈ ns ↔ S n
section
variable (K : PySem.W.Frag)
def R_obtainable : V2 := fun x y H Q => ∃ (a : Addr) (h : Hd) (c : Addr) (cs : List Int), x = .ref a ∧ y = .ref c ∧ HeapAt K H a h ∧ h.Ok ∧ SqT K H c (cs.map .int) ∧ cs.length ≤ 1000 ∧
  ∀ ns, UpSet ns (Obt h cs) → NewT ns H Q
abbrev sp_obtainable : Sp := sp2 (R_obtainable K)
def R_numbers_of : V1 := fun x H Q => ∃ (a : Addr) (h : Hd), x = .ref a ∧ HeapAt K H a h ∧ h.Ok ∧ NewT h.nums H Q
abbrev sp_numbers_of : Sp := sp1 (R_numbers_of K)
def R_reachable : V1 := fun x H Q => ∃ (a : Addr) (h : Hd), x = .ref a ∧ HeapAt K H a h ∧ h.Ok ∧ ∀ ns, UpSet ns (Obt h h.nums) → NewT ns H Q
abbrev sp_reachable : Sp := sp1 (R_reachable K)
def R__law_cell : V2 := fun x y H Q => ∃ (a : Addr) (ns : List Int) (i : Int), x = .ref a ∧ y = .int i ∧ SqL K H a (ns.map .int) ∧ 0 ≤ i ∧ ∀ v : Int, Q (.int v) H
abbrev sp__law_cell : Sp := sp2 (R__law_cell K)
def R__law_digits : V3 := fun x y z H Q => ∃ (a : Addr) (ns : List Int) (i j : Int), x = .ref a ∧ y = .int i ∧ z = .int j ∧ SqL K H a (ns.map .int) ∧ 0 ≤ i ∧ i ≤ j ∧ j ≤ 1000 ∧ ∀ ds, NewL ds H Q
abbrev sp__law_digits : Sp := sp3 (R__law_digits K)
def R__law_box : V3 := fun x y z H Q => ∃ (a : Addr) (ns : List Int) (i j : Int), x = .ref a ∧ y = .int i ∧ z = .int j ∧ SqL K H a (ns.map .int) ∧ 0 ≤ i ∧ i ≤ j ∧ j ≤ 1000 ∧ ∀ b d ds H', H b = none → ExA H H' → Bx H' b d ds → Q (.ref b) H'
abbrev sp__law_box : Sp := sp3 (R__law_box K)
def R__law_draw (_ : PySem.W.Frag) : V2 := fun x y H Q => ∃ (b d : Addr) (ds : List Int) (m : Int), x = .ref b ∧ y = .int m ∧ 0 < m ∧ Bx H b d ds ∧ ∀ H' (v : Int), ExM [b] H H' → Bx H' b d ds → 0 ≤ v → v < m → Q (.int v) H'
abbrev sp__law_draw : Sp := sp2 (R__law_draw K)
def R__law_number : V2 := fun x y H Q => ∃ (b d : Addr) (ds : List Int) (a : Addr) (ns : List Int), x = .ref b ∧ y = .ref a ∧ Bx H b d ds ∧ Nm K H b a ns ∧ ∀ H' (r : Rf), ExM [b] H H' → Bx H' b d ds → Rf.ok ns r → Q (rV r) H'
abbrev sp__law_number : Sp := sp2 (R__law_number K)
def R__law_object : V3 := fun x y z H Q => ∃ (b d : Addr) (ds : List Int) (n : Int) (a : Addr) (ns : List Int), x = .ref b ∧ y = .int n ∧ z = .ref a ∧ Bx H b d ds ∧ Nm K H b a ns ∧
  ∀ H' p o, ExM [b] H H' → Bx H' b d ds → ObAt K H' p o → o.num = n → o.ok ns → Q (.ref p) H'
abbrev sp__law_object : Sp := sp3 (R__law_object K)
def R__law_heap : V2 := fun x y H Q => ∃ (b d : Addr) (ds : List Int) (m : Int), x = .ref b ∧ y = .int m ∧ 0 ≤ m ∧ m ≤ 49 ∧ Bx H b d ds ∧ ∀ H' p (h : Hd), ExM [b] H H' → Bx H' b d ds → HeapAt K H' p h → h.Ok → (h.obs.length : Int) ≤ m → Q (.ref p) H'
abbrev sp__law_heap : Sp := sp2 (R__law_heap K)
def R__law_numbers : V1 := fun x H Q => ∃ (a : Addr) (h : Hd), x = .ref a ∧ HeapAt K H a h ∧ h.Ok ∧ NewL h.nums H Q
abbrev sp__law_numbers : Sp := sp1 (R__law_numbers K)
def R__law_some : V2 := fun x y H Q => ∃ (b d : Addr) (ds : List Int) (a : Addr) (ns : List Int), x = .ref b ∧ y = .ref a ∧ Bx H b d ds ∧ (Nm K H b a ns ∨ SqT K H a (ns.map .int)) ∧ ns.length ≤ 1000 ∧
  ∀ H' p (ms : List Int), ExM [b] H H' → Bx H' b d ds → ms.Sublist ns → H' p = some (.tup (ms.map V.int)) → Q (.ref p) H'
abbrev sp__law_some : Sp := sp2 (R__law_some K)
end
section
variable {P : Program} {w : World} {K : PySem.W.Frag} {mg : Str → Option Value} {base : Heap}
theorem ok__law_cell {f : Addr} {fd : FuncData} {cd : Value} (F : Df K "_law_cell" s__law_cell f fd cd) (T : Txt mg) : FnOk P w K mg base CX0 1 f fd ["script", "k"] (sp__law_cell K) := by
  have nd := sc__law_cell.nd
  refine F.ok sc__law_cell (fun vs H Q E h => ?_) (fun A outer s H vs Q E hr h => ?_)
  · obtain ⟨_, _, rfl, _⟩ := h; rfl
  have hu := hu_of hr
  obtain ⟨x0, x1, rfl, h⟩ := h
  refine ⟨_, (pss_cons (ps_if (pt_cmpR op_lt (pv 1) (pe_callB (r := Evl.rLenS K) call_len_seq rfl T.len PySem.boot_len (pa_cons (pv 0) pa_nil)) (nomark _)) (pss_one (ps_ret (pe_ix (r := rIxL K) ix_list (pv 0) (pv 1) (fun _ _ => rfl)))) pss_nil)
    (pss_one (ps_ret pe_int))), ?_⟩
  obtain ⟨a, ns, i, rfl, rfl, hS, h0, q⟩ := h
  obtain ⟨j, rfl⟩ : ∃ j : Nat, i = (j : Int) := ⟨i.toNat, by omega⟩
  refine ⟨_, rfl, _, rfl, a, _, rfl, .inl hS, _, _, rfl, rfl, _, rfl, ite2 (fun c => ?_) (fun c => ?_)⟩
  · have c' : (j : Int) < (((ns.map V.int).length : Nat) : Int) := of_decide_eq_true c
    rw [List.length_map] at c'
    have hj : j < ns.length := by omega
    exact ⟨_, rfl, _, rfl, a, _, _, V.int ns[j], rfl, rfl, hS, atI_nat (by rw [List.getElem?_map]; simp [hj]), q _⟩
  · exact q 0
theorem ok__law_draw {f : Addr} {fd : FuncData} {cd : Value} (F : Df K "_law_draw" s__law_draw f fd cd) (T : Txt mg) : FnOk P w K mg base CX0 1 f fd ["box", "many"] (sp__law_draw K) := by
  have nd := sc__law_draw.nd
  refine F.ok sc__law_draw (fun vs H Q E h => ?_) (fun A outer s H vs Q E hr h => ?_)
  · obtain ⟨_, _, rfl, _⟩ := h; rfl
  have hu := hu_of hr
  obtain ⟨x0, x1, rfl, h⟩ := h
  refine ⟨_, (pss_cons (ps_set (i := 2) nd rfl (by first | exact Or.inl rfl | exact Or.inr rfl) (pe_ix (r := rIxL K) ix_list (pv 0) pe_int (fun _ _ => rfl)))
    (pss_cons (ps_asg (pe_op op_add (pv 2) pe_int) (pg_sub (pv 0) pe_int set_list))
    (pss_cons (ps_if (pt_cmpR op_lt (pv 2) (pe_callB (r := Evl.rLenS K) call_len_seq rfl T.len PySem.boot_len (pa_cons (pe_ix (r := rIxL K) ix_list (pv 0) pe_int (fun _ _ => rfl)) pa_nil)) (nomark _)) (pss_one (ps_ret (pe_op op_mod (pe_callTy call_int1 rfl T.int (by decide +kernel) (pa_cons (pe_ix (r := rIxL K) ix_list (pe_ix (r := rIxL K) ix_list (pv 0) pe_int (fun _ _ => rfl)) (pv 2) (fun _ _ => rfl)) pa_nil)) (pv 1)))) pss_nil)
    (pss_one (ps_ret pe_int))))), ?_⟩
  obtain ⟨b, d, ds, m, rfl, rfl, hm, hb, q⟩ := h
  obtain ⟨⟨n, e1⟩, e2, e3⟩ := id hb
  refine ⟨_, rfl, b, _, _, _, rfl, rfl, SqL.of e1, at1, ?_⟩
  refine ⟨_, rfl, _, _, rfl, rfl, _, rfl, b, _, _, 1, rfl, rfl, e1, rfl, ?_⟩
  have e4 : (upd H b (.lst ([V.ref d, V.int (n : Int)].set 1 (V.int ((n : Int) + 1))))) b = some (.lst [.ref d, .int ((n + 1 : Nat) : Int)]) := by rw [upd_same]; rfl
  have e5 : (upd H b (.lst ([V.ref d, V.int (n : Int)].set 1 (V.int ((n : Int) + 1))))) d = some (.lst (ds.map V.int)) := by rw [upd_ne e3]; exact e2
  have e6 : ExM [b] H (upd H b (.lst ([V.ref d, V.int (n : Int)].set 1 (V.int ((n : Int) + 1))))) := (ExM.refl _ _).mem (by simp)
  have hb' : Bx _ b d ds := ⟨⟨n + 1, e4⟩, e5, e3⟩
  refine ⟨_, rfl, _, rfl, b, _, _, _, rfl, rfl, SqL.of e4, at0, d, _, rfl, .inl (SqL.of e5), _, _, rfl, rfl, _, rfl, ite2 (fun c => ?_) (fun c => ?_)⟩
  · have c' : (n : Int) < (((ds.map V.int).length : Nat) : Int) := of_decide_eq_true c
    rw [List.length_map] at c'
    have hj : n < ds.length := by omega
    refine ⟨_, rfl, b, _, _, _, rfl, rfl, SqL.of e4, at0, _, rfl, d, _, _, V.int ds[n], rfl, rfl, SqL.of e5, atI_nat (by rw [List.getElem?_map]; simp [hj]), .inl ⟨_, rfl, _, rfl, _, _, rfl, rfl, hm, ?_⟩⟩
    exact q _ _ e6 hb' (Int.emod_nonneg _ (by omega)) (Int.emod_lt_of_pos _ hm)
  · exact q _ 0 e6 hb' (Int.le_refl 0) hm
theorem ok__law_number {f : Addr} {fd : FuncData} {cd : Value} (F : Df K "_law_number" s__law_number f fd cd) (T : Txt mg) (C__law_draw : Cal P w K mg base 1 "_law_draw" (sp__law_draw K) []) : FnOk P w K mg base CX0 2 f fd ["box", "numbers"] (sp__law_number K) := by
  have nd := sc__law_number.nd
  refine F.ok sc__law_number (fun vs H Q E h => ?_) (fun A outer s H vs Q E hr h => ?_)
  · obtain ⟨_, _, rfl, _⟩ := h; rfl
  have hu := hu_of hr
  obtain ⟨x0, x1, rfl, h⟩ := h
  refine ⟨_, (pss_cons (ps_if (PW.pt (pw_or (pt_cmpR op_eq (pe_callB (r := Evl.rLenS K) call_len_seq rfl T.len PySem.boot_len (pa_cons (pv 1) pa_nil)) pe_int (nomark _)) (pw_or1 (pt_cmpR op_eq (pe_c C__law_draw hr (by first | exact Nat.le_refl _ | decide) rfl (pa_cons (pv 0) (pa_cons pe_int pa_nil))) pe_int (nomark _))))) (pss_one (ps_ret pe_non)) pss_nil)
    (pss_one (ps_ret (pe_ix (r := rIxL K) ix_list (pv 1) (pe_op op_mod (pe_callTy call_int1 rfl T.int (by decide +kernel) (pa_cons (pe_c C__law_draw hr (by first | exact Nat.le_refl _ | decide) rfl (pa_cons (pv 0) (pa_cons pe_int pa_nil))) pa_nil)) (pe_callB (r := Evl.rLenS K) call_len_seq rfl T.len PySem.boot_len (pa_cons (pv 1) pa_nil))) (fun _ _ => rfl))))), ?_⟩
  obtain ⟨b, d, ds, a, ns, rfl, rfl, hb, hN, q⟩ := h
  refine ⟨_, rfl, a, _, rfl, .inl hN.1, rfl, _, rfl, ite2 (fun c => ?_) (fun c => ?_)⟩
  · exact iteT (q _ none (ExM.refl _ _) hb (fun i z => by cases z))
  have hne : 0 < ns.length := by
    rw [List.length_map] at c
    have c' : ¬ (V.int (ns.length : Int) = V.int 0) := of_decide_eq_false (Bool.eq_false_iff.mpr c)
    rcases Nat.eq_zero_or_pos ns.length with z | z
    · rw [z] at c'; exact absurd rfl c'
    · exact z
  refine ⟨_, rfl, _, _, rfl, b, d, ds, 5, rfl, rfl, by decide, hb, fun H1 v x1 b1 v0 v5 => ?_⟩
  refine ⟨rfl, _, rfl, ite2 (fun c2 => ?_) (fun c2 => ?_)⟩
  · exact q _ none x1 b1 (fun i z => by cases z)
  have N1 := hN.keep x1
  refine ⟨_, rfl, _, rfl, _, _, rfl, b, d, ds, 1000, rfl, rfl, by decide, b1, fun H2 u x2 b2 u0 u5 => ?_⟩
  have N2 := N1.keep x2
  refine .inl ⟨_, rfl, _, rfl, a, _, rfl, .inl N2.1, _, _, rfl, rfl, by rw [List.length_map]; omega, ?_⟩
  have hl : (ns.map V.int).length = ns.length := List.length_map _
  have r0 : 0 ≤ u % ((ns.map V.int).length : Int) := Int.emod_nonneg _ (by omega)
  have r1 : u % ((ns.map V.int).length : Int) < ((ns.map V.int).length : Int) := Int.emod_lt_of_pos _ (by omega)
  obtain ⟨j, hj⟩ : ∃ j : Nat, u % ((ns.map V.int).length : Int) = (j : Int) := ⟨(u % ((ns.map V.int).length : Int)).toNat, by omega⟩
  have hjl : j < ns.length := by omega
  show rIxL K (.ref a) (.int (u % (((ns.map V.int).length : Nat) : Int))) H2 _
  rw [hj]
  refine ⟨a, _, _, V.int ns[j], rfl, rfl, N2.1, atI_nat (by rw [List.getElem?_map]; simp [hjl]), ?_⟩
  exact q _ (some ns[j]) (x1.trans x2) b2 (fun i z => by cases z; exact List.getElem_mem hjl)
theorem ok__law_numbers {f : Addr} {fd : FuncData} {cd : Value} (F : Df K "_law_numbers" s__law_numbers f fd cd) (T : Txt mg) : FnOk P w K mg base CX0 1 f fd ["heap"] (sp__law_numbers K) := by
  have nd := sc__law_numbers.nd
  refine F.ok sc__law_numbers (fun vs H Q E h => ?_) (fun A outer s H vs Q E hr h => ?_)
  · obtain ⟨_, rfl, _⟩ := h; rfl
  have hu := hu_of hr
  obtain ⟨x0, rfl, h⟩ := h
  refine ⟨_, (pss_one (ps_ret (pe_lc (own := [("row", 1)]) rfl nd (show PI _ _ _ (iTup K _) from pi_tup (pe_ix (r := rIxT K) ix_tup (pv 0) pe_int (fun _ _ => rfl))) (blkOk_by (own := [("row", 1)]) (N := N__law_numbers) (sc := defScope s__law_numbers) (by decide +kernel)) (fun _ _ _ _ _ => (pg_name (i := 1) nd rfl (by first | exact Or.inl rfl | exact Or.inr rfl))) (fun _ _ _ _ _ => pts_nil) (fun _ _ _ _ _ => (pe_ix (r := rIxT K) ix_tup (pv 1) pe_int (fun _ _ => rfl)))))), ?_⟩
  obtain ⟨a, h, rfl, ⟨r, k, o, w, ws, h1, h2, h3, ⟨os, ho, hp⟩, _⟩, ok, q⟩ := h
  have hl := plen hp
  refine ⟨_, rfl, a, _, _, _, rfl, rfl, h1, at4, o, rfl, ⟨_, ho⟩, fun D hD => ?_⟩
  refine lcM [] (walk_tup (xs := os.map V.ref)) hD (fun i acc _ => acc = (h.nums.take i).map V.int) rfl (fun H' e => Tk.all e _ _ ho) (fun i x H1 H2 acc hi e h1 h2 hacc y => ?_) (fun H' acc e h1 h2 hacc => ?_)
  · obtain ⟨rfl, hx⟩ := y
    rw [List.length_map] at hi
    obtain ⟨a1, hos⟩ : ∃ a1, os[i]? = some a1 := ⟨_, List.getElem?_eq_getElem hi⟩
    rw [List.getElem?_map, hos] at hx
    obtain rfl : V.ref a1 = x := Option.some.inj hx
    obtain ⟨o1, ho1, hob⟩ := pget hp hos
    obtain ⟨kn, vn, hn⟩ := (ObAt.mono (Tk.all e) hob).num
    have hnum : h.nums[i]? = some o1.num := by unfold Hd.nums; rw [List.getElem?_map, ho1]; rfl
    have zi : i ≤ 40000 := by have := ok.size; omega
    refine ⟨rfl, tyes ⟨_, rfl, a1, _, _, _, rfl, rfl, hn, at1, LcP.yes hD (by simp) zi e h1 h2 (ExM.refl _ _) ?_⟩⟩
    rw [hacc, take_snoc hnum, List.map_append]; rfl
  · have hn : h.nums.length = os.length := by unfold Hd.nums; rw [List.length_map, hl]
    rw [List.length_map, ← hn, List.take_length] at hacc
    exact q D H' hD e (by rw [h1, hacc])
end
end Wc
namespace Wc
open PySem L2
/-- a or b, a and b, where nothing is made: by their answers -/
theorem or_join {t u : TT} {σ : L2.St} {H : Hp} {Q : Bool → Hp → Prop} (b c : Bool) (ht : ∀ Q' : Bool → Hp → Prop, Q' b H → t σ H Q') (hu : b = false → ∀ Q' : Bool → Hp → Prop, Q' c H → u σ H Q') (h : Q (b || c) H) : tOr t u σ H Q := by
  refine ht _ ?_
  cases b with
  | true => exact iteT h
  | false => exact iteF (hu rfl _ h)
theorem gN {i : Nat} {v : V} {σ : L2.St} {H : Hp} {Q : L2.St → Hp → Prop} (h : Q (σ.set i (some v)) H) : gName i v σ H Q := h
theorem and_join {t u : TT} {σ : L2.St} {H : Hp} {Q : Bool → Hp → Prop} (b c : Bool) (ht : ∀ Q' : Bool → Hp → Prop, Q' b H → t σ H Q') (hu : b = true → ∀ Q' : Bool → Hp → Prop, Q' c H → u σ H Q') (h : Q (b && c) H) : tAnd t u σ H Q := by
  refine ht _ ?_
  cases b with
  | true => exact iteT (hu rfl _ h)
  | false => exact iteF h
theorem len0 (ns : List Int) : decide (V.int (((ns.map V.int).length : Nat) : Int) = V.int 0) = decide (ns.length = 0) := by
  rw [List.length_map]
  by_cases c : ns.length = 0
  · rw [c]; rfl
  · rw [decide_eq_false c]
    exact decide_eq_false fun z => c (by have := V.int.inj z; omega)
theorem pick_ok {K : PySem.W.Frag} {H : Hp} {a : Addr} {ns : List Int} (hS : SqL K H a (ns.map V.int)) (hne : 0 < ns.length) (u : Int) {Q : VK} (q : ∀ i, i ∈ ns → Q (.int i) H) :
    rIxL K (.ref a) (.int (u % (((ns.map V.int).length : Nat) : Int))) H Q := by
  have hl : (ns.map V.int).length = ns.length := List.length_map _
  have r0 : 0 ≤ u % ((ns.map V.int).length : Int) := Int.emod_nonneg _ (by omega)
  have r1 : u % ((ns.map V.int).length : Int) < ((ns.map V.int).length : Int) := Int.emod_lt_of_pos _ (by omega)
  obtain ⟨j, hj⟩ : ∃ j : Nat, u % ((ns.map V.int).length : Int) = (j : Int) := ⟨(u % ((ns.map V.int).length : Int)).toNat, by omega⟩
  have hjl : j < ns.length := by omega
  rw [hj]
  exact ⟨a, _, _, V.int ns[j], rfl, rfl, hS, atI_nat (by rw [List.getElem?_map]; simp [hjl]), q _ (List.getElem_mem hjl)⟩
section
variable {P : Program} {w : World} {K : PySem.W.Frag} {mg : Str → Option Value} {base : Heap}
theorem ok__law_digits {f : Addr} {fd : FuncData} {cd : Value} (F : Df K "_law_digits" s__law_digits f fd cd) (T : Txt mg) (C__law_cell : Cal P w K mg base 1 "_law_cell" (sp__law_cell K) []) : FnOk P w K mg base CX0 2 f fd ["script", "first", "last"] (sp__law_digits K) := by
  have nd := sc__law_digits.nd
  refine F.ok sc__law_digits (fun vs H Q E h => ?_) (fun A outer s H vs Q E hr h => ?_)
  · obtain ⟨_, _, _, rfl, _⟩ := h; rfl
  have hu := hu_of hr
  obtain ⟨x0, x1, x2, rfl, h⟩ := h
  refine ⟨_, (pss_cons (ps_set (i := 3) nd rfl (by first | exact Or.inl rfl | exact Or.inr rfl) (pe_lst pa_nil))
    (pss_cons (ps_for PassesOwn.never rfl (pi_range2 rfl T.range (pa_cons (pv 1) (pa_cons (pv 2) pa_nil))) (pg_name (i := 4) nd rfl (by first | exact Or.inl rfl | exact Or.inr rfl))
    (pss_cons (ps_set (i := 5) nd rfl (by first | exact Or.inl rfl | exact Or.inr rfl) (pe_c C__law_cell hr (by first | exact Nat.le_refl _ | decide) rfl (pa_cons (pv 0) (pa_cons (pv 4) pa_nil))))
    (Evl.pss_cut (ps_if (pt_cmpR op_lt (pv 5) pe_int (nomark _)) (pss_one (ps_set (i := 5) nd rfl (by first | exact Or.inl rfl | exact Or.inr rfl) (pe_op op_sub pe_int (pe_op op_mul pe_int (pv 5))))) pss_nil)
    (pss_one (ps_if (pt_cmpR op_ge (pv 5) (pe_op op_pow pe_int pe_int) (nomark _)) (pss_one (ps_for PassesOwn.never rfl (pi_range1 rfl T.range (pa_cons pe_int pa_nil)) (pg_name (i := 6) nd rfl (by first | exact Or.inl rfl | exact Or.inr rfl))
    (pss_one (ps_if (pt_cmpR op_gt (pv 5) pe_int (nomark _)) (pss_cons (ps_expr (pe_bm PySem.F.plainAttrs_list PySem.F.slot_list_append PySem.F.type_list_append mt_append (pv 3) (pa_cons (pe_op op_mod (pe_callTy call_int1 rfl T.int (by decide +kernel) (pa_cons (pv 5) pa_nil)) pe_int) pa_nil)))
    (pss_one (ps_set (i := 5) nd rfl (by first | exact Or.inl rfl | exact Or.inr rfl) (pe_op op_fdiv (pv 5) pe_int)))) pss_nil)))) (pss_cons (ps_set (i := 7) nd rfl (by first | exact Or.inl rfl | exact Or.inr rfl) (pe_op op_mod (pe_callTy call_int1 rfl T.int (by decide +kernel) (pa_cons (pe_op op_add (pe_op op_add (pe_op op_mul (pv 5) pe_int) (pe_op op_mul (pv 4) pe_int)) pe_int) pa_nil)) pe_int))
    (pss_one (ps_for PassesOwn.never rfl (pi_range1 rfl T.range (pa_cons pe_int pa_nil)) (pg_name (i := 6) nd rfl (by first | exact Or.inl rfl | exact Or.inr rfl))
    (pss_cons (ps_set (i := 7) nd rfl (by first | exact Or.inl rfl | exact Or.inr rfl) (pe_op op_mod (pe_callTy call_int1 rfl T.int (by decide +kernel) (pa_cons (pe_op op_add (pe_op op_add (pe_op op_mul (pv 7) pe_int) (pe_op op_mul pe_int (pv 6))) pe_int) pa_nil)) pe_int))
    (pss_one (ps_expr (pe_bm PySem.F.plainAttrs_list PySem.F.slot_list_append PySem.F.type_list_append mt_append (pv 3) (pa_cons (pe_op op_mod (pe_callTy call_int1 rfl T.int (by decide +kernel) (pa_cons (pe_op op_fdiv (pv 7) pe_int) pa_nil)) pe_int) pa_nil)))))))))))))
    (pss_one (ps_ret (pv 3))))), ?_⟩
  obtain ⟨a, ns, i, j, rfl, rfl, rfl, hS, hi0, hij, hj, q⟩ := h
  refine ⟨Nat.zero_le _, fun l fl => ?_⟩
  refine ⟨_, rfl, _, rfl, i, j, rfl, ⟨by omega, by omega, by omega, by omega⟩, ?_⟩
  refine for_range (lo := i) (n := (j - i).toNat) (fun t σ2 H2 => ∃ u4 u5 u6 u7, σ2 = [some (.ref a), some (.int i), some (.int j), some (.ref l), u4, u5, u6, u7] ∧ ExA H H2 ∧ ∃ ds : List Int, H2 l = some (.lst (ds.map V.int)) ∧ ds.length ≤ 60 * t)
    ⟨none, none, none, none, rfl, ExM.new fl, [], upd_same, Nat.le_refl _⟩ (fun t σ2 H2 ht p => ?_) (fun σ2 H2 p => ?_)
  · obtain ⟨u4, u5, u6, u7, rfl, e2, ds, hl, hz⟩ := p
    refine ⟨_, rfl, _, rfl, _, _, rfl, a, ns, _, rfl, rfl, SqL.all e2 hS, by omega, fun v => ?_⟩
    refine ⟨fun σ3 H3 => ∃ c : Int, 0 ≤ c ∧ H3 = H2 ∧ σ3 = [some (.ref a), some (.int i), some (.int j), some (.ref l), some (.int (i + (t : Int))), some (.int c), u6, u7], ?_, ?_⟩
    · refine ⟨_, rfl, _, _, rfl, rfl, _, rfl, ite2 (fun c => ?_) (fun c => ?_)⟩
      · have c' : v < 0 := of_decide_eq_true c
        exact ⟨_, rfl, 2, v, rfl, rfl, .inl ⟨by decide, by decide⟩, 1, _, rfl, rfl, 1 - 2 * v, by omega, rfl, rfl⟩
      · have c' : ¬ v < 0 := of_decide_eq_false (Bool.eq_false_iff.mpr c)
        exact ⟨v, by omega, rfl, rfl⟩
    rintro σ3 H3 ⟨c, c0, rfl, rfl⟩
    have zt : t ≤ 1000 := by omega
    refine ⟨_, rfl, 10, 18, rfl, rfl, ⟨by decide, by decide, by decide⟩, _, _, rfl, rfl, _, rfl, ite2 (fun _ => ?_) (fun _ => ?_)⟩
    · refine ⟨60, rfl, by decide, by decide, ?_⟩
      refine for_range (lo := 0) (n := 60) (fun r σ4 H4 => ∃ (c : Int) (u6 : Option V), σ4 = [some (.ref a), some (.int i), some (.int j), some (.ref l), some (.int (i + (t : Int))), some (.int c), u6, u7] ∧ ExA H H4 ∧ ∃ ds : List Int, H4 l = some (.lst (ds.map V.int)) ∧ ds.length ≤ 60 * t + r)
        ⟨c, u6, rfl, e2, ds, hl, hz⟩ (fun r σ4 H4 hr p => ?_) (fun σ4 H4 p => ?_)
      · obtain ⟨c, u6, rfl, e4, ds, hl, hz⟩ := p
        refine ⟨_, rfl, _, _, rfl, rfl, _, rfl, ite2 (fun _ => ?_) (fun _ => ?_)⟩
        · refine ⟨_, rfl, .inl ⟨rfl, _, SqL.of hl⟩, _, rfl, .inl ⟨_, rfl, _, _, rfl, rfl, (by show (0 : Int) < 1000; decide), l, _, _, rfl, rfl, hl, szl (by rw [List.length_map]; omega), ?_⟩⟩
          refine ⟨_, rfl, _, _, rfl, rfl, ⟨by decide, by decide⟩, _, _, rfl, e4.put fl, ds ++ [c % 1000], ?_, by rw [List.length_append, List.length_singleton]; omega⟩
          rw [upd_same, List.map_append]; rfl
        · exact ⟨c, _, rfl, e4, ds, hl, by omega⟩
      · obtain ⟨c, u6, rfl, e4, ds, hl, hz⟩ := p
        exact ⟨_, _, _, _, rfl, e4, ds, hl, by omega⟩
    · refine ⟨_, rfl, _, _, rfl, rfl, .inr ⟨by decide, by decide⟩, _, rfl, _, _, rfl, rfl, .inr ⟨by decide, by decide⟩, _, _, rfl, rfl, _, _, rfl, rfl, .inl ⟨_, rfl, _, _, rfl, rfl, (by show (0 : Int) < 2147483647; decide), ?_⟩⟩
      refine ⟨12, rfl, by decide, by decide, ?_⟩
      refine for_range (lo := 0) (n := 12) (fun r σ4 H4 => ∃ (e : Int) (u6 : Option V), σ4 = [some (.ref a), some (.int i), some (.int j), some (.ref l), some (.int (i + (t : Int))), some (.int c), u6, some (.int e)] ∧ ExA H H4 ∧ ∃ ds : List Int, H4 l = some (.lst (ds.map V.int)) ∧ ds.length ≤ 60 * t + r)
        ⟨_, u6, rfl, e2, ds, hl, hz⟩ (fun r σ4 H4 hr p => ?_) (fun σ4 H4 p => ?_)
      · obtain ⟨e, u6, rfl, e4, ds, hl, hz⟩ := p
        refine ⟨_, rfl, _, _, rfl, rfl, .inr ⟨by decide, by decide⟩, _, rfl, _, _, rfl, rfl, .inl ⟨by decide, by decide⟩, _, _, rfl, rfl, _, _, rfl, rfl, .inl ⟨_, rfl, _, _, rfl, rfl, (by show (0 : Int) < 2147483647; decide), ?_⟩⟩
        refine ⟨_, rfl, .inl ⟨rfl, _, SqL.of hl⟩, _, rfl, _, _, rfl, rfl, ⟨by decide, by decide⟩, .inl ⟨_, rfl, _, _, rfl, rfl, (by show (0 : Int) < 1000; decide), l, _, _, rfl, rfl, hl, szl (by rw [List.length_map]; omega), ?_⟩⟩
        refine ⟨(e * 16807 + 7 * (0 + (r : Int)) + 1) % 2147483647, _, rfl, e4.put fl, ds ++ [(e * 16807 + 7 * (0 + (r : Int)) + 1) % 2147483647 / 997 % 1000], ?_, by rw [List.length_append, List.length_singleton]; omega⟩
        rw [upd_same, List.map_append]; rfl
      · obtain ⟨e, u6, rfl, e4, ds, hl, hz⟩ := p
        exact ⟨_, _, _, _, rfl, e4, ds, hl, by omega⟩
  · obtain ⟨u4, u5, u6, u7, rfl, e2, ds, hl, hz⟩ := p
    exact ⟨_, rfl, q ds l H2 fl e2 hl⟩
theorem ok__law_box {f : Addr} {fd : FuncData} {cd : Value} (F : Df K "_law_box" s__law_box f fd cd) (T : Txt mg) (C__law_digits : Cal P w K mg base 2 "_law_digits" (sp__law_digits K) []) : FnOk P w K mg base CX0 3 f fd ["script", "first", "last"] (sp__law_box K) := by
  have nd := sc__law_box.nd
  refine F.ok sc__law_box (fun vs H Q E h => ?_) (fun A outer s H vs Q E hr h => ?_)
  · obtain ⟨_, _, _, rfl, _⟩ := h; rfl
  have hu := hu_of hr
  obtain ⟨x0, x1, x2, rfl, h⟩ := h
  refine ⟨_, (pss_one (ps_ret (pe_lst (pa_cons (pe_c C__law_digits hr (by first | exact Nat.le_refl _ | decide) rfl (pa_cons (pv 0) (pa_cons (pv 1) (pa_cons (pv 2) pa_nil)))) (pa_cons pe_int pa_nil))))), ?_⟩
  obtain ⟨a, ns, i, j, rfl, rfl, rfl, hS, hi0, hij, hj, q⟩ := h
  refine ⟨_, rfl, _, rfl, _, rfl, _, _, _, rfl, a, ns, i, j, rfl, rfl, rfl, hS, hi0, hij, hj, fun ds p H1 fp e1 hp => ?_⟩
  refine ⟨sz (by show 2 ≤ 100000; decide), fun b fb => q b p ds _ (ExA.free e1 fb) (e1.put (ExA.free e1 fb)) ⟨⟨0, upd_same⟩, ?_, ne_of_none hp fb⟩⟩
  rw [upd_ne (ne_of_none hp fb)]; exact hp
theorem ok__law_some {f : Addr} {fd : FuncData} {cd : Value} (F : Df K "_law_some" s__law_some f fd cd) (T : Txt mg) (C__law_draw : Cal P w K mg base 1 "_law_draw" (sp__law_draw K) []) : FnOk P w K mg base CX0 2 f fd ["box", "numbers"] (sp__law_some K) := by
  have nd := sc__law_some.nd
  refine F.ok sc__law_some (fun vs H Q E h => ?_) (fun A outer s H vs Q E hr h => ?_)
  · obtain ⟨_, _, rfl, _⟩ := h; rfl
  have hu := hu_of hr
  obtain ⟨x0, x1, rfl, h⟩ := h
  refine ⟨_, (pss_one (ps_ret (pe_callTy (r := rTupS K) call_tuple_of rfl T.tuple (by decide +kernel) (pa_cons (pe_lc (own := [("number", 2)]) rfl nd (show PI _ _ _ (iSeq K _) from pi_seq (pv 1)) (blkOk_by (own := [("number", 2)]) (N := N__law_some) (sc := defScope s__law_some) (by decide +kernel)) (fun _ _ _ _ _ => (pg_name (i := 2) nd rfl (by first | exact Or.inl rfl | exact Or.inr rfl))) (fun _ _ _ _ _ => (pts_one (pt_cmpR op_eq (pe_c C__law_draw hr (by first | exact Nat.le_refl _ | decide) rfl (pa_cons (pv 0) (pa_cons pe_int pa_nil))) pe_int (nomark _)))) (fun _ _ _ _ _ => (pv 2))) pa_nil)))), ?_⟩
  obtain ⟨b, d, ds, a, ns, rfl, rfl, hb, hN, hz, q⟩ := h
  rcases hN with hN | hN
  · refine .inl ⟨_, rfl, a, rfl, ⟨_, hN.1⟩, fun D hD => ?_⟩
    have nD := hb.ne hD
    refine lcM [b] (walk_list (xs := ns.map V.int)) hD (fun i acc H' => Bx H' b d ds ∧ ∃ ms : List Int, acc = ms.map V.int ∧ ms.Sublist (ns.take i)) ⟨hb.new hD, [], rfl, by simp⟩ (fun H' e => (hN.keep e).1) (fun i x H1 H2 acc hi e h1 h2 hacc y => ?_) (fun H' acc e h1 h2 hacc => ?_)
    · obtain ⟨rfl, hx⟩ := y
      rw [List.length_map] at hi
      obtain ⟨n, hn⟩ : ∃ n, ns[i]? = some n := ⟨_, List.getElem?_eq_getElem hi⟩
      rw [List.getElem?_map, hn] at hx
      obtain rfl : V.int n = x := Option.some.inj hx
      obtain ⟨b1, ms, rfl, hms⟩ := hacc
      refine ⟨rfl, _, rfl, _, _, rfl, b, d, ds, 2, rfl, rfl, by decide, b1, fun H5 v x5 b5 v0 v2 => ⟨rfl, _, rfl, ite2 (fun _ => ?_) (fun _ => ?_)⟩⟩
      · refine ⟨_, rfl, LcP.yes hD nD (by omega) e h1 h2 x5 ⟨b5.put hb hD, ms ++ [n], by rw [List.map_append]; rfl, ?_⟩⟩
        rw [take_snoc hn]; exact hms.append (List.Sublist.refl _)
      · refine LcP.no nD e h1 h2 x5 ⟨b5, ms, rfl, ?_⟩
        rw [take_snoc hn]; exact hms.trans (List.sublist_append_left _ _)
    · obtain ⟨b1, ms, rfl, hms⟩ := hacc
      rw [List.length_map, List.take_length] at hms
      exact ⟨D, _, rfl, .inl ⟨SqL.of h1, fun t ft => q _ t ms (e.trans (ExM.new ft)) (b1.new ft) hms upd_same⟩⟩
  · refine .inr ⟨_, rfl, a, rfl, ⟨_, hN⟩, fun D hD => ?_⟩
    have nD := hb.ne hD
    refine lcM [b] (walk_tup (xs := ns.map V.int)) hD (fun i acc H' => Bx H' b d ds ∧ ∃ ms : List Int, acc = ms.map V.int ∧ ms.Sublist (ns.take i)) ⟨hb.new hD, [], rfl, by simp⟩ (fun H' e => hb.tk e _ _ hN) (fun i x H1 H2 acc hi e h1 h2 hacc y => ?_) (fun H' acc e h1 h2 hacc => ?_)
    · obtain ⟨rfl, hx⟩ := y
      rw [List.length_map] at hi
      obtain ⟨n, hn⟩ : ∃ n, ns[i]? = some n := ⟨_, List.getElem?_eq_getElem hi⟩
      rw [List.getElem?_map, hn] at hx
      obtain rfl : V.int n = x := Option.some.inj hx
      obtain ⟨b1, ms, rfl, hms⟩ := hacc
      refine ⟨rfl, _, rfl, _, _, rfl, b, d, ds, 2, rfl, rfl, by decide, b1, fun H5 v x5 b5 v0 v2 => ⟨rfl, _, rfl, ite2 (fun _ => ?_) (fun _ => ?_)⟩⟩
      · refine ⟨_, rfl, LcP.yes hD nD (by omega) e h1 h2 x5 ⟨b5.put hb hD, ms ++ [n], by rw [List.map_append]; rfl, ?_⟩⟩
        rw [take_snoc hn]; exact hms.append (List.Sublist.refl _)
      · refine LcP.no nD e h1 h2 x5 ⟨b5, ms, rfl, ?_⟩
        rw [take_snoc hn]; exact hms.trans (List.sublist_append_left _ _)
    · obtain ⟨b1, ms, rfl, hms⟩ := hacc
      rw [List.length_map, List.take_length] at hms
      exact ⟨D, _, rfl, .inl ⟨SqL.of h1, fun t ft => q _ t ms (e.trans (ExM.new ft)) (b1.new ft) hms upd_same⟩⟩
theorem ok__law_object {f : Addr} {fd : FuncData} {cd : Value} (F : Df K "_law_object" s__law_object f fd cd) (T : Txt mg) (C__law_draw : Cal P w K mg base 1 "_law_draw" (sp__law_draw K) []) (C__law_number : Cal P w K mg base 2 "_law_number" (sp__law_number K) []) : FnOk P w K mg base CX0 3 f fd ["box", "number", "numbers"] (sp__law_object K) := by
  have nd := sc__law_object.nd
  refine F.ok sc__law_object (fun vs H Q E h => ?_) (fun A outer s H vs Q E hr h => ?_)
  · obtain ⟨_, _, _, rfl, _⟩ := h; rfl
  have hu := hu_of hr
  obtain ⟨x0, x1, x2, rfl, h⟩ := h
  refine ⟨_, (pss_cons (ps_set (i := 3) nd rfl (by first | exact Or.inl rfl | exact Or.inr rfl) (pe_c C__law_draw hr (by first | exact Nat.le_refl _ | decide) rfl (pa_cons (pv 0) (pa_cons pe_int pa_nil))))
    (pss_cons (ps_if (PW.pt (pw_or (pt_cmpR op_lt (pv 3) pe_int (nomark _)) (pw_or1 (PW.pt (pw_and (pt_cmpR op_gt (pv 3) pe_int (nomark _)) (pw_and1 (pt_cmpR op_eq (pe_callB (r := Evl.rLenS K) call_len_seq rfl T.len PySem.boot_len (pa_cons (pv 2) pa_nil)) pe_int (nomark _)))))))) (pss_one (ps_ret (pe_tup (pa_cons pe_str (pa_cons (pv 1) (pa_cons (pe_callTy (r := rTupZ K) call_tupleZ rfl T.tuple (by decide +kernel) (pa_cons (pe_lc (own := [("k", 4)]) rfl nd (pi_range1 rfl T.range (pa_cons (pe_c C__law_draw hr (by first | exact Nat.le_refl _ | decide) rfl (pa_cons (pv 0) (pa_cons pe_int pa_nil))) pa_nil)) (blkOk_by (own := [("k", 4)]) (N := N__law_object) (sc := defScope s__law_object) (by decide +kernel)) (fun _ _ _ _ _ => (pg_name (i := 4) nd rfl (by first | exact Or.inl rfl | exact Or.inr rfl))) (fun _ _ _ _ _ => pts_nil) (fun _ _ _ _ _ => (pe_c C__law_number hr (by first | exact Nat.le_refl _ | decide) rfl (pa_cons (pv 0) (pa_cons (pv 2) pa_nil))))) pa_nil)) pa_nil)))))) pss_nil)
    (pss_cons (ps_if (pt_cmpR op_lt (pv 3) pe_int (nomark _)) (pss_one (ps_ret (pe_tup (pa_cons pe_str (pa_cons (pv 1) (pa_cons (pe_c C__law_number hr (by first | exact Nat.le_refl _ | decide) rfl (pa_cons (pv 0) (pa_cons (pv 2) pa_nil))) pa_nil)))))) pss_nil)
    (pss_cons (ps_set (i := 5) nd rfl (by first | exact Or.inl rfl | exact Or.inr rfl) (pe_lst pa_nil))
    (pss_cons (ps_for PassesOwn.never rfl (pi_range1 rfl T.range (pa_cons (pe_c C__law_draw hr (by first | exact Nat.le_refl _ | decide) rfl (pa_cons (pv 0) (pa_cons pe_int pa_nil))) pa_nil)) (pg_name (i := 4) nd rfl (by first | exact Or.inl rfl | exact Or.inr rfl))
    (pss_cons (ps_set (i := 6) nd rfl (by first | exact Or.inl rfl | exact Or.inr rfl) (pe_ix (r := rIxL K) ix_list (pv 2) (pe_op op_mod (pe_callTy call_int1 rfl T.int (by decide +kernel) (pa_cons (pe_c C__law_draw hr (by first | exact Nat.le_refl _ | decide) rfl (pa_cons (pv 0) (pa_cons pe_int pa_nil))) pa_nil)) (pe_callB (r := Evl.rLenS K) call_len_seq rfl T.len PySem.boot_len (pa_cons (pv 2) pa_nil))) (fun _ _ => rfl)))
    (pss_cons (ps_set (i := 7) nd rfl (by first | exact Or.inl rfl | exact Or.inr rfl) (pe_ix (r := rIxL K) ix_list (pv 2) (pe_op op_mod (pe_callTy call_int1 rfl T.int (by decide +kernel) (pa_cons (pe_c C__law_draw hr (by first | exact Nat.le_refl _ | decide) rfl (pa_cons (pv 0) (pa_cons pe_int pa_nil))) pa_nil)) (pe_callB (r := Evl.rLenS K) call_len_seq rfl T.len PySem.boot_len (pa_cons (pv 2) pa_nil))) (fun _ _ => rfl)))
    (pss_one (ps_if (pt_cmpR (r := rIn K true) op_notIn_seq (pv 6) (pe_lc (own := [("entry", 8)]) rfl nd (show PI _ _ _ (iList K _) from pi_list (pv 5)) (blkOk_by (own := [("entry", 8)]) (N := N__law_object) (sc := defScope s__law_object) (by decide +kernel)) (fun _ _ _ _ _ => (pg_name (i := 8) nd rfl (by first | exact Or.inl rfl | exact Or.inr rfl))) (fun _ _ _ _ _ => pts_nil) (fun _ _ _ _ _ => (pe_ix (r := rIxT K) ix_tup (pv 8) pe_int (fun _ _ => rfl)))) (by first | exact nomark _ | rfl)) (pss_one (ps_expr (pe_bm PySem.F.plainAttrs_list PySem.F.slot_list_append PySem.F.type_list_append mt_append (pv 5) (pa_cons (pe_tup (pa_cons (pv 6) (pa_cons (pv 7) pa_nil))) pa_nil)))) pss_nil)))))
    (pss_one (ps_ret (pe_tup (pa_cons pe_str (pa_cons (pv 1) (pa_cons (pe_callTy (r := rTupZ K) call_tupleZ rfl T.tuple (by decide +kernel) (pa_cons (pv 5) pa_nil)) pa_nil))))))))))), ?_⟩
  obtain ⟨b, d, ds, n, a, ns, rfl, rfl, rfl, hb, hN, q⟩ := h
  refine ⟨_, rfl, _, _, rfl, b, d, ds, 7, rfl, rfl, by decide, hb, fun H1 v x1 b1 v0 v7 => ?_⟩
  have N1 := hN.keep x1
  refine gN ?_
  dsimp only
  show tSeq (tIfS (tOr _ _) _ _) _ _ _ _
  refine or_join (decide (v < 3)) (decide (v > 4) && decide (ns.length = 0)) (fun Q' z => ⟨_, rfl, _, _, rfl, rfl, _, rfl, z⟩) (fun _ Q' z => and_join (decide (v > 4)) (decide (ns.length = 0)) (fun Q' z => ⟨_, rfl, _, _, rfl, rfl, _, rfl, z⟩)
    (fun _ Q' z => ⟨_, rfl, a, _, rfl, .inl N1.1, rfl, _, rfl, by rw [len0]; exact z⟩) z) ?_
  refine ite2 (fun c1 => ?_) (fun c1 => ?_)
  · -- a record
    refine ⟨_, rfl, _, rfl, _, _, rfl, b, d, ds, 4, rfl, rfl, by decide, b1, fun H2 k x2 b2 k0 k4 => ?_⟩
    have N2 := N1.keep x2
    refine ⟨k, rfl, by omega, by omega, fun D hD => ?_⟩
    have nD := b2.ne hD
    refine lcM [b] (walk_range (lo := 0) (n := k.toNat)) hD (fun i acc H' => Bx H' b d ds ∧ ∃ rs : List Rf, acc = rs.map rV ∧ ∀ r ∈ rs, Rf.ok ns r) ⟨b2.new hD, [], rfl, by simp⟩ (fun _ _ => trivial) (fun i x H3 H4 acc hi e h1 h2 hacc y => ?_) (fun H3 acc e h1 h2 hacc => ?_)
    · obtain ⟨rfl, rfl⟩ := y
      obtain ⟨b3, rs, rfl, hrs⟩ := hacc
      refine ⟨rfl, tyes ⟨_, rfl, _, rfl, _, _, rfl, b, d, ds, a, ns, rfl, rfl, b3, N2.keep e, fun H5 r x5 b5 hr => ?_⟩⟩
      refine LcP.yes hD nD (by omega) e h1 h2 x5 ⟨b5.put b2 hD, rs ++ [r], by rw [List.map_append]; rfl, fun r' hr' => ?_⟩
      rcases List.mem_append.mp hr' with z | z
      · exact hrs r' z
      · have : r' = r := by simpa using z
        rw [this]; exact hr
    · obtain ⟨b3, rs, rfl, hrs⟩ := hacc
      refine ⟨D, _, rfl, SqL.of h1, fun t zt ft nt => ⟨sz (by show 3 ≤ 100000; decide), fun p fp => ?_⟩⟩
      have np : p ≠ t := fun z => by rw [z, upd_same] at fp; cases fp
      have x3 : ExM [b] H (upd (upd H3 t (.frz zt (.tup (rs.map rV)))) p (.tup [.str "record", .int n, .ref t])) := ((x1.trans x2).trans e).trans ((ExM.new ft).trans (ExM.new fp))
      refine q _ p (.rcd n rs) x3 ((b3.new ft).new fp) ⟨t, SqT.of upd_same, SqZ.of nt (by rw [upd_ne np.symm]; exact upd_same)⟩ rfl ⟨?_, hrs⟩
      rw [List.length_map] at h2
      omega
  have c1' : ¬ v < 3 ∧ (v > 4 → ns.length ≠ 0) := by
    have c2 := Bool.eq_false_iff.mpr c1
    rw [Bool.or_eq_false_iff] at c2
    refine ⟨of_decide_eq_false c2.1, fun hv z => ?_⟩
    have := c2.2
    rw [decide_eq_true hv, decide_eq_true z] at this
    cases this
  refine ⟨_, rfl, _, _, rfl, rfl, _, rfl, ite2 (fun c2 => ?_) (fun c2 => ?_)⟩
  · -- a weak reference
    refine ⟨_, rfl, _, rfl, _, rfl, _, _, rfl, b, d, ds, a, ns, rfl, rfl, b1, N1, fun H2 r x2 b2 hr => ?_⟩
    refine ⟨sz (by show 3 ≤ 100000; decide), fun p fp => ?_⟩
    exact q _ p (.weak n r) ((x1.trans x2).trans (ExM.new fp)) (b2.new fp) (SqT.of upd_same) rfl hr
  -- a table
  have c2' : ¬ v < 5 := of_decide_eq_false (Bool.eq_false_iff.mpr c2)
  have hne : 0 < ns.length := by have := c1'.2 (by omega); omega
  refine ⟨Nat.zero_le _, fun l fl => ?_⟩
  have nl : l ∉ [b] := b1.ne fl
  refine ⟨_, rfl, _, _, rfl, b, d, ds, 4, rfl, rfl, by decide, b1.new fl, fun H2 k x2 b2 k0 k4 => ?_⟩
  have hl2 : H2 l = some (.lst []) := x2 l _ nl upd_same
  have e2 : ExM [b] H1 H2 := (ExM.new fl).trans x2
  refine ⟨k, rfl, by omega, by omega, ?_⟩
  refine for_range (lo := 0) (n := k.toNat) (fun t σ3 H3 => ∃ u4 u6 u7, σ3 = [some (.ref b), some (.int n), some (.ref a), some (.int v), u4, some (.ref l), u6, u7, none] ∧ ExM [b] H1 H3 ∧ Bx H3 b d ds ∧
      ∃ (rs : List Addr) (es : List (Int × Int)), H3 l = some (.lst (rs.map V.ref)) ∧ Paired (PairAt K H3) rs es ∧ es.length ≤ t ∧ (es.map (·.1)).Nodup ∧ ∀ e ∈ es, e.1 ∈ ns ∧ e.2 ∈ ns)
    ⟨none, none, none, rfl, e2, b2, [], [], hl2, .nil, Nat.le_refl _, List.nodup_nil, by simp⟩ (fun t σ3 H3 ht p => ?_) (fun σ3 H3 p => ?_)
  · obtain ⟨u4, u6, u7, rfl, e3, b3, rs, es, hl, hp, hz, hnd, hin⟩ := p
    have N3 := N1.keep e3
    refine ⟨_, rfl, _, rfl, _, _, rfl, b, d, ds, 1000, rfl, rfl, by decide, b3, fun H4 u x4 b4 u0 u1 => .inl ⟨_, rfl, ?_⟩⟩
    have N4 := N3.keep x4
    refine ⟨_, rfl, a, _, rfl, .inl N4.1, _, _, rfl, rfl, by rw [List.length_map]; omega, pick_ok N4.1 hne u fun key hkey => ?_⟩
    refine ⟨_, rfl, _, rfl, _, _, rfl, b, d, ds, 1000, rfl, rfl, by decide, b4, fun H5 u' x5 b5 u0' u1' => .inl ⟨_, rfl, ?_⟩⟩
    have N5 := N4.keep x5
    refine ⟨_, rfl, a, _, rfl, .inl N5.1, _, _, rfl, rfl, by rw [List.length_map]; omega, pick_ok N5.1 hne u' fun val hval => ?_⟩
    have x35 := x4.trans x5
    have hl5 : H5 l = some (.lst (rs.map V.ref)) := x35 l _ nl hl
    have hp5 : Paired (PairAt K H5) rs es := pmp hp fun _ _ z => PairAt.mono (b3.tk x35) z
    have e5 : ExM [b] H1 H5 := e3.trans x35
    have hlen := plen hp
    refine ⟨_, rfl, _, rfl, l, rfl, ⟨_, SqL.of hl5⟩, fun D hD => ?_⟩
    refine lcM [] (walk_list (xs := rs.map V.ref)) hD (fun i acc _ => acc = ((es.take i).map (·.1)).map V.int) rfl (fun H' e => SqL.of (ExA.at e hl5)) (fun i x H6 H7 acc hi e h1 h2 hacc y => ?_) (fun H6 acc e h1 h2 hacc => ?_)
    · obtain ⟨rfl, hx⟩ := y
      rw [List.length_map] at hi
      obtain ⟨r1, hr⟩ : ∃ r1, rs[i]? = some r1 := ⟨_, List.getElem?_eq_getElem hi⟩
      rw [List.getElem?_map, hr] at hx
      obtain rfl : V.ref r1 = x := Option.some.inj hx
      obtain ⟨e1, he1, hpa⟩ := pget hp5 hr
      refine ⟨rfl, tyes ⟨_, rfl, r1, _, _, _, rfl, rfl, Tk.all e _ _ hpa, at0, LcP.yes hD (by simp) (by omega) e h1 h2 (ExM.refl _ _) ?_⟩⟩
      rw [hacc, take_snoc he1, List.map_append, List.map_append]; rfl
    · rw [List.length_map, hlen, List.take_length] at hacc
      subst hacc
      refine ⟨D, _, rfl, .inl (SqL.of h1), rfl, flat_ints _, _, rfl, ?_⟩
      rw [if_pos rfl, inV_int]
      have hl6 := ExA.at e hl5
      have b6 := b5.keep e
      have hp6 : Paired (PairAt K H6) rs es := pmp hp5 fun _ _ z => PairAt.mono (Tk.all e) z
      have e6 : ExM [b] H1 H6 := e5.trans (ExM.of e)
      by_cases m : key ∈ es.map (·.1)
      · rw [decide_eq_true m]
        exact iteF ⟨_, _, _, rfl, e6, b6, rs, es, hl6, hp6, by omega, hnd, hin⟩
      · rw [decide_eq_false m]
        refine iteT ⟨_, rfl, .inl ⟨rfl, _, SqL.of hl6⟩, _, rfl, _, rfl, sz (by show 2 ≤ 100000; decide), fun r2 fr => ?_⟩
        have nr : l ≠ r2 := ne_of_none hl6 fr
        have hl7 : (upd H6 r2 (.tup [V.int key, V.int val])) l = some (.lst (rs.map V.ref)) := by rw [upd_ne nr]; exact hl6
        have hp7 : Paired (PairAt K (upd H6 r2 (.tup [V.int key, V.int val]))) (rs ++ [r2]) (es ++ [(key, val)]) := by
          have hq : Paired (PairAt K (upd H6 r2 (.tup [V.int key, V.int val]))) rs es := pmp hp6 fun _ _ z => PairAt.mono (Tk.new fr) z
          have hr : PairAt K (upd H6 r2 (.tup [V.int key, V.int val])) r2 (key, val) := SqT.of upd_same
          exact psnoc hr hq
        have zl : (rs.map V.ref).length < sizeLine := szl (by rw [List.length_map]; omega)
        refine ⟨l, _, _, rfl, rfl, hl7, zl, _, _, _, rfl, (e6.trans (ExM.new fr)).put fl, (b6.new fr).put b1 fl, rs ++ [r2], es ++ [(key, val)], ?_, ?_, ?_, ?_, ?_⟩
        · rw [upd_same, List.map_append]; rfl
        · exact pmp hp7 fun _ _ z => PairAt.mono (Tk.lst hl7) z
        · rw [List.length_append, List.length_singleton]; omega
        · rw [List.map_append]
          exact List.nodup_append.mpr ⟨hnd, by simp, fun x hx y hy z => m (by have : y = key := by simpa using hy
                                                                              rw [← this, ← z]; exact hx)⟩
        · intro e' he'
          rcases List.mem_append.mp he' with z | z
          · exact hin e' z
          · have : e' = (key, val) := by simpa using z
            rw [this]; exact ⟨hkey, hval⟩
  · obtain ⟨u4, u6, u7, rfl, e3, b3, rs, es, hl, hp, hz, hnd, hin⟩ := p
    refine ⟨_, rfl, _, rfl, l, _, rfl, SqL.of hl, fun t zt ft nt => ⟨sz (by show 3 ≤ 100000; decide), fun p fp => ?_⟩⟩
    have np : p ≠ t := fun z => by rw [z, upd_same] at fp; cases fp
    have tt : Tk K H3 (upd (upd H3 t (.frz zt (.tup (rs.map V.ref)))) p (.tup [.str "table", .int n, .ref t])) := Tk.trans (Tk.new ft) (Tk.new fp)
    refine q _ p (.tab n es) ((x1.trans e3).trans ((ExM.new ft).trans (ExM.new fp))) ((b3.new ft).new fp) ⟨t, rs, SqT.of upd_same, SqZ.of nt (by rw [upd_ne np.symm]; exact upd_same), pmp hp fun _ _ z => PairAt.mono tt z⟩ rfl ⟨by omega, hnd, hin⟩
end
end Wc
namespace Wc
open PySem L2
section
variable {P : Program} {w : World} {K : PySem.W.Frag} {mg : Str → Option Value} {base : Heap}
theorem ok__law_heap {f : Addr} {fd : FuncData} {cd : Value} (F : Df K "_law_heap" s__law_heap f fd cd) (T : Txt mg) (C__law_draw : Cal P w K mg base 1 "_law_draw" (sp__law_draw K) []) (C__law_number : Cal P w K mg base 2 "_law_number" (sp__law_number K) []) (C__law_object : Cal P w K mg base 3 "_law_object" (sp__law_object K) []) : FnOk P w K mg base CX0 4 f fd ["box", "most"] (sp__law_heap K) := by
  have nd := sc__law_heap.nd
  refine F.ok sc__law_heap (fun vs H Q E h => ?_) (fun A outer s H vs Q E hr h => ?_)
  · obtain ⟨_, _, rfl, _⟩ := h; rfl
  have hu := hu_of hr
  obtain ⟨x0, x1, rfl, h⟩ := h
  refine ⟨_, (pss_cons (ps_set (i := 2) nd rfl (by first | exact Or.inl rfl | exact Or.inr rfl) (pe_c C__law_draw hr (by first | exact Nat.le_refl _ | decide) rfl (pa_cons (pv 0) (pa_cons (pe_op op_add (pv 1) pe_int) pa_nil))))
    (pss_cons (ps_set (i := 3) nd rfl (by first | exact Or.inl rfl | exact Or.inr rfl) (pe_lst pa_nil))
    (pss_cons (ps_set (i := 4) nd rfl (by first | exact Or.inl rfl | exact Or.inr rfl) pe_int)
    (pss_cons (ps_for PassesOwn.never rfl (pi_range1 rfl T.range (pa_cons (pv 2) pa_nil)) (pg_name (i := 5) nd rfl (by first | exact Or.inl rfl | exact Or.inr rfl))
    (pss_cons (ps_set (i := 4) nd rfl (by first | exact Or.inl rfl | exact Or.inr rfl) (pe_op op_add (pv 4) (pe_ix (r := rIxL K) ix_list (pe_lst (pa_cons pe_int (pa_cons pe_int (pa_cons pe_int (pa_cons pe_int pa_nil))))) (pe_c C__law_draw hr (by first | exact Nat.le_refl _ | decide) rfl (pa_cons (pv 0) (pa_cons pe_int pa_nil))) (fun _ _ => rfl))))
    (pss_cons (ps_expr (pe_bm PySem.F.plainAttrs_list PySem.F.slot_list_append PySem.F.type_list_append mt_append (pv 3) (pa_cons (pv 4) pa_nil)))
    (pss_one (ps_set (i := 4) nd rfl (by first | exact Or.inl rfl | exact Or.inr rfl) (pe_op op_add (pv 4) pe_int))))))
    (pss_cons (ps_set (i := 6) nd rfl (by first | exact Or.inl rfl | exact Or.inr rfl) (pe_callTy (r := rTupZ K) call_tupleZ rfl T.tuple (by decide +kernel) (pa_cons (pe_lc (own := [("number", 7)]) rfl nd (show PI _ _ _ (iList K _) from pi_list (pv 3)) (blkOk_by (own := [("number", 7)]) (N := N__law_heap) (sc := defScope s__law_heap) (by decide +kernel)) (fun _ _ _ _ _ => (pg_name (i := 7) nd rfl (by first | exact Or.inl rfl | exact Or.inr rfl))) (fun _ _ _ _ _ => pts_nil) (fun _ _ _ _ _ => (pe_c C__law_object hr (by first | exact Nat.le_refl _ | decide) rfl (pa_cons (pv 0) (pa_cons (pv 7) (pa_cons (pv 3) pa_nil)))))) pa_nil)))
    (pss_cons (ps_set (i := 8) nd rfl (by first | exact Or.inl rfl | exact Or.inr rfl) (pe_callTy (r := rTupZ K) call_tupleZ rfl T.tuple (by decide +kernel) (pa_cons (pe_lc (own := [("k", 5)]) rfl nd (pi_range1 rfl T.range (pa_cons (pe_op op_add pe_int (pe_c C__law_draw hr (by first | exact Nat.le_refl _ | decide) rfl (pa_cons (pv 0) (pa_cons pe_int pa_nil)))) pa_nil)) (blkOk_by (own := [("k", 5)]) (N := N__law_heap) (sc := defScope s__law_heap) (by decide +kernel)) (fun _ _ _ _ _ => (pg_name (i := 5) nd rfl (by first | exact Or.inl rfl | exact Or.inr rfl))) (fun _ _ _ _ _ => pts_nil) (fun _ _ _ _ _ => (pe_c C__law_number hr (by first | exact Nat.le_refl _ | decide) rfl (pa_cons (pv 0) (pa_cons (pv 3) pa_nil))))) pa_nil)))
    (pss_cons (ps_set (i := 9) nd rfl (by first | exact Or.inl rfl | exact Or.inr rfl) (pe_callTy (r := rTupZ K) call_tupleZ rfl T.tuple (by decide +kernel) (pa_cons (pe_lc (own := [("number", 7)]) rfl nd (show PI _ _ _ (iList K _) from pi_list (pv 3)) (blkOk_by (own := [("number", 7)]) (N := N__law_heap) (sc := defScope s__law_heap) (by decide +kernel)) (fun _ _ _ _ _ => (pg_name (i := 7) nd rfl (by first | exact Or.inl rfl | exact Or.inr rfl))) (fun _ _ _ _ _ => (pts_one (pt_cmpR op_eq (pe_c C__law_draw hr (by first | exact Nat.le_refl _ | decide) rfl (pa_cons (pv 0) (pa_cons pe_int pa_nil))) pe_int (nomark _)))) (fun _ _ _ _ _ => (pv 7))) pa_nil)))
    (pss_cons (ps_set (i := 10) nd rfl (by first | exact Or.inl rfl | exact Or.inr rfl) (pe_lst pa_nil))
    (pss_cons (ps_for PassesOwn.never rfl (show PI _ _ _ (iList K _) from pi_list (pv 3)) (pg_name (i := 7) nd rfl (by first | exact Or.inl rfl | exact Or.inr rfl))
    (pss_one (ps_if (pt_cmpR op_eq (pe_c C__law_draw hr (by first | exact Nat.le_refl _ | decide) rfl (pa_cons (pv 0) (pa_cons pe_int pa_nil))) pe_int (nomark _)) (pss_one (ps_expr (pe_bm PySem.F.plainAttrs_list PySem.F.slot_list_append PySem.F.type_list_append mt_append (pv 10) (pa_cons (pe_tup (pa_cons (pv 7) (pa_cons (pe_op op_add pe_int (pe_c C__law_draw hr (by first | exact Nat.le_refl _ | decide) rfl (pa_cons (pv 0) (pa_cons pe_int pa_nil)))) pa_nil))) pa_nil)))) pss_nil)))
    (pss_one (ps_ret (pe_tup (pa_cons pe_str (pa_cons (pe_op op_add (pv 4) (pe_c C__law_draw hr (by first | exact Nat.le_refl _ | decide) rfl (pa_cons (pv 0) (pa_cons pe_int pa_nil)))) (pa_cons (pv 8) (pa_cons (pv 9) (pa_cons (pv 6) (pa_cons (pe_callTy (r := rTupZ K) call_tupleZ rfl T.tuple (by decide +kernel) (pa_cons (pv 10) pa_nil)) pa_nil)))))))))))))))))), ?_⟩
  obtain ⟨b, d, ds, m, rfl, rfl, m0, m49, hb, q⟩ := h
  refine ⟨_, rfl, _, rfl, _, _, rfl, rfl, _, _, rfl, b, d, ds, m + 1, rfl, rfl, by omega, hb, fun H1 many x1 b1 v0 v1 => ?_⟩
  refine ⟨Nat.zero_le _, fun l fl => ?_⟩
  have nl : l ∉ [b] := b1.ne fl
  refine ⟨_, rfl, many, rfl, by omega, by omega, ?_⟩
  refine for_range (lo := 0) (n := many.toNat) (fun t σ2 H2 => ∃ (at_ : Int) (u5 : Option V), σ2 = [some (.ref b), some (.int m), some (.int many), some (.ref l), some (.int at_), u5, none, none, none, none, none] ∧ ExM [b] H1 H2 ∧ Bx H2 b d ds ∧
      ∃ ns : List Int, H2 l = some (.lst (ns.map V.int)) ∧ ns.length = t ∧ ns.Pairwise (· < ·) ∧ (∀ n ∈ ns, 0 ≤ n ∧ n < at_) ∧ 0 ≤ at_ ∧ at_ ≤ 3 * t)
    ⟨0, none, rfl, ExM.new fl, b1.new fl, [], upd_same, rfl, .nil, by simp, Int.le_refl 0, by simp⟩ (fun t σ2 H2 ht p => ?_) (fun σ2 H2 p => ?_)
  · obtain ⟨at_, u5, rfl, e2, b2, ns, hl, hz, hup, hlow, a0, a3⟩ := p
    refine ⟨_, rfl, sz (by show 4 ≤ 100000; decide), fun p fp => ?_⟩
    refine ⟨_, rfl, _, _, rfl, b, d, ds, 4, rfl, rfl, by decide, b2.new fp, fun H3 v x3 b3 v0 v4 => ?_⟩
    have np : p ∉ [b] := b2.ne fp
    obtain ⟨w, hw, w0, w2⟩ : ∃ w : Int, atI [V.int 0, V.int 0, V.int 0, V.int 2] v = some (.int w) ∧ 0 ≤ w ∧ w ≤ 2 := by
      have c : v = 0 ∨ v = 1 ∨ v = 2 ∨ v = 3 := by omega
      rcases c with rfl | rfl | rfl | rfl
      · exact ⟨0, at0, by decide, by decide⟩
      · exact ⟨0, at1, by decide, by decide⟩
      · exact ⟨0, at2, by decide, by decide⟩
      · exact ⟨2, at3, by decide, by decide⟩
    refine ⟨p, _, _, _, rfl, rfl, SqL.of (x3 p _ np upd_same), hw, _, _, rfl, rfl, ?_⟩
    have hl3 : H3 l = some (.lst (ns.map V.int)) := x3 l _ nl (by rw [upd_ne (ne_of_none hl fp)]; exact hl)
    have e3 : ExM [b] H1 H3 := (e2.trans (ExM.new fp)).trans x3
    refine ⟨_, rfl, .inl ⟨rfl, _, SqL.of hl3⟩, _, rfl, l, _, _, rfl, rfl, hl3, szl (by rw [List.length_map]; omega), ?_⟩
    refine ⟨_, rfl, _, _, rfl, rfl, at_ + w + 1, _, rfl, e3.put fl, b3.put b1 fl, ns ++ [at_ + w], ?_, ?_, ?_, ?_, by omega, by omega⟩
    · rw [upd_same, List.map_append]; rfl
    · rw [List.length_append, List.length_singleton, hz]
    · refine List.pairwise_append.mpr ⟨hup, List.pairwise_singleton _ _, fun x hx y hy => ?_⟩
      have : y = at_ + w := by simpa using hy
      have := (hlow x hx).2
      omega
    · intro n hn
      rcases List.mem_append.mp hn with z | z
      · have := hlow n z; omega
      · have : n = at_ + w := by simpa using z
        omega
  obtain ⟨at_, u5, rfl, e2, b2, ns, hl, hz, hup, hlow, a0, a3⟩ := p
  have zn : ns.length ≤ 49 := by omega
  have N2 : Nm K H2 b l ns := ⟨SqL.of hl, nl⟩
  -- the objects
  refine ⟨_, rfl, l, rfl, ⟨_, SqL.of hl⟩, fun D fD => ?_⟩
  have nD : D ∉ [b] := b2.ne fD
  refine lcM [b] (walk_list (xs := ns.map V.int)) fD (fun i acc H' => Bx H' b d ds ∧ ∃ (os : List Addr) (obs : List Ob), acc = os.map V.ref ∧ Paired (ObAt K H') os obs ∧ obs.map Ob.num = ns.take i ∧ ∀ o ∈ obs, o.ok ns)
    ⟨b2.new fD, [], [], rfl, .nil, rfl, by simp⟩ (fun H' e => (N2.keep e).1) (fun i x H3 H4 acc hi e h1 h2 hacc y => ?_) (fun H3 acc e h1 h2 hacc => ?_)
  · obtain ⟨rfl, hx⟩ := y
    rw [List.length_map] at hi
    obtain ⟨n, hn⟩ : ∃ n, ns[i]? = some n := ⟨_, List.getElem?_eq_getElem hi⟩
    rw [List.getElem?_map, hn] at hx
    obtain rfl : V.int n = x := Option.some.inj hx
    obtain ⟨b3, os, obs, rfl, hp, hnum, hok⟩ := hacc
    refine ⟨rfl, tyes ⟨_, rfl, _, rfl, _, rfl, _, _, _, rfl, b, d, ds, n, l, ns, rfl, rfl, rfl, b3, N2.keep e, fun H5 p o x5 b5 ho hon hok5 => ?_⟩⟩
    refine LcP.yes fD nD (by omega) e h1 h2 x5 ⟨b5.put b2 fD, os ++ [p], obs ++ [o], by rw [List.map_append]; rfl, ?_, ?_, ?_⟩
    · have t5 : Tk K H4 (upd H5 D (.lst (os.map V.ref ++ [V.ref p]))) := Tk.trans (b3.tk x5) (Tk.lst (x5 D _ nD h1))
      have hq : Paired (ObAt K (upd H5 D (.lst (os.map V.ref ++ [V.ref p])))) os obs := pmp hp fun _ _ z => ObAt.mono t5 z
      have hr : ObAt K (upd H5 D (.lst (os.map V.ref ++ [V.ref p]))) p o := ObAt.mono (Tk.lst (x5 D _ nD h1)) ho
      exact psnoc hr hq
    · rw [List.map_append, hnum, take_snoc hn, ← hon]; rfl
    · intro o' ho'
      rcases List.mem_append.mp ho' with z | z
      · exact hok o' z
      · have : o' = o := by simpa using z
        rw [this]; exact hok5
  obtain ⟨b3, os, obs, rfl, hobs, hnum, hok⟩ := hacc
  rw [List.length_map, List.take_length] at hnum
  refine ⟨D, _, rfl, SqL.of h1, fun o zo fo no => ?_⟩
  have x4 : ExM [b] H2 (upd H3 o (.frz zo (.tup (os.map V.ref)))) := e.trans (ExM.new fo)
  have b4 : Bx (upd H3 o (.frz zo (.tup (os.map V.ref)))) b d ds := b3.new fo
  have ho4 : SqT K (upd H3 o (.frz zo (.tup (os.map V.ref)))) o (os.map V.ref) := (SqZ.of no upd_same).sq
  have hobs4 : Paired (ObAt K (upd H3 o (.frz zo (.tup (os.map V.ref))))) os obs := pmp hobs fun _ _ z => ObAt.mono (Tk.new fo) z
  generalize upd H3 o (.frz zo (.tup (os.map V.ref))) = H4 at x4 b4 ho4 hobs4 ⊢
  have N4 := N2.keep x4
  -- the registers
  refine ⟨_, rfl, _, _, rfl, b, d, ds, 3, rfl, rfl, by decide, b4, fun H5 k x5 b5 k0 k3 => ?_⟩
  have N5 := N4.keep x5
  refine ⟨_, _, rfl, rfl, 1 + k, rfl, by omega, by omega, fun D2 fD2 => ?_⟩
  have nD2 : D2 ∉ [b] := b5.ne fD2
  refine lcM [b] (walk_range (lo := 0) (n := (1 + k).toNat)) fD2 (fun i acc H' => Bx H' b d ds ∧ ∃ rs : List Rf, acc = rs.map rV ∧ rs.length = i ∧ ∀ r ∈ rs, Rf.ok ns r) ⟨b5.new fD2, [], rfl, rfl, by simp⟩ (fun _ _ => trivial) (fun i x H6 H7 acc hi e h1 h2 hacc y => ?_) (fun H6 acc e6 h1 h2 hacc => ?_)
  · obtain ⟨rfl, rfl⟩ := y
    obtain ⟨b6, rs, rfl, hrl, hrs⟩ := hacc
    refine ⟨rfl, tyes ⟨_, rfl, _, rfl, _, _, rfl, b, d, ds, l, ns, rfl, rfl, b6, N5.keep e, fun H8 r x8 b8 hr => ?_⟩⟩
    refine LcP.yes fD2 nD2 (by omega) e h1 h2 x8 ⟨b8.put b5 fD2, rs ++ [r], by rw [List.map_append]; rfl, by rw [List.length_append, List.length_singleton, hrl], fun r' hr' => ?_⟩
    rcases List.mem_append.mp hr' with z | z
    · exact hrs r' z
    · have : r' = r := by simpa using z
      rw [this]; exact hr
  obtain ⟨b6, rs, rfl, hrl, hrs⟩ := hacc
  refine ⟨D2, _, rfl, SqL.of h1, fun r zr fr nr => ?_⟩
  have x7 : ExM [b] H4 (upd H6 r (.frz zr (.tup (rs.map rV)))) := (x5.trans e6).trans (ExM.new fr)
  have b7 : Bx (upd H6 r (.frz zr (.tup (rs.map rV)))) b d ds := b6.new fr
  have hr7 : SqZ (upd H6 r (.frz zr (.tup (rs.map rV)))) r (rs.map rV) := SqZ.of nr upd_same
  generalize upd H6 r (.frz zr (.tup (rs.map rV))) = H7 at x7 b7 hr7 ⊢
  have N7 := N4.keep x7
  -- what is kept
  refine ⟨_, rfl, l, rfl, ⟨_, N7.1⟩, fun D3 fD3 => ?_⟩
  have nD3 : D3 ∉ [b] := b7.ne fD3
  refine lcM [b] (walk_list (xs := ns.map V.int)) fD3 (fun i acc H' => Bx H' b d ds ∧ ∃ ms : List Int, acc = ms.map V.int ∧ ms.Sublist (ns.take i)) ⟨b7.new fD3, [], rfl, by simp⟩ (fun H' e => (N7.keep e).1) (fun i x H8 H9 acc hi e h1 h2 hacc y => ?_) (fun H8 acc e8 h1 h2 hacc => ?_)
  · obtain ⟨rfl, hx⟩ := y
    rw [List.length_map] at hi
    obtain ⟨n, hn⟩ : ∃ n, ns[i]? = some n := ⟨_, List.getElem?_eq_getElem hi⟩
    rw [List.getElem?_map, hn] at hx
    obtain rfl : V.int n = x := Option.some.inj hx
    obtain ⟨b8, ms, rfl, hms⟩ := hacc
    refine ⟨rfl, _, rfl, _, _, rfl, b, d, ds, 6, rfl, rfl, by decide, b8, fun Ha v xa ba v0 v2 => ⟨rfl, _, rfl, ite2 (fun _ => ?_) (fun _ => ?_)⟩⟩
    · refine ⟨_, rfl, LcP.yes fD3 nD3 (by omega) e h1 h2 xa ⟨ba.put b7 fD3, ms ++ [n], by rw [List.map_append]; rfl, ?_⟩⟩
      rw [take_snoc hn]; exact hms.append (List.Sublist.refl _)
    · refine LcP.no nD3 e h1 h2 xa ⟨ba, ms, rfl, ?_⟩
      rw [take_snoc hn]; exact hms.trans (List.sublist_append_left _ _)
  obtain ⟨b8, ks, rfl, hks⟩ := hacc
  rw [List.length_map, List.take_length] at hks
  refine ⟨D3, _, rfl, SqL.of h1, fun kp zk fk nk => ?_⟩
  have x9 : ExM [b] H7 (upd H8 kp (.frz zk (.tup (ks.map V.int)))) := e8.trans (ExM.new fk)
  have b9 : Bx (upd H8 kp (.frz zk (.tup (ks.map V.int)))) b d ds := b8.new fk
  have hk9 : SqT K (upd H8 kp (.frz zk (.tup (ks.map V.int)))) kp (ks.map V.int) := (SqZ.of nk upd_same).sq
  generalize upd H8 kp (.frz zk (.tup (ks.map V.int))) = H9 at x9 b9 hk9 ⊢
  have N9 := N7.keep x9
  -- the watches
  refine ⟨Nat.zero_le _, fun lw flw => ?_⟩
  have nlw : lw ∉ [b] := b9.ne flw
  have N9' : Nm K (upd H9 lw (.lst [])) b l ns := N9.keep (ExM.new flw)
  refine ⟨_, rfl, l, rfl, ⟨_, N9'.1⟩, ?_⟩
  refine for_it (walk_list (xs := ns.map V.int)) (fun i σa Ha => ∃ u7 : Option V, σa = [some (.ref b), some (.int m), some (.int many), some (.ref l), some (.int at_), u5, some (.ref o), u7, some (.ref r), some (.ref kp), some (.ref lw)] ∧ ExM [b] H9 Ha ∧ Bx Ha b d ds ∧
      ∃ (rs : List Addr) (es : List (Int × Int)), Ha lw = some (.lst (rs.map V.ref)) ∧ Paired (PairAt K Ha) rs es ∧ es.length ≤ i ∧ ∀ e ∈ es, e.1 ∈ ns ∧ 0 ≤ e.2 ∧ e.2 ≤ 999)
    ⟨none, rfl, ExM.new flw, b9.new flw, [], [], upd_same, .nil, Nat.le_refl _, by simp⟩ (fun i σa Ha _ p => p.elim fun _ z => (N9.keep z.2.1).1) (fun i x σa Ha Hb hi p y => ?_) (fun σa Ha p => ?_)
  · obtain ⟨rfl, hx⟩ := y
    obtain ⟨u7, rfl, ea, ba, rs', es, hw, hp, hz, hin⟩ := p
    rw [List.length_map] at hi
    obtain ⟨n, hn⟩ : ∃ n, ns[i]? = some n := ⟨_, List.getElem?_eq_getElem hi⟩
    rw [List.getElem?_map, hn] at hx
    obtain rfl : V.int n = x := Option.some.inj hx
    refine ⟨_, rfl, _, _, rfl, b, d, ds, 3, rfl, rfl, by decide, ba, fun Hc v xc bc v0 v3 => ⟨rfl, _, rfl, ite2 (fun _ => ?_) (fun _ => ?_)⟩⟩
    · have hwc := xc lw _ nlw hw
      refine ⟨_, rfl, .inl ⟨rfl, _, SqL.of hwc⟩, _, rfl, _, rfl, _, _, rfl, b, d, ds, 2, rfl, rfl, by decide, bc, fun Hd v' xd bd v0' v2' => ?_⟩
      have hwd := xd lw _ nlw hwc
      refine ⟨_, _, rfl, rfl, sz (by show 2 ≤ 100000; decide), fun r2 fr2 => ?_⟩
      have nr : lw ≠ r2 := ne_of_none hwd fr2
      have hwe : (upd Hd r2 (.tup [V.int n, V.int (7 + v')])) lw = some (.lst (rs'.map V.ref)) := by rw [upd_ne nr]; exact hwd
      have tt : Tk K Hb (upd Hd r2 (.tup [V.int n, V.int (7 + v')])) := Tk.trans (ba.tk (xc.trans xd)) (Tk.new fr2)
      have hpe : Paired (PairAt K (upd Hd r2 (.tup [V.int n, V.int (7 + v')]))) rs' es := pmp hp fun _ _ z => PairAt.mono tt z
      have hre : PairAt K (upd Hd r2 (.tup [V.int n, V.int (7 + v')])) r2 (n, 7 + v') := SqT.of upd_same
      have hlen := plen hp
      refine ⟨lw, _, _, rfl, rfl, hwe, szl (by rw [List.length_map]; omega), _, rfl, (((ea.trans xc).trans xd).trans (ExM.new fr2)).put flw, (bd.new fr2).put b9 flw, rs' ++ [r2], es ++ [(n, 7 + v')], ?_, ?_, ?_, ?_⟩
      · rw [upd_same, List.map_append]; rfl
      · exact pmp (psnoc hre hpe) fun _ _ z => PairAt.mono (Tk.lst hwe) z
      · rw [List.length_append, List.length_singleton]; omega
      · intro e' he'
        rcases List.mem_append.mp he' with z | z
        · exact hin e' z
        · have : e' = (n, 7 + v') := by simpa using z
          rw [this]; exact ⟨List.mem_of_getElem? hn, by show 0 ≤ 7 + v'; omega, by show 7 + v' ≤ 999; omega⟩
    · exact ⟨_, rfl, ea.trans xc, bc, rs', es, xc lw _ nlw hw, pmp hp fun _ _ z => PairAt.mono (ba.tk xc) z, by omega, hin⟩
  obtain ⟨u7, rfl, ea, ba, ws, es, hw, hp, hz, hin⟩ := p
  rw [List.length_map] at hz
  refine ⟨_, rfl, _, rfl, _, _, rfl, b, d, ds, 2, rfl, rfl, by decide, ba, fun Hb v xb bb v0 v2 => ?_⟩
  have hwb := xb lw _ nlw hw
  refine ⟨_, _, rfl, rfl, _, rfl, _, rfl, _, rfl, _, rfl, lw, _, rfl, SqL.of hwb, fun t zt ft nt => ⟨sz (by show 6 ≤ 100000; decide), fun p fp => ?_⟩⟩
  have np : p ≠ t := fun z => by rw [z, upd_same] at fp; cases fp
  have xz : ExM [b] Hb (upd (upd Hb t (.frz zt (.tup (ws.map V.ref)))) p (.tup [.str "heap", .int (at_ + v), .ref r, .ref kp, .ref o, .ref t])) := (ExM.new ft).trans (ExM.new fp)
  have tz := Tk.trans (K := K) (ba.tk xb) (bb.tk xz)
  have t9 := Tk.trans (b9.tk ea) tz
  have t7 := Tk.trans (b7.tk x9) t9
  have t4 := Tk.trans (b4.tk x7) t7
  refine q _ p ⟨at_ + v, rs, ks, obs, es⟩ (((((((x1.trans e2).trans x4).trans x7).trans x9).trans ea).trans xb).trans xz) ((bb.new ft).new fp) ?_ ?_ ?_
  · refine ⟨r, kp, o, t, ws, SqT.of upd_same, hr7.mono t7, t9 _ _ hk9, ⟨os, t4 _ _ ho4, pmp hobs4 fun _ _ z => ObAt.mono t4 z⟩, (SqZ.of nt (by rw [upd_ne np.symm]; exact upd_same)).sq, pmp hp fun _ _ z => PairAt.mono tz z⟩
  · have hnn : (⟨at_ + v, rs, ks, obs, es⟩ : Wc.Hd).nums = ns := hnum
    have hol : obs.length = ns.length := by rw [← hnum, List.length_map]
    refine ⟨by rw [hnn]; exact hup, by show obs.length ≤ 50; omega, by show rs.length ≤ 1000; omega, by rw [hnn]; exact hrs, by rw [hnn]; exact hok, by rw [hnn]; exact fun i hi => hks.subset hi, by rw [hnn]; exact fun e he => (hin e he).1, ?_, ?_, ?_, fun e he => (hin e he).2, by show es.length ≤ 50; omega, ?_⟩
    · rw [hnn]; intro n hn; have := hlow n hn; show 0 ≤ n ∧ n < at_ + v; omega
    · show 0 ≤ at_ + v ∧ at_ + v ≤ 999; omega
    · exact hup.sublist hks
    · intro z
      have z' : rs = [] := z
      rw [z'] at hrl
      have : (0 : Nat) = (1 + k).toNat := hrl
      omega
  · have hol : obs.length = ns.length := by rw [← hnum, List.length_map]
    show ((obs.length : Nat) : Int) ≤ m
    omega
end
end Wc
namespace Wc
open PySem L2
section
variable (K : PySem.W.Frag)
def R__law_follows : V3 := fun x y z H Q => ∃ (a : Addr) (o : Ob) (g : Addr) (gs : List Int) (c : Addr) (cs : List Int), x = .ref a ∧ y = .ref g ∧ z = .ref c ∧ ObAt K H a o ∧ o.small ∧ SqL K H g (gs.map V.int) ∧
  (SqL K H c (cs.map V.int) ∨ SqT K H c (cs.map V.int)) ∧ NewL (ledTo o gs cs) H Q
abbrev sp__law_follows : Sp := sp3 (R__law_follows K)
def R__law_obtainable : V2 := fun x y H Q => ∃ (a : Addr) (h : Hd) (c : Addr) (cs : List Int), x = .ref a ∧ y = .ref c ∧ HeapAt K H a h ∧ h.Ok ∧ (SqL K H c (cs.map V.int) ∨ SqT K H c (cs.map V.int)) ∧
  ∀ ns, UpSet ns (Obt h cs) → NewL ns H Q
abbrev sp__law_obtainable : Sp := sp2 (R__law_obtainable K)
def R_same (n : Nat) : V2 := fun x y H Q => ∃ d : Dt, Is K H d x ∧ Is K H d y ∧ d.dep < n ∧ d.thin ∧ Q (.bl true) H
abbrev sp__law_same : Sp := sp2 (R_same K 9)
end
theorem ledTo_len {o : Ob} {gs cs : List Int} (sm : o.small) : (ledTo o gs cs).length ≤ 1000 := by
  cases o with
  | rcd n fs => exact Nat.le_trans (List.length_filterMap_le _ _) sm
  | weak n t =>
    cases t with
    | none => exact Nat.zero_le _
    | some i =>
      show (if i ∈ cs then [] else [i]).length ≤ 1000
      split <;> simp
  | tab n es =>
    show ((es.filter fun e => decide (e.1 ∈ gs)).map (·.2)).length ≤ 1000
    rw [List.length_map]
    exact Nat.le_trans (List.length_filter_le _ _) sm
/-! ### the law's own walk: closed behind as many turns as there are objects, and one more -/
def Shut (h : Hd) (cs G : List Int) : Prop := ∀ o ∈ h.obs, o.num ∈ G → ∀ n, o.fol cs (· ∈ G) n → n ∈ G
def cnt (h : Hd) (G : List Int) : Nat := (h.nums.filter fun n => decide (n ∈ G)).length
theorem filter_lt {l : List Int} {p q : Int → Bool} (s : ∀ n, p n = true → q n = true) {x : Int} (hx : x ∈ l) (h1 : p x = false) (h2 : q x = true) : (l.filter p).length < (l.filter q).length := by
  have le : ∀ l : List Int, (l.filter p).length ≤ (l.filter q).length := by
    intro l
    induction l with
    | nil => exact Nat.le_refl _
    | cons y r ih =>
      rw [List.filter_cons, List.filter_cons]
      cases hp : p y with
      | true =>
        rw [s y hp]
        simp only [if_true, List.length_cons]
        omega
      | false =>
        simp only [Bool.false_eq_true, if_false]
        split
        · rw [List.length_cons]; omega
        · exact ih
  induction l with
  | nil => cases hx
  | cons y r ih =>
    rw [List.filter_cons, List.filter_cons]
    rcases List.mem_cons.mp hx with rfl | hx
    · rw [h1, h2]
      simp only [Bool.false_eq_true, if_false, if_true, List.length_cons]
      have := le r
      omega
    · have := ih hx
      cases hp : p y with
      | true =>
        rw [s y hp]
        simp only [if_true, List.length_cons]
        omega
      | false =>
        simp only [Bool.false_eq_true, if_false]
        split
        · rw [List.length_cons]; omega
        · exact this
theorem cnt_lt {h : Hd} {G G' : List Int} (s : ∀ n ∈ G, n ∈ G') {n : Int} (hn : n ∈ h.nums) (h1 : n ∉ G) (h2 : n ∈ G') : cnt h G < cnt h G' :=
  filter_lt (fun m z => decide_eq_true (s m (of_decide_eq_true z))) hn (decide_eq_false h1) (decide_eq_true h2)
theorem cnt_le (h : Hd) (G : List Int) : cnt h G ≤ h.obs.length := by
  unfold cnt
  refine Nat.le_trans (List.length_filter_le _ _) ?_
  unfold Hd.nums
  rw [List.length_map]
  exact Nat.le_refl _
section
variable {P : Program} {w : World} {K : PySem.W.Frag} {mg : Str → Option Value} {base : Heap}
end
end Wc
namespace Wc
open PySem L2
section
variable {P : Program} {w : World} {K : PySem.W.Frag} {mg : Str → Option Value} {base : Heap}
theorem step__law_same {f : Addr} {fd : FuncData} {cd : Value} {n : Nat} (F : Df K "_law_same" s__law_same f fd cd) (T : Txt mg) (C__law_same : Cal P w K mg base n "_law_same" (sp2 (R_same K n)) []) :
    FnOk P w K mg base CX0 (n + 1) f fd ["actual", "expected"] (sp2 (R_same K (n + 1))) := by
  have nd := sc__law_same.nd
  refine F.ok sc__law_same (fun vs H Q E h => ?_) (fun A outer s H vs Q E hr h => ?_)
  · obtain ⟨_, _, rfl, _⟩ := h; rfl
  have hu := hu_of hr
  obtain ⟨x0, x1, rfl, h⟩ := h
  refine ⟨_, (pss_cons (ps_if (pt_val (pe_callB (r := rIsi K) call_isi rfl T.isinstance (by decide +kernel) (pa_cons (pv 1) (pa_cons (pe_bltn (v := .ty "tuple") rfl T.tuple (by decide +kernel) rfl) pa_nil)))) (pss_cons (ps_if (PW.pt (pw_or (pt_not (pt_val (pe_callB (r := rIsi K) call_isi rfl T.isinstance (by decide +kernel) (pa_cons (pv 0) (pa_cons (pe_bltn (v := .ty "tuple") rfl T.tuple (by decide +kernel) rfl) pa_nil))))) (pw_or1 (pt_cmpR op_ne (pe_callB (r := Evl.rLenS K) call_len_seq rfl T.len PySem.boot_len (pa_cons (pv 0) pa_nil)) (pe_callB (r := Evl.rLenS K) call_len_seq rfl T.len PySem.boot_len (pa_cons (pv 1) pa_nil)) (nomark _))))) (pss_one (ps_ret pe_bl)) pss_nil)
    (pss_cons (ps_for PassesOwn.never rfl (pi_range1 rfl T.range (pa_cons (pe_callB (r := Evl.rLenS K) call_len_seq rfl T.len PySem.boot_len (pa_cons (pv 1) pa_nil)) pa_nil)) (pg_name (i := 2) nd rfl (by first | exact Or.inl rfl | exact Or.inr rfl))
    (pss_one (ps_if (pt_not (pt_val (pe_c C__law_same hr (by first | exact Nat.le_refl _ | decide) rfl (pa_cons (pe_ix (r := rIxT K) ix_tup (pv 0) (pv 2) (fun _ _ => rfl)) (pa_cons (pe_ix (r := rIxT K) ix_tup (pv 1) (pv 2) (fun _ _ => rfl)) pa_nil))))) (pss_one (ps_ret pe_bl)) pss_nil)))
    (pss_one (ps_ret pe_bl)))) pss_nil)
    (pss_cons (ps_if (pt_cmpR op_isN (pv 1) pe_non (nomark _)) (pss_one (ps_ret (pe_cmpR op_isN (pv 0) pe_non (nomark _)))) pss_nil)
    (pss_cons (ps_if (pt_val (pe_callB (r := rIsi K) call_isi rfl T.isinstance (by decide +kernel) (pa_cons (pv 1) (pa_cons (pe_bltn (v := .ty "bool") rfl T.bool (by decide +kernel) rfl) pa_nil)))) (pss_one (ps_ret (pe_and (pe_callB (r := rIsi K) call_isi rfl T.isinstance (by decide +kernel) (pa_cons (pv 0) (pa_cons (pe_bltn (v := .ty "bool") rfl T.bool (by decide +kernel) rfl) pa_nil))) (pe_one (pe_cmpR op_eq (pv 0) (pv 1) (nomark _)))))) pss_nil)
    (pss_cons (ps_if (pt_val (pe_callB (r := rIsi K) call_isi rfl T.isinstance (by decide +kernel) (pa_cons (pv 1) (pa_cons (pe_bltn (v := .ty "int") rfl T.int (by decide +kernel) rfl) pa_nil)))) (pss_one (ps_ret (pe_and (pe_callB (r := rIsi K) call_isi rfl T.isinstance (by decide +kernel) (pa_cons (pv 0) (pa_cons (pe_bltn (v := .ty "int") rfl T.int (by decide +kernel) rfl) pa_nil))) (pe_and (pe_not (pe_callB (r := rIsi K) call_isi rfl T.isinstance (by decide +kernel) (pa_cons (pv 0) (pa_cons (pe_bltn (v := .ty "bool") rfl T.bool (by decide +kernel) rfl) pa_nil)))) (pe_one (pe_cmpR op_eq (pv 0) (pv 1) (nomark _))))))) pss_nil)
    (pss_one (ps_ret (pe_and (pe_callB (r := rIsi K) call_isi rfl T.isinstance (by decide +kernel) (pa_cons (pv 0) (pa_cons (pe_bltn (v := .ty "str") rfl T.str (by decide +kernel) rfl) pa_nil))) (pe_one (pe_cmpR op_eq (pv 0) (pv 1) (nomark _))))))))))
    , ?_⟩
  obtain ⟨d, hx, hy, hd, hth, q⟩ := h
  cases d with
  | tup ds =>
    obtain ⟨a, xs, rfl, ha, hxs⟩ := hx
    obtain ⟨b, ys, rfl, hb, hys⟩ := hy
    have lx := hxs.len
    have ly := hys.len
    have zl : ds.length ≤ 100000 := hth.1
    refine ⟨_, rfl, _, _, _, _, true, rfl, .ty "tuple", tyx_tup hb, kit_ty (by decide +kernel), _, rfl, iteT ?_⟩
    refine ⟨_, rfl, _, _, _, _, true, rfl, .ty "tuple", tyx_tup ha, kit_ty (by decide +kernel), _, rfl, iteF ?_⟩
    refine ⟨_, rfl, a, _, rfl, .inr ha, _, rfl, b, _, rfl, .inr hb, rfl, _, rfl, iteNS (by rw [lx, ly]) ?_⟩
    refine ⟨_, rfl, b, _, rfl, .inr hb, _, rfl, by omega, by omega, ?_⟩
    refine for_range (lo := 0) (n := ((ys.length : Nat) : Int).toNat) (fun i σ2 H2 => ∃ u, σ2 = [some (.ref a), some (.ref b), u] ∧ H2 = H) ⟨none, rfl, rfl⟩ (fun i σ2 H2 hi p => ?_) (fun σ2 H2 p => ?_)
    · obtain ⟨u, rfl, rfl⟩ := p
      have hi' : i < ds.length := by omega
      obtain ⟨d', hd'⟩ : ∃ d', ds[i]? = some d' := ⟨_, List.getElem?_eq_getElem hi'⟩
      obtain ⟨x, hx1, hx2⟩ := hxs.get hd'
      obtain ⟨y, hy1, hy2⟩ := hys.get hd'
      have e0 : (0 : Int) + (i : Int) = (i : Int) := Int.zero_add _
      have dd : d'.dep < n := by
        have z1 := dep_get hd'
        have z2 : 1 + Dt.depL ds < n + 1 := hd
        omega
      refine ⟨_, rfl, _, rfl, a, _, _, x, rfl, rfl, ha, by rw [e0]; exact atI_nat hx1, _, rfl, _, rfl, b, _, _, y, rfl, rfl, hb, by rw [e0]; exact atI_nat hy1, ?_⟩
      exact ⟨_, _, rfl, d', hx2, hy2, dd, thin_get hth.2 hd', _, rfl, iteF ⟨_, rfl, rfl⟩⟩
    · obtain ⟨u, rfl, rfl⟩ := p
      exact q
  | non =>
    have hx : x0 = .non := hx
    have hy : x1 = .non := hy
    subst hx hy
    refine ⟨_, rfl, _, _, _, _, false, rfl, .ty "tuple", .base .non, kit_ty (by decide +kernel), _, rfl, iteF ?_⟩
    exact ⟨_, rfl, rfl, _, rfl, iteT ⟨_, rfl, rfl, q⟩⟩
  | bl v =>
    have hx : x0 = .bl v := hx
    have hy : x1 = .bl v := hy
    subst hx hy
    refine ⟨_, rfl, _, _, _, _, false, rfl, .ty "tuple", .base (.bl v), kit_ty (by decide +kernel), _, rfl, iteF ?_⟩
    refine ⟨_, rfl, rfl, _, rfl, iteF ?_⟩
    refine ⟨_, rfl, _, _, _, _, true, rfl, .ty "bool", .base (.bl v), kit_ty (by decide +kernel), _, rfl, iteT ?_⟩
    refine ⟨_, rfl, _, _, _, _, true, rfl, .ty "bool", .base (.bl v), kit_ty (by decide +kernel), _, rfl, iteT ⟨_, rfl, _, rfl, rfl, ?_⟩⟩
    rw [decide_eq_true (rfl : V.bl v = V.bl v)]
    exact q
  | int v =>
    have hx : x0 = .int v := hx
    have hy : x1 = .int v := hy
    subst hx hy
    refine ⟨_, rfl, _, _, _, _, false, rfl, .ty "tuple", .base (.int v), kit_ty (by decide +kernel), _, rfl, iteF ?_⟩
    refine ⟨_, rfl, rfl, _, rfl, iteF ?_⟩
    refine ⟨_, rfl, _, _, _, _, false, rfl, .ty "bool", .base (.int v), kit_ty (by decide +kernel), _, rfl, iteF ?_⟩
    refine ⟨_, rfl, _, _, _, _, true, rfl, .ty "int", .base (.int v), kit_ty (by decide +kernel), _, rfl, iteT ?_⟩
    refine ⟨_, rfl, _, _, _, _, true, rfl, .ty "int", .base (.int v), kit_ty (by decide +kernel), _, rfl, iteT ?_⟩
    refine ⟨_, rfl, _, _, _, _, false, rfl, .ty "bool", .base (.int v), kit_ty (by decide +kernel), _, rfl, _, rfl, iteT ⟨_, rfl, _, rfl, rfl, ?_⟩⟩
    rw [decide_eq_true (rfl : V.int v = V.int v)]
    exact q
  | str v =>
    have hx : x0 = .str v := hx
    have hy : x1 = .str v := hy
    subst hx hy
    refine ⟨_, rfl, _, _, _, _, false, rfl, .ty "tuple", .base (.str v), kit_ty (by decide +kernel), _, rfl, iteF ?_⟩
    refine ⟨_, rfl, rfl, _, rfl, iteF ?_⟩
    refine ⟨_, rfl, _, _, _, _, false, rfl, .ty "bool", .base (.str v), kit_ty (by decide +kernel), _, rfl, iteF ?_⟩
    refine ⟨_, rfl, _, _, _, _, false, rfl, .ty "int", .base (.str v), kit_ty (by decide +kernel), _, rfl, iteF ?_⟩
    refine ⟨_, rfl, _, _, _, _, true, rfl, .ty "str", .base (.str v), kit_ty (by decide +kernel), _, rfl, iteT ⟨_, rfl, _, rfl, rfl, ?_⟩⟩
    rw [decide_eq_true (rfl : V.str v = V.str v)]
    exact q
theorem all__law_same {f : Addr} {fd : FuncData} {cd : Value} (F : Df K "_law_same" s__law_same f fd cd) (T : Txt mg) (b : Binds K fd ["actual", "expected"] []) (m : mg "_law_same" = some (.ref f)) (kp : PySem.W.keepIn K (.ref f) = true) :
    ∀ n, FnOk P w K mg base CX0 n f fd ["actual", "expected"] (sp2 (R_same K n))
  | 0 => by
    have no : ∀ vs H Q E, ¬ sp2 (R_same K 0) vs H Q E := fun vs H Q E h => by
      obtain ⟨_, _, _, d, _, _, hd, _⟩ := h
      omega
    exact ⟨fun vs H Q E h => absurd h (no vs H Q E), fun A outer s H args us vs Q E _ _ _ _ h => absurd h (no vs H Q E)⟩
  | n + 1 => step__law_same F T (Cal.mk0 (all__law_same F T b m kp n) m kp b)
theorem ok__law_same {f : Addr} {fd : FuncData} {cd : Value} (F : Df K "_law_same" s__law_same f fd cd) (T : Txt mg) (b : Binds K fd ["actual", "expected"] []) (m : mg "_law_same" = some (.ref f)) (kp : PySem.W.keepIn K (.ref f) = true) :
    Cal P w K mg base 9 "_law_same" (sp__law_same K) [] := Cal.mk0 (all__law_same F T b m kp 9) m kp b
end
end Wc
namespace Wc
open PySem L2
/-- a dict whose keys are these numbers, also where it is locked -/
def LowAt (H : Hp) (l : Addr) (ls : List Int) : Prop := ∃ kvs, Rd H l (.dK kvs) ∧ kvs.map (·.1) = ls.map Sum.inl
theorem LowAt.get {H : Hp} {l : Addr} {ls : List Int} (h : LowAt H l ls) (n : Int) : ∃ r, DGet H l (.int n) r ∧ r.isSome = decide (n ∈ ls) := by
  obtain ⟨kvs, h1, h2⟩ := h
  exact ⟨_, .inl ⟨kvs, Sum.inl n, h1, rfl, rfl⟩, key_has h2 n⟩
theorem RsAt.at0 {K : PySem.W.Frag} {H : Hp} {a : Addr} {r : Rs} (h : RsAt K H a r) : ∃ t, SqT K H a r.row ∧ atI r.row (0 : Int) = some (.str t) ∧ (t = "register" ∨ t = "field" ∨ t = "entry" ∨ t = "deref") := by
  cases r with
  | reg k => exact ⟨_, h, Wc.at0, .inl rfl⟩
  | fld n k => exact ⟨_, h, Wc.at0, .inr (.inl rfl)⟩
  | ent n k => exact ⟨_, h, Wc.at0, .inr (.inr (.inl rfl))⟩
  | drf n => exact ⟨_, h, Wc.at0, .inr (.inr (.inr rfl))⟩
theorem LowAt.all {H H' : Hp} {l : Addr} {ls : List Int} (h : LowAt H l ls) (e : ExA H H') : LowAt H' l ls := by
  obtain ⟨kvs, h1, h2⟩ := h
  rcases h1 with h1 | ⟨o, h1⟩
  · exact ⟨kvs, .inl (ExA.at e h1), h2⟩
  · exact ⟨kvs, .inr ⟨o, ExA.at e h1⟩, h2⟩
theorem int_eq (i n : Int) : decide (V.int i = V.int n) = decide (i = n) := decide_eq_decide.mpr ⟨V.int.inj, fun e => by rw [e]⟩
theorem rf_eq (t : Rf) (n : Int) : decide (rV t = V.int n) = decide (t = some n) := by
  cases t with
  | none => rfl
  | some i => exact decide_eq_decide.mpr ⟨fun e => by rw [V.int.inj e], fun e => by cases e; rfl⟩
/-- looked up in the dict of rounds -/
theorem RoundsOf.look {h : Hd} {cs : List Int} {G : List (Int × Int)} (r : RoundsOf h cs G) {n : Int} (x : Obt h cs n) : valV (dI G) (Sum.inl n) = some (.int (rnk h cs n : Nat)) := by
  have key : ∀ (L : List (Int × Int)), (∀ q ∈ L, q ∈ G) → n ∈ L.map (·.1) → valV (dI L) (Sum.inl n) = some (.int (rnk h cs n : Nat)) := by
    intro L
    induction L with
    | nil => intro _ z; cases z
    | cons q t ih =>
      intro hs hm
      by_cases e : q.1 = n
      · obtain ⟨k, hk, h1, h2⟩ := r.val q.1 q.2 (hs q List.mem_cons_self)
        show valV ((Sum.inl q.1, V.int q.2) :: dI t) (Sum.inl n) = _
        rw [valV_pos (by show (Sum.inl q.1 : Key) = _; rw [e]), hk]
        have a : Rnk h cs k n := by rw [← e]; exact ⟨h1, h2⟩
        rw [a.eq]
      · show valV ((Sum.inl q.1, V.int q.2) :: dI t) (Sum.inl n) = _
        rw [valV_neg (fun z => e (Sum.inl.inj z))]
        refine ih (fun q' h' => hs q' (List.mem_cons_of_mem _ h')) ?_
        rcases List.mem_cons.mp hm with z | z
        · exact absurd z.symm e
        · exact z
  exact key G (fun _ z => z) ((r.all n).mpr x)
/-- the objects of a rising row of numbers, in their order -/
theorem obs_of {h : Hd} (ok : h.Ok) {ls : List Int} (up : ls.Pairwise (· < ·)) (hin : ∀ m ∈ ls, m ∈ h.nums) : (h.obs.filter fun o => decide (o.num ∈ ls)).map Ob.num = ls := by
  refine up_same ?_ up fun m => ?_
  · have q := ok.up
    unfold Hd.nums at q
    rw [List.pairwise_map] at q ⊢
    exact q.sublist List.filter_sublist
  · rw [List.mem_map]
    constructor
    · rintro ⟨o, h1, rfl⟩
      exact of_decide_eq_true (List.mem_filter.mp h1).2
    · intro z
      obtain ⟨o, h1, h2⟩ := List.mem_map.mp (hin m z)
      exact ⟨o, List.mem_filter.mpr ⟨h1, decide_eq_true (by rw [h2]; exact z)⟩, h2⟩
section
variable (K : PySem.W.Frag)
def R_named : V1 := fun x H Q => ∃ (a : Addr), x = .ref a ∧ ((∃ r : Rs, RsAt K H a r ∧ NewT r.names H Q) ∨ ∃ i : Int, SqT K H a [.str "register", .int i] ∧ NewT [] H Q)
abbrev sp_named : Sp := sp1 (R_named K)
def R_reason_from : V4 := fun x y z u H Q => ∃ (a : Addr) (o : Ob) (l : Addr) (ls : List Int) (c : Addr) (cs : List Int) (n : Int), x = .ref a ∧ y = .ref l ∧ z = .ref c ∧ u = .int n ∧ ObAt K H a o ∧ o.small ∧ LowAt H l ls ∧ SqT K H c (cs.map V.int) ∧
  ∀ H' v, ExA H H' → RsV K H' (rsFrom ls cs n o) v → Q v H'
abbrev sp_reason_from : Sp := sp4 (R_reason_from K)
def R_best_reason : V5 := fun x y z u v H Q => ∃ (a : Addr) (h : Hd) (th : Addr) (os : List Addr) (d : Addr) (G : List (Int × Int)) (c : Addr) (cs : List Int) (n : Int), x = .ref a ∧ y = .ref th ∧ z = .ref d ∧ u = .ref c ∧ v = .int n ∧
  HeapAt K H a h ∧ h.Ok ∧ H th = some (.dK (dictOf os h.obs)) ∧ Paired (ObAt K H) os h.obs ∧ H d = some (.dK (dI G)) ∧ RoundsOf h cs G ∧ SqT K H c (cs.map V.int) ∧ Obt h cs n ∧
  ∀ H' p, ExA H H' → RsAt K H' p (bst h cs n) → Q (.ref p) H'
abbrev sp_best_reason : Sp := sp5 (R_best_reason K)
end
section
variable {P : Program} {w : World} {K : PySem.W.Frag} {mg : Str → Option Value} {base : PySem.Heap}
theorem ok_named {f : Addr} {fd : FuncData} {cd : Value} (F : Df K "named" s_named f fd cd) (T : Txt mg) : FnOk P w K mg base CX0 1 f fd ["reason"] (sp_named K) := by
  have nd := sc_named.nd
  refine F.ok sc_named (fun vs H Q E h => ?_) (fun A outer s H vs Q E hr h => ?_)
  · obtain ⟨_, rfl, _⟩ := h; rfl
  have hu := hu_of hr
  obtain ⟨x0, rfl, h⟩ := h
  refine ⟨_, (pss_cons (ps_if (pt_cmpR op_eq (pe_ix (r := rIxT K) ix_tup (pv 0) pe_int (fun _ _ => rfl)) pe_str (nomark _)) (pss_one (ps_ret (pe_tup pa_nil))) pss_nil)
    (pss_cons (ps_if (pt_cmpR op_eq (pe_ix (r := rIxT K) ix_tup (pv 0) pe_int (fun _ _ => rfl)) pe_str (nomark _)) (pss_one (ps_ret (pe_tup (pa_cons (pe_ix (r := rIxT K) ix_tup (pv 0) pe_int (fun _ _ => rfl)) (pa_cons (pe_ix (r := rIxT K) ix_tup (pv 0) pe_int (fun _ _ => rfl)) pa_nil))))) pss_nil)
    (pss_one (ps_ret (pe_tup (pa_cons (pe_ix (r := rIxT K) ix_tup (pv 0) pe_int (fun _ _ => rfl)) pa_nil)))))), ?_⟩
  obtain ⟨a, rfl, h⟩ := h
  rcases h with ⟨r, hA, q⟩ | ⟨i, h1, q⟩
  rotate_left 1
  · refine ⟨_, rfl, a, _, _, _, rfl, rfl, h1, at0, rfl, _, rfl, iteT ?_⟩
    exact ⟨Nat.zero_le _, fun p hp => q p _ hp (ExM.new hp) upd_same⟩
  cases r with
  | reg k =>
    have h1 : SqT K H a [.str "register", .int (k : Nat)] := hA
    refine ⟨_, rfl, a, _, _, _, rfl, rfl, h1, at0, rfl, _, rfl, iteT ?_⟩
    exact ⟨Nat.zero_le _, fun p hp => q p _ hp (ExM.new hp) upd_same⟩
  | fld n k =>
    have h1 : SqT K H a [.str "field", .int n, .int (k : Nat)] := hA
    refine ⟨_, rfl, a, _, _, _, rfl, rfl, h1, at0, rfl, _, rfl, iteF ?_⟩
    refine ⟨_, rfl, a, _, _, _, rfl, rfl, h1, at0, rfl, _, rfl, iteF ?_⟩
    exact ⟨_, rfl, a, _, _, _, rfl, rfl, h1, at1, sz (by show 1 ≤ 100000; decide), fun p hp => q p _ hp (ExM.new hp) upd_same⟩
  | ent n k =>
    have h1 : SqT K H a [.str "entry", .int n, .int k] := hA
    refine ⟨_, rfl, a, _, _, _, rfl, rfl, h1, at0, rfl, _, rfl, iteF ?_⟩
    refine ⟨_, rfl, a, _, _, _, rfl, rfl, h1, at0, rfl, _, rfl, iteT ?_⟩
    exact ⟨_, rfl, a, _, _, _, rfl, rfl, h1, at1, _, rfl, a, _, _, _, rfl, rfl, h1, at2, sz (by show 2 ≤ 100000; decide), fun p hp => q p _ hp (ExM.new hp) upd_same⟩
  | drf n =>
    have h1 : SqT K H a [.str "deref", .int n] := hA
    refine ⟨_, rfl, a, _, _, _, rfl, rfl, h1, at0, rfl, _, rfl, iteF ?_⟩
    refine ⟨_, rfl, a, _, _, _, rfl, rfl, h1, at0, rfl, _, rfl, iteF ?_⟩
    exact ⟨_, rfl, a, _, _, _, rfl, rfl, h1, at1, sz (by show 1 ≤ 100000; decide), fun p hp => q p _ hp (ExM.new hp) upd_same⟩
theorem ok_reason_from {f : Addr} {fd : FuncData} {cd : Value} (F : Df K "reason_from" s_reason_from f fd cd) (T : Txt mg) : FnOk P w K mg base CX0 1 f fd ["thing", "lower", "condemned", "number"] (sp_reason_from K) := by
  have nd := sc_reason_from.nd
  refine F.ok sc_reason_from (fun vs H Q E h => ?_) (fun A outer s H vs Q E hr h => ?_)
  · obtain ⟨_, _, _, _, rfl, _⟩ := h; rfl
  have hu := hu_of hr
  obtain ⟨x0, x1, x2, x3, rfl, h⟩ := h
  refine ⟨_, (pss_cons (ps_if (pt_cmpR op_eq (pe_ix (r := rIxT K) ix_tup (pv 0) pe_int (fun _ _ => rfl)) pe_str (nomark _)) (pss_one (ps_ret (pe_ifExp (pt_cmpR (r := rIn K false) op_in_seq (pv 3) (pe_ix (r := rIxT K) ix_tup (pv 0) pe_int (fun _ _ => rfl)) (by first | exact nomark _ | rfl)) (pe_tup (pa_cons pe_str (pa_cons (pe_ix (r := rIxT K) ix_tup (pv 0) pe_int (fun _ _ => rfl)) (pa_cons (pe_bmZ PySem.F.plainAttrs_tuple PySem.F.slot_tuple_index PySem.F.type_tuple_index (r := rIndexT K) mt_indexT (pe_ix (r := rIxT K) ix_tup (pv 0) pe_int (fun _ _ => rfl)) (pa_cons (pv 3) pa_nil)) pa_nil)))) pe_non))) pss_nil)
    (pss_cons (ps_if (pt_cmpR op_eq (pe_ix (r := rIxT K) ix_tup (pv 0) pe_int (fun _ _ => rfl)) pe_str (nomark _)) (pss_cons (ps_setLc (i := 4) (own := [("key", 5), ("value", 6)]) rfl nd rfl rfl (sw_true rfl rfl rfl (by decide +kernel)) (show PI _ _ _ (iTup K _) from pi_tup (pe_ix (r := rIxT K) ix_tup (pv 0) pe_int (fun _ _ => rfl))) (blkOk_by (own := [("key", 5), ("value", 6)]) (N := N_reason_from) (sc := defScope s_reason_from) (by decide +kernel)) (fun _ _ _ _ _ => (show PG _ _ (gTup K 2 _) from pg_tup rfl (pgs_cons (pg_name (i := 5) nd rfl (by first | exact Or.inl rfl | exact Or.inr rfl)) (pgs_cons (pg_name (i := 6) nd rfl (by first | exact Or.inl rfl | exact Or.inr rfl)) pgs_nil)))) (fun _ _ _ _ _ => (pts_one (PW.pt (pw_and (pt_cmpR op_eq (pv 6) (pv 3) (nomark _)) (pw_and1 (pt_cmp (pc_din hu (pv 5) (pv 1)) rfl)))))) (fun _ _ _ _ _ => (pv 5)))
    (pss_one (ps_ret (pe_ifExp (pt_truth (pv 4) (by intro _; rfl)) (pe_tup (pa_cons pe_str (pa_cons (pe_ix (r := rIxT K) ix_tup (pv 0) pe_int (fun _ _ => rfl)) (pa_cons (pe_ix (r := rIxL K) ix_list (pv 4) pe_int (fun _ _ => rfl)) pa_nil)))) pe_non)))) pss_nil)
    (pss_cons (ps_if (PW.pt (pw_and (pt_cmpR op_eq (pe_ix (r := rIxT K) ix_tup (pv 0) pe_int (fun _ _ => rfl)) (pv 3) (nomark _)) (pw_and1 (pt_cmpR (r := rIn K true) op_notIn_seq (pv 3) (pv 2) (by first | exact nomark _ | rfl))))) (pss_one (ps_ret (pe_tup (pa_cons pe_str (pa_cons (pe_ix (r := rIxT K) ix_tup (pv 0) pe_int (fun _ _ => rfl)) pa_nil))))) pss_nil)
    (pss_one (ps_ret pe_non))))), ?_⟩
  obtain ⟨a, o, l, ls, c, cs, n, rfl, rfl, rfl, rfl, hO, sm, hL, hC, q⟩ := h
  cases o with
  | rcd m fs =>
    obtain ⟨t, h1, h2⟩ := hO
    refine ⟨_, rfl, a, _, _, _, rfl, rfl, h1, at0, rfl, _, rfl, iteT ?_⟩
    refine ⟨_, rfl, _, rfl, a, _, _, _, rfl, rfl, h1, at2, t, _, rfl, .inr h2.sq, rfl, flat_rfs fs, _, rfl, ?_⟩
    show if inV (V.int n) (fs.map rV) = true then _ else _
    rw [inV_rf]
    have q : ∀ H' v, ExA H H' → RsV K H' (if some n ∈ fs then some (.fld m (ixR fs n)) else none) v → Q v H' := q
    by_cases c1 : some n ∈ fs
    · rw [decide_eq_true c1]
      rw [if_pos c1] at q
      refine iteT ⟨_, rfl, a, _, _, _, rfl, rfl, h1, at1, _, rfl, a, _, _, _, rfl, rfl, h1, at2, ⟨_, _, rfl, h2⟩, _, rfl, ?_⟩
      dsimp only [tNil]
      refine indexT_ok h2.sq c1 ?_
      refine ⟨sz (by show 3 ≤ 100000; decide), fun p hp => ?_⟩
      exact q _ _ (ExM.new hp) ⟨p, rfl, SqT.of upd_same⟩
    · rw [decide_eq_false c1]
      rw [if_neg c1] at q
      exact iteF (q _ _ (ExM.refl _ _) rfl)
  | weak m t =>
    have h1 : SqT K H a [.str "weak", .int m, rV t] := hO
    have q : ∀ H' v, ExA H H' → RsV K H' (if t = some n ∧ n ∉ cs then some (.drf m) else none) v → Q v H' := q
    refine ⟨_, rfl, a, _, _, _, rfl, rfl, h1, at0, rfl, _, rfl, iteF ?_⟩
    refine ⟨_, rfl, a, _, _, _, rfl, rfl, h1, at0, rfl, _, rfl, iteF ?_⟩
    unfold tNext
    dsimp only
    show tSeq (tIfS (tAnd _ _) _ _) _ _ _ _
    refine and_join (decide (t = some n)) (decide (n ∉ cs)) (fun Q' z => ⟨_, rfl, a, _, _, _, rfl, rfl, h1, at2, _, rfl, ?_⟩) (fun _ Q' z => ⟨_, rfl, _, rfl, c, _, rfl, .inr hC, rfl, flat_ints _, _, rfl, ?_⟩) ?_
    · exact ⟨by cases t <;> rfl, _, rfl, rf_eq t n ▸ z⟩
    · rw [if_pos rfl, inV_int, ← decide_not]; exact z
    by_cases c1 : t = some n ∧ n ∉ cs
    · rw [if_pos c1] at q
      rw [decide_eq_true c1.1, decide_eq_true c1.2]
      exact iteT ⟨_, rfl, a, _, _, _, rfl, rfl, h1, at1, sz (by show 2 ≤ 100000; decide), fun p hp => q _ _ (ExM.new hp) ⟨p, rfl, SqT.of upd_same⟩⟩
    · rw [if_neg c1] at q
      have e : (decide (t = some n) && decide (n ∉ cs)) = false := by
        rw [Bool.and_eq_false_iff]
        by_cases c2 : t = some n
        · exact .inr (decide_eq_false fun z => c1 ⟨c2, z⟩)
        · exact .inl (decide_eq_false c2)
      rw [e]
      exact iteF (q _ _ (ExM.refl _ _) rfl)
  | tab m es =>
    obtain ⟨t, ps, h1, hz2, h3⟩ := hO; have h2 := hz2.sq (K := K)
    have q : ∀ H' v, ExA H H' → RsV K H' (((es.filter fun e => decide (e.2 = n) && decide (e.1 ∈ ls)).head?).map fun e => .ent m e.1) v → Q v H' := q
    refine ⟨_, rfl, a, _, _, _, rfl, rfl, h1, at0, rfl, _, rfl, iteF ?_⟩
    refine ⟨_, rfl, a, _, _, _, rfl, rfl, h1, at0, rfl, _, rfl, iteT ?_⟩
    refine ⟨_, rfl, a, _, _, _, rfl, rfl, h1, at2, t, rfl, ⟨_, h2⟩, fun D hD => ?_⟩
    have hl := plen h3
    have sm' : es.length ≤ 1000 := sm
    refine lcM [] (walk_tup (xs := ps.map V.ref)) hD (fun i acc _ => acc = (((es.take i).filter fun e => decide (e.2 = n) && decide (e.1 ∈ ls)).map (·.1)).map V.int) rfl (fun H' e => Tk.all e _ _ h2) (fun i x H1 H2 acc hi e k1 k2 hacc y => ?_) (fun H' acc e k1 k2 hacc => ?_)
    · obtain ⟨rfl, hx⟩ := y
      rw [List.length_map] at hi
      obtain ⟨p, hp⟩ : ∃ p, ps[i]? = some p := ⟨ps[i], List.getElem?_eq_getElem hi⟩
      obtain ⟨e1, he1, hpa⟩ := pget h3 hp
      rw [List.getElem?_map, hp] at hx
      obtain rfl : V.ref p = x := Option.some.inj hx
      refine ⟨p, _, rfl, Tk.all e _ _ hpa, rfl, _, _, rfl, _, _, rfl, ⟨rfl, rfl, ?_⟩⟩
      refine and_join (decide (e1.2 = n)) (decide (e1.1 ∈ ls)) (fun Q' z => ⟨_, rfl, _, rfl, rfl, _, rfl, int_eq e1.2 n ▸ z⟩) (fun _ Q' z => ?_) ?_
      · obtain ⟨r, g1, g2⟩ := (hL.all e).get e1.1
        exact ⟨_, rfl, _, rfl, l, _, rfl, g1, _, rfl, g2 ▸ z⟩
      have ht := take_snoc he1
      by_cases m : (decide (e1.2 = n) && decide (e1.1 ∈ ls)) = true
      · rw [m]
        refine iteT ⟨_, rfl, LcP.yes hD (by simp) (by omega) e k1 k2 (ExM.refl _ _) ?_⟩
        rw [hacc, ht, List.filter_append, List.map_append, List.map_append]
        simp only [List.filter_cons, m, if_true, List.filter_nil, List.map_cons, List.map_nil]
      · rw [Bool.eq_false_iff.mpr m]
        refine iteF (LcP.no (by simp) e k1 k2 (ExM.refl _ _) ?_)
        rw [hacc, ht, List.filter_append, List.map_append, List.map_append]
        simp only [List.filter_cons, m, Bool.false_eq_true, if_false, List.filter_nil, List.map_nil, List.append_nil]
    · rw [List.length_map, hl, List.take_length] at hacc
      have h1' := Tk.all (K := K) e _ _ h1
      cases ef : es.filter (fun e => decide (e.2 = n) && decide (e.1 ∈ ls)) with
      | nil =>
        rw [ef] at hacc q
        subst hacc
        refine ⟨_, rfl, false, .inl ⟨_, SqL.of k1, rfl⟩, iteF (q _ _ e rfl)⟩
      | cons e1 er =>
        rw [ef] at hacc q
        subst hacc
        refine ⟨_, rfl, true, .inl ⟨_, SqL.of k1, rfl⟩, iteT ?_⟩
        refine ⟨_, rfl, a, _, _, _, rfl, rfl, h1', at1, _, rfl, D, _, _, _, rfl, rfl, SqL.of k1, at0, sz (by show 3 ≤ 100000; decide), fun p hp => ?_⟩
        exact q _ _ (ExM.trans e (ExM.new hp)) ⟨p, rfl, SqT.of upd_same⟩
theorem ok_best_reason {f : Addr} {fd : FuncData} {cd : Value} (F : Df K "best_reason" s_best_reason f fd cd) (T : Txt mg) (C_registers_of : Cal P w K mg base 1 "registers_of" (sp_registers_of K) []) (C_reason_from : Cal P w K mg base 1 "reason_from" (sp_reason_from K) []) : FnOk P w K mg base CX0 2 f fd ["heap", "things", "depths", "condemned", "number"] (sp_best_reason K) := by
  have nd := sc_best_reason.nd
  refine F.ok sc_best_reason (fun vs H Q E h => ?_) (fun A outer s H vs Q E hr h => ?_)
  · obtain ⟨_, _, _, _, _, rfl, _⟩ := h; rfl
  have hu := hu_of hr
  obtain ⟨x0, x1, x2, x3, x4, rfl, h⟩ := h
  refine ⟨_, (pss_cons (ps_if (pt_cmpR op_eq (pe_dget hu (pv 2) (pv 4) (fun _ _ => rfl)) pe_int (nomark _)) (pss_one (ps_ret (pe_tup (pa_cons pe_str (pa_cons (pe_bmZ PySem.F.plainAttrs_tuple PySem.F.slot_tuple_index PySem.F.type_tuple_index (r := rIndexT K) mt_indexT (pe_c C_registers_of hr (by first | exact Nat.le_refl _ | decide) rfl (pa_cons (pv 0) pa_nil)) (pa_cons (pv 4) pa_nil)) pa_nil))))) pss_nil)
    (pss_cons (ps_set (i := 5) nd rfl (by first | exact Or.inl rfl | exact Or.inr rfl) (pe_dc (own := [("other", 6)]) rfl nd (show PI _ _ _ (iList K _) from pi_list (pe_callB (call_sortedDI rfl) rfl T.sorted (by decide +kernel) (pa_cons (pv 2) pa_nil))) (blkOk_by (own := [("other", 6)]) (N := N_best_reason) (sc := defScope s_best_reason) (by decide +kernel)) (fun _ _ _ _ _ => (pg_name (i := 6) nd rfl (by first | exact Or.inl rfl | exact Or.inr rfl))) (fun _ _ _ _ _ => (pts_one (pt_cmpR op_lt (pe_dget hu (pv 2) (pv 6) (fun _ _ => rfl)) (pe_dget hu (pv 2) (pv 4) (fun _ _ => rfl)) (nomark _)))) (fun _ _ _ _ _ => (pv 6)) (fun _ _ _ _ _ => pe_bl)))
    (pss_cons (ps_lock (ps_setLc (i := 7) (own := [("other", 6)]) rfl nd rfl rfl (sw_true rfl rfl rfl (by decide +kernel)) (pi_keys (pv 5)) (blkOk_by (own := [("other", 6)]) (N := N_best_reason) (sc := defScope s_best_reason) (by decide +kernel)) (fun _ _ _ _ _ => (pg_name (i := 6) nd rfl (by first | exact Or.inl rfl | exact Or.inr rfl))) (fun _ _ _ _ _ => pts_nil) (fun _ _ _ _ _ => (pe_c C_reason_from hr (by first | exact Nat.le_refl _ | decide) rfl (pa_cons (pe_dget hu (pv 1) (pv 6) (fun _ _ => rfl)) (pa_cons (pv 5) (pa_cons (pv 3) (pa_cons (pv 4) pa_nil))))))))
    (pss_one (ps_ret (pe_ix (r := rIxL K) ix_list (pe_lc (own := [("reason", 8)]) rfl nd (show PI _ _ _ (iList K _) from pi_list (pv 7)) (blkOk_by (own := [("reason", 8)]) (N := N_best_reason) (sc := defScope s_best_reason) (by decide +kernel)) (fun _ _ _ _ _ => (pg_name (i := 8) nd rfl (by first | exact Or.inl rfl | exact Or.inr rfl))) (fun _ _ _ _ _ => (pts_one (pt_cmpR op_notN (pv 8) pe_non (nomark _)))) (fun _ _ _ _ _ => (pv 8))) pe_int (fun _ _ => rfl))))))), ?_⟩
  obtain ⟨a, h, th, os, d, G, c, cs, n, rfl, rfl, rfl, rfl, rfl, hA, ok, hth, hos, hd, rG, hC, hx, q⟩ := h
  have hl := plen hos
  refine ⟨_, rfl, _, rfl, d, _, rfl, DGet.k (k := Sum.inl n) hd |> fun z => by rw [rG.look hx] at z; exact z, rfl, _, rfl, ite2 (fun c1 => ?_) (fun c1 => ?_)⟩
  · have e0 : rnk h cs n = 0 := by
      have z := of_decide_eq_true c1
      have z := V.int.inj z
      omega
    rw [bst_zero e0] at q
    have hreg : some n ∈ h.regs := by
      have z := (Obt.rnk hx).1
      rw [e0] at z
      exact z
    refine ⟨_, rfl, _, rfl, a, h, rfl, hA, fun r hr => ⟨⟨_, _, rfl, hr⟩, _, rfl, ?_⟩⟩
    dsimp only [tNil]
    refine indexT_ok hr.sq hreg ?_
    refine ⟨sz (by show 2 ≤ 100000; decide), fun p hp => q _ p (ExM.new hp) (SqT.of upd_same)⟩
  have ne0 : rnk h cs n ≠ 0 := fun e => by
    have z := of_decide_eq_false (Bool.eq_false_iff.mpr c1)
    exact z (by rw [e]; rfl)
  obtain ⟨k, ek⟩ : ∃ k, rnk h cs n = k + 1 := ⟨rnk h cs n - 1, by omega⟩
  have zG : (G.map (·.1)).length < 64 := by
    have z1 := nd_sub rG.nd fun n hn => Obt.num ok ((rG.all n).mp hn)
    have z3 : h.nums.length ≤ 50 := by unfold Hd.nums; rw [List.length_map]; exact ok.size
    omega
  refine ⟨_, rfl, d, _, G.map (·.1), rfl, .inl hd, dI_keys G, zG, fun ys ly hperm hle fly => ?_⟩
  have ndy : ys.Nodup := (hperm.nodup_iff).mpr rG.nd
  have hys : ∀ m, m ∈ ys ↔ Obt h cs m := fun m => (hperm.mem_iff).trans (rG.all m)
  have e1 : ExA H (upd H ly (.lst (ys.map V.int))) := ExM.new fly
  have hly : (upd H ly (.lst (ys.map V.int))) ly = some (.lst (ys.map V.int)) := upd_same
  generalize upd H ly (.lst (ys.map V.int)) = H1 at e1 hly ⊢
  refine ⟨ly, rfl, ⟨_, SqL.of hly⟩, fun lo flo => ?_⟩
  let lt : Int → Bool := fun m => decide (rnk h cs m < rnk h cs n)
  have zys : ys.length < 64 := by rw [hperm.length_eq]; exact zG
  refine dcM [] (walk_list (xs := ys.map V.int)) flo (fun i acc _ => acc = dB ((ys.take i).filter lt)) rfl (fun H' e => SqL.of (ExA.at e hly)) (fun i x H2 H3 acc hi e k1 k2 hacc y => ?_) (fun H2 acc e2 k1 k2 hacc => ?_)
  · obtain ⟨rfl, hx'⟩ := y
    rw [List.length_map] at hi
    obtain ⟨m, hm⟩ : ∃ m, ys[i]? = some m := ⟨_, List.getElem?_eq_getElem hi⟩
    rw [List.getElem?_map, hm] at hx'
    obtain rfl : V.int m = x := Option.some.inj hx'
    have hmO := (hys m).mp (List.mem_of_getElem? hm)
    have hd3 := ExA.at (e1.trans e) hd
    refine ⟨rfl, _, rfl, _, rfl, d, _, rfl, DGet.k (k := Sum.inl m) hd3 |> fun z => by rw [rG.look hmO] at z; exact z, _, rfl, _, rfl, d, _, rfl, DGet.k (k := Sum.inl n) hd3 |> fun z => by rw [rG.look hx] at z; exact z, _, _, rfl, rfl, _, rfl, ?_⟩
    have ht := take_snoc hm
    have dd : decide (((rnk h cs m : Nat) : Int) < ((rnk h cs n : Nat) : Int)) = lt m := decide_eq_decide.mpr (by omega)
    rw [dd]
    by_cases c : lt m = true
    · rw [c]
      refine iteT ⟨_, rfl, DcP.yes (k := Sum.inl m) flo (by simp) (by omega) e k1 k2 rfl (ExM.refl _ _) ?_⟩
      rw [hacc, dB_put, ht, List.filter_append]
      have nm : m ∉ (ys.take i).filter lt := fun z => by
        have z1 := (List.mem_filter.mp z).1
        obtain ⟨j, hj⟩ := List.getElem?_of_mem z1
        have hlt : j < i := by
          have := (List.getElem?_eq_some_iff.mp hj).1
          rw [List.length_take] at this; omega
        rw [List.getElem?_take_of_lt hlt] at hj
        exact absurd (nd_ix ndy hj hm) (Nat.ne_of_lt hlt)
      unfold addK
      rw [if_neg nm]
      simp only [List.filter_cons, c, if_true, List.filter_nil]
    · rw [Bool.eq_false_iff.mpr c]
      refine iteF ⟨e, acc, k1, by omega, ?_⟩
      show acc = dB ((ys.take (i + 1)).filter lt)
      rw [hacc, ht, List.filter_append]
      simp only [List.filter_cons, c, Bool.false_eq_true, if_false, List.filter_nil, List.append_nil]
  rw [List.length_map, List.take_length] at hacc
  subst hacc
  obtain ⟨ls, els⟩ : ∃ ls, ls = ys.filter lt := ⟨_, rfl⟩
  rw [← els] at k1
  have hls : ∀ m, m ∈ ls ↔ In h cs k m := fun m => by
    rw [els, List.mem_filter, hys m]
    constructor
    · rintro ⟨z1, z2⟩
      have z2 : rnk h cs m < rnk h cs n := of_decide_eq_true z2
      exact (in_iff z1).mpr (by omega)
    · intro z
      have z1 : Obt h cs m := ⟨k, z⟩
      exact ⟨z1, decide_eq_true (by have := rnk_le z; omega)⟩
  have upls : ls.Pairwise (· < ·) := by rw [els]; exact (up_of hle ndy).sublist List.filter_sublist
  have hobs := obs_of ok upls fun m hm => In.num ok ((hls m).mp hm)
  obtain ⟨obs, eobs⟩ : ∃ obs, obs = h.obs.filter fun o => decide (o.num ∈ ls) := ⟨_, rfl⟩
  rw [← eobs] at hobs
  have obsIn : ∀ o ∈ obs, o ∈ h.obs := fun o ho => by rw [eobs] at ho; exact (List.mem_filter.mp ho).1
  have lobs : ls.length = obs.length := by rw [← hobs, List.length_map]
  have zobs : obs.length ≤ 50 := by
    have := ok.size
    have z : obs.length ≤ h.obs.length := by rw [eobs]; exact List.length_filter_le _ _
    omega
  -- the reasons, one for each lower object
  have e02 : ExA H H2 := ExM.trans e1 e2
  have nth : th ≠ lo := ne_of_none (ExA.at e1 hth) flo
  refine ⟨lo, _, k1, trivial, fun od => ?_⟩
  refine ⟨_, rfl, lo, od, rfl, .inl ⟨_, upd_same, fun D hD => ?_⟩⟩
  have T4 : Tk K H (upd H2 lo (.frz od (.dK (dB ls)))) := Tk.trans (Tk.all e02) (Tk.dic k1)
  have hth4 : (upd H2 lo (.frz od (.dK (dB ls)))) th = some (.dK (dictOf os h.obs)) := by rw [upd_ne nth]; exact ExA.at e02 hth
  have hlo4 : (upd H2 lo (.frz od (.dK (dB ls)))) lo = some (.frz od (.dK (dB ls))) := upd_same
  have back : ∀ H5, ExA (upd H2 lo (.frz od (.dK (dB ls)))) H5 → ExA H (upd H5 lo (.dK (dB ls))) := fun H5 e b u _ eb => by
    have nb : b ≠ lo := ne_of_none (ExA.at e1 eb) flo
    rw [upd_ne nb]
    refine ExA.at e ?_
    rw [upd_ne nb]
    exact ExA.at e02 eb
  generalize upd H2 lo (.frz od (.dK (dB ls))) = H4 at hD T4 hth4 hlo4 back ⊢
  refine lcM [] (walk_keys (d := lo) (o := od) (kvs := dB ls)) hD (fun i acc H' => Paired (fun v o => RsV K H' (rsFrom ls cs n o) v) acc (obs.take i)) .nil (fun H' e => ExA.at e hlo4) (fun i x H5 H6 acc hi e p1 p2 hacc y => ?_) (fun H5 acc e5 p1 p2 hacc => ?_)
  · obtain ⟨rfl, kk, v, hk, rfl⟩ := y
    rw [dB_len] at hi
    obtain ⟨o, ho⟩ : ∃ o, obs[i]? = some o := ⟨_, List.getElem?_eq_getElem (by omega)⟩
    have hm : ls[i]? = some o.num := by rw [← hobs, List.getElem?_map, ho]; rfl
    have hk' : ((dB ls).map (·.1))[i]? = some (Sum.inl o.num) := by rw [dB_keys, List.getElem?_map, hm]; rfl
    rw [List.getElem?_map, hk] at hk'
    obtain rfl : kk = Sum.inl o.num := Option.some.inj hk'
    have hoh := obsIn o (List.mem_of_getElem? ho)
    have t5 := Tk.trans T4 (Tk.all (K := K) e)
    have hos5 : Paired (ObAt K H6) os h.obs := pmp hos fun _ _ z => ObAt.mono t5 z
    obtain ⟨oa, o', g1, g2, g3, g4⟩ := dictOf_get (n := o.num) hos5 (List.mem_map_of_mem (f := Ob.num) hoh)
    obtain rfl : o' = o := ob_uniq ok g2 hoh g3
    refine ⟨rfl, tyes ?_⟩
    refine ⟨_, rfl, _, rfl, th, _, rfl, DGet.k (k := Sum.inl o'.num) (ExA.at e hth4) |> fun z => by rw [g1] at z; exact z, _, rfl, _, rfl, _, rfl, ?_⟩
    refine ⟨_, _, _, _, rfl, oa, o', lo, ls, c, cs, n, rfl, rfl, rfl, rfl, g4, (ok.obs o' g2).small, ⟨_, .inr ⟨od, ExA.at e hlo4⟩, dB_keys ls⟩, t5 _ _ hC, fun H7 w7 e7 hv => ?_⟩
    refine LcP.yes hD (by simp) (by omega) e p1 p2 e7 ?_
    have h7 := e7 D _ (by simp) p1
    rw [take_snoc ho]
    have acc7 : Paired (fun v o => RsV K (upd H7 D (.lst (acc ++ [w7]))) (rsFrom ls cs n o) v) acc (obs.take i) := pmp (F := fun v o => RsV K H6 (rsFrom ls cs n o) v) hacc fun _ _ z => RsV.mono (Tk.trans (Tk.all e7) (Tk.lst h7)) z
    exact psnoc (F := fun v o => RsV K (upd H7 D (.lst (acc ++ [w7]))) (rsFrom ls cs n o) v) (RsV.mono (Tk.lst h7) hv) acc7
  rw [dB_len] at p2
  rw [dB_len, lobs, List.take_length] at hacc
  refine ⟨ExA.at e5 hlo4, ?_⟩
  have T6 : Tk K H5 (upd H5 lo (.dK (dB ls))) := Tk.frz (ExA.at e5 hlo4)
  have nDlo : D ≠ lo := (ne_of_none hlo4 hD).symm
  have hD6 : (upd H5 lo (.dK (dB ls))) D = some (.lst acc) := by rw [upd_ne nDlo]; exact p1
  have e06 := back H5 e5
  have hr6 : Paired (fun v o => RsV K (upd H5 lo (.dK (dB ls))) (rsFrom ls cs n o) v) acc obs := pmp (F := fun v o => RsV K H5 (rsFrom ls cs n o) v) hacc fun _ _ z => RsV.mono T6 z
  generalize upd H5 lo (.dK (dB ls)) = H6 at hD6 e06 hr6 ⊢
  -- those that are there
  refine ⟨_, rfl, D, rfl, ⟨_, SqL.of hD6⟩, fun D2 fD2 => ?_⟩
  refine lcM [] (walk_list (xs := acc)) fD2 (fun i a2 H' => Paired (fun v r => ∃ ra, v = V.ref ra ∧ RsAt K H' ra r) a2 ((obs.take i).filterMap (rsFrom ls cs n))) .nil (fun H' e => SqL.of (ExA.at e hD6)) (fun i x H7 H8 a2 hi e r1 r2 ha2 y => ?_) (fun H7 a2 e7 r1 r2 ha2 => ?_)
  · obtain ⟨rfl, hx'⟩ := y
    obtain ⟨o, ho, hv⟩ := pget hr6 hx'
    have hv7 := RsV.mono (Tk.all e) hv
    have ht : (obs.take (i + 1)).filterMap (rsFrom ls cs n) = (obs.take i).filterMap (rsFrom ls cs n) ++ (rsFrom ls cs n o).toList := by
      rw [take_snoc ho, List.filterMap_append]
      cases er : rsFrom ls cs n o <;> simp [er]
    have zi : i ≤ 40000 := by have := plen hr6; omega
    cases er : rsFrom ls cs n o with
    | none =>
      rw [er] at hv7 ht
      have hv7 : x = .non := hv7
      subst hv7
      refine ⟨rfl, _, rfl, rfl, _, rfl, iteF (LcP.no (by simp) e r1 r2 (ExM.refl _ _) ?_)⟩
      rw [ht]; simpa using ha2
    | some r =>
      rw [er] at hv7 ht
      obtain ⟨ra, rfl, hra⟩ := hv7
      refine ⟨rfl, _, rfl, rfl, _, rfl, iteT ⟨_, rfl, LcP.yes fD2 (by simp) zi e r1 r2 (ExM.refl _ _) ?_⟩⟩
      rw [ht]
      exact psnoc ⟨ra, rfl, RsAt.mono (Tk.lst r1) hra⟩ (pmp ha2 fun _ _ z => let ⟨ra, z1, z2⟩ := z; ⟨ra, z1, RsAt.mono (Tk.lst r1) z2⟩)
  have lacc := plen hr6
  rw [lacc, List.take_length] at ha2
  obtain ⟨r, t, hrs⟩ := rs_some hx ek hls
  have hb : bst h cs n = r := bst_succ ok ek hls (by rw [hrs]; rfl)
  have e3 : obs.filterMap (rsFrom ls cs n) = r :: t := by rw [eobs]; exact hrs
  rw [e3] at ha2
  cases ha2 with
  | cons hv htl =>
    obtain ⟨ra, rfl, hra⟩ := hv
    refine ⟨D2, _, _, _, rfl, rfl, SqL.of r1, at0, q _ ra (ExM.trans e06 e7) (by rw [hb]; exact hra)⟩
end
end Wc
namespace Wc
open PySem L2
abbrev LT_derive (K : PySem.W.Frag) : List (Addr × Str) := [((He.cT K ("derive", none)).2, ("derive" : Str) ++ ".<locals>." ++ "<lambda>")]
/-! ### data, under a memory that has grown -/
theorem Tk.ext {K : PySem.W.Frag} {H H' : Hp} (h : LamX.ExtN H H') : Tk K H H' := ⟨fun a xs e => by
  rcases e with (e | ⟨v, e⟩) | e
  · exact .inl (.inl (h _ _ e (fun _ z => nomatch z)))
  · exact .inl (.inr ⟨v, h _ _ e (fun _ z => nomatch z)⟩)
  · exact .inr e, fun a v xs e => h _ _ e (fun _ z => nomatch z)⟩
mutual
theorem Is.mono {K : PySem.W.Frag} {H H' : Hp} (t : Tk K H H') : ∀ (d : Dt) (v : V), Is K H d v → Is K H' d v
  | .non, v, h => h
  | .bl b, v, h => h
  | .int i, v, h => h
  | .str s, v, h => h
  | .tup ds, v, h => let ⟨a, xs, e, h1, h2⟩ := h; ⟨a, xs, e, t.sq _ _ h1, IsL.mono t ds xs h2⟩
theorem IsL.mono {K : PySem.W.Frag} {H H' : Hp} (t : Tk K H H') : ∀ (ds : List Dt) (xs : List V), IsL K H ds xs → IsL K H' ds xs
  | [], xs, h => h
  | d :: ds, xs, h => let ⟨x, r, e, h1, h2⟩ := h; ⟨x, r, e, Is.mono t d x h1, IsL.mono t ds r h2⟩
end
theorem IsL.of {α : Type} {K : PySem.W.Frag} {H : Hp} {f : α → Dt} : ∀ {xs : List V} {ms : List α}, Paired (fun v m => Is K H (f m) v) xs ms → IsL K H (ms.map f) xs
  | _, _, .nil => rfl
  | _, _, .cons r t => ⟨_, _, rfl, r, IsL.of t⟩
/-! ### keys of a dict that is written -/
theorem putK_keys {kvs : List (Key × V)} {ks : List Int} (h : kvs.map (·.1) = ks.map Sum.inl) (n : Int) (v : V) : (putK kvs (Sum.inl n) v).map (·.1) = (addK ks n).map Sum.inl := by
  have q := key_has h n
  unfold addK
  by_cases m : n ∈ ks
  · rw [if_pos m, ← h]
    rw [decide_eq_true m] at q
    unfold putK
    rw [valV_any, q, if_pos rfl, List.map_map]
    refine List.map_congr_left fun k _ => ?_
    show (if k.1 = Sum.inl n then (k.1, v) else k).1 = k.1
    split <;> rfl
  · rw [if_neg m]
    rw [decide_eq_false m] at q
    rw [putK_new _ (by cases e : valV kvs (Sum.inl n) with | none => rfl | some v => rw [e] at q; cases q), List.map_append, h, List.map_append]
    rfl
/-! ### who waits, who has a reason -/
structure Wk (h : Hd) (cs : List Int) (n : Int) (ws ks : List Int) : Prop where
  wN : ∀ m ∈ ws, Need h cs n m
  kN : ∀ m ∈ ks, Need h cs n m
  nd : ks.Nodup
  me : n ∈ ks ∨ n ∈ ws
  nx : ∀ m ∈ ks, ∀ k ∈ (bst h cs m).names, k ∈ ks ∨ k ∈ ws
  hi : ∀ j m, ws[j]? = some m → j + 1 + rnk h cs m ≤ h.obs.length + 1
noncomputable def msr (h : Hd) (cs : List Int) (ws : List Int) : Nat := (ws.map fun m => 3 ^ rnk h cs m).sum
theorem msr_lt {h : Hd} {cs : List Int} {r : Nat} : ∀ {l : List Int}, l.length ≤ 2 → (∀ m ∈ l, rnk h cs m < r) → msr h cs l < 3 ^ r
  | [], _, _ => Nat.pow_pos (by decide)
  | [a], _, h2 => by
    have := Nat.pow_lt_pow_right (a := 3) (by decide) (h2 a (by simp))
    simpa [msr] using this
  | [a, b], _, h2 => by
    have ha := h2 a (by simp)
    have hb := h2 b (by simp)
    obtain ⟨s, rfl⟩ : ∃ s, r = s + 1 := ⟨r - 1, by omega⟩
    have h3 := Nat.pow_le_pow_right (n := 3) (by decide) (show rnk h cs a ≤ s by omega)
    have h4 := Nat.pow_le_pow_right (n := 3) (by decide) (show rnk h cs b ≤ s by omega)
    have h5 : 0 < 3 ^ s := Nat.pow_pos (by decide)
    have e : msr h cs [a, b] = 3 ^ rnk h cs a + 3 ^ rnk h cs b := by simp [msr]
    rw [e, Nat.pow_succ]
    omega
  | _ :: _ :: _ :: _, h1, _ => by simp at h1
section
variable {h : Hd} {cs : List Int} {n x : Int} {ws ks : List Int}
theorem msr_app (ws vs : List Int) : msr h cs (ws ++ vs) = msr h cs ws + msr h cs vs := by unfold msr; rw [List.map_append, List.sum_append]
/-- what is put behind the others for x -/
noncomputable def nxt (h : Hd) (cs : List Int) (ks : List Int) (x : Int) : List Int := (bst h cs x).names.filter fun k => decide (k ∉ addK ks x)
theorem nxt_len : (nxt h cs ks x).length ≤ 2 := Nat.le_trans (List.length_filter_le _ _) (Rs.names_len _)
theorem Wk.step (ok : h.Ok) (hn : Obt h cs n) (q : Wk h cs n (ws ++ [x]) ks) : Wk h cs n (ws ++ nxt h cs ks x) (addK ks x) := by
  have hx : Need h cs n x := q.wN x (by simp)
  have ox := Need.obt ok hn hx
  refine ⟨fun m hm => ?_, fun m hm => ?_, addK_nd q.nd, ?_, fun m hm k hk => ?_, fun j m hj => ?_⟩
  · rcases List.mem_append.mp hm with z | z
    · exact q.wN m (List.mem_append_left _ z)
    · exact .step hx (List.mem_filter.mp z).1
  · rcases mem_addK.mp hm with z | rfl
    · exact q.kN m z
    · exact hx
  · rcases q.me with z | z
    · exact .inl (mem_addK.mpr (.inl z))
    · rcases List.mem_append.mp z with z | z
      · exact .inr (List.mem_append_left _ z)
      · have z : n = x := by simpa using z
        exact .inl (mem_addK.mpr (.inr z))
  · have key : m ≠ x → k ∈ ks ∨ k ∈ ws ++ [x] := fun ne => by
      rcases mem_addK.mp hm with z | z
      · exact q.nx m z k hk
      · exact absurd z ne
    by_cases e : m = x
    · subst e
      by_cases c : k ∈ addK ks m
      · exact .inl c
      · exact .inr (List.mem_append_right _ (List.mem_filter.mpr ⟨hk, decide_eq_true c⟩))
    · rcases key e with z | z
      · exact .inl (mem_addK.mpr (.inl z))
      · rcases List.mem_append.mp z with z | z
        · exact .inr (List.mem_append_left _ z)
        · have z : k = x := by simpa using z
          exact .inl (mem_addK.mpr (.inr z))
  · by_cases c : j < ws.length
    · rw [List.getElem?_append_left c] at hj
      exact q.hi j m (by rw [List.getElem?_append_left c]; exact hj)
    · rw [List.getElem?_append_right (by omega)] at hj
      have h1 := q.hi ws.length x (by rw [List.getElem?_append_right (Nat.le_refl _), Nat.sub_self]; rfl)
      have h2 : m ∈ nxt h cs ks x := List.mem_of_getElem? hj
      have h3 := (bst_names ok ox m (List.mem_filter.mp h2).1).2
      have h4 := (List.getElem?_eq_some_iff.mp hj).1
      have h5 : (nxt h cs ks x).length ≤ 2 := nxt_len
      omega
theorem Wk.less (ok : h.Ok) (hn : Obt h cs n) (q : Wk h cs n (ws ++ [x]) ks) : msr h cs (ws ++ nxt h cs ks x) < msr h cs (ws ++ [x]) := by
  rw [msr_app, msr_app]
  have e : msr h cs [x] = 3 ^ rnk h cs x := by simp [msr]
  rw [e]
  have ox := Need.obt ok hn (q.wN x (by simp))
  have := msr_lt (h := h) (cs := cs) (r := rnk h cs x) (l := nxt h cs ks x) nxt_len fun m hm => (bst_names ok ox m (List.mem_filter.mp hm).1).2
  omega
theorem Wk.len (q : Wk h cs n ws ks) : ws.length ≤ h.obs.length + 1 := by
  cases e : ws.length with
  | zero => omega
  | succ k =>
    have hk : k < ws.length := by omega
    have := q.hi k ws[k] (List.getElem?_eq_getElem hk)
    omega
theorem Wk.size (ok : h.Ok) (hn : Obt h cs n) (q : Wk h cs n ws ks) : ks.length ≤ h.obs.length := by
  have := nd_sub q.nd fun m hm => Obt.num ok (Need.obt ok hn (q.kN m hm))
  unfold Hd.nums at this
  rwa [List.length_map] at this
theorem Wk.done (q : Wk h cs n [] ks) (m : Int) : m ∈ ks ↔ Need h cs n m := by
  refine ⟨q.kN m, fun z => ?_⟩
  induction z with
  | base => exact q.me.elim id fun z => nomatch z
  | step _ hk ih => exact (q.nx _ ih _ hk).elim id fun z => nomatch z
theorem Wk.first (ok : h.Ok) (hn : Obt h cs n) : Wk h cs n [n] [] := by
  refine ⟨fun m hm => ?_, fun m hm => (nomatch hm), List.nodup_nil, .inr (by simp), fun m hm => (nomatch hm), fun j m hj => ?_⟩
  · have e : m = n := by simpa using hm
    subst e; exact .base
  · cases j with
    | zero =>
      have e : n = m := by simpa using hj
      subst e
      have := rank_lt ok hn
      omega
    | succ j => simp at hj
/-- sorted by rank and number: the steps -/
theorem Wk.drv (q : Wk h cs n [] ks) : Drv h cs n (ks.mergeSort (rkLe fun m => ((rnk h cs m : Nat) : Int))) := by
  have p := List.mergeSort_perm ks (rkLe fun m => ((rnk h cs m : Nat) : Int))
  refine ⟨rk_of ?_ ((p.nodup_iff).mpr q.nd), fun m => (p.mem_iff).trans (q.done m)⟩
  have s := List.pairwise_mergeSort (le := rkLe fun m => ((rnk h cs m : Nat) : Int)) (fun a b c h1 h2 => ?_) (fun a b => ?_) ks
  · refine s.imp fun {a b} z => ?_
    have z := of_decide_eq_true z
    dsimp only at z
    omega
  · have z1 := of_decide_eq_true h1
    have z2 := of_decide_eq_true h2
    refine decide_eq_true ?_
    dsimp only at z1 z2 ⊢
    omega
  · show (decide _ || decide _) = true
    rw [Bool.or_eq_true, decide_eq_true_iff, decide_eq_true_iff]
    dsimp only
    omega
end
end Wc
namespace Wc
open PySem L2
section
variable (K : PySem.W.Frag)
def R_derive : V3 := fun x y z H Q => ∃ (a : Addr) (h : Hd) (c : Addr) (cs : List Int) (n : Int), x = .ref a ∧ y = .ref c ∧ z = .int n ∧ HeapAt K H a h ∧ h.Ok ∧ SqT K H c (cs.map V.int) ∧ cs.length ≤ 1000 ∧ LamX.Tabs (LT_derive K) H ∧
  (¬ Obt h cs n → ∀ H', ExA H H' → Q .non H') ∧ (Obt h cs n → ∀ L v H', Drv h cs n L → LamX.ExtN H H' → LamX.Tabs (LT_derive K) H' → Is K H' (drvDt h cs L) v → Q v H')
abbrev sp_derive : Sp := sp3 (R_derive K)
end
/-- what stands in memory while derive's loop runs -/
structure Dv (K : PySem.W.Frag) (H0 H : Hp) (h : Hd) (cs : List Int) (G : List (Int × Int)) (os : List Addr) (th d rs wt : Addr) (ws ks : List Int) (kvs : List (Key × V)) : Prop where
  ex : ExA H0 H
  fr : H0 rs = none
  fw : H0 wt = none
  aT : H th = some (.dK (dictOf os h.obs))
  aO : Paired (ObAt K H) os h.obs
  aD : H d = some (.dK (dI G))
  aW : H wt = some (.lst (ws.map V.int))
  aR : H rs = some (.dK kvs)
  keys : kvs.map (·.1) = ks.map Sum.inl
  val : ∀ m ∈ ks, ∃ ra, valV kvs (Sum.inl m) = some (.ref ra) ∧ RsAt K H ra (bst h cs m)
  n1 : th ≠ rs
  n2 : th ≠ wt
  n3 : d ≠ rs
  n4 : d ≠ wt
  n5 : rs ≠ wt
section
variable {K : PySem.W.Frag} {H0 H H' : Hp} {h : Hd} {cs : List Int} {G : List (Int × Int)} {os : List Addr} {th d rs wt : Addr} {ws ks : List Int} {kvs : List (Key × V)}
theorem Dv.keep (r : Dv K H0 H h cs G os th d rs wt ws ks kvs) (e : ExA H H') : Dv K H0 H' h cs G os th d rs wt ws ks kvs :=
  ⟨r.ex.trans e, r.fr, r.fw, ExA.at e r.aT, pmp r.aO fun _ _ z => ObAt.mono (Tk.all e) z, ExA.at e r.aD, ExA.at e r.aW, ExA.at e r.aR, r.keys, fun m hm => let ⟨ra, z1, z2⟩ := r.val m hm; ⟨ra, z1, RsAt.mono (Tk.all e) z2⟩, r.n1, r.n2, r.n3, r.n4, r.n5⟩
theorem Dv.setW (r : Dv K H0 H h cs G os th d rs wt ws ks kvs) (vs : List Int) : Dv K H0 (upd H wt (.lst (vs.map V.int))) h cs G os th d rs wt vs ks kvs :=
  have t : Tk K H (upd H wt (.lst (vs.map V.int))) := Tk.lst r.aW
  ⟨r.ex.put r.fw, r.fr, r.fw, by rw [upd_ne r.n2]; exact r.aT, pmp r.aO fun _ _ z => ObAt.mono t z, by rw [upd_ne r.n4]; exact r.aD, upd_same, by rw [upd_ne r.n5]; exact r.aR, r.keys, fun m hm => let ⟨ra, z1, z2⟩ := r.val m hm; ⟨ra, z1, RsAt.mono t z2⟩, r.n1, r.n2, r.n3, r.n4, r.n5⟩
theorem Dv.setR (r : Dv K H0 H h cs G os th d rs wt ws ks kvs) {x : Int} {ra : Addr} (hx : RsAt K H ra (bst h cs x)) : Dv K H0 (upd H rs (.dK (putK kvs (Sum.inl x) (.ref ra)))) h cs G os th d rs wt ws (addK ks x) (putK kvs (Sum.inl x) (.ref ra)) := by
  have t : Tk K H (upd H rs (.dK (putK kvs (Sum.inl x) (.ref ra)))) := Tk.dic r.aR
  refine ⟨r.ex.put r.fr, r.fr, r.fw, by rw [upd_ne r.n1]; exact r.aT, pmp r.aO fun _ _ z => ObAt.mono t z, by rw [upd_ne r.n3]; exact r.aD, by rw [upd_ne r.n5.symm]; exact r.aW, upd_same, putK_keys r.keys _ _, fun m hm => ?_, r.n1, r.n2, r.n3, r.n4, r.n5⟩
  rw [valV_put]
  by_cases e : m = x
  · subst e
    exact ⟨ra, if_pos rfl, RsAt.mono t hx⟩
  · have e' : ¬ (Sum.inl m : Key) = Sum.inl x := fun z => e (Sum.inl.inj z)
    rw [if_neg e']
    obtain ⟨rb, z1, z2⟩ := r.val m ((mem_addK.mp hm).resolve_right e)
    exact ⟨rb, z1, RsAt.mono t z2⟩
end
section
variable {P : Program} {w : World} {K : PySem.W.Frag} {mg : Str → Option Value} {base : PySem.Heap}
theorem ok_derive {f : Addr} {fd : FuncData} {cd : Value} (F : Df K "derive" s_derive f fd cd) (T : Txt mg) (L : LamAt K base mg "derive" cd) (C_by_number : Cal P w K mg base 2 "by_number" (sp_by_number K) []) (C_rounds : Cal P w K mg base 3 "rounds" (sp_rounds K) []) (C_named : Cal P w K mg base 1 "named" (sp_named K) []) (C_best_reason : Cal P w K mg base 2 "best_reason" (sp_best_reason K) []) : FnOk P w K mg base CX0 5 f fd ["heap", "condemned", "number"] (sp_derive K) := by
  have nd := sc_derive.nd
  refine F.ok sc_derive (fun vs H Q E h => ?_) (fun A outer s H vs Q E hr h => ?_)
  · obtain ⟨_, _, _, rfl, _⟩ := h; rfl
  have hu := hu_of hr
  obtain ⟨x0, x1, x2, rfl, h⟩ := h
  refine ⟨_, (pss_cons (ps_set (i := 3) nd rfl (by first | exact Or.inl rfl | exact Or.inr rfl) (pe_c C_rounds hr (by first | exact Nat.le_refl _ | decide) rfl (pa_cons (pv 0) (pa_cons (pv 1) pa_nil))))
    (pss_cons (ps_if (pt_cmp (pc_dnotin hu (pv 2) (pv 3)) rfl) (pss_one (ps_ret pe_non)) pss_nil)
    (pss_cons (ps_set (i := 4) nd rfl (by first | exact Or.inl rfl | exact Or.inr rfl) (pe_c C_by_number hr (by first | exact Nat.le_refl _ | decide) rfl (pa_cons (pv 0) pa_nil)))
    (pss_cons (ps_set (i := 5) nd rfl (by first | exact Or.inl rfl | exact Or.inr rfl) pe_dnewK)
    (pss_cons (ps_set (i := 6) nd rfl (by first | exact Or.inl rfl | exact Or.inr rfl) (pe_lst (pa_cons (pv 2) pa_nil)))
    (pss_cons (ps_while PassesOwn.never (pt_truth (pv 6) (by intro _; rfl)) (pss_cons (ps_set (i := 7) nd rfl (by first | exact Or.inl rfl | exact Or.inr rfl) (pe_bm0 PySem.F.plainAttrs_list PySem.F.slot_list_pop PySem.F.type_list_pop mt_pop (pv 6)))
    (pss_cons (ps_dput hu (pv 5) (pv 7) (pe_c C_best_reason hr (by first | exact Nat.le_refl _ | decide) rfl (pa_cons (pv 0) (pa_cons (pv 4) (pa_cons (pv 3) (pa_cons (pv 1) (pa_cons (pv 7) pa_nil)))))) rfl)
    (pss_one (ps_expr (pe_bm PySem.F.plainAttrs_list PySem.F.slot_list_extend PySem.F.type_list_extend mt_extend (pv 6) (pa_cons (pe_lc (own := [("other", 8)]) rfl nd (show PI _ _ _ (iTup K _) from pi_tup (pe_c C_named hr (by first | exact Nat.le_refl _ | decide) rfl (pa_cons (pe_dget hu (pv 5) (pv 7) (fun _ _ => rfl)) pa_nil))) (blkOk_by (own := [("other", 8)]) (N := N_derive) (sc := defScope s_derive) (by decide +kernel)) (fun _ _ _ _ _ => (pg_name (i := 8) nd rfl (by first | exact Or.inl rfl | exact Or.inr rfl))) (fun _ _ _ _ _ => (pts_one (pt_cmp (pc_dnotin hu (pv 8) (pv 5)) rfl))) (fun _ _ _ _ _ => (pv 8))) pa_nil)))))))
    (pss_cons (ps_set (i := 9) nd rfl (by first | exact Or.inl rfl | exact Or.inr rfl) (pe_sortLam (T := LT_derive K) (jd := 3) rfl (hr.mono (by decide)) L.tb L.code (List.mem_singleton.mpr rfl) (fun p hp _ => by have e := List.mem_singleton.mp hp; subst e; rfl) rfl rfl rfl rfl (by decide +kernel) (by decide +kernel) (by decide +kernel) (show ∀ y ∈ [(("step" : Str), NameKind.local), ("depths", NameKind.free)], y.2 = NameKind.free → (defScope s_derive).names.lookup y.1 = some NameKind.cell from by decide +kernel) rfl rfl rfl rfl (fun _ _ _ _ _ => rfl) rfl T.sorted (pv 5)))
    (pss_one (ps_ret (pe_callTy (r := rTupS K) call_tuple_of rfl T.tuple (by decide +kernel) (pa_cons (pe_lc (own := [("step", 10)]) rfl nd (show PI _ _ _ (iList K _) from pi_list (pv 9)) (blkOk_by (own := [("step", 10)]) (N := N_derive) (sc := defScope s_derive) (by decide +kernel)) (fun _ _ _ _ _ => (pg_name (i := 10) nd rfl (by first | exact Or.inl rfl | exact Or.inr rfl))) (fun _ _ _ _ _ => pts_nil) (fun _ _ _ _ _ => (pe_tup (pa_cons (pv 10) (pa_cons (pe_dget hu (pv 5) (pv 10) (fun _ _ => rfl)) pa_nil))))) pa_nil))))))))))), ?_⟩
  obtain ⟨a, h, c, cs, n, rfl, rfl, rfl, hA, ok, hC, hz, hT, q0, q1⟩ := h
  refine ⟨_, rfl, _, rfl, _, _, rfl, a, h, c, cs, rfl, rfl, hA, ok, .inr hC, hz, fun d H1 G rG fd1 e1 hd => ?_⟩
  refine ⟨_, rfl, _, rfl, d, _, rfl, DGet.k (k := Sum.inl n) hd, _, rfl, ?_⟩
  rw [key_has (dI_keys G) n]
  by_cases hx : Obt h cs n
  case neg =>
    rw [decide_eq_false fun z => hx ((rG.all n).mp z)]
    exact iteT (q0 hx _ e1)
  rw [decide_eq_true ((rG.all n).mpr hx)]
  refine iteF ?_
  have q := q1 hx
  refine ⟨_, rfl, _, rfl, a, h, rfl, HeapAt.mono (Tk.all e1) hA, ok, fun th H2 os f2 e2 hos hth => ?_⟩
  intro rs frs
  refine ⟨_, rfl, sz (by show 1 ≤ 100000; decide), fun wt fwt => ?_⟩
  have e02 : ExA H H2 := ExM.trans e1 e2
  have hd2 := ExA.at e2 hd
  have nrw : rs ≠ wt := ne_of_none (upd_same (H := H2)) fwt
  have fwt2 : H2 wt = none := by
    rw [upd_ne nrw.symm] at fwt
    exact fwt
  have R0 : Dv K H (upd (upd H2 rs (.dK [])) wt (.lst [V.int n])) h cs G os th d rs wt [n] [] [] := by
    have t : Tk K H2 (upd (upd H2 rs (.dK [])) wt (.lst [V.int n])) := Tk.trans (Tk.new frs) (Tk.new fwt)
    have n1 : th ≠ rs := ne_of_none hth frs
    have n2 : th ≠ wt := ne_of_none hth fwt2
    have n3 : d ≠ rs := ne_of_none hd2 frs
    have n4 : d ≠ wt := ne_of_none hd2 fwt2
    refine ⟨(e02.put (ExA.free e02 frs)).put (ExA.free e02 fwt2), ExA.free e02 frs, ExA.free e02 fwt2, ?_, pmp hos fun _ _ z => ObAt.mono t z, ?_, upd_same, ?_, rfl, fun m hm => (nomatch hm), n1, n2, n3, n4, nrw⟩
    · rw [upd_ne n2, upd_ne n1]; exact hth
    · rw [upd_ne n4, upd_ne n3]; exact hd2
    · rw [upd_ne nrw, upd_same]
  generalize upd (upd H2 rs (.dK [])) wt (.lst [V.int n]) = H3 at R0 ⊢
  refine ⟨fun m σ' H' => ∃ (ws ks : List Int) (kvs : List (Key × V)) (u7 : Option V), m = msr h cs ws ∧ σ' = [some (.ref a), some (.ref c), some (.int n), some (.ref d), some (.ref th), some (.ref rs), some (.ref wt), u7, none, none, none] ∧ Wk h cs n ws ks ∧ Dv K H H' h cs G os th d rs wt ws ks kvs,
    ⟨_, [n], [], [], none, rfl, rfl, Wk.first ok hx, R0⟩, ?_⟩
  rintro m σ' H' ⟨ws, ks, kvs, u7, rfl, rfl, wk, R⟩
  refine ⟨_, rfl, !(ws.map V.int).isEmpty, .inl ⟨_, SqL.of R.aW, rfl⟩, ?_⟩
  rcases List.eq_nil_or_concat ws with rfl | ⟨ws', x, ews⟩
  · -- all have their reasons
    refine iteF ?_
    have zk : ks.length ≤ 50 := Nat.le_trans (wk.size ok hx) ok.size
    have T' : LamX.Tabs (LT_derive K) H' := hT.ext fun b o e => ExA.at R.ex e
    refine ⟨_, rfl, T', rs, d, kvs, dI G, ks, (fun m => ((rnk h cs m : Nat) : Int)), rfl, R.aR, R.keys, by omega, rfl, R.aD, fun m hm => rG.look (Need.obt ok hx ((wk.done m).mp hm)), fun H4 lo x4 T4 flo => ?_⟩
    have hdrv := wk.drv
    have pm := List.mergeSort_perm ks (rkLe fun m => ((rnk h cs m : Nat) : Int))
    generalize ks.mergeSort (rkLe fun m => ((rnk h cs m : Nat) : Int)) = L at hdrv pm ⊢
    have x5 : LamX.ExtN H (upd H4 lo (.lst (L.map V.int))) := ((LamX.ExtN.of fun b o e => ExA.at R.ex e).trans x4).trans (LamX.ExtN.of fun b o e => ExA.at (ExM.new flo) e)
    have aR5 : (upd H4 lo (.lst (L.map V.int))) rs = some (.dK kvs) := ExA.at (ExM.new flo) (x4 _ _ R.aR fun _ z => nomatch z)
    have T5 : LamX.Tabs (LT_derive K) (upd H4 lo (.lst (L.map V.int))) := T4.ext fun b o e => ExA.at (ExM.new flo) e
    have v5 : ∀ m ∈ ks, ∃ ra, valV kvs (Sum.inl m) = some (.ref ra) ∧ RsAt K (upd H4 lo (.lst (L.map V.int))) ra (bst h cs m) := fun m hm => by
      obtain ⟨ra, z1, z2⟩ := R.val m hm
      exact ⟨ra, z1, RsAt.mono (Tk.trans (Tk.ext x4) (Tk.all (ExM.new flo))) z2⟩
    have hlo5 : (upd H4 lo (.lst (L.map V.int))) lo = some (.lst (L.map V.int)) := upd_same
    generalize upd H4 lo (.lst (L.map V.int)) = H5 at x5 aR5 T5 v5 hlo5 ⊢
    have zL : L.length ≤ 50 := by rw [pm.length_eq]; exact zk
    refine ⟨_, rfl, lo, rfl, ⟨_, SqL.of hlo5⟩, fun D hD => ?_⟩
    refine lcM [] (walk_list (xs := L.map V.int)) hD (fun i acc H' => Paired (fun v m => Is K H' (.tup [.int m, (bst h cs m).dt]) v) acc (L.take i)) .nil (fun H' e => SqL.of (ExA.at e hlo5)) (fun i x H6 H7 acc hi e k1 k2 hacc y => ?_) (fun H6 acc e6 k1 k2 hacc => ?_)
    · obtain ⟨rfl, hx'⟩ := y
      rw [List.length_map] at hi
      obtain ⟨m, hm⟩ : ∃ m, L[i]? = some m := ⟨_, List.getElem?_eq_getElem hi⟩
      rw [List.getElem?_map, hm] at hx'
      obtain rfl : V.int m = x := Option.some.inj hx'
      have mk : m ∈ ks := (pm.mem_iff).mp (List.mem_of_getElem? hm)
      obtain ⟨ra, z1, z2⟩ := v5 m mk
      have z3 := RsAt.mono (Tk.all e) z2
      refine ⟨rfl, tyes ⟨_, rfl, _, rfl, _, rfl, rs, _, rfl, DGet.k (k := Sum.inl m) (ExA.at e aR5) |> fun z => by rw [z1] at z; exact z, sz (by show 2 ≤ 100000; decide), fun t ft => ?_⟩⟩
      refine LcP.yes hD (by simp) (by omega) e k1 k2 (ExM.new ft) ?_
      have nDt : D ≠ t := ne_of_none k1 ft
      have hDt : (upd H7 t (.tup [V.int m, V.ref ra])) D = some (.lst acc) := by rw [upd_ne nDt]; exact k1
      have tt : Tk K H7 (upd (upd H7 t (.tup [V.int m, V.ref ra])) D (.lst (acc ++ [V.ref t]))) := Tk.trans (Tk.new ft) (Tk.lst hDt)
      rw [take_snoc hm]
      refine psnoc (F := fun v m => Is K _ (.tup [.int m, (bst h cs m).dt]) v) ?_ (pmp (F := fun v m => Is K H7 (.tup [.int m, (bst h cs m).dt]) v) hacc fun _ _ z => Is.mono tt _ _ z)
      refine ⟨t, _, rfl, SqT.of (by rw [upd_ne nDt.symm]; exact upd_same), _, _, rfl, rfl, _, _, rfl, RsAt.is (RsAt.mono tt z3), rfl⟩
    rw [List.length_map, List.take_length] at hacc
    refine ⟨D, _, rfl, .inl ⟨SqL.of k1, fun t ft => ?_⟩⟩
    have x7 : ExA H5 (upd H6 t (.tup acc)) := ExM.trans e6 (ExM.new ft)
    refine q L _ _ hdrv (x5.trans (LamX.ExtN.of fun b o e => ExA.at x7 e)) (T5.ext fun b o e => ExA.at x7 e) ⟨t, acc, rfl, SqT.of upd_same, IsL.of (pmp (F := fun v m => Is K H6 (.tup [.int m, (bst h cs m).dt]) v) hacc fun _ _ z => Is.mono (Tk.new ft) _ _ z)⟩
  -- one that waits
  rw [List.concat_eq_append] at ews
  subst ews
  have hne : (!((ws' ++ [x]).map V.int).isEmpty) = true := by simp
  rw [hne]
  have ox := Need.obt ok hx (wk.wN x (by simp))
  have wk' := wk.step ok hx
  have ls := wk.less ok hx
  have zk : ks.length ≤ 50 := Nat.le_trans (wk.size ok hx) ok.size
  have zk' : (addK ks x).length ≤ 50 := Nat.le_trans (wk'.size ok hx) ok.size
  have zw' := wk'.len
  have zob := ok.size
  refine iteT ⟨fun σ2 H2 => ∃ (kvs' : List (Key × V)) (u7 : Option V), σ2 = [some (.ref a), some (.ref c), some (.int n), some (.ref d), some (.ref th), some (.ref rs), some (.ref wt), u7, none, none, none] ∧ Dv K H H2 h cs G os th d rs wt (ws' ++ nxt h cs ks x) (addK ks x) kvs', ?_, ?_⟩
  · rintro σ2 H2 ⟨kvs', u7, rfl, R'⟩
    exact ⟨_, ls, _, _, kvs', u7, rfl, rfl, wk', R'⟩
  refine ⟨_, rfl, .inl ⟨rfl, _, SqL.of R.aW⟩, wt, _, V.int x, rfl, rfl, R.aW, by simp, ?_⟩
  have ed : ((ws' ++ [x]).map V.int).dropLast = ws'.map V.int := by simp
  rw [ed]
  have R1 := R.setW ws'
  generalize upd H' wt (.lst (ws'.map V.int)) = H4 at R1 ⊢
  refine ⟨_, rfl, _, rfl, _, rfl, _, rfl, _, rfl, _, _, _, _, _, rfl, a, h, th, os, d, G, c, cs, x, rfl, rfl, rfl, rfl, rfl, HeapAt.mono (Tk.all R1.ex) hA, ok, R1.aT, R1.aO, R1.aD, rG, Tk.all R1.ex _ _ hC, ox, fun H5 ra e5 hra => ?_⟩
  have R2 := R1.keep e5
  have zkv : kvs.length < sizeLine := szl (by
    have z := congrArg List.length R.keys
    rw [List.length_map, List.length_map] at z
    omega)
  refine ⟨_, rfl, _, rfl, rs, _, rfl, DPut.k (k := Sum.inl x) R2.aR zkv, ?_⟩
  have R3 := R2.setR (x := x) hra
  have hra3 : RsAt K (upd H5 rs (.dK (putK kvs (Sum.inl x) (.ref ra)))) ra (bst h cs x) := RsAt.mono (Tk.dic R2.aR) hra
  generalize upd H5 rs (.dK (putK kvs (Sum.inl x) (.ref ra))) = H6 at R3 hra3 ⊢
  have hget : valV (putK kvs (Sum.inl x) (.ref ra)) (Sum.inl x) = some (.ref ra) := by rw [valV_put, if_pos rfl]
  refine ⟨_, rfl, .inl ⟨rfl, _, SqL.of R3.aW⟩, ?_⟩
  refine ⟨_, rfl, _, rfl, rs, _, rfl, DGet.k (k := Sum.inl x) R3.aR |> fun z => by rw [hget] at z; exact z, ?_⟩
  refine ⟨_, rfl, ra, rfl, .inl ⟨bst h cs x, hra3, fun t H7 ft e7 ht => ?_⟩⟩
  have R4 := R3.keep e7
  refine ⟨t, rfl, ⟨_, SqT.of ht⟩, fun D hD => ?_⟩
  have znm := Rs.names_len (bst h cs x)
  refine lcM [] (walk_tup (xs := (bst h cs x).names.map V.int)) hD (fun i acc _ => acc = (((bst h cs x).names.take i).filter fun k => decide (k ∉ addK ks x)).map V.int) rfl (fun H' e => Tk.all e _ _ (SqT.of ht)) (fun i y H8 H9 acc hi e k1 k2 hacc yy => ?_) (fun H8 acc e8 k1 k2 hacc => ?_)
  · obtain ⟨rfl, hx'⟩ := yy
    rw [List.length_map] at hi
    obtain ⟨m, hm⟩ : ∃ m, (bst h cs x).names[i]? = some m := ⟨_, List.getElem?_eq_getElem hi⟩
    rw [List.getElem?_map, hm] at hx'
    obtain rfl : V.int m = y := Option.some.inj hx'
    refine ⟨rfl, _, rfl, _, rfl, rs, _, rfl, DGet.k (k := Sum.inl m) (ExA.at e R4.aR), _, rfl, ?_⟩
    rw [key_has R4.keys m]
    have htk := take_snoc hm
    by_cases c1 : m ∈ addK ks x
    · rw [decide_eq_true c1]
      refine iteF (LcP.no (by simp) e k1 k2 (ExM.refl _ _) ?_)
      rw [hacc, htk, List.filter_append]
      simp [c1]
    · rw [decide_eq_false c1]
      refine iteT ⟨_, rfl, LcP.yes hD (by simp) (by omega) e k1 k2 (ExM.refl _ _) ?_⟩
      rw [hacc, htk, List.filter_append, List.map_append]
      simp [c1]
  rw [List.length_map, List.take_length] at hacc
  have R5 := R4.keep e8
  refine ⟨wt, D, _, _, rfl, rfl, R5.aW, k1, ?_, ?_⟩
  · rw [hacc, List.length_map, List.length_map]
    have z : ((bst h cs x).names.filter fun k => decide (k ∉ addK ks x)).length ≤ 2 := nxt_len
    rw [List.length_append] at zw'
    exact sz (by omega)
  · have R6 := R5.setW (ws' ++ nxt h cs ks x)
    rw [hacc]
    rw [List.map_append] at R6
    exact ⟨_, _, rfl, R6⟩
end
end Wc
namespace Wc
open PySem L2
def RsP (K : PySem.W.Frag) (H : Hp) (v : V) (r : Rs) : Prop := ∃ ra, v = .ref ra ∧ RsAt K H ra r
theorem RsP.mono {K : PySem.W.Frag} {H H' : Hp} {v : V} {r : Rs} (t : Tk K H H') (h : RsP K H v r) : RsP K H' v r := let ⟨ra, e, z⟩ := h; ⟨ra, e, RsAt.mono t z⟩
/-- what the law has found: by numbers, a list of the round and the reason -/
def FoundAt (K : PySem.W.Frag) (H : Hp) (p : Addr) (h : Hd) (cs ks : List Int) : Prop := ∃ kvs, H p = some (.dK kvs) ∧ kvs.map (·.1) = ks.map Sum.inl ∧
  ∀ m ∈ ks, ∃ la ra, valV kvs (Sum.inl m) = some (.ref la) ∧ H la = some (.lst [.int (rnk h cs m : Nat), .ref ra]) ∧ RsAt K H ra (bst h cs m)
theorem FoundAt.ext {K : PySem.W.Frag} {H H' : Hp} {p : Addr} {h : Hd} {cs ks : List Int} (e : LamX.ExtN H H') (x : FoundAt K H p h cs ks) : FoundAt K H' p h cs ks := by
  obtain ⟨kvs, h1, h2, h3⟩ := x
  refine ⟨kvs, e _ _ h1 (fun _ z => nomatch z), h2, fun m hm => ?_⟩
  obtain ⟨la, ra, z1, z2, z3⟩ := h3 m hm
  exact ⟨la, ra, z1, e _ _ z2 (fun _ z => nomatch z), RsAt.mono (Tk.ext e) z3⟩
theorem FoundAt.keep {K : PySem.W.Frag} {H H' : Hp} {p : Addr} {h : Hd} {cs ks : List Int} (e : ExA H H') (x : FoundAt K H p h cs ks) : FoundAt K H' p h cs ks := x.ext (LamX.ExtN.of fun b o z => ExA.at e z)
section
variable (K : PySem.W.Frag)
def R__law_reasons : V4 := fun x y z u H Q => ∃ (a : Addr) (h : Hd) (n : Int) (g : Addr) (gs : List Int) (c : Addr) (cs : List Int), x = .ref a ∧ y = .int n ∧ z = .ref g ∧ u = .ref c ∧ HeapAt K H a h ∧ h.Ok ∧ SqL K H g (gs.map V.int) ∧ SqT K H c (cs.map V.int) ∧
  ∀ H' p vs, ExA H H' → H p = none → H' p = some (.lst vs) → Paired (RsP K H') vs (rsAll h gs cs n) → Q (.ref p) H'
abbrev sp__law_reasons : Sp := sp4 (R__law_reasons K)
def R__law_rounds : V2 := fun x y H Q => ∃ (a : Addr) (h : Hd) (c : Addr) (cs : List Int), x = .ref a ∧ y = .ref c ∧ HeapAt K H a h ∧ h.Ok ∧ SqT K H c (cs.map V.int) ∧
  ∀ H' p ks, ExA H H' → H p = none → FoundAt K H' p h cs ks → ks.Nodup → (∀ m, m ∈ ks ↔ Obt h cs m) → Q (.ref p) H'
abbrev sp__law_rounds : Sp := sp2 (R__law_rounds K)
def R__law_named : V1 := fun x H Q => ∃ (a : Addr) (r : Rs), x = .ref a ∧ RsAt K H a r ∧ NewL r.names H Q
abbrev sp__law_named : Sp := sp1 (R__law_named K)
def R__law_derived : V2 := fun x y H Q => ∃ (f : Addr) (h : Hd) (cs ks : List Int) (n : Int), x = .ref f ∧ y = .int n ∧ h.Ok ∧ FoundAt K H f h cs ks ∧ ks.Nodup ∧ (∀ m, m ∈ ks ↔ Obt h cs m) ∧ Obt h cs n ∧
  ∀ H' p L vs, Drv h cs n L → ExA H H' → H p = none → H' p = some (.lst vs) → Paired (fun v m => Is K H' (.tup [.int m, (bst h cs m).dt]) v) vs L → Q (.ref p) H'
abbrev sp__law_derived : Sp := sp2 (R__law_derived K)
end
section
variable {P : Program} {w : World} {K : PySem.W.Frag} {mg : Str → Option Value} {base : PySem.Heap}
theorem ok__law_named {f : Addr} {fd : FuncData} {cd : Value} (F : Df K "_law_named" s__law_named f fd cd) (T : Txt mg) : FnOk P w K mg base CX0 1 f fd ["reason"] (sp__law_named K) := by
  have nd := sc__law_named.nd
  refine F.ok sc__law_named (fun vs H Q E h => ?_) (fun A outer s H vs Q E hr h => ?_)
  · obtain ⟨_, rfl, _⟩ := h; rfl
  have hu := hu_of hr
  obtain ⟨x0, rfl, h⟩ := h
  refine ⟨_, (pss_cons (ps_if (pt_cmpR (r := rIn K false) op_in_seq (pe_ix (r := rIxT K) ix_tup (pv 0) pe_int (fun _ _ => rfl)) (pe_lst (pa_cons pe_str (pa_cons pe_str pa_nil))) (by first | exact nomark _ | rfl)) (pss_one (ps_ret (pe_lst (pa_cons (pe_ix (r := rIxT K) ix_tup (pv 0) pe_int (fun _ _ => rfl)) pa_nil)))) pss_nil)
    (pss_cons (ps_if (pt_cmpR op_eq (pe_ix (r := rIxT K) ix_tup (pv 0) pe_int (fun _ _ => rfl)) pe_str (nomark _)) (pss_one (ps_ret (pe_lst (pa_cons (pe_ix (r := rIxT K) ix_tup (pv 0) pe_int (fun _ _ => rfl)) (pa_cons (pe_ix (r := rIxT K) ix_tup (pv 0) pe_int (fun _ _ => rfl)) pa_nil))))) pss_nil)
    (pss_one (ps_ret (pe_lst pa_nil))))), ?_⟩
  obtain ⟨a, r, rfl, hA, q⟩ := h
  cases r with
  | reg k =>
    have h1 : SqT K H a [.str "register", .int (k : Nat)] := hA
    refine ⟨_, rfl, a, _, _, _, rfl, rfl, h1, at0, sz (by show 2 ≤ 100000; decide), fun l fl => ?_⟩
    have h2 := Tk.new (K := K) (o := .lst [.str "field", .str "deref"]) fl _ _ h1
    refine ⟨l, _, rfl, .inl (SqL.of upd_same), rfl, rfl, _, rfl, iteF ?_⟩
    refine ⟨_, rfl, a, _, _, _, rfl, rfl, h2, at0, rfl, _, rfl, iteF ?_⟩
    exact ⟨Nat.zero_le _, fun p hp => q p _ (ExA.free (ExM.new fl) hp) (ExM.trans (ExM.new fl) (ExM.new hp)) upd_same⟩
  | fld n k =>
    have h1 : SqT K H a [.str "field", .int n, .int (k : Nat)] := hA
    refine ⟨_, rfl, a, _, _, _, rfl, rfl, h1, at0, sz (by show 2 ≤ 100000; decide), fun l fl => ?_⟩
    have h2 := Tk.new (K := K) (o := .lst [.str "field", .str "deref"]) fl _ _ h1
    refine ⟨l, _, rfl, .inl (SqL.of upd_same), rfl, rfl, _, rfl, iteT ?_⟩
    exact ⟨_, rfl, a, _, _, _, rfl, rfl, h2, at1, sz (by show 1 ≤ 100000; decide), fun p hp => q p _ (ExA.free (ExM.new fl) hp) (ExM.trans (ExM.new fl) (ExM.new hp)) upd_same⟩
  | ent n k =>
    have h1 : SqT K H a [.str "entry", .int n, .int k] := hA
    refine ⟨_, rfl, a, _, _, _, rfl, rfl, h1, at0, sz (by show 2 ≤ 100000; decide), fun l fl => ?_⟩
    have h2 := Tk.new (K := K) (o := .lst [.str "field", .str "deref"]) fl _ _ h1
    refine ⟨l, _, rfl, .inl (SqL.of upd_same), rfl, rfl, _, rfl, iteF ?_⟩
    refine ⟨_, rfl, a, _, _, _, rfl, rfl, h2, at0, rfl, _, rfl, iteT ?_⟩
    exact ⟨_, rfl, a, _, _, _, rfl, rfl, h2, at1, _, rfl, a, _, _, _, rfl, rfl, h2, at2, sz (by show 2 ≤ 100000; decide), fun p hp => q p _ (ExA.free (ExM.new fl) hp) (ExM.trans (ExM.new fl) (ExM.new hp)) upd_same⟩
  | drf n =>
    have h1 : SqT K H a [.str "deref", .int n] := hA
    refine ⟨_, rfl, a, _, _, _, rfl, rfl, h1, at0, sz (by show 2 ≤ 100000; decide), fun l fl => ?_⟩
    have h2 := Tk.new (K := K) (o := .lst [.str "field", .str "deref"]) fl _ _ h1
    refine ⟨l, _, rfl, .inl (SqL.of upd_same), rfl, rfl, _, rfl, iteT ?_⟩
    exact ⟨_, rfl, a, _, _, _, rfl, rfl, h2, at1, sz (by show 1 ≤ 100000; decide), fun p hp => q p _ (ExA.free (ExM.new fl) hp) (ExM.trans (ExM.new fl) (ExM.new hp)) upd_same⟩
end
end Wc
namespace Wc
open PySem L2
/-! ### the lengths of reasons: a dict of the module -/
abbrev lenKeys : List Str := ["register", "field", "entry", "deref"]
structure Lng (K : PySem.W.Frag) (w : World) (mg : Str → Option Value) : Prop where
  g : mg "LENGTHS" = some (.ref (He.ga K "LENGTHS"))
  d : ∃ es n, KDict K w (He.ga K "LENGTHS") es n
  reg : KLk K (He.ga K "LENGTHS") "register" (.int 2)
  fld : KLk K (He.ga K "LENGTHS") "field" (.int 3)
  ent : KLk K (He.ga K "LENGTHS") "entry" (.int 3)
  drf : KLk K (He.ga K "LENGTHS") "deref" (.int 2)
  non : KLk K (He.ga K "LENGTHS") "kept" .non
theorem Lng.of {K : PySem.W.Frag} {w : World} {mg : Str → Option Value} (g : mg "LENGTHS" = some (.ref (He.ga K "LENGTHS"))) (d : ∃ es n, KDict K w (He.ga K "LENGTHS") es n)
    (m : ((He.valsB K (He.ga K "LENGTHS") [("register", .int 2), ("field", .int 3), ("entry", .int 3), ("deref", .int 2)]) && (He.eqO (PySem.W.nsIn K (He.ga K "LENGTHS") "kept") (some none))) = true) : Lng K w mg := by
  obtain ⟨m1, m2⟩ := Bool.and_eq_true_iff.mp m
  have v : ∀ q ∈ [(("register" : Str), He.Dv.int 2), ("field", .int 3), ("entry", .int 3), ("deref", .int 2)], KLk K (He.ga K "LENGTHS") q.1 (q.2.v K) := fun q hq => by
    obtain ⟨u, h1, h2⟩ := He.valsB_ok m1 hq
    exact ⟨some u, h1, h2⟩
  exact ⟨g, d, v ("register", .int 2) (by simp), v ("field", .int 3) (by simp), v ("entry", .int 3) (by simp), v ("deref", .int 2) (by simp), ⟨none, He.eqO_ok m2, rfl⟩⟩
/-! ### what has the shape of a reason, of a step -/
/-- a kind, and numbers, as many as it wants -/
inductive RsShape : List V → Prop where
  | reg (i : Int) : RsShape [.str "register", .int i]
  | fld (i j : Int) : RsShape [.str "field", .int i, .int j]
  | ent (i j : Int) : RsShape [.str "entry", .int i, .int j]
  | drf (i : Int) : RsShape [.str "deref", .int i]
/-- things that are no reasons -/
inductive NoRs (K : PySem.W.Frag) (H : Hp) : V → Prop where
  | str (x : Str) : NoRs K H (.str x)
  | nil {a : Addr} : SqT K H a [] → NoRs K H (.ref a)
  | short {a : Addr} (i : Int) : SqT K H a [.str "field", .int i] → NoRs K H (.ref a)
  | kept {a : Addr} : SqT K H a [.str "kept"] → NoRs K H (.ref a)
  | bool {a : Addr} (b : Bool) : SqT K H a [.str "register", .bl b] → NoRs K H (.ref a)
  | text {a : Addr} (x : Str) : SqT K H a [.str "deref", .str x] → NoRs K H (.ref a)
  | num {a : Addr} (i j : Int) : SqT K H a [.int i, .int j] → NoRs K H (.ref a)
inductive NoSt (K : PySem.W.Frag) (H : Hp) : V → Prop where
  | non : NoSt K H .non
  | int (i : Int) : NoSt K H (.int i)
  | one {a : Addr} (x : V) : SqT K H a [x] → NoSt K H (.ref a)
  | text {a : Addr} (x : Str) (y : V) : SqT K H a [.str x, y] → NoSt K H (.ref a)
  | bool {a : Addr} (b : Bool) (y : V) : SqT K H a [.bl b, y] → NoSt K H (.ref a)
  | rs {a : Addr} (i : Int) (y : V) : SqT K H a [.int i, y] → NoRs K H y → NoSt K H (.ref a)
theorem Rs.shape (r : Rs) : RsShape r.row := by
  cases r with
  | reg k => exact .reg _
  | fld n k => exact .fld _ _
  | ent n k => exact .ent _ _
  | drf n => exact .drf _
section
variable (K : PySem.W.Frag)
def R_is_reason : V1 := fun x H Q => ((∃ (a : Addr) (xs : List V), x = .ref a ∧ SqT K H a xs ∧ RsShape xs) ∧ ∀ H', ExA H H' → Q (.bl true) H') ∨ (NoRs K H x ∧ ∀ H', ExA H H' → Q (.bl false) H')
abbrev sp_is_reason : Sp := sp1 (R_is_reason K)
def R_has_shape : V1 := fun x H Q => ((∃ (s a : Addr) (n : Int) (xs : List V), x = .ref s ∧ SqT K H s [.int n, .ref a] ∧ SqT K H a xs ∧ RsShape xs) ∧ ∀ H', ExA H H' → Q (.bl true) H') ∨ (NoSt K H x ∧ ∀ H', ExA H H' → Q (.bl false) H')
abbrev sp_has_shape : Sp := sp1 (R_has_shape K)
def R_at_index : V2 := fun x y H Q => ∃ (a : Addr) (rs : List Rf) (i : Int), x = .ref a ∧ y = .int i ∧ SqT K H a (rs.map rV) ∧ rs.length ≤ 10000 ∧ Q (rV (if 0 ≤ i then (rs[i.toNat]?).join else none)) H
abbrev sp_at_index : Sp := sp2 (R_at_index K)
end
theorem mt_int : MetaTy "int" := TypeEq.meta_int
theorem mt_str : MetaTy "str" := TypeEq.meta_str
theorem mt_bool : MetaTy "bool" := TypeEq.meta_bool
theorem mt_tuple : MetaTy "tuple" := TypeEq.meta_tuple
theorem mt_non : MetaTy "NoneType" := TypeEq.meta_NoneType
section
variable {P : Program} {w : World} {K : PySem.W.Frag} {mg : Str → Option Value} {base : PySem.Heap}
theorem ok_at_index {f : Addr} {fd : FuncData} {cd : Value} (F : Df K "at_index" s_at_index f fd cd) (T : Txt mg) : FnOk P w K mg base CX0 1 f fd ["row", "index"] (sp_at_index K) := by
  have nd := sc_at_index.nd
  refine F.ok sc_at_index (fun vs H Q E h => ?_) (fun A outer s H vs Q E hr h => ?_)
  · obtain ⟨_, _, rfl, _⟩ := h; rfl
  have hu := hu_of hr
  obtain ⟨x0, x1, rfl, h⟩ := h
  refine ⟨_, (pss_one (ps_ret (pe_ifExp (pt_chain op_le op_lt pe_int (pv 1) (pe_callB (r := Evl.rLenS K) call_len_seq rfl T.len PySem.boot_len (pa_cons (pv 0) pa_nil))) (pe_ix (r := rIxT K) ix_tup (pv 0) (pv 1) (fun _ _ => rfl)) pe_non))), ?_⟩
  obtain ⟨a, rs, i, rfl, rfl, hA, hz, q⟩ := h
  have lr : (rs.map rV).length = rs.length := List.length_map _
  refine ⟨_, rfl, _, _, rfl, rfl, _, rfl, ite2 (fun c => ?_) (fun c => ?_)⟩
  · have c0 : 0 ≤ i := of_decide_eq_true c
    refine ⟨_, rfl, a, _, rfl, .inr hA, _, _, rfl, rfl, _, rfl, ite2 (fun c2 => ?_) (fun c2 => ?_)⟩
    · have c2' : i < (((rs.map rV).length : Nat) : Int) := of_decide_eq_true c2
      rw [lr] at c2'
      obtain ⟨j, rfl⟩ : ∃ j : Nat, i = (j : Int) := ⟨i.toNat, by omega⟩
      have hj : j < rs.length := by omega
      refine ⟨_, rfl, _, rfl, a, _, _, _, rfl, rfl, hA, atI_nat (by rw [List.getElem?_map, List.getElem?_eq_getElem hj]; rfl), ?_⟩
      rw [if_pos c0, Int.toNat_natCast, List.getElem?_eq_getElem hj] at q
      exact q
    · have c2' : ¬ i < (((rs.map rV).length : Nat) : Int) := of_decide_eq_false (Bool.eq_false_iff.mpr c2)
      rw [lr] at c2'
      rw [if_pos c0, List.getElem?_eq_none (by omega)] at q
      exact q
  · have c0 : ¬ 0 ≤ i := of_decide_eq_false (Bool.eq_false_iff.mpr c)
    rw [if_neg c0] at q
    exact ⟨false, rfl, iteF q⟩
theorem ok_is_reason {f : Addr} {fd : FuncData} {cd : Value} (F : Df K "is_reason" s_is_reason f fd cd) (T : Txt mg) (Lg : Lng K w mg) : FnOk P w K mg base CX0 1 f fd ["reason"] (sp_is_reason K) := by
  have nd := sc_is_reason.nd
  refine F.ok sc_is_reason (fun vs H Q E h => ?_) (fun A outer s H vs Q E hr h => ?_)
  · obtain ⟨_, rfl, _⟩ := h; rfl
  have hu := hu_of hr
  obtain ⟨x0, rfl, h⟩ := h
  obtain ⟨es_, n_, D_⟩ := Lg.d
  refine ⟨_, (pss_cons (ps_if (PW.pt (pw_or (pt_cmpR op_neTy (pe_callTy (r := rTyp K) call_type1 rfl T.type (by decide +kernel) (pa_cons (pv 0) pa_nil)) (pe_bltn (v := .ty "tuple") rfl T.tuple (by decide +kernel) rfl) (by first | exact nomark _ | rfl)) (pw_or1 (pt_cmpR op_eq (pe_callB (r := Evl.rLenS K) call_len_seq rfl T.len PySem.boot_len (pa_cons (pv 0) pa_nil)) pe_int (nomark _))))) (pss_one (ps_ret pe_bl)) pss_nil)
    (pss_cons (ps_set (i := 1) nd rfl (by first | exact Or.inl rfl | exact Or.inr rfl) (pe_ix (r := rIxT K) ix_tup (pv 0) pe_int (fun _ _ => rfl)))
    (pss_cons (ps_if (PW.pt (pw_or (pt_cmpR op_neTy (pe_callTy (r := rTyp K) call_type1 rfl T.type (by decide +kernel) (pa_cons (pv 1) pa_nil)) (pe_bltn (v := .ty "str") rfl T.str (by decide +kernel) rfl) (by first | exact nomark _ | rfl)) (pw_or1 (pt_cmpR op_ne (pe_kget D_ rfl Lg.g (pv 1) ⟨rfl, rfl, rfl, rfl⟩) (pe_callB (r := Evl.rLenS K) call_len_seq rfl T.len PySem.boot_len (pa_cons (pv 0) pa_nil)) (nomark _))))) (pss_one (ps_ret pe_bl)) pss_nil)
    (pss_one (ps_ret (pe_callB (r := rAll K) (cr_all rfl) rfl T.all (by decide +kernel) (pa_cons (pe_lc (own := [("part", 2)]) rfl nd (show PI _ _ _ (iTup K _) from pi_tup (pe_slice sl_tup (pv 0) (po_some pe_int) po_none)) (blkOk_by (own := [("part", 2)]) (N := N_is_reason) (sc := defScope s_is_reason) (by decide +kernel)) (fun _ _ _ _ _ => (pg_name (i := 2) nd rfl (by first | exact Or.inl rfl | exact Or.inr rfl))) (fun _ _ _ _ _ => pts_nil) (fun _ _ _ _ _ => (pe_cmpR op_eqTy (pe_callTy (r := rTyp K) call_type1 rfl T.type (by decide +kernel) (pa_cons (pv 2) pa_nil)) (pe_bltn (v := .ty "int") rfl T.int (by decide +kernel) rfl) (by first | exact nomark _ | rfl)))) pa_nil))))))), ?_⟩
  have small : ∀ {n : Nat}, n ≤ 100 → n ≤ 100000 := fun h => by omega
  rcases h with ⟨⟨a, xs, rfl, hA, sh⟩, q⟩ | ⟨no, q⟩
  · obtain ⟨kd, is, ln, rfl, kl, el, zl⟩ : ∃ (kd : Str) (is : List Int) (ln : Int), xs = .str kd :: is.map V.int ∧ KLk K (He.ga K "LENGTHS") kd (.int ln) ∧ ln = ((is.length + 1 : Nat) : Int) ∧ is.length ≤ 2 := by
      cases sh with
      | reg i => exact ⟨"register", [i], 2, rfl, Lg.reg, rfl, by simp⟩
      | fld i j => exact ⟨"field", [i, j], 3, rfl, Lg.fld, rfl, by simp⟩
      | ent i j => exact ⟨"entry", [i, j], 3, rfl, Lg.ent, rfl, by simp⟩
      | drf i => exact ⟨"deref", [i], 2, rfl, Lg.drf, rfl, by simp⟩
    have lx : ((V.str kd :: is.map V.int).length : Nat) = is.length + 1 := by rw [List.length_cons, List.length_map]
    refine or_join false false (fun Q' z => ⟨_, rfl, _, "tuple", rfl, .tup hA, _, _, rfl, rfl, mt_tuple, mt_tuple, _, rfl, z⟩) (fun _ Q' z => ⟨_, rfl, a, _, rfl, .inr hA, rfl, _, rfl, ?_⟩) ?_
    · rw [lx, int_eq, decide_eq_false (by omega)]; exact z
    refine iteF ?_
    refine ⟨_, rfl, a, _, _, _, rfl, rfl, hA, at0, ?_⟩
    refine gN ?_
    dsimp only
    show tSeq (tIfS (tOr _ _) _ _) _ _ _ _
    refine or_join false false (fun Q' z => ⟨_, rfl, _, "str", rfl, .str _, _, _, rfl, rfl, mt_str, mt_str, _, rfl, z⟩) (fun _ Q' z => ⟨_, rfl, _, _, rfl, kl, _, rfl, a, _, rfl, .inr hA, rfl, _, rfl, ?_⟩) ?_
    · rw [lx, el, decide_eq_true rfl]; exact z
    refine iteF ?_
    refine ⟨_, rfl, 1, rfl, ?_⟩
    dsimp only [tNoPart]
    refine sl_from (i := 1) hA (by decide) (by rw [lx]; omega) fun p H1 e1 hp => ?_
    refine ⟨p, rfl, ⟨_, hp⟩, fun D hD => ?_⟩
    have edr : (V.str kd :: is.map V.int).drop 1 = is.map V.int := rfl
    rw [edr] at hp
    refine lcM [] (walk_tup (xs := is.map V.int)) hD (fun i acc _ => acc = (List.replicate i true).map V.bl) rfl (fun H' e => Tk.all e _ _ hp) (fun i x H2 H3 acc hi e k1 k2 hacc y => ?_) (fun H2 acc e2 k1 k2 hacc => ?_)
    · obtain ⟨rfl, hx⟩ := y
      rw [List.length_map] at hi
      obtain ⟨n, hn⟩ : ∃ n, is[i]? = some n := ⟨_, List.getElem?_eq_getElem hi⟩
      rw [List.getElem?_map, hn] at hx
      obtain rfl : V.int n = x := Option.some.inj hx
      refine ⟨rfl, tyes ⟨_, rfl, _, "int", rfl, .int _, _, _, rfl, rfl, mt_int, mt_int, LcP.yes hD (by simp) (by omega) e k1 k2 (ExM.refl _ _) ?_⟩⟩
      rw [hacc, List.replicate_succ', List.map_append]; rfl
    subst hacc
    refine ⟨D, List.replicate _ true, rfl, SqL.of k1, ?_⟩
    have ea : ∀ n : Nat, (List.replicate n true).all id = true := fun n => by
      rw [List.all_eq_true]
      intro x hx
      exact (List.mem_replicate.mp hx).2
    rw [ea]
    exact q _ (ExM.trans e1 e2)
  · cases no with
    | str x =>
      refine or_join true true (fun Q' z => ⟨_, rfl, _, "str", rfl, .str _, _, _, rfl, rfl, mt_str, mt_tuple, _, rfl, z⟩) (fun z => nomatch z) ?_
      exact iteT (q _ (ExM.refl _ _))
    | @nil a hA =>
      refine or_join false true (fun Q' z => ⟨_, rfl, _, "tuple", rfl, .tup hA, _, _, rfl, rfl, mt_tuple, mt_tuple, _, rfl, z⟩) (fun _ Q' z => ⟨_, rfl, a, _, rfl, .inr hA, rfl, _, rfl, z⟩) ?_
      exact iteT (q _ (ExM.refl _ _))
    | @short a i hA =>
      refine or_join false false (fun Q' z => ⟨_, rfl, _, "tuple", rfl, .tup hA, _, _, rfl, rfl, mt_tuple, mt_tuple, _, rfl, z⟩) (fun _ Q' z => ⟨_, rfl, a, _, rfl, .inr hA, rfl, _, rfl, z⟩) ?_
      refine iteF ⟨_, rfl, a, _, _, _, rfl, rfl, hA, at0, ?_⟩
      refine gN ?_
      dsimp only
      show tSeq (tIfS (tOr _ _) _ _) _ _ _ _
      refine or_join false true (fun Q' z => ⟨_, rfl, _, "str", rfl, .str _, _, _, rfl, rfl, mt_str, mt_str, _, rfl, z⟩) (fun _ Q' z => ⟨_, rfl, _, _, rfl, Lg.fld, _, rfl, a, _, rfl, .inr hA, rfl, _, rfl, z⟩) ?_
      exact iteT (q _ (ExM.refl _ _))
    | @kept a hA =>
      refine or_join false false (fun Q' z => ⟨_, rfl, _, "tuple", rfl, .tup hA, _, _, rfl, rfl, mt_tuple, mt_tuple, _, rfl, z⟩) (fun _ Q' z => ⟨_, rfl, a, _, rfl, .inr hA, rfl, _, rfl, z⟩) ?_
      refine iteF ⟨_, rfl, a, _, _, _, rfl, rfl, hA, at0, ?_⟩
      refine gN ?_
      dsimp only
      show tSeq (tIfS (tOr _ _) _ _) _ _ _ _
      refine or_join false true (fun Q' z => ⟨_, rfl, _, "str", rfl, .str _, _, _, rfl, rfl, mt_str, mt_str, _, rfl, z⟩) (fun _ Q' z => ⟨_, rfl, _, _, rfl, Lg.non, _, rfl, a, _, rfl, .inr hA, rfl, _, rfl, z⟩) ?_
      exact iteT (q _ (ExM.refl _ _))
    | @num a i j hA =>
      refine or_join false false (fun Q' z => ⟨_, rfl, _, "tuple", rfl, .tup hA, _, _, rfl, rfl, mt_tuple, mt_tuple, _, rfl, z⟩) (fun _ Q' z => ⟨_, rfl, a, _, rfl, .inr hA, rfl, _, rfl, z⟩) ?_
      refine iteF ⟨_, rfl, a, _, _, _, rfl, rfl, hA, at0, ?_⟩
      refine gN ?_
      dsimp only
      show tSeq (tIfS (tOr _ _) _ _) _ _ _ _
      refine or_join true true (fun Q' z => ⟨_, rfl, _, "int", rfl, .int _, _, _, rfl, rfl, mt_int, mt_str, _, rfl, z⟩) (fun z => nomatch z) ?_
      exact iteT (q _ (ExM.refl _ _))
    | @bool a b hA =>
      refine or_join false false (fun Q' z => ⟨_, rfl, _, "tuple", rfl, .tup hA, _, _, rfl, rfl, mt_tuple, mt_tuple, _, rfl, z⟩) (fun _ Q' z => ⟨_, rfl, a, _, rfl, .inr hA, rfl, _, rfl, z⟩) ?_
      refine iteF ⟨_, rfl, a, _, _, _, rfl, rfl, hA, at0, ?_⟩
      refine gN ?_
      dsimp only
      show tSeq (tIfS (tOr _ _) _ _) _ _ _ _
      refine or_join false false (fun Q' z => ⟨_, rfl, _, "str", rfl, .str _, _, _, rfl, rfl, mt_str, mt_str, _, rfl, z⟩) (fun _ Q' z => ⟨_, rfl, _, _, rfl, Lg.reg, _, rfl, a, _, rfl, .inr hA, rfl, _, rfl, z⟩) ?_
      refine iteF ⟨_, rfl, 1, rfl, ?_⟩
      dsimp only [tNoPart]
      refine sl_from (i := 1) hA (by decide) (by simp) fun p H1 e1 hp => ?_
      refine ⟨p, rfl, ⟨_, hp⟩, fun D hD => ?_⟩
      have hp : SqT K H1 p [V.bl b] := hp
      refine lcM [] (walk_tup (xs := [V.bl b])) hD (fun i acc _ => acc = (List.replicate i false).map V.bl) rfl (fun H' e => Tk.all e _ _ hp) (fun i x' H2 H3 acc hi e k1 k2 hacc y => ?_) (fun H2 acc e2 k1 k2 hacc => ?_)
      · obtain ⟨rfl, hx⟩ := y
        have hi0 : i = 0 := by simp at hi; exact hi
        subst hi0
        obtain rfl : V.bl b = x' := Option.some.inj hx
        refine ⟨rfl, tyes ⟨_, rfl, _, "bool", rfl, .bl _, _, _, rfl, rfl, mt_bool, mt_int, LcP.yes hD (by simp) (by omega) e k1 k2 (ExM.refl _ _) ?_⟩⟩
        rw [hacc]; rfl
      subst hacc
      exact ⟨D, [false], rfl, SqL.of k1, q _ (ExM.trans e1 e2)⟩
    | @text a x hA =>
      refine or_join false false (fun Q' z => ⟨_, rfl, _, "tuple", rfl, .tup hA, _, _, rfl, rfl, mt_tuple, mt_tuple, _, rfl, z⟩) (fun _ Q' z => ⟨_, rfl, a, _, rfl, .inr hA, rfl, _, rfl, z⟩) ?_
      refine iteF ⟨_, rfl, a, _, _, _, rfl, rfl, hA, at0, ?_⟩
      refine gN ?_
      dsimp only
      show tSeq (tIfS (tOr _ _) _ _) _ _ _ _
      refine or_join false false (fun Q' z => ⟨_, rfl, _, "str", rfl, .str _, _, _, rfl, rfl, mt_str, mt_str, _, rfl, z⟩) (fun _ Q' z => ⟨_, rfl, _, _, rfl, Lg.drf, _, rfl, a, _, rfl, .inr hA, rfl, _, rfl, z⟩) ?_
      refine iteF ⟨_, rfl, 1, rfl, ?_⟩
      dsimp only [tNoPart]
      refine sl_from (i := 1) hA (by decide) (by simp) fun p H1 e1 hp => ?_
      refine ⟨p, rfl, ⟨_, hp⟩, fun D hD => ?_⟩
      have hp : SqT K H1 p [V.str x] := hp
      refine lcM [] (walk_tup (xs := [V.str x])) hD (fun i acc _ => acc = (List.replicate i false).map V.bl) rfl (fun H' e => Tk.all e _ _ hp) (fun i x' H2 H3 acc hi e k1 k2 hacc y => ?_) (fun H2 acc e2 k1 k2 hacc => ?_)
      · obtain ⟨rfl, hx⟩ := y
        have hi0 : i = 0 := by simp at hi; exact hi
        subst hi0
        obtain rfl : V.str x = x' := Option.some.inj hx
        refine ⟨rfl, tyes ⟨_, rfl, _, "str", rfl, .str _, _, _, rfl, rfl, mt_str, mt_int, LcP.yes hD (by simp) (by omega) e k1 k2 (ExM.refl _ _) ?_⟩⟩
        rw [hacc]; rfl
      subst hacc
      exact ⟨D, [false], rfl, SqL.of k1, q _ (ExM.trans e1 e2)⟩
theorem ok_has_shape {f : Addr} {fd : FuncData} {cd : Value} (F : Df K "has_shape" s_has_shape f fd cd) (T : Txt mg) (C_is_reason : Cal P w K mg base 1 "is_reason" (sp_is_reason K) []) : FnOk P w K mg base CX0 2 f fd ["step"] (sp_has_shape K) := by
  have nd := sc_has_shape.nd
  refine F.ok sc_has_shape (fun vs H Q E h => ?_) (fun A outer s H vs Q E hr h => ?_)
  · obtain ⟨_, rfl, _⟩ := h; rfl
  have hu := hu_of hr
  obtain ⟨x0, rfl, h⟩ := h
  refine ⟨_, (pss_cons (ps_if (PW.pt (pw_or (pt_cmpR op_neTy (pe_callTy (r := rTyp K) call_type1 rfl T.type (by decide +kernel) (pa_cons (pv 0) pa_nil)) (pe_bltn (v := .ty "tuple") rfl T.tuple (by decide +kernel) rfl) (by first | exact nomark _ | rfl)) (pw_or1 (pt_cmpR op_ne (pe_callB (r := Evl.rLenS K) call_len_seq rfl T.len PySem.boot_len (pa_cons (pv 0) pa_nil)) pe_int (nomark _))))) (pss_one (ps_ret pe_bl)) pss_nil)
    (pss_cons (ps_asg (pv 0) (show PG _ _ (gTup K 2 _) from pg_tup rfl (pgs_cons (pg_name (i := 1) nd rfl (by first | exact Or.inl rfl | exact Or.inr rfl)) (pgs_cons (pg_name (i := 2) nd rfl (by first | exact Or.inl rfl | exact Or.inr rfl)) pgs_nil))))
    (pss_one (ps_ret (pe_and (pe_cmpR op_eqTy (pe_callTy (r := rTyp K) call_type1 rfl T.type (by decide +kernel) (pa_cons (pv 1) pa_nil)) (pe_bltn (v := .ty "int") rfl T.int (by decide +kernel) rfl) (by first | exact nomark _ | rfl)) (pe_one (pe_c C_is_reason hr (by first | exact Nat.le_refl _ | decide) rfl (pa_cons (pv 2) pa_nil)))))))), ?_⟩
  rcases h with ⟨⟨st, a, n, xs, rfl, hS, hA, sh⟩, q⟩ | ⟨no, q⟩
  · refine or_join false false (fun Q' z => ⟨_, rfl, _, "tuple", rfl, .tup hS, _, _, rfl, rfl, mt_tuple, mt_tuple, _, rfl, z⟩) (fun _ Q' z => ⟨_, rfl, st, _, rfl, .inr hS, rfl, _, rfl, z⟩) ?_
    refine iteF ⟨_, rfl, st, _, rfl, hS, rfl, _, _, rfl, _, _, rfl, rfl, ?_⟩
    refine ⟨_, rfl, _, "int", rfl, .int _, _, _, rfl, rfl, mt_int, mt_int, _, rfl, iteT ?_⟩
    exact ⟨_, rfl, _, rfl, .inl ⟨⟨a, xs, rfl, hA, sh⟩, q⟩⟩
  · cases no with
    | non =>
      refine or_join true true (fun Q' z => ⟨_, rfl, _, "NoneType", rfl, .non, _, _, rfl, rfl, mt_non, mt_tuple, _, rfl, z⟩) (fun z => nomatch z) ?_
      exact iteT (q _ (ExM.refl _ _))
    | int i =>
      refine or_join true true (fun Q' z => ⟨_, rfl, _, "int", rfl, .int _, _, _, rfl, rfl, mt_int, mt_tuple, _, rfl, z⟩) (fun z => nomatch z) ?_
      exact iteT (q _ (ExM.refl _ _))
    | @one a x hS =>
      refine or_join false true (fun Q' z => ⟨_, rfl, _, "tuple", rfl, .tup hS, _, _, rfl, rfl, mt_tuple, mt_tuple, _, rfl, z⟩) (fun _ Q' z => ⟨_, rfl, a, _, rfl, .inr hS, rfl, _, rfl, z⟩) ?_
      exact iteT (q _ (ExM.refl _ _))
    | @text a x y hS =>
      refine or_join false false (fun Q' z => ⟨_, rfl, _, "tuple", rfl, .tup hS, _, _, rfl, rfl, mt_tuple, mt_tuple, _, rfl, z⟩) (fun _ Q' z => ⟨_, rfl, a, _, rfl, .inr hS, rfl, _, rfl, z⟩) ?_
      refine iteF ⟨_, rfl, a, _, rfl, hS, rfl, _, _, rfl, _, _, rfl, rfl, ?_⟩
      exact ⟨_, rfl, _, "str", rfl, .str _, _, _, rfl, rfl, mt_str, mt_int, _, rfl, iteF (q _ (ExM.refl _ _))⟩
    | @bool a b y hS =>
      refine or_join false false (fun Q' z => ⟨_, rfl, _, "tuple", rfl, .tup hS, _, _, rfl, rfl, mt_tuple, mt_tuple, _, rfl, z⟩) (fun _ Q' z => ⟨_, rfl, a, _, rfl, .inr hS, rfl, _, rfl, z⟩) ?_
      refine iteF ⟨_, rfl, a, _, rfl, hS, rfl, _, _, rfl, _, _, rfl, rfl, ?_⟩
      exact ⟨_, rfl, _, "bool", rfl, .bl _, _, _, rfl, rfl, mt_bool, mt_int, _, rfl, iteF (q _ (ExM.refl _ _))⟩
    | @rs a i y hS nr =>
      refine or_join false false (fun Q' z => ⟨_, rfl, _, "tuple", rfl, .tup hS, _, _, rfl, rfl, mt_tuple, mt_tuple, _, rfl, z⟩) (fun _ Q' z => ⟨_, rfl, a, _, rfl, .inr hS, rfl, _, rfl, z⟩) ?_
      refine iteF ⟨_, rfl, a, _, rfl, hS, rfl, _, _, rfl, _, _, rfl, rfl, ?_⟩
      refine ⟨_, rfl, _, "int", rfl, .int _, _, _, rfl, rfl, mt_int, mt_int, _, rfl, iteT ?_⟩
      exact ⟨_, rfl, _, rfl, .inr ⟨nr, q⟩⟩
end
end Wc
namespace Wc
open PySem L2
/-! ### what a reason finds -/
def Tr (h : Hd) (m : Int) : Rs → Prop
  | .reg k => h.regs[k]? = some (some m)
  | .fld n k => ∃ fs, Ob.rcd n fs ∈ h.obs ∧ fs[k]? = some (some m)
  | .ent n q => ∃ es, Ob.tab n es ∈ h.obs ∧ (q, m) ∈ es
  | .drf n => Ob.weak n (some m) ∈ h.obs
theorem join_iff {rs : List Rf} {k : Nat} {m : Int} : (rs[k]?).join = some m ↔ rs[k]? = some (some m) := by
  cases rs[k]? with
  | none => simp
  | some v => simp
theorem merge_nd {l : List (Key × V)} : ∀ {acc : List (Key × V)}, ((acc ++ l).map (·.1)).Nodup → mergeK acc l = acc ++ l := by
  induction l with
  | nil => intro acc _; rw [List.append_nil]; rfl
  | cons e r ih =>
    intro acc nd
    have e1 : valV acc e.1 = none := by
      cases c : valV acc e.1 with
      | none => rfl
      | some v =>
        exfalso
        unfold valV at c
        obtain ⟨p, hp, _⟩ := Option.map_eq_some_iff.mp c
        have hm := List.mem_of_find?_eq_some hp
        have hk : p.1 = e.1 := of_decide_eq_true (List.find?_some (p := fun kv : Key × V => decide (kv.1 = e.1)) hp)
        rw [List.map_append] at nd
        exact (List.nodup_append.mp nd).2.2 _ (List.mem_map_of_mem (f := fun p : Key × V => p.1) hm) e.1 (by simp) hk
    show mergeK (putK acc e.1 e.2) r = _
    rw [putK_new _ e1, ih (by rw [List.append_assoc]; exact nd), List.append_assoc]
    rfl
theorem ent_get {es : List (Int × Int)} (nd : (es.map (·.1)).Nodup) (q : Int) : ∃ v : Rf, (valV (mergeK [] (es.map fun e => ((Sum.inl e.1 : Key), V.int e.2))) (Sum.inl q)).getD .non = rV v ∧ ∀ m, v = some m ↔ (q, m) ∈ es := by
  have ek : ((es.map fun e => ((Sum.inl e.1 : Key), V.int e.2)).map (·.1)) = (es.map (·.1)).map Sum.inl := by rw [List.map_map, List.map_map]; rfl
  rw [merge_nd (acc := []) (by rw [List.nil_append, ek]; exact nd.map (f := Sum.inl) fun _ _ z w => z (Sum.inl.inj w)), List.nil_append]
  clear ek
  induction es with
  | nil => exact ⟨none, rfl, fun m => by simp⟩
  | cons e r ih =>
    obtain ⟨n1, n2⟩ := List.nodup_cons.mp nd
    by_cases c : e.1 = q
    · refine ⟨some e.2, ?_, fun m => ?_⟩
      · rw [List.map_cons, valV_pos (by show (Sum.inl e.1 : Key) = _; rw [c])]; rfl
      · constructor
        · intro z
          have z : e.2 = m := Option.some.inj z
          rw [← c, ← z]; exact List.mem_cons_self
        · intro z
          rcases List.mem_cons.mp z with z | z
          · rw [← z]
          · exact absurd (List.mem_map_of_mem (f := fun e : Int × Int => e.1) z) (by show q ∉ r.map (·.1); rw [← c]; exact n1)
    · obtain ⟨v, h1, h2⟩ := ih n2
      refine ⟨v, ?_, fun m => (h2 m).trans ⟨fun z => List.mem_cons_of_mem _ z, fun z => ?_⟩⟩
      · rw [List.map_cons, valV_neg (fun z => c (Sum.inl.inj z))]; exact h1
      · rcases List.mem_cons.mp z with z | z
        · exact absurd (by rw [← z]) c
        · exact z
theorem num_one {h : Hd} (up : h.nums.Pairwise (· < ·)) {o p : Ob} (ho : o ∈ h.obs) (hp : p ∈ h.obs) (e : o.num = p.num) : o = p := by
  obtain ⟨i, hi⟩ := List.getElem?_of_mem ho
  obtain ⟨j, hj⟩ := List.getElem?_of_mem hp
  have h1 : h.nums[i]? = some o.num := by unfold Hd.nums; rw [List.getElem?_map, hi]; rfl
  have h2 : h.nums[j]? = some o.num := by unfold Hd.nums; rw [List.getElem?_map, hj, e]; rfl
  have := nd_ix (nodup_of_up up) h1 h2
  subst this
  rw [hi] at hj
  exact Option.some.inj hj
/-- what is found is an object -/
theorem Tr.num {h : Hd} (ok : h.Ok) {m : Int} {r : Rs} (t : Tr h m r) : m ∈ h.nums := by
  cases r with
  | reg k => exact ok.regs _ (List.mem_of_getElem? t) m rfl
  | fld n k => obtain ⟨fs, h1, h2⟩ := t; exact (ok.obs _ h1).2 _ (List.mem_of_getElem? h2) m rfl
  | ent n q => obtain ⟨es, h1, h2⟩ := t; exact ((ok.obs _ h1).2.2 _ h2).2
  | drf n => exact ok.obs _ t m rfl
/-- reason[0] == x and thing[0] == y -/
theorem kk {K : PySem.W.Frag} {σ : L2.St} {H : Hp} {Q : Bool → Hp → Prop} {ra oa : Addr} {a b x y : Str} {xs ys : List V} (s2 : σ[2]? = some (some (.ref ra))) (h1 : SqT K H ra (.str a :: xs)) (s3 : σ[3]? = some (some (.ref oa))) (h2 : SqT K H oa (.str b :: ys))
    (z : Q (decide (V.str a = V.str x) && decide (V.str b = V.str y)) H) :
    tAnd (tTest (tOp rEq (tOp (rIxT K) (tVar 2) (tC (.int 0))) (tC (.str x)))) (tTest (tOp rEq (tOp (rIxT K) (tVar 3) (tC (.int 0))) (tC (.str y)))) σ H Q :=
  and_join _ _ (fun Q' z => ⟨_, s2, ra, _, _, _, rfl, rfl, h1, at0, rfl, _, rfl, z⟩) (fun _ Q' z => ⟨_, s3, oa, _, _, _, rfl, rfl, h2, at0, rfl, _, rfl, z⟩) z
section
variable (K : PySem.W.Frag)
def R_found_by : V3 := fun x y z H Q => ∃ (a : Addr) (h : Hd) (d : Addr) (os : List Addr) (ra : Addr), x = .ref a ∧ y = .ref d ∧ z = .ref ra ∧ HeapAt K H a h ∧ h.Ok ∧ Paired (ObAt K H) os h.obs ∧ H d = some (.dK (dictOf os h.obs)) ∧
  ((∃ r, RsAt K H ra r ∧ (∀ n ∈ r.names, n ∈ h.nums) ∧ ∀ H' (v : Rf), ExA H H' → (∀ m, v = some m ↔ Tr h m r) → Q (rV v) H') ∨ (SqT K H ra [.str "register", .int (-1)] ∧ Q .non H))
abbrev sp_found_by : Sp := sp3 (R_found_by K)
end
section
variable {P : Program} {w : World} {K : PySem.W.Frag} {mg : Str → Option Value} {base : PySem.Heap}
theorem ok_found_by {f : Addr} {fd : FuncData} {cd : Value} (F : Df K "found_by" s_found_by f fd cd) (T : Txt mg) (C_registers_of : Cal P w K mg base 1 "registers_of" (sp_registers_of K) []) (C_at_index : Cal P w K mg base 1 "at_index" (sp_at_index K) []) : FnOk P w K mg base CX0 2 f fd ["heap", "things", "reason"] (sp_found_by K) := by
  have nd := sc_found_by.nd
  refine F.ok sc_found_by (fun vs H Q E h => ?_) (fun A outer s H vs Q E hr h => ?_)
  · obtain ⟨_, _, _, rfl, _⟩ := h; rfl
  have hu := hu_of hr
  obtain ⟨x0, x1, x2, rfl, h⟩ := h
  refine ⟨_, (pss_cons (ps_if (pt_cmpR op_eq (pe_ix (r := rIxT K) ix_tup (pv 2) pe_int (fun _ _ => rfl)) pe_str (nomark _)) (pss_one (ps_ret (pe_c C_at_index hr (by first | exact Nat.le_refl _ | decide) rfl (pa_cons (pe_c C_registers_of hr (by first | exact Nat.le_refl _ | decide) rfl (pa_cons (pv 0) pa_nil)) (pa_cons (pe_ix (r := rIxT K) ix_tup (pv 2) pe_int (fun _ _ => rfl)) pa_nil))))) pss_nil)
    (pss_cons (ps_set (i := 3) nd rfl (by first | exact Or.inl rfl | exact Or.inr rfl) (pe_dget hu (pv 1) (pe_ix (r := rIxT K) ix_tup (pv 2) pe_int (fun _ _ => rfl)) (fun _ _ => rfl)))
    (pss_cons (ps_if (PW.pt (pw_and (pt_cmpR op_eq (pe_ix (r := rIxT K) ix_tup (pv 2) pe_int (fun _ _ => rfl)) pe_str (nomark _)) (pw_and1 (pt_cmpR op_eq (pe_ix (r := rIxT K) ix_tup (pv 3) pe_int (fun _ _ => rfl)) pe_str (nomark _))))) (pss_one (ps_ret (pe_c C_at_index hr (by first | exact Nat.le_refl _ | decide) rfl (pa_cons (pe_ix (r := rIxT K) ix_tup (pv 3) pe_int (fun _ _ => rfl)) (pa_cons (pe_ix (r := rIxT K) ix_tup (pv 2) pe_int (fun _ _ => rfl)) pa_nil))))) pss_nil)
    (pss_cons (ps_if (PW.pt (pw_and (pt_cmpR op_eq (pe_ix (r := rIxT K) ix_tup (pv 2) pe_int (fun _ _ => rfl)) pe_str (nomark _)) (pw_and1 (pt_cmpR op_eq (pe_ix (r := rIxT K) ix_tup (pv 3) pe_int (fun _ _ => rfl)) pe_str (nomark _))))) (pss_one (ps_ret (pe_dget1 hu (pe_callTy (r := rDictT K) (call_dictT rfl) rfl T.dict (by decide +kernel) (pa_cons (pe_ix (r := rIxT K) ix_tup (pv 3) pe_int (fun _ _ => rfl)) pa_nil)) (pe_ix (r := rIxT K) ix_tup (pv 2) pe_int (fun _ _ => rfl)) ⟨rfl, rfl, rfl, rfl⟩))) pss_nil)
    (pss_cons (ps_if (PW.pt (pw_and (pt_cmpR op_eq (pe_ix (r := rIxT K) ix_tup (pv 2) pe_int (fun _ _ => rfl)) pe_str (nomark _)) (pw_and1 (pt_cmpR op_eq (pe_ix (r := rIxT K) ix_tup (pv 3) pe_int (fun _ _ => rfl)) pe_str (nomark _))))) (pss_one (ps_ret (pe_ix (r := rIxT K) ix_tup (pv 3) pe_int (fun _ _ => rfl)))) pss_nil)
    (pss_one (ps_ret pe_non))))))), ?_⟩
  obtain ⟨a, h, d, os, ra, rfl, rfl, rfl, hA, ok, hos, hd, h⟩ := h
  have nreg := ok.nreg
  rcases h with ⟨r, hR, hn, q⟩ | ⟨hR, q⟩
  · have get : ∀ n ∈ r.names, ∃ oa o, DGet H d (.int n) (some (.ref oa)) ∧ o ∈ h.obs ∧ o.num = n ∧ ObAt K H oa o := fun n hm => by
      obtain ⟨oa, o, g1, g2, g3, g4⟩ := dictOf_get hos (hn n hm)
      exact ⟨oa, o, DGet.k (k := Sum.inl n) hd |> fun z => by rw [g1] at z; exact z, g2, g3, g4⟩
    have kd : ∀ o : Ob, ∃ kd v, (∀ {oa}, ObAt K H oa o → SqT K H oa [.str kd, .int o.num, v] ∨ True) := fun o => ⟨"", .non, fun _ => .inr trivial⟩
    clear kd
    cases r with
    | reg k =>
      have h1 : SqT K H ra [.str "register", .int (k : Nat)] := hR
      refine ⟨_, rfl, ra, _, _, _, rfl, rfl, h1, at0, rfl, _, rfl, iteT ?_⟩
      refine ⟨_, rfl, _, rfl, a, h, rfl, hA, fun rg hrg => ?_⟩
      refine ⟨_, rfl, ra, _, _, _, rfl, rfl, h1, at1, ?_⟩
      refine ⟨_, _, rfl, rg, h.regs, _, rfl, rfl, hrg.sq, by omega, ?_⟩
      rw [if_pos (by omega), Int.toNat_natCast]
      exact q _ _ (ExM.refl _ _) fun m => join_iff
    | fld n k =>
      have h1 : SqT K H ra [.str "field", .int n, .int (k : Nat)] := hR
      obtain ⟨oa, o, g1, g2, g3, g4⟩ := get n (by simp [Rs.names])
      refine ⟨_, rfl, ra, _, _, _, rfl, rfl, h1, at0, rfl, _, rfl, iteF ?_⟩
      refine ⟨_, rfl, _, rfl, ra, _, _, _, rfl, rfl, h1, at1, d, _, rfl, g1, ?_⟩
      cases o with
      | rcd m fs =>
        obtain ⟨t, f1, f2⟩ := g4
        have em : m = n := g3
        subst em
        refine kk rfl h1 rfl f1 (iteT ?_)
        refine ⟨_, rfl, oa, _, _, _, rfl, rfl, f1, at2, ?_⟩
        refine ⟨_, rfl, ra, _, _, _, rfl, rfl, h1, at2, ?_⟩
        have zf := (ok.obs _ g2).1
        refine ⟨_, _, rfl, t, fs, _, rfl, rfl, f2.sq, by omega, ?_⟩
        rw [if_pos (by omega), Int.toNat_natCast]
        refine q _ _ (ExM.refl _ _) fun v => join_iff.trans ⟨fun z => ⟨fs, g2, z⟩, fun ⟨fs', y1, y2⟩ => ?_⟩
        have e := num_one ok.up y1 g2 rfl
        cases e; exact y2
      | weak m t =>
        have f1 : SqT K H oa [.str "weak", .int m, rV t] := g4
        have em : m = n := g3
        subst em
        refine kk rfl h1 rfl f1 (iteF ?_)
        refine kk rfl h1 rfl f1 (iteF ?_)
        refine kk rfl h1 rfl f1 (iteF ?_)
        exact q H none (ExM.refl _ _) fun v => ⟨fun z => (nomatch z), fun ⟨fs', y1, y2⟩ => nomatch num_one ok.up y1 g2 rfl⟩
      | tab m es =>
        obtain ⟨t, ps, f1, f2, f3⟩ := g4
        have em : m = n := g3
        subst em
        refine kk rfl h1 rfl f1 (iteF ?_)
        refine kk rfl h1 rfl f1 (iteF ?_)
        refine kk rfl h1 rfl f1 (iteF ?_)
        exact q H none (ExM.refl _ _) fun v => ⟨fun z => (nomatch z), fun ⟨fs', y1, y2⟩ => nomatch num_one ok.up y1 g2 rfl⟩
    | ent n k =>
      have h1 : SqT K H ra [.str "entry", .int n, .int k] := hR
      obtain ⟨oa, o, g1, g2, g3, g4⟩ := get n (by simp [Rs.names])
      refine ⟨_, rfl, ra, _, _, _, rfl, rfl, h1, at0, rfl, _, rfl, iteF ?_⟩
      refine ⟨_, rfl, _, rfl, ra, _, _, _, rfl, rfl, h1, at1, d, _, rfl, g1, ?_⟩
      cases o with
      | tab m es =>
        obtain ⟨t, ps, f1, f2, f3⟩ := g4
        have em : m = n := g3
        subst em
        refine kk rfl h1 rfl f1 (iteF ?_)
        refine kk rfl h1 rfl f1 (iteT ?_)
        have zf := ok.obs _ g2
        refine ⟨_, rfl, oa, _, _, _, rfl, rfl, f1, at2, ?_⟩
        obtain ⟨v, hv1, hv2⟩ := ent_get zf.2.1 k
        refine ⟨t, ps, es, rfl, f2, f3, zf.1, fun dq fdq => ?_⟩
        refine ⟨dq, rfl, .inl ⟨_, .inl upd_same⟩, _, rfl, ra, _, _, _, rfl, rfl, Tk.new fdq _ _ h1, at2, _, DGet.k (k := Sum.inl k) upd_same, ?_⟩
        rw [hv1]
        refine q _ v (ExM.new fdq) fun w => (hv2 w).trans ⟨fun z => ⟨es, g2, z⟩, fun ⟨es', y1, y2⟩ => ?_⟩
        have e := num_one ok.up y1 g2 rfl
        cases e; exact y2
      | weak m t =>
        have f1 : SqT K H oa [.str "weak", .int m, rV t] := g4
        have em : m = n := g3
        subst em
        refine kk rfl h1 rfl f1 (iteF ?_)
        refine kk rfl h1 rfl f1 (iteF ?_)
        refine kk rfl h1 rfl f1 (iteF ?_)
        exact q H none (ExM.refl _ _) fun v => ⟨fun z => (nomatch z), fun ⟨fs', y1, y2⟩ => nomatch num_one ok.up y1 g2 rfl⟩
      | rcd m es =>
        obtain ⟨t, f1, f2⟩ := g4
        have em : m = n := g3
        subst em
        refine kk rfl h1 rfl f1 (iteF ?_)
        refine kk rfl h1 rfl f1 (iteF ?_)
        refine kk rfl h1 rfl f1 (iteF ?_)
        exact q H none (ExM.refl _ _) fun v => ⟨fun z => (nomatch z), fun ⟨fs', y1, y2⟩ => nomatch num_one ok.up y1 g2 rfl⟩
    | drf n =>
      have h1 : SqT K H ra [.str "deref", .int n] := hR
      obtain ⟨oa, o, g1, g2, g3, g4⟩ := get n (by simp [Rs.names])
      refine ⟨_, rfl, ra, _, _, _, rfl, rfl, h1, at0, rfl, _, rfl, iteF ?_⟩
      refine ⟨_, rfl, _, rfl, ra, _, _, _, rfl, rfl, h1, at1, d, _, rfl, g1, ?_⟩
      cases o with
      | weak m t =>
        have f1 : SqT K H oa [.str "weak", .int m, rV t] := g4
        have em : m = n := g3
        subst em
        refine kk rfl h1 rfl f1 (iteF ?_)
        refine kk rfl h1 rfl f1 (iteF ?_)
        refine kk rfl h1 rfl f1 (iteT ?_)
        refine ⟨_, rfl, oa, _, _, _, rfl, rfl, f1, at2, ?_⟩
        refine q H t (ExM.refl _ _) fun v => ⟨fun z => by subst z; exact g2, fun y1 => ?_⟩
        have e := num_one ok.up y1 g2 rfl
        cases e; rfl
      | tab m es =>
        obtain ⟨t, ps, f1, f2, f3⟩ := g4
        have em : m = n := g3
        subst em
        refine kk rfl h1 rfl f1 (iteF ?_)
        refine kk rfl h1 rfl f1 (iteF ?_)
        refine kk rfl h1 rfl f1 (iteF ?_)
        exact q H none (ExM.refl _ _) fun v => ⟨fun z => (nomatch z), fun y1 => nomatch num_one ok.up y1 g2 rfl⟩
      | rcd m es =>
        obtain ⟨t, f1, f2⟩ := g4
        have em : m = n := g3
        subst em
        refine kk rfl h1 rfl f1 (iteF ?_)
        refine kk rfl h1 rfl f1 (iteF ?_)
        refine kk rfl h1 rfl f1 (iteF ?_)
        exact q H none (ExM.refl _ _) fun v => ⟨fun z => (nomatch z), fun y1 => nomatch num_one ok.up y1 g2 rfl⟩
  · refine ⟨_, rfl, ra, _, _, _, rfl, rfl, hR, at0, rfl, _, rfl, iteT ?_⟩
    refine ⟨_, rfl, _, rfl, a, h, rfl, hA, fun rg hrg => ?_⟩
    refine ⟨_, rfl, ra, _, _, _, rfl, rfl, hR, at1, ?_⟩
    refine ⟨_, _, rfl, rg, h.regs, _, rfl, rfl, hrg.sq, by omega, ?_⟩
    rw [if_neg (by decide)]
    exact q
end
end Wc
namespace Wc
open PySem L2
/-! ### derivations, as they are checked -/
def Rs.drf? : Rs → Bool
  | .drf _ => true
  | _ => false
def StpOk (h : Hd) (cs before : List Int) (p : Int × Rs) : Prop := (∀ n ∈ p.2.names, n ∈ before) ∧ Tr h p.1 p.2 ∧ ¬ (p.2.drf? = true ∧ p.1 ∈ cs)
def Der (h : Hd) (cs : List Int) : List Int → List (Int × Rs) → Prop
  | _, [] => True
  | b, p :: L => StpOk h cs b p ∧ Der h cs (b ++ [p.1]) L
theorem Der.app {h : Hd} {cs : List Int} : ∀ {L M : List (Int × Rs)} {b : List Int}, Der h cs b (L ++ M) ↔ Der h cs b L ∧ Der h cs (b ++ L.map (·.1)) M
  | [], M, b => by simp [Der]
  | p :: L, M, b => by
    show StpOk h cs b p ∧ Der h cs (b ++ [p.1]) (L ++ M) ↔ (StpOk h cs b p ∧ Der h cs (b ++ [p.1]) L) ∧ _
    rw [Der.app, List.append_assoc]
    exact (and_assoc (a := StpOk h cs b p)).symm
theorem Der.snoc {h : Hd} {cs : List Int} {L : List (Int × Rs)} {p : Int × Rs} {b : List Int} : Der h cs b (L ++ [p]) ↔ Der h cs b L ∧ StpOk h cs (b ++ L.map (·.1)) p := by
  rw [Der.app]; simp [Der]
theorem Der.take {h : Hd} {cs : List Int} {L : List (Int × Rs)} {b : List Int} (i : Nat) (x : Der h cs b L) : Der h cs b (L.take i) := by
  rw [← List.take_append_drop i L] at x
  exact (Der.app.mp x).1
def StAt (K : PySem.W.Frag) (H : Hp) (s : Addr) (p : Int × Rs) : Prop := ∃ ra, SqT K H s [.int p.1, .ref ra] ∧ RsAt K H ra p.2
theorem StAt.mono {K : PySem.W.Frag} {H H' : Hp} {s : Addr} {p : Int × Rs} (t : Tk K H H') (x : StAt K H s p) : StAt K H' s p := let ⟨ra, h1, h2⟩ := x; ⟨ra, t _ _ h1, h2.mono t⟩
/-- what is no step -/
def Bad (K : PySem.W.Frag) (H : Hp) (x : V) : Prop := NoSt K H x ∨ ∃ (s ra : Addr) (m : Int), x = .ref s ∧ SqT K H s [.int m, .ref ra] ∧ SqT K H ra [.str "register", .int (-1)]
theorem NoRs.mono {K : PySem.W.Frag} {H H' : Hp} {x : V} (t : Tk K H H') (h : NoRs K H x) : NoRs K H' x := by
  cases h with
  | str x => exact .str x
  | nil h => exact .nil (t _ _ h)
  | short i h => exact .short i (t _ _ h)
  | kept h => exact .kept (t _ _ h)
  | bool b h => exact .bool b (t _ _ h)
  | text x h => exact .text x (t _ _ h)
  | num i j h => exact .num i j (t _ _ h)
theorem NoSt.mono {K : PySem.W.Frag} {H H' : Hp} {x : V} (t : Tk K H H') (h : NoSt K H x) : NoSt K H' x := by
  cases h with
  | non => exact .non
  | int i => exact .int i
  | one x h => exact .one x (t _ _ h)
  | text x y h => exact .text x y (t _ _ h)
  | bool b y h => exact .bool b y (t _ _ h)
  | rs i y h r => exact .rs i y (t _ _ h) (r.mono t)
theorem Bad.mono {K : PySem.W.Frag} {H H' : Hp} {x : V} (t : Tk K H H') (h : Bad K H x) : Bad K H' x := by
  rcases h with h | ⟨s, ra, m, rfl, h1, h2⟩
  · exact .inl (h.mono t)
  · exact .inr ⟨s, ra, m, rfl, t _ _ h1, t _ _ h2⟩
theorem RsAt.shape {K : PySem.W.Frag} {H : Hp} {a : Addr} {r : Rs} (x : RsAt K H a r) : ∃ xs, SqT K H a xs ∧ RsShape xs := ⟨_, x, r.shape⟩
theorem nxI {D : Ends} {σ : L2.St} {H : Hp} (h : D.nx σ H) : tNext D σ H := h
section
variable (K : PySem.W.Frag)
def R_check_derivation : V3 := fun x y z H Q => ∃ (a : Addr) (h : Hd) (c : Addr) (cs : List Int), x = .ref a ∧ y = .ref c ∧ HeapAt K H a h ∧ h.Ok ∧ SqT K H c (cs.map V.int) ∧
  ((∃ (t : Addr) (ps : List Addr) (L : List (Int × Rs)) (tail : List V), z = .ref t ∧ SqT K H t (ps.map V.ref ++ tail) ∧ Paired (StAt K H) ps L ∧ L.length ≤ 1000 ∧ tail.length ≤ 1000 ∧ (tail = [] ∨ ∃ x r, tail = x :: r ∧ Bad K H x) ∧
      ∀ H' b, ExA H H' → (b = true ↔ tail = [] ∧ L ≠ [] ∧ Der h cs [] L) → Q (.bl b) H')
    ∨ ((z = .non ∨ ∃ t xs, z = .ref t ∧ SqL K H t xs) ∧ ∀ H', ExA H H' → Q (.bl false) H'))
abbrev sp_check_derivation : Sp := sp3 (R_check_derivation K)
end
section
variable {P : Program} {w : World} {K : PySem.W.Frag} {mg : Str → Option Value} {base : PySem.Heap}
theorem ok_check_derivation {f : Addr} {fd : FuncData} {cd : Value} (F : Df K "check_derivation" s_check_derivation f fd cd) (T : Txt mg) (C_by_number : Cal P w K mg base 2 "by_number" (sp_by_number K) []) (C_named : Cal P w K mg base 1 "named" (sp_named K) []) (C_has_shape : Cal P w K mg base 2 "has_shape" (sp_has_shape K) []) (C_found_by : Cal P w K mg base 2 "found_by" (sp_found_by K) []) : FnOk P w K mg base CX0 3 f fd ["heap", "condemned", "steps"] (sp_check_derivation K) := by
  have nd := sc_check_derivation.nd
  refine F.ok sc_check_derivation (fun vs H Q E h => ?_) (fun A outer s H vs Q E hr h => ?_)
  · obtain ⟨_, _, _, rfl, _⟩ := h; rfl
  have hu := hu_of hr
  obtain ⟨x0, x1, x2, rfl, h⟩ := h
  refine ⟨_, (pss_cons (ps_if (PW.pt (pw_or (pt_cmpR op_neTy (pe_callTy (r := rTyp K) call_type1 rfl T.type (by decide +kernel) (pa_cons (pv 2) pa_nil)) (pe_bltn (v := .ty "tuple") rfl T.tuple (by decide +kernel) rfl) (by first | exact nomark _ | rfl)) (pw_or1 (pt_cmpR op_eq (pe_callB (r := Evl.rLenS K) call_len_seq rfl T.len PySem.boot_len (pa_cons (pv 2) pa_nil)) pe_int (nomark _))))) (pss_one (ps_ret pe_bl)) pss_nil)
    (pss_cons (ps_set (i := 3) nd rfl (by first | exact Or.inl rfl | exact Or.inr rfl) (pe_c C_by_number hr (by first | exact Nat.le_refl _ | decide) rfl (pa_cons (pv 0) pa_nil)))
    (pss_cons (ps_set (i := 4) nd rfl (by first | exact Or.inl rfl | exact Or.inr rfl) pe_dnewK)
    (pss_cons (ps_for PassesOwn.never rfl (show PI _ _ _ (iTup K _) from pi_tup (pv 2)) (pg_name (i := 5) nd rfl (by first | exact Or.inl rfl | exact Or.inr rfl))
    (pss_cons (ps_if (pt_not (pt_val (pe_c C_has_shape hr (by first | exact Nat.le_refl _ | decide) rfl (pa_cons (pv 5) pa_nil)))) (pss_one (ps_ret pe_bl)) pss_nil)
    (pss_cons (ps_asg (pv 5) (show PG _ _ (gTup K 2 _) from pg_tup rfl (pgs_cons (pg_name (i := 6) nd rfl (by first | exact Or.inl rfl | exact Or.inr rfl)) (pgs_cons (pg_name (i := 7) nd rfl (by first | exact Or.inl rfl | exact Or.inr rfl)) pgs_nil))))
    (pss_cons (ps_if (pt_not (pt_val (pe_callB (r := rAll K) (cr_all rfl) rfl T.all (by decide +kernel) (pa_cons (pe_lc (own := [("other", 8)]) rfl nd (show PI _ _ _ (iTup K _) from pi_tup (pe_c C_named hr (by first | exact Nat.le_refl _ | decide) rfl (pa_cons (pv 7) pa_nil))) (blkOk_by (own := [("other", 8)]) (N := N_check_derivation) (sc := defScope s_check_derivation) (by decide +kernel)) (fun _ _ _ _ _ => (pg_name (i := 8) nd rfl (by first | exact Or.inl rfl | exact Or.inr rfl))) (fun _ _ _ _ _ => pts_nil) (fun _ _ _ _ _ => (pe_cmp (pc_din hu (pv 8) (pv 4)) rfl))) pa_nil)))) (pss_one (ps_ret pe_bl)) pss_nil)
    (pss_cons (ps_if (pt_cmpR op_ne (pe_c C_found_by hr (by first | exact Nat.le_refl _ | decide) rfl (pa_cons (pv 0) (pa_cons (pv 3) (pa_cons (pv 7) pa_nil)))) (pv 6) (nomark _)) (pss_one (ps_ret pe_bl)) pss_nil)
    (pss_cons (ps_if (PW.pt (pw_and (pt_cmpR op_eq (pe_ix (r := rIxT K) ix_tup (pv 7) pe_int (fun _ _ => rfl)) pe_str (nomark _)) (pw_and1 (pt_cmpR (r := rIn K false) op_in_seq (pv 6) (pv 1) (by first | exact nomark _ | rfl))))) (pss_one (ps_ret pe_bl)) pss_nil)
    (pss_one (ps_dput hu (pv 4) (pv 6) pe_bl rfl))))))))
    (pss_one (ps_ret pe_bl)))))), ?_⟩
  obtain ⟨a, h, c, cs, rfl, rfl, hA, ok, hC, hz⟩ := h
  rcases hz with ⟨t, ps, L, tail, rfl, ht, hps, zL, zt, hb, q⟩ | ⟨hz, q⟩
  rotate_left 1
  · rcases hz with rfl | ⟨t, xs, rfl, ht⟩
    · refine or_join true true (fun Q' z => ⟨_, rfl, _, "NoneType", rfl, .non, _, _, rfl, rfl, mt_non, mt_tuple, _, rfl, z⟩) (fun z => nomatch z) ?_
      exact iteT (q _ (ExM.refl _ _))
    · refine or_join true true (fun Q' z => ⟨_, rfl, _, "list", rfl, .lst ht, _, _, rfl, rfl, TypeEq.meta_list, mt_tuple, _, rfl, z⟩) (fun z => nomatch z) ?_
      exact iteT (q _ (ExM.refl _ _))
  have zps := plen hps
  have len0 : (ps.map V.ref ++ tail).length = L.length + tail.length := by rw [List.length_append, List.length_map, zps]
  by_cases e0 : ps.map V.ref ++ tail = []
  · have e1 := congrArg List.length e0
    rw [len0] at e1
    have e1 : L.length + tail.length = 0 := e1
    have eL : L = [] := List.length_eq_zero_iff.mp (by omega)
    refine or_join false true (fun Q' z => ⟨_, rfl, _, "tuple", rfl, .tup ht, _, _, rfl, rfl, mt_tuple, mt_tuple, _, rfl, z⟩) (fun _ Q' z => ⟨_, rfl, t, _, rfl, .inr ht, rfl, _, rfl, by rw [e0]; exact z⟩) ?_
    exact iteT (q _ _ (ExM.refl _ _) ⟨fun z => (nomatch z), fun z => absurd eL z.2.1⟩)
  have zne : 0 < L.length + tail.length := by
    rw [← len0]; exact List.length_pos_iff.mpr e0
  refine or_join false false (fun Q' z => ⟨_, rfl, _, "tuple", rfl, .tup ht, _, _, rfl, rfl, mt_tuple, mt_tuple, _, rfl, z⟩) (fun _ Q' z => ⟨_, rfl, t, _, rfl, .inr ht, rfl, _, rfl, by
    rw [len0, decide_eq_false (fun y => by have := V.int.inj y; omega)]; exact z⟩) ?_
  refine iteF ?_
  refine ⟨_, rfl, _, rfl, a, h, rfl, hA, ok, fun d H1 os f1 e1 hos hd => ?_⟩
  intro ea fea
  have hd2 : (upd H1 ea (.dK [])) d = some (.dK (dictOf os h.obs)) := ExA.at (ExM.new fea) hd
  have hos2 : Paired (ObAt K (upd H1 ea (.dK []))) os h.obs := pmp hos fun _ _ z => ObAt.mono (Tk.new fea) z
  have e2 : ExA H (upd H1 ea (.dK [])) := e1.put (ExA.free e1 fea)
  have he2 : (upd H1 ea (.dK [])) ea = some (.dK []) := upd_same
  have nde : d ≠ ea := ne_of_none hd fea
  have fea0 : H ea = none := ExA.free e1 fea
  generalize upd H1 ea (.dK []) = H2 at hd2 hos2 e2 he2 ⊢
  have ht2 := Tk.all e2 _ _ ht
  refine ⟨_, rfl, t, rfl, ⟨_, ht2⟩, ?_⟩
  -- the dict 'earlier' alone is written
  have tk : ∀ {H'}, ExM [ea] H2 H' → Tk K H2 H' := fun {H'} e => by
    have ne : ∀ a (o : HO), H2 a = some o → o ≠ .dK [] → a ∉ [ea] := fun a o z y m => by
      have m := List.mem_singleton.mp m
      rw [m, he2] at z
      exact y (Option.some.inj z).symm
    refine ⟨fun a xs z => ?_, fun a o xs z => e a _ (ne a _ z fun y => nomatch y) z⟩
    rcases z with (z | ⟨v, z⟩) | z
    · exact .inl (.inl (e a _ (ne a _ z fun y => nomatch y) z))
    · exact .inl (.inr ⟨v, e a _ (ne a _ z fun y => nomatch y) z⟩)
    · exact .inr z
  have exOf : ∀ {H'}, ExM [ea] H2 H' → ExA H H' := fun {H'} e b o _ z => by
    have hb : b ∉ [ea] := fun m => by rw [List.mem_singleton.mp m, fea0] at z; cases z
    exact e b o hb (ExA.at e2 z)
  refine for_it (walk_tup (xs := ps.map V.ref ++ tail)) (fun i σ3 H3 => ∃ u5 u6 u7, σ3 = [some (.ref a), some (.ref c), some (.ref t), some (.ref d), some (.ref ea), u5, u6, u7, none] ∧ ExM [ea] H2 H3 ∧ i ≤ L.length ∧ Der h cs [] (L.take i) ∧ H3 ea = some (.dK (dB (dedup ((L.take i).map (·.1))))))
    ⟨none, none, none, rfl, ExM.refl _ _, Nat.zero_le _, trivial, he2⟩ (fun i σ3 H3 _ p => ?_) (fun i x σ3 H3 H4 hi p y => ?_) (fun σ3 H3 p => ?_)
  · obtain ⟨_, _, _, _, e, _⟩ := p
    exact tk e _ _ ht2
  · obtain ⟨rfl, hx⟩ := y
    obtain ⟨u5, u6, u7, rfl, e3, hiL, hder, he3⟩ := p
    have t3 := Tk.trans (Tk.all e2) (tk e3)
    by_cases c1 : i < L.length
    · -- a step
      have hx' : (ps.map V.ref)[i]? = some x := by rw [List.getElem?_append_left (by rw [List.length_map]; omega)] at hx; exact hx
      rw [List.getElem?_map] at hx'
      cases hpi : ps[i]? with
      | none => rw [hpi] at hx'; cases hx'
      | some st =>
      rw [hpi] at hx'
      obtain rfl : V.ref st = x := Option.some.inj hx'
      obtain ⟨⟨m, r⟩, hLi, hst⟩ := pget hps hpi
      obtain ⟨ra, hs1, hs2⟩ := StAt.mono t3 hst
      have htk := take_snoc hLi
      have fail : ∀ {H'}, ExM [ea] H2 H' → ¬ StpOk h cs ((L.take i).map (·.1)) (m, r) → Q (.bl false) H' := fun {H'} e no => q H' false (exOf e) ⟨fun z => (nomatch z), fun z => by
        have := z.2.2.take (i + 1)
        rw [htk, Der.snoc] at this
        exact absurd this.2 no⟩
      obtain ⟨xs, hs3, sh⟩ := hs2.shape
      refine ⟨_, rfl, _, rfl, .inl ⟨⟨st, ra, m, xs, rfl, hs1, hs3, sh⟩, fun H5 e5 => ⟨true, rfl, iteF ?_⟩⟩⟩
      have x5 := e3.trans (ExM.of e5)
      have hs15 := Tk.all e5 _ _ hs1
      have hs25 := hs2.mono (Tk.all e5)
      refine ⟨_, rfl, st, _, rfl, hs15, rfl, _, _, rfl, _, _, rfl, rfl, ?_⟩
      refine ⟨_, rfl, _, rfl, ra, rfl, .inl ⟨r, hs25, fun nt H6 fn e6 hnt => ?_⟩⟩
      refine ⟨nt, rfl, ⟨_, SqT.of hnt⟩, fun D hD => ?_⟩
      have he6 : H6 ea = some (.dK (dB (dedup ((L.take i).map (·.1))))) := ExA.at (e5.trans e6) he3
      refine lcF K V.int r.names (fun _ => true) _ walk_tup rfl (List.length_map _) (Nat.le_trans r.names_len (by decide)) (fun n => V.bl (decide (n ∈ (L.take i).map (·.1)))) hD (fun H' e => Tk.all e _ _ (SqT.of hnt)) (fun r H5 _ _ R z => z) (fun _ => rfl) (fun r H5 _ _ R z => tyesR z)
        (fun n H7 _ _ e R z => ⟨_, rfl, _, rfl, ea, _, rfl, DGet.k (k := Sum.inl n) (ExA.at e he6), by
          rw [key_has (dB_keys _) n, show decide (n ∈ dedup ((L.take i).map (·.1))) = decide (n ∈ (L.take i).map (·.1)) from decide_eq_decide.mpr mem_dedup]; exact z _ (ExM.refl _ _)⟩) (fun H7 e7 hd7 => ?_)
      rw [filter_all] at hd7
      have x7 := x5.trans (ExM.of (e6.trans e7))
      refine ⟨D, r.names.map fun n => decide (n ∈ (L.take i).map (·.1)), rfl, SqL.of (by rw [List.map_map]; exact hd7), ?_⟩
      by_cases c2 : ∀ n ∈ r.names, n ∈ (L.take i).map (·.1)
      rotate_left 1
      · rw [show (r.names.map fun n => decide (n ∈ (L.take i).map (·.1))).all id = false from ?_]
        · exact ⟨_, rfl, iteT (fail x7 fun z => c2 z.1)⟩
        · refine Bool.eq_false_iff.mpr fun z => c2 fun n hn => ?_
          have := List.all_eq_true.mp z _ (List.mem_map_of_mem (f := fun n => decide (n ∈ (L.take i).map (·.1))) hn)
          exact of_decide_eq_true this
      rw [show (r.names.map fun n => decide (n ∈ (L.take i).map (·.1))).all id = true from List.all_eq_true.mpr fun b hb => by
        obtain ⟨n, hn, rfl⟩ := List.mem_map.mp hb
        exact decide_eq_true (c2 n hn)]
      refine ⟨_, rfl, iteF ?_⟩
      -- what is found
      have nums : ∀ n ∈ (L.take i).map (·.1), n ∈ h.nums := fun n hn => by
        obtain ⟨⟨n', r'⟩, hp, rfl⟩ := List.mem_map.mp hn
        obtain ⟨j, hj⟩ := List.getElem?_of_mem hp
        have := hder.take (j + 1)
        rw [take_snoc hj, Der.snoc] at this
        exact this.2.2.1.num ok
      have t27 := tk x7
      have hA7 := HeapAt.mono (Tk.trans (Tk.all e2) t27) hA
      have hd7' : H7 d = some (.dK (dictOf os h.obs)) := x7 _ _ (by simpa using nde) hd2
      have hos7 : Paired (ObAt K H7) os h.obs := pmp hos2 fun _ _ z => ObAt.mono t27 z
      have hs17 := Tk.all (e6.trans e7) _ _ hs15
      have hs27 := hs25.mono (Tk.all (e6.trans e7))
      have he7 := ExA.at e7 he6
      refine ⟨_, rfl, _, rfl, _, rfl, _, _, _, rfl, a, h, d, os, ra, rfl, rfl, rfl, hA7, ok, hos7, hd7', .inl ⟨r, hs27, fun n hn => nums n (c2 n hn), fun H8 v e8 hv => ?_⟩⟩
      have x8 := x7.trans (ExM.of e8)
      refine ⟨_, rfl, by cases v <;> rfl, _, rfl, ?_⟩
      rw [rf_eq]
      by_cases c3 : v = some m
      rotate_left 1
      · rw [decide_eq_false c3]
        exact iteT (fail x8 fun z => c3 ((hv m).mpr z.2.1))
      rw [decide_eq_true c3]
      refine iteF ?_
      -- a target that is condemned
      have hs28 := hs27.mono (Tk.all e8)
      have hC8 := Tk.trans (Tk.all e2) (tk x8) _ _ hC
      have go : ¬ (r.drf? = true ∧ m ∈ cs) → ∀ (σ' : L2.St), σ' = [some (.ref a), some (.ref c), some (.ref t), some (.ref d), some (.ref ea), some (.ref st), some (.int m), some (.ref ra), none] →
          (∃ u5 u6 u7, σ' = [some (.ref a), some (.ref c), some (.ref t), some (.ref d), some (.ref ea), u5, u6, u7, none] ∧ ExM [ea] H2 (upd H8 ea (.dK (putK (dB (dedup ((L.take i).map (·.1)))) (Sum.inl m) (.bl true)))) ∧ i + 1 ≤ L.length ∧ Der h cs [] (L.take (i + 1)) ∧
            (upd H8 ea (.dK (putK (dB (dedup ((L.take i).map (·.1)))) (Sum.inl m) (.bl true)))) ea = some (.dK (dB (dedup ((L.take (i + 1)).map (·.1)))))) := fun c4 σ' e => by
        subst e
        refine ⟨_, _, _, rfl, x8.mem (by simp), c1, ?_, ?_⟩
        · rw [htk, Der.snoc]
          exact ⟨hder, c2, (hv m).mp c3, c4⟩
        · rw [upd_same, htk, List.map_append, dB_put]
          show some (HO.dK (dB (addK _ m))) = some (HO.dK (dB (dedup (_ ++ [m]))))
          rw [dedup_snoc]
      have zdd : (dB (dedup ((L.take i).map (·.1)))).length < sizeLine := by
        rw [dB_len]
        refine szl (Nat.le_trans (nd_sub (nd_dedup _) fun n hn => mem_dedup.mp hn) ?_)
        rw [List.length_map, List.length_take]; omega
      have he8 := ExA.at e8 he7
      have tests : ∀ (kd : Str) (rest : List V) (bb : Bool), SqT K H8 ra (.str kd :: rest) → decide (V.str kd = V.str "deref") = bb → (bb = true ↔ r.drf? = true) → True := fun _ _ _ _ _ _ => trivial
      clear tests
      obtain ⟨kd, hr0, hr1, hr2⟩ : ∃ kd, SqT K H8 ra r.row ∧ atI r.row (0 : Int) = some (.str kd) ∧ decide (V.str kd = V.str "deref") = r.drf? := by
        cases r with
        | reg k => exact ⟨_, hs28, at0, rfl⟩
        | fld n k => exact ⟨_, hs28, at0, rfl⟩
        | ent n k => exact ⟨_, hs28, at0, rfl⟩
        | drf n => exact ⟨_, hs28, at0, rfl⟩
      refine nxI ?_
      dsimp only
      refine and_join r.drf? (decide (m ∈ cs)) (fun Q' z => ⟨_, rfl, ra, _, _, _, rfl, rfl, hr0, hr1, rfl, _, rfl, by rw [hr2]; exact z⟩) (fun _ Q' z => ⟨_, rfl, _, rfl, c, _, rfl, .inr hC8, rfl, flat_ints _, _, rfl, by
        show Q' (inV _ _) _; rw [inV_int]; exact z⟩) ?_
      by_cases c4 : r.drf? = true ∧ m ∈ cs
      · rw [c4.1, decide_eq_true c4.2]
        exact iteT (fail x8 fun z => z.2.2 c4)
      · rw [show (r.drf? && decide (m ∈ cs)) = false from Bool.eq_false_iff.mpr fun z => c4 ⟨(Bool.and_eq_true_iff.mp z).1, of_decide_eq_true (Bool.and_eq_true_iff.mp z).2⟩]
        exact iteF ⟨_, rfl, _, rfl, ea, _, rfl, DPut.k (k := Sum.inl m) he8 zdd, go c4 _ rfl⟩
    · -- something else
      have ei : i = L.length := by omega
      rcases hb with rfl | ⟨bx, br, rfl, hbad⟩
      · rw [len0] at hi; simp at hi; omega
      have hx' : bx = x := by
        rw [List.getElem?_append_right (by rw [List.length_map]; omega), List.length_map, zps, ei, Nat.sub_self] at hx
        exact Option.some.inj hx
      subst hx'
      have no : ∀ {H'}, ExM [ea] H2 H' → Q (.bl false) H' := fun {H'} e => q H' false (exOf e) ⟨fun z => (nomatch z), fun z => nomatch z.1⟩
      rcases hbad.mono t3 with hbad | ⟨s, ra, m, rfl, g1, g2⟩
      · exact ⟨_, rfl, _, rfl, .inr ⟨hbad, fun H5 e5 => ⟨false, rfl, iteT (no (e3.trans (ExM.of e5)))⟩⟩⟩
      · refine ⟨_, rfl, _, rfl, .inl ⟨⟨s, ra, m, _, rfl, g1, g2, .reg _⟩, fun H5 e5 => ⟨true, rfl, iteF ?_⟩⟩⟩
        have x5 := e3.trans (ExM.of e5)
        have g15 := Tk.all e5 _ _ g1
        have g25 := Tk.all e5 _ _ g2
        refine ⟨_, rfl, s, _, rfl, g15, rfl, _, _, rfl, _, _, rfl, rfl, ?_⟩
        refine ⟨_, rfl, _, rfl, ra, rfl, .inr ⟨-1, g25, fun nt H6 fn e6 hnt => ?_⟩⟩
        refine ⟨nt, rfl, ⟨_, SqT.of hnt⟩, fun D hD => ?_⟩
        refine lcF K V.int [] (fun _ => true) _ walk_tup rfl rfl (by decide) (fun n => V.bl true) hD (fun H' e => Tk.all e _ _ (SqT.of hnt)) (fun r H5 _ _ R z => z) (fun _ => rfl) (fun r H5 _ _ R z => tyesR z)
          (fun n H7 hn _ e R z => nomatch hn) (fun H7 e7 hd7 => ?_)
        have x7 := x5.trans (ExM.of (e6.trans e7))
        refine ⟨D, [], rfl, SqL.of hd7, _, rfl, iteF ?_⟩
        have t27 := tk x7
        have hA7 := HeapAt.mono (Tk.trans (Tk.all e2) t27) hA
        have hd7' : H7 d = some (.dK (dictOf os h.obs)) := x7 _ _ (by simpa using nde) hd2
        have hos7 : Paired (ObAt K H7) os h.obs := pmp hos2 fun _ _ z => ObAt.mono t27 z
        have g27 := Tk.all (e6.trans e7) _ _ g25
        refine ⟨_, rfl, _, rfl, _, rfl, _, _, _, rfl, a, h, d, os, ra, rfl, rfl, rfl, hA7, ok, hos7, hd7', .inr ⟨g27, ?_⟩⟩
        exact ⟨_, rfl, rfl, _, rfl, iteT (no x7)⟩
  · obtain ⟨u5, u6, u7, rfl, e3, hiL, hder, he3⟩ := p
    rw [len0] at hiL hder
    have et : tail = [] := List.length_eq_zero_iff.mp (by omega)
    rw [List.take_of_length_le (by omega)] at hder
    refine q H3 true (exOf e3) ⟨fun _ => ⟨et, fun z => ?_, hder⟩, fun _ => rfl⟩
    rw [z, et] at zne
    exact absurd zne (Nat.lt_irrefl 0)
end
end Wc
namespace Wc
open PySem L2
theorem andv {t u : TE} {σ : L2.St} {H : Hp} {Q : VK} (b c : Bool) (ht : ∀ Q' : VK, Q' (.bl b) H → t σ H Q') (hu : b = true → ∀ Q' : VK, Q' (.bl c) H → u σ H Q') (h : Q (.bl (b && c)) H) : tAndV t u σ H Q := by
  refine ht _ ⟨b, rfl, ?_⟩
  cases b with
  | false => rw [if_neg (by simp)]; exact h
  | true => rw [if_pos rfl]; exact hu rfl _ h
/-- xs[int(u) % len(xs)] -/
theorem pick {K : PySem.W.Frag} {H : Hp} {a : Addr} {xs : List V} {u : Int} {Q : VK} (h : SqL K H a xs) (hp : 0 < xs.length) (q : ∀ (j : Nat) x, xs[j]? = some x → Q x H) : rIxL K (.ref a) (.int (u % ((xs.length : Nat) : Int))) H Q := by
  have r0 : 0 ≤ u % ((xs.length : Nat) : Int) := Int.emod_nonneg _ (by omega)
  have r1 : u % ((xs.length : Nat) : Int) < ((xs.length : Nat) : Int) := Int.emod_lt_of_pos _ (by omega)
  obtain ⟨j, hj⟩ : ∃ j : Nat, u % ((xs.length : Nat) : Int) = (j : Int) := ⟨(u % ((xs.length : Nat) : Int)).toNat, by omega⟩
  have hjl : j < xs.length := by omega
  rw [hj]
  exact ⟨a, _, _, xs[j], rfl, rfl, h, atI_nat (List.getElem?_eq_getElem hjl), q j _ (List.getElem?_eq_getElem hjl)⟩
/-- a list of steps -/
def Rows (K : PySem.W.Frag) (H : Hp) (l : Addr) (n : Nat) : Prop := ∃ rs : List Addr, H l = some (.lst (rs.map V.ref)) ∧ rs.length ≤ n ∧ ∀ r ∈ rs, ∃ p, StAt K H r p
theorem Rows.keep {K : PySem.W.Frag} {H H' : Hp} {l : Addr} {n m : Nat} (e : ExA H H') (h : Rows K H l n) (z : n ≤ m) : Rows K H' l m := by
  obtain ⟨rs, h1, h2, h3⟩ := h
  exact ⟨rs, ExA.at e h1, Nat.le_trans h2 z, fun r hr => let ⟨p, y⟩ := h3 r hr; ⟨p, y.mono (Tk.all e)⟩⟩
theorem Rows.push {K : PySem.W.Frag} {H : Hp} {l s : Addr} {n : Nat} {rs : List Addr} {p : Int × Rs} (h1 : H l = some (.lst (rs.map V.ref))) (h2 : rs.length ≤ n) (h3 : ∀ r ∈ rs, ∃ p, StAt K H r p) (hs : StAt K H s p) :
    Rows K (upd H l (.lst (rs.map V.ref ++ [V.ref s]))) l (n + 1) := by
  have t : Tk K H (upd H l (.lst (rs.map V.ref ++ [V.ref s]))) := Tk.lst h1
  refine ⟨rs ++ [s], by rw [upd_same, List.map_append]; rfl, by rw [List.length_append, List.length_singleton]; omega, fun r hr => ?_⟩
  rcases List.mem_append.mp hr with z | z
  · obtain ⟨q, y⟩ := h3 r z
    exact ⟨q, y.mono t⟩
  · rw [List.mem_singleton.mp z]
    exact ⟨p, hs.mono t⟩
section
variable (K : PySem.W.Frag)
def R__law_of : V2 := fun x y H Q => ∃ (a : Addr) (h : Hd) (n : Int), x = .ref a ∧ y = .int n ∧ HeapAt K H a h ∧ h.Ok ∧ (n ∉ h.nums → Q .non H) ∧ ∀ oa o, o ∈ h.obs → o.num = n → ObAt K H oa o → Q (.ref oa) H
abbrev sp__law_of : Sp := sp2 (R__law_of K)
def R__law_states : V3 := fun x y z H Q => ∃ (a : Addr) (h : Hd) (m : Int) (ra : Addr) (r : Rs), x = .ref a ∧ y = .int m ∧ z = .ref ra ∧ HeapAt K H a h ∧ h.Ok ∧ RsAt K H ra r ∧ ∀ H' b, ExA H H' → (b = true ↔ Tr h m r) → Q (.bl b) H'
abbrev sp__law_states : Sp := sp3 (R__law_states K)
def R__law_any_reason : V2 := fun x y H Q => ∃ (b d : Addr) (ds : List Int) (a : Addr) (h : Hd), x = .ref b ∧ y = .ref a ∧ Bx H b d ds ∧ HeapAt K H a h ∧ h.Ok ∧ ∀ H' ra r, ExM [b] H H' → Bx H' b d ds → RsAt K H' ra r → Q (.ref ra) H'
abbrev sp__law_any_reason : Sp := sp2 (R__law_any_reason K)
def R__law_true_reason : V2 := fun x y H Q => ∃ (b d : Addr) (ds : List Int) (a : Addr) (h : Hd), x = .ref b ∧ y = .ref a ∧ Bx H b d ds ∧ HeapAt K H a h ∧ h.Ok ∧ ∀ H' s p, ExM [b] H H' → Bx H' b d ds → StAt K H' s p → Q (.ref s) H'
abbrev sp__law_true_reason : Sp := sp2 (R__law_true_reason K)
def R__law_is_derivation : V3 := fun x y z H Q => ∃ (a : Addr) (h : Hd) (c : Addr) (cs : List Int) (t : Addr) (ps : List Addr) (L : List (Int × Rs)), x = .ref a ∧ y = .ref c ∧ z = .ref t ∧ HeapAt K H a h ∧ h.Ok ∧ SqT K H c (cs.map V.int) ∧
  SqL K H t (ps.map V.ref) ∧ Paired (StAt K H) ps L ∧ L.length ≤ 1000 ∧ ∀ H' b, ExA H H' → (b = true ↔ L ≠ [] ∧ Der h cs [] L) → Q (.bl b) H'
abbrev sp__law_is_derivation : Sp := sp3 (R__law_is_derivation K)
end
section
variable {P : Program} {w : World} {K : PySem.W.Frag} {mg : Str → Option Value} {base : PySem.Heap}
theorem ok__law_of {f : Addr} {fd : FuncData} {cd : Value} (F : Df K "_law_of" s__law_of f fd cd) (T : Txt mg) : FnOk P w K mg base CX0 1 f fd ["heap", "number"] (sp__law_of K) := by
  have nd := sc__law_of.nd
  refine F.ok sc__law_of (fun vs H Q E h => ?_) (fun A outer s H vs Q E hr h => ?_)
  · obtain ⟨_, _, rfl, _⟩ := h; rfl
  have hu := hu_of hr
  obtain ⟨x0, x1, rfl, h⟩ := h
  refine ⟨_, (pss_cons (ps_for PassesOwn.never rfl (show PI _ _ _ (iTup K _) from pi_tup (pe_ix (r := rIxT K) ix_tup (pv 0) pe_int (fun _ _ => rfl))) (pg_name (i := 2) nd rfl (by first | exact Or.inl rfl | exact Or.inr rfl))
    (pss_one (ps_if (pt_cmpR op_eq (pe_ix (r := rIxT K) ix_tup (pv 2) pe_int (fun _ _ => rfl)) (pv 1) (nomark _)) (pss_one (ps_ret (pv 2))) pss_nil)))
    (pss_one (ps_ret pe_non))), ?_⟩
  obtain ⟨a, h, n, rfl, rfl, ⟨r, k, oo, w, ws, h1, h2, h3, ⟨os, ho, hobs⟩, _⟩, ok, q0, q⟩ := h
  have hl := plen hobs
  refine ⟨_, rfl, a, _, _, _, rfl, rfl, h1, at4, oo, rfl, ⟨_, ho⟩, ?_⟩
  refine for_it (walk_tup (xs := os.map V.ref)) (fun i σ2 H2 => ∃ u2 : Option V, σ2 = [some (.ref a), some (.int n), u2] ∧ H2 = H ∧ n ∉ h.nums.take i)
    ⟨none, rfl, rfl, by simp⟩ (fun i σ2 H2 _ p => ?_) (fun i x σ2 H2 H3 hi p y => ?_) (fun σ2 H2 p => ?_)
  · obtain ⟨_, _, rfl, _⟩ := p
    exact ho
  · obtain ⟨rfl, hx⟩ := y
    obtain ⟨u2, rfl, rfl, hno⟩ := p
    rw [List.length_map] at hi
    obtain ⟨a1, hos⟩ : ∃ a1, os[i]? = some a1 := ⟨_, List.getElem?_eq_getElem hi⟩
    rw [List.getElem?_map, hos] at hx
    obtain rfl : V.ref a1 = x := Option.some.inj hx
    obtain ⟨o, hoi, hob⟩ := pget hobs hos
    obtain ⟨kn, vn, hnum⟩ := hob.num
    have hni : h.nums[i]? = some o.num := by unfold Hd.nums; rw [List.getElem?_map, hoi]; rfl
    refine ⟨_, rfl, a1, _, _, _, rfl, rfl, hnum, at1, _, rfl, rfl, _, rfl, ?_⟩
    rw [int_eq]
    refine ite2 (fun c => ?_) (fun c => ?_)
    · exact ⟨_, rfl, q a1 o (List.mem_of_getElem? hoi) (of_decide_eq_true c) hob⟩
    · have c' := of_decide_eq_false (Bool.eq_false_iff.mpr c)
      exact ⟨_, rfl, rfl, fun z => ((mem_take_snoc hni).mp z).elim hno fun z => c' z.symm⟩
  · obtain ⟨u2, rfl, rfl, hno⟩ := p
    rw [List.length_map, hl] at hno
    have e : h.nums.take h.obs.length = h.nums := List.take_of_length_le (by unfold Hd.nums; rw [List.length_map]; exact Nat.le_refl _)
    rw [e] at hno
    exact q0 hno
theorem ok__law_states {f : Addr} {fd : FuncData} {cd : Value} (F : Df K "_law_states" s__law_states f fd cd) (T : Txt mg) (C__law_of : Cal P w K mg base 1 "_law_of" (sp__law_of K) []) : FnOk P w K mg base CX0 2 f fd ["heap", "number", "reason"] (sp__law_states K) := by
  have nd := sc__law_states.nd
  refine F.ok sc__law_states (fun vs H Q E h => ?_) (fun A outer s H vs Q E hr h => ?_)
  · obtain ⟨_, _, _, rfl, _⟩ := h; rfl
  have hu := hu_of hr
  obtain ⟨x0, x1, x2, rfl, h⟩ := h
  refine ⟨_, (pss_cons (ps_set (i := 3) nd rfl (by first | exact Or.inl rfl | exact Or.inr rfl) (pe_ix (r := rIxT K) ix_tup (pv 2) pe_int (fun _ _ => rfl)))
    (pss_cons (ps_if (pt_cmpR op_eq (pv 3) pe_str (nomark _)) (pss_one (ps_ret (pe_and (pe_cmpR op_lt (pe_ix (r := rIxT K) ix_tup (pv 2) pe_int (fun _ _ => rfl)) (pe_callB (r := Evl.rLenS K) call_len_seq rfl T.len PySem.boot_len (pa_cons (pe_ix (r := rIxT K) ix_tup (pv 0) pe_int (fun _ _ => rfl)) pa_nil)) (nomark _)) (pe_one (pe_cmpR op_eq (pe_ix (r := rIxT K) ix_tup (pe_ix (r := rIxT K) ix_tup (pv 0) pe_int (fun _ _ => rfl)) (pe_ix (r := rIxT K) ix_tup (pv 2) pe_int (fun _ _ => rfl)) (fun _ _ => rfl)) (pv 1) (nomark _)))))) pss_nil)
    (pss_cons (ps_set (i := 4) nd rfl (by first | exact Or.inl rfl | exact Or.inr rfl) (pe_c C__law_of hr (by first | exact Nat.le_refl _ | decide) rfl (pa_cons (pv 0) (pa_cons (pe_ix (r := rIxT K) ix_tup (pv 2) pe_int (fun _ _ => rfl)) pa_nil))))
    (pss_cons (ps_if (pt_cmpR op_isN (pv 4) pe_non (nomark _)) (pss_one (ps_ret pe_bl)) pss_nil)
    (pss_cons (ps_if (pt_cmpR op_eq (pv 3) pe_str (nomark _)) (pss_one (ps_ret (pe_and (pe_cmpR op_eq (pe_ix (r := rIxT K) ix_tup (pv 4) pe_int (fun _ _ => rfl)) pe_str (nomark _)) (pe_and (pe_cmpR op_lt (pe_ix (r := rIxT K) ix_tup (pv 2) pe_int (fun _ _ => rfl)) (pe_callB (r := Evl.rLenS K) call_len_seq rfl T.len PySem.boot_len (pa_cons (pe_ix (r := rIxT K) ix_tup (pv 4) pe_int (fun _ _ => rfl)) pa_nil)) (nomark _)) (pe_one (pe_cmpR op_eq (pe_ix (r := rIxT K) ix_tup (pe_ix (r := rIxT K) ix_tup (pv 4) pe_int (fun _ _ => rfl)) (pe_ix (r := rIxT K) ix_tup (pv 2) pe_int (fun _ _ => rfl)) (fun _ _ => rfl)) (pv 1) (nomark _))))))) pss_nil)
    (pss_cons (ps_if (pt_cmpR op_eq (pv 3) pe_str (nomark _)) (pss_one (ps_ret (pe_and (pe_cmpR op_eq (pe_ix (r := rIxT K) ix_tup (pv 4) pe_int (fun _ _ => rfl)) pe_str (nomark _)) (pe_one (pe_cmpR (r := rInP K) (op_inP (u20 hr)) (pe_tup (pa_cons (pe_ix (r := rIxT K) ix_tup (pv 2) pe_int (fun _ _ => rfl)) (pa_cons (pv 1) pa_nil))) (pe_ix (r := rIxT K) ix_tup (pv 4) pe_int (fun _ _ => rfl)) (by first | exact nomark _ | rfl)))))) pss_nil)
    (pss_one (ps_ret (pe_and (pe_cmpR op_eq (pe_ix (r := rIxT K) ix_tup (pv 4) pe_int (fun _ _ => rfl)) pe_str (nomark _)) (pe_one (pe_cmpR op_eq (pe_ix (r := rIxT K) ix_tup (pv 4) pe_int (fun _ _ => rfl)) (pv 1) (nomark _)))))))))))), ?_⟩
  obtain ⟨a, h, m, ra, r, rfl, rfl, rfl, hA, ok, hR, q⟩ := h
  obtain ⟨rg, k, oo, w, ws, h1, h2, h3, ⟨os, ho, hobs⟩, _⟩ := id hA
  have nreg := ok.nreg
  have atr : ∀ {H' : Hp} {t : Addr} {rs : List Rf} {k : Nat} {Q' : VK}, SqT K H' t (rs.map rV) → k < rs.length → (∀ v, rs[k]? = some v → Q' (rV v) H') → rIxT K (.ref t) (.int (k : Nat)) H' Q' := fun {H' t rs k Q'} ht hk z => by
    refine ⟨t, _, _, rV rs[k], rfl, rfl, ht, atI_nat (by rw [List.getElem?_map, List.getElem?_eq_getElem hk]; rfl), z _ (List.getElem?_eq_getElem hk)⟩
  cases r with
  | reg k =>
    have g1 : SqT K H ra [.str "register", .int (k : Nat)] := hR
    refine ⟨_, rfl, ra, _, _, _, rfl, rfl, g1, at0, ?_⟩
    refine ⟨_, rfl, rfl, _, rfl, iteT ?_⟩
    by_cases c : k < h.regs.length
    · obtain ⟨v, hv⟩ : ∃ v, h.regs[k]? = some v := ⟨_, List.getElem?_eq_getElem c⟩
      refine andv true (decide (rV v = .int m)) (fun Q' z => ⟨_, rfl, ra, _, _, _, rfl, rfl, g1, at1, _, rfl, a, _, _, _, rfl, rfl, h1, at2, rg, _, rfl, .inr h2.sq, _, _, rfl, rfl, by
        rw [List.length_map]; show Q' (V.bl (decide (((k : Nat) : Int) < ((h.regs.length : Nat) : Int)))) H; rw [decide_eq_true (show ((k : Nat) : Int) < ((h.regs.length : Nat) : Int) by omega)]; exact z⟩)
        (fun _ Q' z => ⟨_, rfl, a, _, _, _, rfl, rfl, h1, at2, _, rfl, ra, _, _, _, rfl, rfl, g1, at1, atr h2.sq c fun v' hv' => ⟨_, rfl, by cases v' <;> rfl, by rw [hv] at hv'; cases hv'; exact z⟩⟩) ?_
      refine q _ _ (ExM.refl _ _) ?_
      rw [Bool.true_and, rf_eq, decide_eq_true_eq]
      show v = some m ↔ h.regs[k]? = some (some m)
      rw [hv]
      exact ⟨fun e => by rw [e], fun e => Option.some.inj e⟩
    · refine andv false false (fun Q' z => ⟨_, rfl, ra, _, _, _, rfl, rfl, g1, at1, _, rfl, a, _, _, _, rfl, rfl, h1, at2, rg, _, rfl, .inr h2.sq, _, _, rfl, rfl, by
        rw [List.length_map]; show Q' (V.bl (decide (((k : Nat) : Int) < ((h.regs.length : Nat) : Int)))) H; rw [decide_eq_false (show ¬ ((k : Nat) : Int) < ((h.regs.length : Nat) : Int) by omega)]; exact z⟩) (fun z => nomatch z) ?_
      refine q _ _ (ExM.refl _ _) ⟨fun z => (nomatch z), fun z => ?_⟩
      have z : h.regs[k]? = some (some m) := z
      exact absurd (List.getElem?_eq_some_iff.mp z).1 c
  | fld n k =>
    have g1 : SqT K H ra [.str "field", .int n, .int (k : Nat)] := hR
    refine ⟨_, rfl, ra, _, _, _, rfl, rfl, g1, at0, ?_⟩
    refine ⟨_, rfl, rfl, _, rfl, iteF ?_⟩
    refine ⟨_, rfl, _, rfl, ra, _, _, _, rfl, rfl, g1, at1, _, _, rfl, a, h, n, rfl, rfl, hA, ok, fun no => ?_, fun oa o ho hon hob => ?_⟩
    · refine ⟨_, rfl, rfl, _, rfl, iteT ?_⟩
      refine q _ _ (ExM.refl _ _) ⟨fun z => (nomatch z), fun ⟨fs, z, _⟩ => absurd (List.mem_map_of_mem (f := Ob.num) z) no⟩
    · refine ⟨_, rfl, rfl, _, rfl, iteF ?_⟩
      refine ⟨_, rfl, rfl, _, rfl, iteT ?_⟩
      cases o with
      | rcd n' fs =>
        obtain ⟨t, f1, f2⟩ := hob
        have en : n' = n := hon
        subst en
        by_cases c : k < fs.length
        · obtain ⟨v, hv⟩ : ∃ v, fs[k]? = some v := ⟨_, List.getElem?_eq_getElem c⟩
          refine andv true (decide (rV v = .int m)) (fun Q' z => ⟨_, rfl, oa, _, _, _, rfl, rfl, f1, at0, rfl, z⟩) (fun _ Q' z => ?_) ?_
          · refine andv true (decide (rV v = .int m)) (fun Q' z => ⟨_, rfl, ra, _, _, _, rfl, rfl, g1, at2, _, rfl, oa, _, _, _, rfl, rfl, f1, at2, t, _, rfl, .inr f2.sq, _, _, rfl, rfl, by
              rw [List.length_map]; show Q' (V.bl (decide (((k : Nat) : Int) < ((fs.length : Nat) : Int)))) H; rw [decide_eq_true (show ((k : Nat) : Int) < ((fs.length : Nat) : Int) by omega)]; exact z⟩)
              (fun _ Q' z => ⟨_, rfl, oa, _, _, _, rfl, rfl, f1, at2, _, rfl, ra, _, _, _, rfl, rfl, g1, at2, atr f2.sq c fun v' hv' => ⟨_, rfl, by cases v' <;> rfl, by rw [hv] at hv'; cases hv'; exact z⟩⟩) ?_
            rw [Bool.true_and]; exact z
          · refine q _ _ (ExM.refl _ _) ?_
            rw [Bool.true_and, rf_eq, decide_eq_true_eq]
            refine ⟨fun e => ⟨fs, ho, by rw [hv, e]⟩, fun ⟨fs', y1, y2⟩ => ?_⟩
            have e := num_one ok.up y1 ho rfl
            cases e
            rw [hv] at y2; exact Option.some.inj y2
        · refine andv true false (fun Q' z => ⟨_, rfl, oa, _, _, _, rfl, rfl, f1, at0, rfl, z⟩) (fun _ Q' z => ?_) ?_
          · refine andv false false (fun Q' z => ⟨_, rfl, ra, _, _, _, rfl, rfl, g1, at2, _, rfl, oa, _, _, _, rfl, rfl, f1, at2, t, _, rfl, .inr f2.sq, _, _, rfl, rfl, by
              rw [List.length_map]; show Q' (V.bl (decide (((k : Nat) : Int) < ((fs.length : Nat) : Int)))) H; rw [decide_eq_false (show ¬ ((k : Nat) : Int) < ((fs.length : Nat) : Int) by omega)]; exact z⟩) (fun z => nomatch z) z
          · refine q _ _ (ExM.refl _ _) ⟨fun z => (nomatch z), fun ⟨fs', y1, y2⟩ => ?_⟩
            have e := num_one ok.up y1 ho rfl
            cases e
            exact absurd (List.getElem?_eq_some_iff.mp y2).1 c
      | weak n' t =>
        have f1 : SqT K H oa [.str "weak", .int n', rV t] := hob
        have en : n' = n := hon
        subst en
        refine andv false false (fun Q' z => ⟨_, rfl, oa, _, _, _, rfl, rfl, f1, at0, rfl, z⟩) (fun z => nomatch z) ?_
        exact q _ _ (ExM.refl _ _) ⟨fun z => (nomatch z), fun ⟨fs', y1, y2⟩ => nomatch num_one ok.up y1 ho rfl⟩
      | tab n' es =>
        obtain ⟨t, ps, f1, f2, f3⟩ := hob
        have en : n' = n := hon
        subst en
        refine andv false false (fun Q' z => ⟨_, rfl, oa, _, _, _, rfl, rfl, f1, at0, rfl, z⟩) (fun z => nomatch z) ?_
        exact q _ _ (ExM.refl _ _) ⟨fun z => (nomatch z), fun ⟨fs', y1, y2⟩ => nomatch num_one ok.up y1 ho rfl⟩
  | ent n k =>
    have g1 : SqT K H ra [.str "entry", .int n, .int k] := hR
    refine ⟨_, rfl, ra, _, _, _, rfl, rfl, g1, at0, ?_⟩
    refine ⟨_, rfl, rfl, _, rfl, iteF ?_⟩
    refine ⟨_, rfl, _, rfl, ra, _, _, _, rfl, rfl, g1, at1, _, _, rfl, a, h, n, rfl, rfl, hA, ok, fun no => ?_, fun oa o ho hon hob => ?_⟩
    · refine ⟨_, rfl, rfl, _, rfl, iteT ?_⟩
      refine q _ _ (ExM.refl _ _) ⟨fun z => (nomatch z), fun ⟨fs, z, _⟩ => absurd (List.mem_map_of_mem (f := Ob.num) z) no⟩
    · refine ⟨_, rfl, rfl, _, rfl, iteF ?_⟩
      refine ⟨_, rfl, rfl, _, rfl, iteF ?_⟩
      refine ⟨_, rfl, rfl, _, rfl, iteT ?_⟩
      cases o with
      | tab n' es =>
        obtain ⟨t, ps, f1, f2, f3⟩ := hob
        have en : n' = n := hon
        subst en
        refine ⟨_, rfl, oa, _, _, _, rfl, rfl, f1, at0, rfl, true, rfl, iteT ?_⟩
        refine ⟨_, rfl, ra, _, _, _, rfl, rfl, g1, at2, _, rfl, sz (by show 2 ≤ 100000; decide), fun pp fpp => ?_⟩
        have e5 : ExA H (upd H pp (.tup [.int k, .int m])) := ExM.new fpp
        refine ⟨_, rfl, oa, _, _, _, rfl, rfl, Tk.all e5 _ _ f1, at2, pp, t, (k, m), ps, es, rfl, rfl, SqT.of upd_same, Tk.all e5 _ _ f2.sq, pmp f3 fun _ _ z => PairAt.mono (Tk.all e5) z, ?_⟩
        refine q _ _ e5 ?_
        rw [decide_eq_true_eq]
        refine ⟨fun z => ⟨es, ho, z⟩, fun ⟨es', y1, y2⟩ => ?_⟩
        have e := num_one ok.up y1 ho rfl
        cases e; exact y2
      | weak n' t =>
        have f1 : SqT K H oa [.str "weak", .int n', rV t] := hob
        have en : n' = n := hon
        subst en
        refine andv false false (fun Q' z => ⟨_, rfl, oa, _, _, _, rfl, rfl, f1, at0, rfl, z⟩) (fun z => nomatch z) ?_
        exact q _ _ (ExM.refl _ _) ⟨fun z => (nomatch z), fun ⟨fs', y1, y2⟩ => nomatch num_one ok.up y1 ho rfl⟩
      | rcd n' es =>
        obtain ⟨t, f1, f2⟩ := hob
        have en : n' = n := hon
        subst en
        refine andv false false (fun Q' z => ⟨_, rfl, oa, _, _, _, rfl, rfl, f1, at0, rfl, z⟩) (fun z => nomatch z) ?_
        exact q _ _ (ExM.refl _ _) ⟨fun z => (nomatch z), fun ⟨fs', y1, y2⟩ => nomatch num_one ok.up y1 ho rfl⟩
  | drf n =>
    have g1 : SqT K H ra [.str "deref", .int n] := hR
    refine ⟨_, rfl, ra, _, _, _, rfl, rfl, g1, at0, ?_⟩
    refine ⟨_, rfl, rfl, _, rfl, iteF ?_⟩
    refine ⟨_, rfl, _, rfl, ra, _, _, _, rfl, rfl, g1, at1, _, _, rfl, a, h, n, rfl, rfl, hA, ok, fun no => ?_, fun oa o ho hon hob => ?_⟩
    · refine ⟨_, rfl, rfl, _, rfl, iteT ?_⟩
      refine q _ _ (ExM.refl _ _) ⟨fun z => (nomatch z), fun z => absurd (List.mem_map_of_mem (f := Ob.num) z) no⟩
    · refine ⟨_, rfl, rfl, _, rfl, iteF ?_⟩
      refine ⟨_, rfl, rfl, _, rfl, iteF ?_⟩
      refine ⟨_, rfl, rfl, _, rfl, iteF ?_⟩
      refine nxI ?_
      dsimp only
      cases o with
      | weak n' t =>
        have f1 : SqT K H oa [.str "weak", .int n', rV t] := hob
        have en : n' = n := hon
        subst en
        refine andv true (decide (rV t = .int m)) (fun Q' z => ⟨_, rfl, oa, _, _, _, rfl, rfl, f1, at0, rfl, z⟩) (fun _ Q' z => ⟨_, rfl, oa, _, _, _, rfl, rfl, f1, at2, _, rfl, by cases t <;> rfl, z⟩) ?_
        refine q _ _ (ExM.refl _ _) ?_
        rw [Bool.true_and, rf_eq, decide_eq_true_eq]
        refine ⟨fun e => by rw [e] at ho; exact ho, fun y1 => ?_⟩
        have e := num_one ok.up y1 ho rfl
        cases e; rfl
      | tab n' es =>
        obtain ⟨t, ps, f1, f2, f3⟩ := hob
        have en : n' = n := hon
        subst en
        refine andv false false (fun Q' z => ⟨_, rfl, oa, _, _, _, rfl, rfl, f1, at0, rfl, z⟩) (fun z => nomatch z) ?_
        exact q _ _ (ExM.refl _ _) ⟨fun z => (nomatch z), fun y1 => nomatch num_one ok.up y1 ho rfl⟩
      | rcd n' es =>
        obtain ⟨t, f1, f2⟩ := hob
        have en : n' = n := hon
        subst en
        refine andv false false (fun Q' z => ⟨_, rfl, oa, _, _, _, rfl, rfl, f1, at0, rfl, z⟩) (fun z => nomatch z) ?_
        exact q _ _ (ExM.refl _ _) ⟨fun z => (nomatch z), fun y1 => nomatch num_one ok.up y1 ho rfl⟩
theorem ok__law_any_reason {f : Addr} {fd : FuncData} {cd : Value} (F : Df K "_law_any_reason" s__law_any_reason f fd cd) (T : Txt mg) (C__law_draw : Cal P w K mg base 1 "_law_draw" (sp__law_draw K) []) (C__law_numbers : Cal P w K mg base 1 "_law_numbers" (sp__law_numbers K) []) : FnOk P w K mg base CX0 2 f fd ["box", "heap"] (sp__law_any_reason K) := by
  have nd := sc__law_any_reason.nd
  refine F.ok sc__law_any_reason (fun vs H Q E h => ?_) (fun A outer s H vs Q E hr h => ?_)
  · obtain ⟨_, _, rfl, _⟩ := h; rfl
  have hu := hu_of hr
  obtain ⟨x0, x1, rfl, h⟩ := h
  refine ⟨_, (pss_cons (ps_set (i := 2) nd rfl (by first | exact Or.inl rfl | exact Or.inr rfl) (pe_op op_cat (pe_c C__law_numbers hr (by first | exact Nat.le_refl _ | decide) rfl (pa_cons (pv 1) pa_nil)) (pe_lst (pa_cons pe_int pa_nil))))
    (pss_cons (ps_set (i := 3) nd rfl (by first | exact Or.inl rfl | exact Or.inr rfl) (pe_ix (r := rIxL K) ix_list (pv 2) (pe_op op_mod (pe_callTy call_int1 rfl T.int (by decide +kernel) (pa_cons (pe_c C__law_draw hr (by first | exact Nat.le_refl _ | decide) rfl (pa_cons (pv 0) (pa_cons pe_int pa_nil))) pa_nil)) (pe_callB (r := Evl.rLenS K) call_len_seq rfl T.len PySem.boot_len (pa_cons (pv 2) pa_nil))) (fun _ _ => rfl)))
    (pss_cons (ps_set (i := 4) nd rfl (by first | exact Or.inl rfl | exact Or.inr rfl) (pe_ix (r := rIxL K) ix_list (pv 2) (pe_op op_mod (pe_callTy call_int1 rfl T.int (by decide +kernel) (pa_cons (pe_c C__law_draw hr (by first | exact Nat.le_refl _ | decide) rfl (pa_cons (pv 0) (pa_cons pe_int pa_nil))) pa_nil)) (pe_callB (r := Evl.rLenS K) call_len_seq rfl T.len PySem.boot_len (pa_cons (pv 2) pa_nil))) (fun _ _ => rfl)))
    (pss_cons (ps_set (i := 5) nd rfl (by first | exact Or.inl rfl | exact Or.inr rfl) (pe_c C__law_draw hr (by first | exact Nat.le_refl _ | decide) rfl (pa_cons (pv 0) (pa_cons pe_int pa_nil))))
    (pss_cons (ps_if (pt_cmpR op_eq (pv 5) pe_int (nomark _)) (pss_one (ps_ret (pe_tup (pa_cons pe_str (pa_cons (pe_c C__law_draw hr (by first | exact Nat.le_refl _ | decide) rfl (pa_cons (pv 0) (pa_cons pe_int pa_nil))) pa_nil))))) pss_nil)
    (pss_cons (ps_if (pt_cmpR op_eq (pv 5) pe_int (nomark _)) (pss_one (ps_ret (pe_tup (pa_cons pe_str (pa_cons (pv 3) (pa_cons (pe_c C__law_draw hr (by first | exact Nat.le_refl _ | decide) rfl (pa_cons (pv 0) (pa_cons pe_int pa_nil))) pa_nil)))))) pss_nil)
    (pss_cons (ps_if (pt_cmpR op_eq (pv 5) pe_int (nomark _)) (pss_one (ps_ret (pe_tup (pa_cons pe_str (pa_cons (pv 3) (pa_cons (pv 4) pa_nil)))))) pss_nil)
    (pss_one (ps_ret (pe_tup (pa_cons pe_str (pa_cons (pv 3) pa_nil)))))))))))), ?_⟩
  obtain ⟨b, d, ds, a, h, rfl, rfl, hb, hA, ok, q⟩ := h
  refine ⟨_, rfl, _, rfl, a, h, rfl, hA, ok, fun l H1 fl e1 hl => ?_⟩
  refine ⟨sz (by show 1 ≤ 100000; decide), fun l2 fl2 => ?_⟩
  have hl2 : (upd H1 l2 (.lst [.int 50])) l2 = some (.lst [.int 50]) := upd_same
  have hl1 : (upd H1 l2 (.lst [.int 50])) l = some (.lst (h.nums.map V.int)) := ExA.at (ExM.new fl2) hl
  have zn : h.nums.length ≤ 50 := by have := ok.size; unfold Hd.nums; rw [List.length_map]; omega
  refine ⟨l, l2, _, _, rfl, rfl, hl1, hl2, sz (by rw [List.length_map]; show h.nums.length + 1 ≤ 100000; omega), fun p fp => ?_⟩
  have e3 : ExA H (upd (upd H1 l2 (.lst [.int 50])) p (.lst (h.nums.map V.int ++ [.int 50]))) := (e1.trans (ExM.new fl2)).trans (ExM.new fp)
  have b3 := hb.keep e3
  have hp3 : (upd (upd H1 l2 (.lst [.int 50])) p (.lst (h.nums.map V.int ++ [.int 50]))) p = some (.lst ((h.nums ++ [50]).map V.int)) := by rw [upd_same, List.map_append]; rfl
  have np : p ∉ [b] := (hb.keep (e1.trans (ExM.new fl2))).ne fp
  generalize upd (upd H1 l2 (.lst [.int 50])) p (.lst (h.nums.map V.int ++ [.int 50])) = H3 at e3 b3 hp3 ⊢
  have zp : 0 < ((h.nums ++ [50]).map V.int).length := by rw [List.length_map, List.length_append, List.length_singleton]; omega
  have isI : ∀ {j : Nat} {x : V}, ((h.nums ++ [50]).map V.int)[j]? = some x → ∃ n, x = .int n := fun {j x} z => by
    rw [List.getElem?_map] at z
    cases c : (h.nums ++ [50])[j]? with
    | none => rw [c] at z; cases z
    | some n => rw [c] at z; exact ⟨n, (Option.some.inj z).symm⟩
  -- one, two
  refine ⟨_, rfl, _, rfl, _, _, rfl, b, d, ds, 1000, rfl, rfl, by decide, b3, fun H4 u x4 b4 u0 u1 => ?_⟩
  have hp4 : SqL K H4 p ((h.nums ++ [50]).map V.int) := SqL.of (x4 p _ np hp3)
  refine .inl ⟨_, rfl, _, rfl, p, _, rfl, .inl hp4, _, _, rfl, rfl, by omega, pick hp4 zp fun j x hx => ?_⟩
  obtain ⟨one, rfl⟩ := isI hx
  refine ⟨_, rfl, _, rfl, _, _, rfl, b, d, ds, 1000, rfl, rfl, by decide, b4, fun H5 u x5 b5 u0 u1 => ?_⟩
  have hp5 : SqL K H5 p ((h.nums ++ [50]).map V.int) := SqL.exm x5 np hp4
  refine .inl ⟨_, rfl, _, rfl, p, _, rfl, .inl hp5, _, _, rfl, rfl, by omega, pick hp5 zp fun j x hx => ?_⟩
  obtain ⟨two, rfl⟩ := isI hx
  refine ⟨_, rfl, _, _, rfl, b, d, ds, 4, rfl, rfl, by decide, b5, fun H6 kind x6 b6 k0 k1 => ?_⟩
  have xa : ExM [b] H H6 := ((ExM.of e3).trans x4).trans (x5.trans x6)
  refine ⟨_, rfl, rfl, _, rfl, ite2 (fun _ => ?_) (fun _ => ?_)⟩
  · refine ⟨_, rfl, _, _, rfl, b, d, ds, 4, rfl, rfl, by decide, b6, fun H7 k x7 b7 k0 k1 => ?_⟩
    refine ⟨sz (by show 2 ≤ 100000; decide), fun t ft => ?_⟩
    obtain ⟨kn, rfl⟩ : ∃ kn : Nat, k = (kn : Int) := ⟨k.toNat, by omega⟩
    exact q _ t (.reg kn) ((xa.trans x7).trans (ExM.new ft)) (b7.new ft) (SqT.of upd_same)
  refine ⟨_, rfl, rfl, _, rfl, ite2 (fun _ => ?_) (fun _ => ?_)⟩
  · refine ⟨_, rfl, _, rfl, _, _, rfl, b, d, ds, 4, rfl, rfl, by decide, b6, fun H7 k x7 b7 k0 k1 => ?_⟩
    refine ⟨sz (by show 3 ≤ 100000; decide), fun t ft => ?_⟩
    obtain ⟨kn, rfl⟩ : ∃ kn : Nat, k = (kn : Int) := ⟨k.toNat, by omega⟩
    exact q _ t (.fld one kn) ((xa.trans x7).trans (ExM.new ft)) (b7.new ft) (SqT.of upd_same)
  refine ⟨_, rfl, rfl, _, rfl, ite2 (fun _ => ?_) (fun _ => ?_)⟩
  · refine ⟨_, rfl, _, rfl, sz (by show 3 ≤ 100000; decide), fun t ft => ?_⟩
    exact q _ t (.ent one two) (xa.trans (ExM.new ft)) (b6.new ft) (SqT.of upd_same)
  · refine ⟨_, rfl, sz (by show 2 ≤ 100000; decide), fun t ft => ?_⟩
    exact q _ t (.drf one) (xa.trans (ExM.new ft)) (b6.new ft) (SqT.of upd_same)
theorem ok__law_true_reason {f : Addr} {fd : FuncData} {cd : Value} (F : Df K "_law_true_reason" s__law_true_reason f fd cd) (T : Txt mg) (C__law_draw : Cal P w K mg base 1 "_law_draw" (sp__law_draw K) []) : FnOk P w K mg base CX0 2 f fd ["box", "heap"] (sp__law_true_reason K) := by
  have nd := sc__law_true_reason.nd
  refine F.ok sc__law_true_reason (fun vs H Q E h => ?_) (fun A outer s H vs Q E hr h => ?_)
  · obtain ⟨_, _, rfl, _⟩ := h; rfl
  have hu := hu_of hr
  obtain ⟨x0, x1, rfl, h⟩ := h
  refine ⟨_, (pss_cons (ps_set (i := 2) nd rfl (by first | exact Or.inl rfl | exact Or.inr rfl) (pe_lst pa_nil))
    (pss_cons (ps_for PassesOwn.never rfl (pi_range1 rfl T.range (pa_cons (pe_callB (r := Evl.rLenS K) call_len_seq rfl T.len PySem.boot_len (pa_cons (pe_ix (r := rIxT K) ix_tup (pv 1) pe_int (fun _ _ => rfl)) pa_nil)) pa_nil)) (pg_name (i := 3) nd rfl (by first | exact Or.inl rfl | exact Or.inr rfl))
    (pss_one (ps_if (pt_cmpR op_notN (pe_ix (r := rIxT K) ix_tup (pe_ix (r := rIxT K) ix_tup (pv 1) pe_int (fun _ _ => rfl)) (pv 3) (fun _ _ => rfl)) pe_non (nomark _)) (pss_one (ps_expr (pe_bm PySem.F.plainAttrs_list PySem.F.slot_list_append PySem.F.type_list_append mt_append (pv 2) (pa_cons (pe_tup (pa_cons (pe_ix (r := rIxT K) ix_tup (pe_ix (r := rIxT K) ix_tup (pv 1) pe_int (fun _ _ => rfl)) (pv 3) (fun _ _ => rfl)) (pa_cons (pe_tup (pa_cons pe_str (pa_cons (pv 3) pa_nil))) pa_nil))) pa_nil)))) pss_nil)))
    (pss_cons (ps_for PassesOwn.never rfl (show PI _ _ _ (iTup K _) from pi_tup (pe_ix (r := rIxT K) ix_tup (pv 1) pe_int (fun _ _ => rfl))) (pg_name (i := 4) nd rfl (by first | exact Or.inl rfl | exact Or.inr rfl))
    (pss_one (ps_if (pt_cmpR op_eq (pe_ix (r := rIxT K) ix_tup (pv 4) pe_int (fun _ _ => rfl)) pe_str (nomark _)) (pss_one (ps_for PassesOwn.never rfl (pi_range1 rfl T.range (pa_cons (pe_callB (r := Evl.rLenS K) call_len_seq rfl T.len PySem.boot_len (pa_cons (pe_ix (r := rIxT K) ix_tup (pv 4) pe_int (fun _ _ => rfl)) pa_nil)) pa_nil)) (pg_name (i := 3) nd rfl (by first | exact Or.inl rfl | exact Or.inr rfl))
    (pss_one (ps_if (pt_cmpR op_notN (pe_ix (r := rIxT K) ix_tup (pe_ix (r := rIxT K) ix_tup (pv 4) pe_int (fun _ _ => rfl)) (pv 3) (fun _ _ => rfl)) pe_non (nomark _)) (pss_one (ps_expr (pe_bm PySem.F.plainAttrs_list PySem.F.slot_list_append PySem.F.type_list_append mt_append (pv 2) (pa_cons (pe_tup (pa_cons (pe_ix (r := rIxT K) ix_tup (pe_ix (r := rIxT K) ix_tup (pv 4) pe_int (fun _ _ => rfl)) (pv 3) (fun _ _ => rfl)) (pa_cons (pe_tup (pa_cons pe_str (pa_cons (pe_ix (r := rIxT K) ix_tup (pv 4) pe_int (fun _ _ => rfl)) (pa_cons (pv 3) pa_nil)))) pa_nil))) pa_nil)))) pss_nil)))) (pss_one (ps_if (PW.pt (pw_and (pt_cmpR op_eq (pe_ix (r := rIxT K) ix_tup (pv 4) pe_int (fun _ _ => rfl)) pe_str (nomark _)) (pw_and1 (pt_cmpR op_notN (pe_ix (r := rIxT K) ix_tup (pv 4) pe_int (fun _ _ => rfl)) pe_non (nomark _))))) (pss_one (ps_expr (pe_bm PySem.F.plainAttrs_list PySem.F.slot_list_append PySem.F.type_list_append mt_append (pv 2) (pa_cons (pe_tup (pa_cons (pe_ix (r := rIxT K) ix_tup (pv 4) pe_int (fun _ _ => rfl)) (pa_cons (pe_tup (pa_cons pe_str (pa_cons (pe_ix (r := rIxT K) ix_tup (pv 4) pe_int (fun _ _ => rfl)) pa_nil))) pa_nil))) pa_nil)))) (pss_one (ps_if (pt_cmpR op_eq (pe_ix (r := rIxT K) ix_tup (pv 4) pe_int (fun _ _ => rfl)) pe_str (nomark _)) (pss_one (ps_for PassesOwn.never rfl (show PI _ _ _ (iTup K _) from pi_tup (pe_ix (r := rIxT K) ix_tup (pv 4) pe_int (fun _ _ => rfl))) (pg_name (i := 5) nd rfl (by first | exact Or.inl rfl | exact Or.inr rfl))
    (pss_one (ps_expr (pe_bm PySem.F.plainAttrs_list PySem.F.slot_list_append PySem.F.type_list_append mt_append (pv 2) (pa_cons (pe_tup (pa_cons (pe_ix (r := rIxT K) ix_tup (pv 5) pe_int (fun _ _ => rfl)) (pa_cons (pe_tup (pa_cons pe_str (pa_cons (pe_ix (r := rIxT K) ix_tup (pv 4) pe_int (fun _ _ => rfl)) (pa_cons (pe_ix (r := rIxT K) ix_tup (pv 5) pe_int (fun _ _ => rfl)) pa_nil)))) pa_nil))) pa_nil)))))) pss_nil)))))))
    (pss_cons (ps_if (pt_cmpR op_eq (pe_callB (r := Evl.rLenS K) call_len_seq rfl T.len PySem.boot_len (pa_cons (pv 2) pa_nil)) pe_int (nomark _)) (pss_one (ps_ret (pe_tup (pa_cons pe_int (pa_cons (pe_tup (pa_cons pe_str (pa_cons pe_int pa_nil))) pa_nil))))) pss_nil)
    (pss_one (ps_ret (pe_ix (r := rIxL K) ix_list (pv 2) (pe_op op_mod (pe_callTy call_int1 rfl T.int (by decide +kernel) (pa_cons (pe_c C__law_draw hr (by first | exact Nat.le_refl _ | decide) rfl (pa_cons (pv 0) (pa_cons pe_int pa_nil))) pa_nil)) (pe_callB (r := Evl.rLenS K) call_len_seq rfl T.len PySem.boot_len (pa_cons (pv 2) pa_nil))) (fun _ _ => rfl)))))))), ?_⟩
  obtain ⟨b, d, ds, a, h, rfl, rfl, hb, hA, ok, q⟩ := h
  obtain ⟨rg, k, oo, w, ws, h1, h2, h3, ⟨os, ho, hobs⟩, _⟩ := id hA
  have nreg := ok.nreg
  have nobs := ok.size
  have atr : ∀ {H' : Hp} {t : Addr} {rs : List Rf} {k : Nat} {Q' : VK}, SqT K H' t (rs.map rV) → k < rs.length → (∀ v, rs[k]? = some v → Q' (rV v) H') → rIxT K (.ref t) (.int (k : Nat)) H' Q' := fun {H' t rs k Q'} ht hk z => by
    refine ⟨t, _, _, rV rs[k], rfl, rfl, ht, atI_nat (by rw [List.getElem?_map, List.getElem?_eq_getElem hk]; rfl), z _ (List.getElem?_eq_getElem hk)⟩
  refine ⟨Nat.zero_le _, fun l fl => ?_⟩
  have e1 : ExA H (upd H l (.lst [])) := ExM.new fl
  have hl1 : Rows K (upd H l (.lst [])) l 0 := ⟨[], upd_same, Nat.le_refl _, by simp⟩
  generalize upd H l (.lst []) = H1 at e1 hl1 ⊢
  -- the registers
  refine ⟨_, rfl, a, _, _, _, rfl, rfl, Tk.all e1 _ _ h1, at2, rg, _, rfl, .inr (Tk.all e1 _ _ h2.sq), _, rfl, by omega, by rw [List.length_map]; omega, ?_⟩
  rw [List.length_map]
  refine for_range (lo := 0) (n := ((h.regs.length : Nat) : Int).toNat) (fun i σ3 H3 => ∃ u3, σ3 = [some (.ref b), some (.ref a), some (.ref l), u3, none, none] ∧ ExA H H3 ∧ Rows K H3 l i)
    ⟨none, rfl, e1, hl1⟩ (fun i σ3 H3 hi p => ?_) (fun σ3 H3 p => ?_)
  · obtain ⟨u3, rfl, e3, rs, r1, r2, r3⟩ := p
    have hi' : i < h.regs.length := by omega
    have h1' := Tk.all e3 _ _ h1
    have h2' := Tk.all (K := K) e3 _ _ h2.sq
    have ei : (0 : Int) + (i : Int) = ((i : Nat) : Int) := Int.zero_add _
    rw [ei]
    refine ⟨_, rfl, a, _, _, _, rfl, rfl, h1', at2, _, rfl, atr h2' hi' fun v hv => ⟨rfl, _, rfl, ?_⟩⟩
    cases v with
    | none => exact iteF ⟨_, rfl, e3, Rows.keep (K := K) (ExM.refl _ _) ⟨rs, r1, r2, r3⟩ (Nat.le_succ _)⟩
    | some m =>
      refine iteT ⟨_, rfl, .inl ⟨rfl, _, SqL.of r1⟩, ?_⟩
      refine ⟨_, rfl, a, _, _, _, rfl, rfl, h1', at2, _, rfl, atr h2' hi' fun v' hv' => ?_⟩
      rw [hv] at hv'; cases hv'
      refine ⟨_, rfl, sz (by show 2 ≤ 100000; decide), fun ra fra => ⟨sz (by show 2 ≤ 100000; decide), fun st fst => ?_⟩⟩
      have ee : ExA H3 (upd (upd H3 ra (.tup [.str "register", .int (i : Nat)])) st (.tup [rV (some m), .ref ra])) := (ExM.new fra).trans (ExM.new fst)
      have hst : StAt K (upd (upd H3 ra (.tup [.str "register", .int (i : Nat)])) st (.tup [rV (some m), .ref ra])) st (m, .reg i) := ⟨ra, SqT.of upd_same, Tk.new fst _ _ (SqT.of upd_same)⟩
      generalize upd (upd H3 ra (.tup [.str "register", .int (i : Nat)])) st (.tup [rV (some m), .ref ra]) = H4 at ee hst ⊢
      have r14 := ExA.at ee r1
      refine ⟨l, _, _, rfl, rfl, r14, szl (by rw [List.length_map]; omega), ?_⟩
      exact ⟨_, rfl, (e3.trans ee).put fl, Rows.push r14 r2 (fun r hr => let ⟨p, y⟩ := r3 r hr; ⟨p, y.mono (Tk.all ee)⟩) hst⟩
  obtain ⟨u3, rfl, e3, hR3⟩ := p
  -- the objects
  have ho3 := Tk.all e3 _ _ ho
  refine ⟨_, rfl, a, _, _, _, rfl, rfl, Tk.all e3 _ _ h1, at4, oo, rfl, ⟨_, ho3⟩, ?_⟩
  refine for_it (walk_tup (xs := os.map V.ref)) (fun i σ4 H4 => ∃ u3 u4 u5, σ4 = [some (.ref b), some (.ref a), some (.ref l), u3, u4, u5] ∧ ExA H H4 ∧ Rows K H4 l (1000 + 1000 * i))
    ⟨_, _, _, rfl, e3, hR3.keep (ExM.refl _ _) (by omega)⟩ (fun i σ4 H4 _ p => by obtain ⟨_, _, _, _, e, _⟩ := p; exact Tk.all e _ _ ho) (fun i x σ4 H4 H5 hi p y => ?_) (fun σ4 H4 p => ?_)
  · obtain ⟨rfl, hx⟩ := y
    obtain ⟨v3, v4, v5, rfl, e4, hR4⟩ := p
    rw [List.length_map] at hi
    obtain ⟨ao, hao⟩ : ∃ ao, os[i]? = some ao := ⟨_, List.getElem?_eq_getElem hi⟩
    rw [List.getElem?_map, hao] at hx
    obtain rfl : V.ref ao = x := Option.some.inj hx
    obtain ⟨ob, hob, hoa⟩ := pget hobs hao
    have zi : i < 50 := by
      have z1 := (List.getElem?_eq_some_iff.mp hob).1
      omega
    have sm := (ok.obs _ (List.mem_of_getElem? hob)).small
    cases ob with
    | rcd m fs =>
      obtain ⟨t, g1, g2⟩ := hoa
      have sm' : fs.length ≤ 1000 := sm
      have g2 := g2.sq (K := K)
      refine ⟨_, rfl, ao, _, _, _, rfl, rfl, Tk.all e4 _ _ g1, at0, rfl, _, rfl, iteT ?_⟩
      refine ⟨_, rfl, ao, _, _, _, rfl, rfl, Tk.all e4 _ _ g1, at2, t, _, rfl, .inr (Tk.all e4 _ _ g2), _, rfl, by omega, by rw [List.length_map]; omega, ?_⟩
      rw [List.length_map]
      refine for_range (lo := 0) (n := ((fs.length : Nat) : Int).toNat) (fun j σ6 H6 => ∃ u3, σ6 = [some (.ref b), some (.ref a), some (.ref l), u3, some (.ref ao), v5] ∧ ExA H H6 ∧ Rows K H6 l (1000 + 1000 * i + j))
        ⟨_, rfl, e4, hR4⟩ (fun j σ6 H6 hj p => ?_) (fun σ6 H6 p => ?_)
      · obtain ⟨u3, rfl, e6, rs, r1, r2, r3⟩ := p
        have hj' : j < fs.length := by omega
        have g1' := Tk.all e6 _ _ g1
        have g2' := Tk.all e6 _ _ g2
        have ej : (0 : Int) + (j : Int) = ((j : Nat) : Int) := Int.zero_add _
        rw [ej]
        refine ⟨_, rfl, ao, _, _, _, rfl, rfl, g1', at2, _, rfl, atr g2' hj' fun v hv => ⟨rfl, _, rfl, ?_⟩⟩
        cases v with
        | none => exact iteF ⟨_, rfl, e6, Rows.keep (K := K) (ExM.refl _ _) ⟨rs, r1, r2, r3⟩ (by omega)⟩
        | some mm =>
          refine iteT ⟨_, rfl, .inl ⟨rfl, _, SqL.of r1⟩, ?_⟩
          refine ⟨_, rfl, ao, _, _, _, rfl, rfl, g1', at2, _, rfl, atr g2' hj' fun v' hv' => ?_⟩
          rw [hv] at hv'; cases hv'
          refine ⟨_, rfl, ao, _, _, _, rfl, rfl, g1', at1, _, rfl, sz (by show 3 ≤ 100000; decide), fun ra fra => ⟨sz (by show 2 ≤ 100000; decide), fun st fst => ?_⟩⟩
          have ee : ExA H6 (upd (upd H6 ra (.tup [.str "field", .int m, .int (j : Nat)])) st (.tup [rV (some mm), .ref ra])) := (ExM.new fra).trans (ExM.new fst)
          have hst : StAt K (upd (upd H6 ra (.tup [.str "field", .int m, .int (j : Nat)])) st (.tup [rV (some mm), .ref ra])) st (mm, .fld m j) := ⟨ra, SqT.of upd_same, Tk.new fst _ _ (SqT.of upd_same)⟩
          generalize upd (upd H6 ra (.tup [.str "field", .int m, .int (j : Nat)])) st (.tup [rV (some mm), .ref ra]) = H7 at ee hst ⊢
          have r17 := ExA.at ee r1
          refine ⟨l, _, _, rfl, rfl, r17, szl (by rw [List.length_map]; omega), ?_⟩
          exact ⟨_, rfl, (e6.trans ee).put fl, Rows.push r17 r2 (fun r hr => let ⟨p, y⟩ := r3 r hr; ⟨p, y.mono (Tk.all ee)⟩) hst⟩
      · obtain ⟨u3, rfl, e6, hR6⟩ := p
        exact ⟨_, _, _, rfl, e6, hR6.keep (ExM.refl _ _) (by omega)⟩
    | weak m t =>
      have g1 : SqT K H ao [.str "weak", .int m, rV t] := hoa
      have g1' := Tk.all e4 _ _ g1
      obtain ⟨rs, r1, r2, r3⟩ := id hR4
      refine ⟨_, rfl, ao, _, _, _, rfl, rfl, g1', at0, rfl, _, rfl, iteF ?_⟩
      refine and_join true t.isSome (fun Q' z => ⟨_, rfl, ao, _, _, _, rfl, rfl, g1', at0, rfl, _, rfl, z⟩) (fun _ Q' z => ⟨_, rfl, ao, _, _, _, rfl, rfl, g1', at2, rfl, _, rfl, by cases t <;> exact z⟩) ?_
      cases t with
      | none =>
        refine iteF ?_
        refine ⟨_, rfl, ao, _, _, _, rfl, rfl, g1', at0, rfl, _, rfl, iteF ?_⟩
        exact ⟨_, _, _, rfl, e4, hR4.keep (ExM.refl _ _) (by omega)⟩
      | some mm =>
        refine iteT ⟨_, rfl, .inl ⟨rfl, _, SqL.of r1⟩, ?_⟩
        refine ⟨_, rfl, ao, _, _, _, rfl, rfl, g1', at2, ?_⟩
        refine ⟨_, rfl, ao, _, _, _, rfl, rfl, g1', at1, sz (by show 2 ≤ 100000; decide), fun ra fra => ⟨sz (by show 2 ≤ 100000; decide), fun st fst => ?_⟩⟩
        have ee : ExA H5 (upd (upd H5 ra (.tup [.str "deref", .int m])) st (.tup [rV (some mm), .ref ra])) := (ExM.new fra).trans (ExM.new fst)
        have hst : StAt K (upd (upd H5 ra (.tup [.str "deref", .int m])) st (.tup [rV (some mm), .ref ra])) st (mm, .drf m) := ⟨ra, SqT.of upd_same, Tk.new fst _ _ (SqT.of upd_same)⟩
        generalize upd (upd H5 ra (.tup [.str "deref", .int m])) st (.tup [rV (some mm), .ref ra]) = H7 at ee hst ⊢
        have r17 := ExA.at ee r1
        refine ⟨l, _, _, rfl, rfl, r17, szl (by rw [List.length_map]; omega), ?_⟩
        exact ⟨_, _, _, rfl, (e4.trans ee).put fl, (Rows.push r17 r2 (fun r hr => let ⟨p, y⟩ := r3 r hr; ⟨p, y.mono (Tk.all ee)⟩) hst).keep (ExM.refl _ _) (by omega)⟩
    | tab m es =>
      obtain ⟨t, ps, g1, g2, g3⟩ := hoa
      have sm' : es.length ≤ 1000 := sm
      have g2 := g2.sq (K := K)
      have g1' := Tk.all e4 _ _ g1
      have zl := plen g3
      refine ⟨_, rfl, ao, _, _, _, rfl, rfl, g1', at0, rfl, _, rfl, iteF ?_⟩
      refine and_join false false (fun Q' z => ⟨_, rfl, ao, _, _, _, rfl, rfl, g1', at0, rfl, _, rfl, z⟩) (fun z => nomatch z) ?_
      refine iteF ?_
      refine ⟨_, rfl, ao, _, _, _, rfl, rfl, g1', at0, rfl, _, rfl, iteT ?_⟩
      refine ⟨_, rfl, ao, _, _, _, rfl, rfl, g1', at2, t, rfl, ⟨_, Tk.all e4 _ _ g2⟩, ?_⟩
      refine for_it (walk_tup (xs := ps.map V.ref)) (fun j σ6 H6 => ∃ u5, σ6 = [some (.ref b), some (.ref a), some (.ref l), v3, some (.ref ao), u5] ∧ ExA H H6 ∧ Rows K H6 l (1000 + 1000 * i + j))
        ⟨_, rfl, e4, hR4⟩ (fun j σ6 H6 _ p => by obtain ⟨_, _, e, _⟩ := p; exact Tk.all e _ _ g2) (fun j x σ6 H6 H7 hj p y => ?_) (fun σ6 H6 p => ?_)
      · obtain ⟨rfl, hx⟩ := y
        obtain ⟨u5, rfl, e6, rs, r1, r2, r3⟩ := p
        rw [List.length_map] at hj
        obtain ⟨pa, hpa⟩ : ∃ pa, ps[j]? = some pa := ⟨_, List.getElem?_eq_getElem hj⟩
        rw [List.getElem?_map, hpa] at hx
        obtain rfl : V.ref pa = x := Option.some.inj hx
        obtain ⟨en, hen, hpn⟩ := pget g3 hpa
        have hpn := PairAt.mono (Tk.all e6) hpn
        have g1'' := Tk.all e6 _ _ g1
        refine ⟨_, rfl, .inl ⟨rfl, _, SqL.of r1⟩, ?_⟩
        refine ⟨_, rfl, pa, _, _, _, rfl, rfl, hpn, at1, ?_⟩
        refine ⟨_, rfl, ao, _, _, _, rfl, rfl, g1'', at1, ?_⟩
        refine ⟨_, rfl, pa, _, _, _, rfl, rfl, hpn, at0, sz (by show 3 ≤ 100000; decide), fun ra fra => ⟨sz (by show 2 ≤ 100000; decide), fun st fst => ?_⟩⟩
        have ee : ExA H7 (upd (upd H7 ra (.tup [.str "entry", .int m, .int en.1])) st (.tup [.int en.2, .ref ra])) := (ExM.new fra).trans (ExM.new fst)
        have hst : StAt K (upd (upd H7 ra (.tup [.str "entry", .int m, .int en.1])) st (.tup [.int en.2, .ref ra])) st (en.2, .ent m en.1) := ⟨ra, SqT.of upd_same, Tk.new fst _ _ (SqT.of upd_same)⟩
        generalize upd (upd H7 ra (.tup [.str "entry", .int m, .int en.1])) st (.tup [.int en.2, .ref ra]) = H8 at ee hst ⊢
        have r17 := ExA.at ee r1
        refine ⟨l, _, _, rfl, rfl, r17, szl (by rw [List.length_map]; omega), ?_⟩
        exact ⟨_, rfl, (e6.trans ee).put fl, Rows.push r17 r2 (fun r hr => let ⟨p, y⟩ := r3 r hr; ⟨p, y.mono (Tk.all ee)⟩) hst⟩
      · obtain ⟨u5, rfl, e6, hR6⟩ := p
        exact ⟨_, _, _, rfl, e6, hR6.keep (ExM.refl _ _) (by rw [List.length_map]; omega)⟩
  obtain ⟨v3, v4, v5, rfl, e4, rs, r1, r2, r3⟩ := p
  have b4 := hb.keep e4
  refine ⟨_, rfl, l, _, rfl, .inl (SqL.of r1), rfl, _, rfl, ite2 (fun c => ?_) (fun c => ?_)⟩
  · refine ⟨sz (by show 2 ≤ 100000; decide), fun ra fra => ⟨sz (by show 2 ≤ 100000; decide), fun st fst => ?_⟩⟩
    have ee : ExA H4 (upd (upd H4 ra (.tup [.str "register", .int 0])) st (.tup [.int 0, .ref ra])) := (ExM.new fra).trans (ExM.new fst)
    exact q _ st (0, .reg 0) (ExM.of (e4.trans ee)) (b4.keep ee) ⟨ra, SqT.of upd_same, Tk.new fst _ _ (SqT.of upd_same)⟩
  · have c' : ¬ (V.int ((rs.map V.ref).length : Nat) = V.int 0) := of_decide_eq_false (Bool.eq_false_iff.mpr c)
    have zp : 0 < (rs.map V.ref).length := Nat.pos_of_ne_zero fun z => c' (by rw [z]; rfl)
    have nl : l ∉ [b] := hb.ne fl
    refine ⟨_, rfl, _, rfl, _, _, rfl, b, d, ds, 1000, rfl, rfl, by decide, b4, fun H5 u x5 b5 u0 u1 => ?_⟩
    have r15 := SqL.of (K := K) (x5 l _ nl r1)
    refine .inl ⟨_, rfl, _, rfl, l, _, rfl, .inl r15, _, _, rfl, rfl, by omega, pick r15 zp fun j x hx => ?_⟩
    rw [List.getElem?_map] at hx
    cases hr : rs[j]? with
    | none => rw [hr] at hx; cases hx
    | some r =>
      rw [hr] at hx
      obtain rfl : V.ref r = x := Option.some.inj hx
      obtain ⟨p, hp⟩ := r3 r (List.mem_of_getElem? hr)
      exact q _ r p ((ExM.of e4).trans x5) b5 (hp.mono (b4.tk x5))
theorem ok__law_is_derivation {f : Addr} {fd : FuncData} {cd : Value} (F : Df K "_law_is_derivation" s__law_is_derivation f fd cd) (T : Txt mg) (C__law_states : Cal P w K mg base 2 "_law_states" (sp__law_states K) []) (C__law_named : Cal P w K mg base 1 "_law_named" (sp__law_named K) []) : FnOk P w K mg base CX0 3 f fd ["heap", "gone", "steps"] (sp__law_is_derivation K) := by
  have nd := sc__law_is_derivation.nd
  refine F.ok sc__law_is_derivation (fun vs H Q E h => ?_) (fun A outer s H vs Q E hr h => ?_)
  · obtain ⟨_, _, _, rfl, _⟩ := h; rfl
  have hu := hu_of hr
  obtain ⟨x0, x1, x2, rfl, h⟩ := h
  refine ⟨_, (pss_cons (ps_set (i := 3) nd rfl (by first | exact Or.inl rfl | exact Or.inr rfl) (pe_lst pa_nil))
    (pss_cons (ps_for PassesOwn.never rfl (show PI _ _ _ (iList K _) from pi_list (pv 2)) (pg_name (i := 4) nd rfl (by first | exact Or.inl rfl | exact Or.inr rfl))
    (pss_cons (ps_if (pt_not (pt_val (pe_c C__law_states hr (by first | exact Nat.le_refl _ | decide) rfl (pa_cons (pv 0) (pa_cons (pe_ix (r := rIxT K) ix_tup (pv 4) pe_int (fun _ _ => rfl)) (pa_cons (pe_ix (r := rIxT K) ix_tup (pv 4) pe_int (fun _ _ => rfl)) pa_nil)))))) (pss_one (ps_ret pe_bl)) pss_nil)
    (pss_cons (ps_if (PW.pt (pw_and (pt_cmpR op_eq (pe_ix (r := rIxT K) ix_tup (pe_ix (r := rIxT K) ix_tup (pv 4) pe_int (fun _ _ => rfl)) pe_int (fun _ _ => rfl)) pe_str (nomark _)) (pw_and1 (pt_cmpR (r := rIn K false) op_in_seq (pe_ix (r := rIxT K) ix_tup (pv 4) pe_int (fun _ _ => rfl)) (pv 1) (by first | exact nomark _ | rfl))))) (pss_one (ps_ret pe_bl)) pss_nil)
    (pss_cons (ps_for PassesOwn.never rfl (show PI _ _ _ (iList K _) from pi_list (pe_c C__law_named hr (by first | exact Nat.le_refl _ | decide) rfl (pa_cons (pe_ix (r := rIxT K) ix_tup (pv 4) pe_int (fun _ _ => rfl)) pa_nil))) (pg_name (i := 5) nd rfl (by first | exact Or.inl rfl | exact Or.inr rfl))
    (pss_one (ps_if (pt_cmpR (r := rIn K true) op_notIn_seq (pv 5) (pv 3) (by first | exact nomark _ | rfl)) (pss_one (ps_ret pe_bl)) pss_nil)))
    (pss_one (ps_expr (pe_bm PySem.F.plainAttrs_list PySem.F.slot_list_append PySem.F.type_list_append mt_append (pv 3) (pa_cons (pe_ix (r := rIxT K) ix_tup (pv 4) pe_int (fun _ _ => rfl)) pa_nil))))))))
    (pss_one (ps_ret (pe_cmpR op_gt (pe_callB (r := Evl.rLenS K) call_len_seq rfl T.len PySem.boot_len (pa_cons (pv 2) pa_nil)) pe_int (nomark _)))))), ?_⟩
  obtain ⟨a, h, c, cs, t, ps, L, rfl, rfl, rfl, hA, ok, hC, hT, hps, zL, q⟩ := h
  refine ⟨Nat.zero_le _, fun l fl => ?_⟩
  have e1 : ExA H (upd H l (.lst [])) := ExM.new fl
  have hl1 : (upd H l (.lst [])) l = some (.lst (([] : List Int).map V.int)) := upd_same
  generalize upd H l (.lst []) = H1 at e1 hl1 ⊢
  have ntl : ∀ {H'}, ExA H H' → SqL K H' t (ps.map V.ref) := fun e => SqL.all e hT
  refine ⟨_, rfl, t, rfl, ⟨_, ntl e1⟩, ?_⟩
  have zps := plen hps
  refine for_it (walk_list (xs := ps.map V.ref)) (fun i σ3 H3 => ∃ u4 u5, σ3 = [some (.ref a), some (.ref c), some (.ref t), some (.ref l), u4, u5] ∧ ExA H H3 ∧ Der h cs [] (L.take i) ∧ H3 l = some (.lst (((L.take i).map (·.1)).map V.int)))
    ⟨none, none, rfl, e1, trivial, hl1⟩ (fun i σ3 H3 _ p => by obtain ⟨_, _, _, e, _⟩ := p; exact ntl e) (fun i x σ3 H3 H4 hi p y => ?_) (fun σ3 H3 p => ?_)
  · obtain ⟨rfl, hx⟩ := y
    obtain ⟨u4, u5, rfl, e3, hder, hl3⟩ := p
    rw [List.length_map] at hi
    obtain ⟨st, hpi⟩ : ∃ st, ps[i]? = some st := ⟨_, List.getElem?_eq_getElem hi⟩
    rw [List.getElem?_map, hpi] at hx
    obtain rfl : V.ref st = x := Option.some.inj hx
    obtain ⟨⟨m, r⟩, hLi, hst⟩ := pget hps hpi
    obtain ⟨ra, hs1, hs2⟩ := StAt.mono (Tk.all e3) hst
    have htk := take_snoc hLi
    have fail : ∀ {H'}, ExA H H' → ¬ StpOk h cs ((L.take i).map (·.1)) (m, r) → Q (.bl false) H' := fun {H'} e no => q H' false e ⟨fun z => (nomatch z), fun z => by
      have := z.2.take (i + 1)
      rw [htk, Der.snoc] at this
      exact absurd this.2 no⟩
    refine ⟨_, rfl, _, rfl, st, _, _, _, rfl, rfl, hs1, at0, _, rfl, st, _, _, _, rfl, rfl, hs1, at1, _, _, _, rfl, a, h, m, ra, r, rfl, rfl, rfl, HeapAt.mono (Tk.all e3) hA, ok, hs2, fun H5 bb e5 hbb => ?_⟩
    have e35 := e3.trans e5
    refine ⟨bb, rfl, ?_⟩
    cases bb with
    | false => exact iteT (fail e35 fun z => nomatch hbb.mpr z.2.1)
    | true =>
      have htr := hbb.mp rfl
      refine iteF ?_
      have hs15 := Tk.all e5 _ _ hs1
      have hs25 := hs2.mono (Tk.all e5)
      have hl5 := ExA.at e5 hl3
      obtain ⟨kd, hr0, hr1, hr2⟩ : ∃ kd, SqT K H5 ra r.row ∧ atI r.row (0 : Int) = some (.str kd) ∧ decide (V.str kd = V.str "deref") = r.drf? := by
        cases r with
        | reg k => exact ⟨_, hs25, at0, rfl⟩
        | fld n k => exact ⟨_, hs25, at0, rfl⟩
        | ent n k => exact ⟨_, hs25, at0, rfl⟩
        | drf n => exact ⟨_, hs25, at0, rfl⟩
      refine nxI ?_
      dsimp only
      refine and_join r.drf? (decide (m ∈ cs)) (fun Q' z => ⟨_, rfl, st, _, _, _, rfl, rfl, hs15, at1, ra, _, _, _, rfl, rfl, hr0, hr1, rfl, _, rfl, by rw [hr2]; exact z⟩) (fun _ Q' z => ⟨_, rfl, st, _, _, _, rfl, rfl, hs15, at0, _, rfl, c, _, rfl, .inr (Tk.all e35 _ _ hC), rfl, flat_ints _, _, rfl, by
        show Q' (inV _ _) _; rw [inV_int]; exact z⟩) ?_
      by_cases c4 : r.drf? = true ∧ m ∈ cs
      · rw [c4.1, decide_eq_true c4.2]
        exact iteT (fail e35 fun z => z.2.2 c4)
      rw [show (r.drf? && decide (m ∈ cs)) = false from Bool.eq_false_iff.mpr fun z => c4 ⟨(Bool.and_eq_true_iff.mp z).1, of_decide_eq_true (Bool.and_eq_true_iff.mp z).2⟩]
      refine iteF ?_
      refine ⟨_, rfl, st, _, _, _, rfl, rfl, hs15, at1, _, rfl, ra, r, rfl, hs25, fun nl H6 fnl e6 hnl => ?_⟩
      refine ⟨nl, rfl, ⟨_, SqL.of hnl⟩, ?_⟩
      have e36 := e35.trans e6
      have hl6 := ExA.at e6 hl5
      refine for_it (walk_list (xs := r.names.map V.int)) (fun j σ7 H7 => ∃ u5, σ7 = [some (.ref a), some (.ref c), some (.ref t), some (.ref l), some (.ref st), u5] ∧ H7 = H6 ∧ ∀ n ∈ r.names.take j, n ∈ (L.take i).map (·.1))
        ⟨_, rfl, rfl, by simp⟩ (fun j σ7 H7 _ p => by obtain ⟨_, _, rfl, _⟩ := p; exact SqL.of hnl) (fun j x σ7 H7 H8 hj p y => ?_) (fun σ7 H7 p => ?_)
      · obtain ⟨rfl, hx⟩ := y
        obtain ⟨u5, rfl, rfl, hin⟩ := p
        rw [List.length_map] at hj
        obtain ⟨n, hn⟩ : ∃ n, r.names[j]? = some n := ⟨_, List.getElem?_eq_getElem hj⟩
        rw [List.getElem?_map, hn] at hx
        obtain rfl : V.int n = x := Option.some.inj hx
        refine ⟨_, rfl, _, rfl, l, _, rfl, .inl (SqL.of hl6), rfl, flat_ints _, _, rfl, ?_⟩
        show if (!inV (V.int n) (((L.take i).map (·.1)).map V.int)) = true then _ else _
        rw [inV_int]
        by_cases cn : n ∈ (L.take i).map (·.1)
        · rw [decide_eq_true cn]
          refine iteF ⟨_, rfl, rfl, fun k hk => ?_⟩
          rcases (mem_take_snoc hn).mp hk with y | rfl
          · exact hin k y
          · exact cn
        · rw [decide_eq_false cn]
          exact iteT (fail e36 fun z => cn (z.1 n (List.mem_of_getElem? hn)))
      · obtain ⟨u5, rfl, rfl, hin⟩ := p
        rw [List.length_map, List.take_length] at hin
        refine ⟨_, rfl, .inl ⟨rfl, _, SqL.of hl6⟩, _, rfl, st, _, _, _, rfl, rfl, Tk.all e6 _ _ hs15, at0, l, _, _, rfl, rfl, hl6, szl (by rw [List.length_map, List.length_map, List.length_take]; omega), ?_⟩
        refine ⟨_, _, rfl, e36.put fl, ?_, ?_⟩
        · rw [htk, Der.snoc]
          exact ⟨hder, hin, htr, c4⟩
        · rw [upd_same, htk, List.map_append, List.map_append]; rfl
  obtain ⟨u4, u5, rfl, e3, hder, hl3⟩ := p
  rw [List.length_map, zps, List.take_length] at hder
  refine ⟨_, rfl, t, _, rfl, .inl (ntl e3), _, _, rfl, rfl, ?_⟩
  refine q _ _ e3 ?_
  rw [decide_eq_true_eq, List.length_map, zps]
  exact ⟨fun z => ⟨fun e => by rw [e] at z; exact absurd z (by decide), hder⟩, fun z => by
    have := List.length_pos_iff.mpr z.1
    omega⟩
end
end Wc
namespace Wc
open PySem L2
theorem tabs_but {T : List (Addr × Str)} {H H' : Hp} {b : Addr} {xs : List V} (t : LamX.Tabs T H) (hb : H b = some (.lst xs)) (e : ExM [b] H H') : LamX.Tabs T H' := fun p hp => by
  obtain ⟨ps, h1, h2, h3⟩ := t p hp
  have ne : ∀ c o, H c = some o → o ≠ .lst xs → c ∉ [b] := fun c o z y m => by
    rw [List.mem_singleton.mp m, hb] at z
    exact y (Option.some.inj z).symm
  refine ⟨ps, e _ _ (ne _ _ h1 fun z => nomatch z) h1, h2, fun pos cv hc => ?_⟩
  obtain ⟨c, e1, e2⟩ := h3 pos cv hc
  exact ⟨c, e1, e _ _ (ne _ _ e2 fun z => nomatch z) e2⟩
theorem ExM.one {H : Hp} {l : Addr} {o : HO} : ExM [l] H (upd H l o) := fun a u m z => by rw [upd_ne (fun e => m (by rw [e]; exact List.mem_singleton.mpr rfl))]; exact z
/-- what the law keeps while it makes steps -/
structure Kp (K : PySem.W.Frag) (H : Hp) (a : Addr) (h : Hd) (g : Addr) (gs : List Int) (b d : Addr) (ds : List Int) : Prop where
  hA : HeapAt K H a h
  hg : SqT K H g (gs.map V.int)
  bx : Bx H b d ds
  tb : LamX.Tabs (LT_derive K) H
section
variable {K : PySem.W.Frag} {H H' : Hp} {a : Addr} {h : Hd} {g : Addr} {gs : List Int} {b d : Addr} {ds : List Int}
theorem Kp.ext (k : Kp K H a h g gs b d ds) (e : ExA H H') : Kp K H' a h g gs b d ds := ⟨HeapAt.mono (Tk.all e) k.hA, Tk.all e _ _ k.hg, k.bx.keep e, k.tb.ext fun _ _ z => ExA.at e z⟩
theorem Kp.box (k : Kp K H a h g gs b d ds) (e : ExM [b] H H') (b' : Bx H' b d ds) : Kp K H' a h g gs b d ds :=
  let ⟨_, hb⟩ := k.bx.1
  ⟨HeapAt.mono (k.bx.tk e) k.hA, k.bx.tk e _ _ k.hg, b', tabs_but k.tb hb e⟩
theorem Kp.lst {l : Addr} {xs ys : List V} (k : Kp K H a h g gs b d ds) (hl : H l = some (.lst xs)) (nb : l ≠ b) (nd : l ≠ d) : Kp K (upd H l (.lst ys)) a h g gs b d ds := by
  have t : Tk K H (upd H l (.lst ys)) := Tk.lst hl
  obtain ⟨⟨n, h1⟩, h2, h3⟩ := k.bx
  exact ⟨HeapAt.mono t k.hA, t _ _ k.hg, ⟨⟨n, by rw [upd_ne nb.symm]; exact h1⟩, by rw [upd_ne nd.symm]; exact h2, h3⟩, tabs_but k.tb hl ExM.one⟩
end
/-- the list of steps -/
structure Sts (K : PySem.W.Frag) (H : Hp) (l b d : Addr) (n : Nat) : Prop where
  at_ : ∃ (ps : List Addr) (L : List (Int × Rs)), H l = some (.lst (ps.map V.ref)) ∧ Paired (StAt K H) ps L ∧ L.length ≤ n
  nb : l ≠ b
  nd : l ≠ d
theorem Sts.ext {K : PySem.W.Frag} {H H' : Hp} {l b d : Addr} {n : Nat} (s : Sts K H l b d n) (e : ExA H H') : Sts K H' l b d n := by
  obtain ⟨ps, L, h1, h2, h3⟩ := s.at_
  exact ⟨⟨ps, L, ExA.at e h1, pmp h2 fun _ _ z => z.mono (Tk.all e), h3⟩, s.nb, s.nd⟩
theorem Sts.box {K : PySem.W.Frag} {H H' : Hp} {l b d : Addr} {n : Nat} {ds : List Int} (s : Sts K H l b d n) (bx : Bx H b d ds) (e : ExM [b] H H') : Sts K H' l b d n := by
  obtain ⟨ps, L, h1, h2, h3⟩ := s.at_
  exact ⟨⟨ps, L, e _ _ (by simpa using s.nb) h1, pmp h2 fun _ _ z => z.mono (bx.tk e), h3⟩, s.nb, s.nd⟩
theorem Sts.le {K : PySem.W.Frag} {H : Hp} {l b d : Addr} {n m : Nat} (s : Sts K H l b d n) (z : n ≤ m) : Sts K H l b d m := by
  obtain ⟨ps, L, h1, h2, h3⟩ := s.at_
  exact ⟨⟨ps, L, h1, h2, Nat.le_trans h3 z⟩, s.nb, s.nd⟩
theorem ps_take {α β : Type} {F : α → β → Prop} : ∀ {l : List α} {m : List β} (i : Nat), Paired F l m → Paired F (l.take i) (m.take i)
  | _, _, 0, _ => .nil
  | _, _, i + 1, .nil => .nil
  | _, _, i + 1, .cons r t => .cons r (ps_take i t)
theorem ps_drop {α β : Type} {F : α → β → Prop} : ∀ {l : List α} {m : List β} (i : Nat), Paired F l m → Paired F (l.drop i) (m.drop i)
  | _, _, 0, h => h
  | _, _, i + 1, .nil => .nil
  | _, _, i + 1, .cons r t => ps_drop i t
/-- a derivation, as data: steps -/
theorem rs_of {K : PySem.W.Frag} {H : Hp} {r : Rs} {v : V} (h : Is K H r.dt v) : ∃ ra, v = .ref ra ∧ RsAt K H ra r := by
  cases r with
  | reg k =>
    obtain ⟨a, xs, rfl, h1, x, q, rfl, rfl, y, q2, rfl, rfl, rfl⟩ := h
    exact ⟨a, rfl, h1⟩
  | fld n k =>
    obtain ⟨a, xs, rfl, h1, x, q, rfl, rfl, y, q2, rfl, rfl, y3, q3, rfl, rfl, rfl⟩ := h
    exact ⟨a, rfl, h1⟩
  | ent n k =>
    obtain ⟨a, xs, rfl, h1, x, q, rfl, rfl, y, q2, rfl, rfl, y3, q3, rfl, rfl, rfl⟩ := h
    exact ⟨a, rfl, h1⟩
  | drf n =>
    obtain ⟨a, xs, rfl, h1, x, q, rfl, rfl, y, q2, rfl, rfl, rfl⟩ := h
    exact ⟨a, rfl, h1⟩
theorem sts_of {K : PySem.W.Frag} {H : Hp} {h : Hd} {cs : List Int} : ∀ {L : List Int} {xs : List V}, IsL K H (L.map fun m => .tup [.int m, (bst h cs m).dt]) xs → ∃ ps : List Addr, xs = ps.map V.ref ∧ Paired (StAt K H) ps (L.map fun m => (m, bst h cs m))
  | [], xs, z => ⟨[], z, .nil⟩
  | m :: L, xs, z => by
    obtain ⟨x, r, rfl, ⟨s, ys, rfl, h1, y, q, rfl, rfl, y2, q2, rfl, hr, rfl⟩, z2⟩ := z
    obtain ⟨ra, rfl, hra⟩ := rs_of hr
    obtain ⟨ps, rfl, hp⟩ := sts_of z2
    exact ⟨s :: ps, rfl, .cons ⟨ra, h1, hra⟩ hp⟩
/-- a pair of a number and what is no reason -/
theorem bad2 {K : PySem.W.Frag} {H : Hp} {q p : Addr} {i : Int} {ys : List V} (fp : (upd H q (.tup ys)) p = none) (mk : ∀ H', SqT K H' q ys → NoRs K H' (.ref q)) : Bad K (upd (upd H q (.tup ys)) p (.tup [.int i, .ref q])) (.ref p) :=
  .inl (.rs i _ (SqT.of upd_same) (mk _ (Tk.new fp _ _ (SqT.of upd_same))))
def Bads (K : PySem.W.Frag) (H : Hp) (xs : List V) : Prop := ∀ x ∈ xs, Bad K H x
theorem Bads.more {K : PySem.W.Frag} {H H' : Hp} {xs : List V} {x : V} (h : Bads K H xs) (e : ExA H H') (b : Bad K H' x) : Bads K H' (xs ++ [x]) := fun y hy => by
  rcases List.mem_append.mp hy with z | z
  · exact (h y z).mono (Tk.all e)
  · rw [List.mem_singleton.mp z]; exact b
section
variable (K : PySem.W.Frag)
def R_law : V1 := fun x H Q => ∃ (a : Addr) (ns : List Int), x = .ref a ∧ SqL K H a (ns.map V.int) ∧ ns.length ≤ 63 ∧ (∀ p ∈ [(("derive" : Str), (none : Option Str))], H (He.cT K p).2 = some (.tbl #[])) ∧ ∀ H', Q (.bl true) H'
abbrev sp_law : Sp := sp1 (R_law K)
end
section
variable {P : Program} {w : World} {K : PySem.W.Frag} {mg : Str → Option Value} {base : PySem.Heap}
theorem ok_law {f : Addr} {fd : FuncData} {cd : Value} (F : Df K "law" s_law f fd cd) (T : Txt mg) (C_derive : Cal P w K mg base 5 "derive" (sp_derive K) []) (C_check_derivation : Cal P w K mg base 3 "check_derivation" (sp_check_derivation K) []) (C__law_box : Cal P w K mg base 3 "_law_box" (sp__law_box K) []) (C__law_draw : Cal P w K mg base 1 "_law_draw" (sp__law_draw K) []) (C__law_heap : Cal P w K mg base 4 "_law_heap" (sp__law_heap K) []) (C__law_some : Cal P w K mg base 2 "_law_some" (sp__law_some K) []) (C__law_numbers : Cal P w K mg base 1 "_law_numbers" (sp__law_numbers K) []) (C__law_true_reason : Cal P w K mg base 2 "_law_true_reason" (sp__law_true_reason K) []) (C__law_any_reason : Cal P w K mg base 2 "_law_any_reason" (sp__law_any_reason K) []) (C__law_same : Cal P w K mg base 9 "_law_same" (sp__law_same K) []) (C__law_is_derivation : Cal P w K mg base 3 "_law_is_derivation" (sp__law_is_derivation K) []) : FnOk P w K mg base CX0 10 f fd ["script"] (sp_law K) := by
  have nd := sc_law.nd
  refine F.ok sc_law (fun vs H Q E h => ?_) (fun A outer s H vs Q E hr h => ?_)
  · obtain ⟨_, rfl, _⟩ := h; rfl
  have hu := hu_of hr
  obtain ⟨x0, rfl, h⟩ := h
  refine ⟨_, (pss_cons (ps_set (i := 1) nd rfl (by first | exact Or.inl rfl | exact Or.inr rfl) (pe_c C__law_box hr (by first | exact Nat.le_refl _ | decide) rfl (pa_cons (pv 0) (pa_cons pe_int (pa_cons pe_int pa_nil)))))
    (pss_cons (ps_set (i := 2) nd rfl (by first | exact Or.inl rfl | exact Or.inr rfl) (pe_c C__law_heap hr (by first | exact Nat.le_refl _ | decide) rfl (pa_cons (pv 1) (pa_cons pe_int pa_nil))))
    (pss_cons (ps_set (i := 3) nd rfl (by first | exact Or.inl rfl | exact Or.inr rfl) (pe_c C__law_some hr (by first | exact Nat.le_refl _ | decide) rfl (pa_cons (pv 1) (pa_cons (pe_c C__law_numbers hr (by first | exact Nat.le_refl _ | decide) rfl (pa_cons (pv 2) pa_nil)) pa_nil))))
    (pss_cons (ps_set (i := 4) nd rfl (by first | exact Or.inl rfl | exact Or.inr rfl) (pe_lst pa_nil))
    (Evl.pss_cut (ps_if (pt_cmpR op_eq (pe_c C__law_draw hr (by first | exact Nat.le_refl _ | decide) rfl (pa_cons (pv 1) (pa_cons pe_int pa_nil))) pe_int (nomark _)) (pss_one (ps_for PassesOwn.never rfl (show PI _ _ _ (iList K _) from pi_list (pe_c C__law_numbers hr (by first | exact Nat.le_refl _ | decide) rfl (pa_cons (pv 2) pa_nil))) (pg_name (i := 5) nd rfl (by first | exact Or.inl rfl | exact Or.inr rfl))
    (pss_one (ps_if (pt_cmpR op_eq (pe_c C__law_draw hr (by first | exact Nat.le_refl _ | decide) rfl (pa_cons (pv 1) (pa_cons pe_int pa_nil))) pe_int (nomark _)) (pss_one (ps_set (i := 4) nd rfl (by first | exact Or.inl rfl | exact Or.inr rfl) (pe_op op_cat (pv 4) (pe_callTy call_list_of rfl T.list (by decide +kernel) (pa_cons (pe_orT (pe_c C_derive hr (by first | exact Nat.le_refl _ | decide) rfl (pa_cons (pv 2) (pa_cons (pe_tup pa_nil) (pa_cons (pv 5) pa_nil)))) (pe_one (pe_tup pa_nil))) pa_nil))))) pss_nil)))) pss_nil)
    (pss_cons (ps_for PassesOwn.never rfl (pi_range1 rfl T.range (pa_cons (pe_c C__law_draw hr (by first | exact Nat.le_refl _ | decide) rfl (pa_cons (pv 1) (pa_cons pe_int pa_nil))) pa_nil)) (pg_name (i := 6) nd rfl (by first | exact Or.inl rfl | exact Or.inr rfl))
    (pss_cons (ps_set (i := 7) nd rfl (by first | exact Or.inl rfl | exact Or.inr rfl) (pe_c C__law_true_reason hr (by first | exact Nat.le_refl _ | decide) rfl (pa_cons (pv 1) (pa_cons (pv 2) pa_nil))))
    (Evl.pss_cut (ps_if (pt_cmpR op_eq (pe_c C__law_draw hr (by first | exact Nat.le_refl _ | decide) rfl (pa_cons (pv 1) (pa_cons pe_int pa_nil))) pe_int (nomark _)) (pss_one (ps_set (i := 7) nd rfl (by first | exact Or.inl rfl | exact Or.inr rfl) (pe_tup (pa_cons (pe_ix (r := rIxT K) ix_tup (pv 7) pe_int (fun _ _ => rfl)) (pa_cons (pe_c C__law_any_reason hr (by first | exact Nat.le_refl _ | decide) rfl (pa_cons (pv 1) (pa_cons (pv 2) pa_nil))) pa_nil))))) pss_nil)
    (pss_one (ps_expr (pe_bm PySem.F.plainAttrs_list PySem.F.slot_list_insert PySem.F.type_list_insert mt_insert (pv 4) (pa_cons (pe_c C__law_draw hr (by first | exact Nat.le_refl _ | decide) rfl (pa_cons (pv 1) (pa_cons (pe_op op_add (pe_callB (r := Evl.rLenS K) call_len_seq rfl T.len PySem.boot_len (pa_cons (pv 4) pa_nil)) pe_int) pa_nil))) (pa_cons (pv 7) pa_nil))))))))
    (pss_cons (ps_if (pt_not (pt_val (pe_c C__law_same hr (by first | exact Nat.le_refl _ | decide) rfl (pa_cons (pe_c C_check_derivation hr (by first | exact Nat.le_refl _ | decide) rfl (pa_cons (pv 2) (pa_cons (pv 3) (pa_cons (pe_callTy (r := rTupS K) call_tuple_of rfl T.tuple (by decide +kernel) (pa_cons (pv 4) pa_nil)) pa_nil)))) (pa_cons (pe_c C__law_is_derivation hr (by first | exact Nat.le_refl _ | decide) rfl (pa_cons (pv 2) (pa_cons (pv 3) (pa_cons (pv 4) pa_nil)))) pa_nil))))) (pss_one (ps_ret pe_bl)) pss_nil)
    (pss_cons (ps_set (i := 8) nd rfl (by first | exact Or.inl rfl | exact Or.inr rfl) (pe_lst (pa_cons (pe_tup (pa_cons pe_str (pa_cons pe_int pa_nil))) (pa_cons (pe_tup (pa_cons pe_int (pa_cons (pe_tup (pa_cons pe_str (pa_cons pe_int pa_nil))) pa_nil))) (pa_cons (pe_tup (pa_cons pe_int (pa_cons (pe_tup (pa_cons pe_str (pa_cons (pe_un un_neg pe_int) pa_nil))) pa_nil))) (pa_cons (pe_tup (pa_cons pe_int (pa_cons (pe_tup (pa_cons pe_str (pa_cons pe_bl pa_nil))) pa_nil))) (pa_cons (pe_tup (pa_cons pe_int (pa_cons (pe_tup (pa_cons pe_str pa_nil)) pa_nil))) (pa_cons (pe_tup (pa_cons pe_int pa_nil)) (pa_cons pe_int (pa_cons pe_non pa_nil))))))))))
    (pss_cons (ps_set (i := 8) nd rfl (by first | exact Or.inl rfl | exact Or.inr rfl) (pe_op op_cat (pv 8) (pe_lst (pa_cons (pe_tup (pa_cons pe_int (pa_cons (pe_tup pa_nil) pa_nil))) (pa_cons (pe_tup (pa_cons pe_int (pa_cons pe_str pa_nil))) (pa_cons (pe_tup (pa_cons pe_bl (pa_cons (pe_tup (pa_cons pe_str (pa_cons pe_int pa_nil))) pa_nil))) (pa_cons (pe_tup (pa_cons pe_int (pa_cons (pe_tup (pa_cons pe_str (pa_cons pe_str pa_nil))) pa_nil))) (pa_cons (pe_tup (pa_cons pe_int (pa_cons (pe_tup (pa_cons pe_int (pa_cons pe_int pa_nil))) pa_nil))) pa_nil))))))))
    (pss_cons (ps_set (i := 9) nd rfl (by first | exact Or.inl rfl | exact Or.inr rfl) (pe_ix (r := rIxL K) ix_list (pv 8) (pe_c C__law_draw hr (by first | exact Nat.le_refl _ | decide) rfl (pa_cons (pv 1) (pa_cons pe_int pa_nil))) (fun _ _ => rfl)))
    (pss_cons (ps_set (i := 10) nd rfl (by first | exact Or.inl rfl | exact Or.inr rfl) (pe_c C__law_draw hr (by first | exact Nat.le_refl _ | decide) rfl (pa_cons (pv 1) (pa_cons (pe_op op_add (pe_callB (r := Evl.rLenS K) call_len_seq rfl T.len PySem.boot_len (pa_cons (pv 4) pa_nil)) pe_int) pa_nil))))
    (pss_cons (ps_set (i := 11) nd rfl (by first | exact Or.inl rfl | exact Or.inr rfl) (pe_callTy (r := rTupS K) call_tuple_of rfl T.tuple (by decide +kernel) (pa_cons (pe_op op_cat (pe_op op_cat (pe_slice sl_list (pv 4) po_none (po_some (pv 10))) (pe_lst (pa_cons (pv 9) pa_nil))) (pe_slice sl_list (pv 4) (po_some (pv 10)) po_none)) pa_nil)))
    (pss_cons (ps_if (pt_cmpR op_isnot_bl (pe_c C_check_derivation hr (by first | exact Nat.le_refl _ | decide) rfl (pa_cons (pv 2) (pa_cons (pv 3) (pa_cons (pv 11) pa_nil)))) pe_bl (nomark _)) (pss_one (ps_ret pe_bl)) pss_nil)
    (pss_one (ps_ret (pe_and (pe_cmpR op_is_bl (pe_c C_check_derivation hr (by first | exact Nat.le_refl _ | decide) rfl (pa_cons (pv 2) (pa_cons (pv 3) (pa_cons (pe_callTy call_list_of rfl T.list (by decide +kernel) (pa_cons (pv 4) pa_nil)) pa_nil)))) pe_bl (nomark _)) (pe_one (pe_cmpR op_is_bl (pe_c C_check_derivation hr (by first | exact Nat.le_refl _ | decide) rfl (pa_cons (pv 2) (pa_cons (pv 3) (pa_cons pe_non pa_nil)))) pe_bl (nomark _))))))))))))))))))), ?_⟩
  obtain ⟨sa, sn, rfl, hS, h63, hP, q⟩ := h
  refine ⟨_, rfl, _, _, _, rfl, sa, sn, 0, 63, rfl, rfl, rfl, hS, by decide, by decide, by decide, fun b d ds H1 f1 e1 b1 => ?_⟩
  have hP0 := hP _ (List.mem_singleton.mpr rfl)
  have nPb : (He.cT K (("derive" : Str), (none : Option Str))).2 ∉ [b] := fun z => by
    have z : (He.cT K (("derive" : Str), (none : Option Str))).2 = b := List.mem_singleton.mp z
    rw [z, f1] at hP0; cases hP0
  refine ⟨_, rfl, _, _, rfl, b, d, ds, 7, rfl, rfl, by decide, by decide, b1, fun H2 a h x2 b2 hA ok z7 => ?_⟩
  have hP2 := x2 _ _ nPb (ExA.at e1 hP0)
  -- gone
  refine ⟨_, rfl, _, rfl, _, rfl, a, h, rfl, hA, ok, fun l H3 fl e3 hl => ?_⟩
  have b3 := b2.keep e3
  have nl : l ∉ [b] := b2.ne fl
  have hA3 := HeapAt.mono (Tk.all e3) hA
  have N3 : Nm K H3 b l h.nums := ⟨SqL.of hl, nl⟩
  have zn : h.nums.length ≤ 7 := by unfold Hd.nums; rw [List.length_map]; omega
  refine ⟨_, _, rfl, b, d, ds, l, h.nums, rfl, rfl, b3, .inl N3, by omega, fun H4 g gs x4 b4 hgs hg => ?_⟩
  have hP4 := x4 _ _ nPb (ExA.at e3 hP2)
  have k4 : Kp K H4 a h g gs b d ds := ⟨HeapAt.mono (b3.tk x4) hA3, SqT.of hg, b4, fun p hp => by
    have e := List.mem_singleton.mp hp
    subst e
    exact LamX.TabS.nil hP4⟩
  -- steps
  refine ⟨Nat.zero_le _, fun l0 fl0 => ?_⟩
  have k5 := k4.ext (ExM.new (o := .lst []) fl0)
  obtain ⟨⟨_, hb4⟩, hd4, _⟩ := id b4
  have s5 : Sts K (upd H4 l0 (.lst [])) l0 b d 0 := ⟨⟨[], [], upd_same, .nil, Nat.le_refl _⟩, (ne_of_none hb4 fl0).symm, (ne_of_none hd4 fl0).symm⟩
  generalize upd H4 l0 (.lst []) = H5 at k5 s5 ⊢
  refine ⟨fun σ' H' => ∃ l u5, σ' = [some (.ref sa), some (.ref b), some (.ref a), some (.ref g), some (.ref l), u5, none, none, none, none, none, none] ∧ Kp K H' a h g gs b d ds ∧ Sts K H' l b d 50, ?_, ?_⟩
  · refine ⟨_, rfl, _, _, rfl, b, d, ds, 2, rfl, rfl, by decide, k5.bx, fun H6 v x6 b6 v0 v1 => ⟨rfl, _, rfl, ite2 (fun _ => ?_) (fun _ => ?_)⟩⟩
    · have k6 := k5.box x6 b6
      have s6 := s5.box k5.bx x6
      refine ⟨_, rfl, _, rfl, a, h, rfl, k6.hA, ok, fun ln H7 fln e7 hln => ?_⟩
      have nln : ln ∉ [b] := k6.bx.ne fln
      refine ⟨ln, rfl, ⟨_, SqL.of hln⟩, ?_⟩
      refine for_it (walk_list (xs := h.nums.map V.int)) (fun i σ8 H8 => ∃ l u5, σ8 = [some (.ref sa), some (.ref b), some (.ref a), some (.ref g), some (.ref l), u5, none, none, none, none, none, none] ∧ Kp K H8 a h g gs b d ds ∧ Sts K H8 l b d (7 * i) ∧ H8 ln = some (.lst (h.nums.map V.int)))
        ⟨_, _, rfl, k6.ext e7, (s6.ext e7).le (by omega), hln⟩ (fun i σ8 H8 _ p => by obtain ⟨_, _, _, _, _, z⟩ := p; exact SqL.of z) (fun i x σ8 H8 H9 hi p y => ?_) (fun σ8 H8 p => ?_)
      · obtain ⟨rfl, hx⟩ := y
        obtain ⟨ls, u5, rfl, k8, s8, hln8⟩ := p
        rw [List.length_map] at hi
        obtain ⟨n, hn⟩ : ∃ n, h.nums[i]? = some n := ⟨_, List.getElem?_eq_getElem hi⟩
        rw [List.getElem?_map, hn] at hx
        obtain rfl : V.int n = x := Option.some.inj hx
        refine ⟨_, rfl, _, _, rfl, b, d, ds, 3, rfl, rfl, by decide, k8.bx, fun Ha v xa ba v0 v1 => ⟨rfl, _, rfl, ite2 (fun _ => ?_) (fun _ => ?_)⟩⟩
        · have ka := k8.box xa ba
          have sa' := s8.box k8.bx xa
          have hlna := xa _ _ nln hln8
          -- derive(heap, (), number)
          refine ⟨_, rfl, _, rfl, Nat.zero_le _, fun t0 ft0 => ?_⟩
          have kb := ka.ext (ExM.new (o := .tup []) ft0)
          have sb := sa'.ext (ExM.new (o := .tup []) ft0)
          have hlnb : (upd Ha t0 (.tup [])) ln = some (.lst (h.nums.map V.int)) := ExA.at (ExM.new ft0) hlna
          have ht0 : SqT K (upd Ha t0 (.tup [])) t0 (([] : List Int).map V.int) := SqT.of upd_same
          generalize upd Ha t0 (.tup []) = Hb at kb sb hlnb ht0 ⊢
          have fin : ∀ {Hc : Hp} {l2 : Addr} {ps2 : List Addr} {L2' : List (Int × Rs)}, Hc l2 = none → Kp K Hc a h g gs b d ds → Sts K Hc ls b d (7 * i) → Hc ln = some (.lst (h.nums.map V.int)) → Paired (StAt K Hc) ps2 L2' → L2'.length ≤ 7 →
              ∀ {Q' : VK}, (∀ Hd' l', Kp K Hd' a h g gs b d ds → Sts K Hd' l' b d (7 * (i + 1)) → Hd' ln = some (.lst (h.nums.map V.int)) → Q' (.ref l') Hd') → rCat (.ref ls) (.ref l2) (upd Hc l2 (.lst (ps2.map V.ref))) Q' := fun {Hc l2 ps2 L2'} fl2 kc sc hlnc hp2 z2 Q' qq => by
            have kd := kc.ext (ExM.new (o := .lst (ps2.map V.ref)) fl2)
            have sd := sc.ext (ExM.new (o := .lst (ps2.map V.ref)) fl2)
            have hln2 : (upd Hc l2 (.lst (ps2.map V.ref))) ln = some (.lst (h.nums.map V.int)) := ExA.at (ExM.new fl2) hlnc
            obtain ⟨ps1, L1, g1, g2, g3⟩ := sd.at_
            have hl2 : (upd Hc l2 (.lst (ps2.map V.ref))) l2 = some (.lst (ps2.map V.ref)) := upd_same
            have hp2' : Paired (StAt K (upd Hc l2 (.lst (ps2.map V.ref)))) ps2 L2' := pmp hp2 fun _ _ z => z.mono (Tk.new fl2)
            generalize upd Hc l2 (.lst (ps2.map V.ref)) = He' at kd sd hln2 g1 g2 hl2 hp2'
            have zz1 := plen g2
            have zz2 := plen hp2'
            have zi : i ≤ 7 := by omega
            refine ⟨ls, l2, _, _, rfl, rfl, g1, hl2, sz (by rw [List.length_map, List.length_map]; omega), fun p fp => ?_⟩
            have ep : ExA He' (upd He' p (.lst (ps1.map V.ref ++ ps2.map V.ref))) := ExM.new fp
            obtain ⟨⟨_, hbe⟩, hde, _⟩ := id kd.bx
            refine qq _ p (kd.ext ep) ⟨⟨ps1 ++ ps2, L1 ++ L2', by rw [upd_same, List.map_append], papp (pmp hp2' fun _ _ z => z.mono (Tk.all ep)) (pmp g2 fun _ _ z => z.mono (Tk.all ep)), by rw [List.length_append]; omega⟩, (ne_of_none hbe fp).symm, (ne_of_none hde fp).symm⟩ (ExA.at ep hln2)
          refine ⟨_, rfl, _, _, _, rfl, a, h, t0, [], n, rfl, rfl, rfl, kb.hA, ok, ht0, by simp, kb.tb, fun hno Hc ec => ?_, fun hyes L v Hc hdrv xc Tc hv => ?_⟩
          · refine ⟨false, rfl, iteF ⟨Nat.zero_le _, fun t1 ft1 => ?_⟩⟩
            have ee := ec.trans (ExM.new (o := .tup []) ft1)
            refine ⟨t1, _, rfl, .inr (SqT.of upd_same), fun l2 fl2 => ?_⟩
            refine fin (ps2 := []) (L2' := []) fl2 (kb.ext ee) (sb.ext ee) (ExA.at ee hlnb) .nil (by simp) fun Hd' l' y1 y2 y3 => ?_
            exact ⟨_, _, rfl, y1, y2, y3⟩
          · obtain ⟨tp, xs, rfl, ht, hxs⟩ := hv
            obtain ⟨ps2, rfl, hp2⟩ := sts_of hxs
            have zL := hdrv.len ok hyes
            have kc : Kp K Hc a h g gs b d ds := ⟨HeapAt.mono (Tk.ext xc) kb.hA, Tk.ext xc _ _ kb.hg, (by
              obtain ⟨⟨m, h1⟩, h2, h3⟩ := kb.bx
              exact ⟨⟨m, xc _ _ h1 (fun _ z => nomatch z)⟩, xc _ _ h2 (fun _ z => nomatch z), h3⟩), Tc⟩
            have sc : Sts K Hc ls b d (7 * i) := by
              obtain ⟨ps, L', h1, h2, h3⟩ := sb.at_
              exact ⟨⟨ps, L', xc _ _ h1 (fun _ z => nomatch z), pmp h2 fun _ _ z => z.mono (Tk.ext xc), h3⟩, sb.nb, sb.nd⟩
            have hlnc := xc _ _ hlnb fun _ z => nomatch z
            by_cases e0 : L = []
            · subst e0
              have ep2 : ps2 = [] := List.length_eq_zero_iff.mp (by rw [plen hp2]; rfl)
              subst ep2
              refine ⟨false, ?_, iteF ⟨Nat.zero_le _, fun t1 ft1 => ?_⟩⟩
              · exact .inr (.inl ⟨_, ht, rfl⟩)
              · have ee : ExA Hc (upd Hc t1 (.tup [])) := ExM.new ft1
                refine ⟨t1, _, rfl, .inr (SqT.of upd_same), fun l2 fl2 => ?_⟩
                refine fin (ps2 := []) (L2' := []) fl2 (kc.ext ee) (sc.ext ee) (ExA.at ee hlnc) .nil (by simp) fun Hd' l' y1 y2 y3 => ?_
                exact ⟨_, _, rfl, y1, y2, y3⟩
            · refine ⟨true, ?_, iteT ?_⟩
              · refine .inr (.inl ⟨_, ht, ?_⟩)
                cases ps2 with
                | nil => exact absurd (List.length_eq_zero_iff.mp (show L.length = 0 by have := plen hp2; rw [List.length_map] at this; exact this.symm)) e0
                | cons p r => rfl
              · refine ⟨tp, _, rfl, .inr ht, fun l2 fl2 => ?_⟩
                refine fin fl2 kc sc hlnc hp2 (by rw [List.length_map]; omega) fun Hd' l' y1 y2 y3 => ?_
                exact ⟨_, _, rfl, y1, y2, y3⟩
        · have ka := k8.box xa ba
          exact ⟨_, _, rfl, ka, (s8.box k8.bx xa).le (by omega), xa _ _ nln hln8⟩
      · obtain ⟨ls, u5, rfl, k8, s8, _⟩ := p
        rw [List.length_map] at s8
        exact ⟨_, _, rfl, k8, s8.le (by omega)⟩
    · exact ⟨_, _, rfl, k5.box x6 b6, (s5.box k5.bx x6).le (by omega)⟩
  · rintro σ6 H6 ⟨l6, u5, rfl, k6, s6⟩
    refine ⟨_, rfl, _, _, rfl, b, d, ds, 5, rfl, rfl, by decide, k6.bx, fun H7 m x7 b7 m0 m5 => ⟨m, rfl, by omega, by omega, ?_⟩⟩
    refine for_range (lo := 0) (n := m.toNat) (fun i σ8 H8 => ∃ l u5 u6 u7, σ8 = [some (.ref sa), some (.ref b), some (.ref a), some (.ref g), some (.ref l), u5, u6, u7, none, none, none, none] ∧ Kp K H8 a h g gs b d ds ∧ Sts K H8 l b d (50 + i))
      ⟨_, _, _, _, rfl, k6.box x7 b7, s6.box k6.bx x7⟩ (fun i σ8 H8 hi p => ?_) (fun σ8 H8 p => ?_)
    · obtain ⟨ls, u5, u6, u7, rfl, k8, s8⟩ := p
      refine ⟨_, rfl, _, rfl, _, _, rfl, b, d, ds, a, h, rfl, rfl, k8.bx, k8.hA, ok, fun H9 st stp x9 b9 hst => ?_⟩
      have k9 := k8.box x9 b9
      have s9 := s8.box k8.bx x9
      refine ⟨fun σ' H' => ∃ st stp u5 u6, σ' = [some (.ref sa), some (.ref b), some (.ref a), some (.ref g), some (.ref ls), u5, u6, some (.ref st), none, none, none, none] ∧ Kp K H' a h g gs b d ds ∧ Sts K H' ls b d (50 + i) ∧ StAt K H' st stp, ?_, ?_⟩
      · refine ⟨_, rfl, _, _, rfl, b, d, ds, 4, rfl, rfl, by decide, b9, fun Ha v xa ba v0 v1 => ⟨rfl, _, rfl, ite2 (fun _ => ?_) (fun _ => ?_)⟩⟩
        · have ka := k9.box xa ba
          have sa' := s9.box b9 xa
          obtain ⟨ra, hs1, hs2⟩ := hst.mono (b9.tk xa)
          refine ⟨_, rfl, st, _, _, _, rfl, rfl, hs1, at0, ?_⟩
          refine ⟨_, rfl, _, rfl, _, _, rfl, b, d, ds, a, h, rfl, rfl, ba, ka.hA, ok, fun Hb rb r xb bb hrb => ?_⟩
          have kb := ka.box xb bb
          have sb := sa'.box ba xb
          refine ⟨sz (by show 2 ≤ 100000; decide), fun st2 fst2 => ?_⟩
          have ee : ExA Hb (upd Hb st2 (.tup [.int stp.1, .ref rb])) := ExM.new fst2
          exact ⟨st2, (stp.1, r), _, _, rfl, kb.ext ee, sb.ext ee, rb, SqT.of upd_same, hrb.mono (Tk.all ee)⟩
        · exact ⟨st, stp, _, _, rfl, k9.box xa ba, s9.box b9 xa, hst.mono (b9.tk xa)⟩
      · rintro σ' H' ⟨st, stp, u5, u6, rfl, k', s', hst⟩
        obtain ⟨ps, L, g1, g2, g3⟩ := id s'.at_
        have zz := plen g2
        refine ⟨_, rfl, .inl ⟨rfl, _, SqL.of g1⟩, ?_⟩
        refine ⟨_, rfl, _, rfl, ls, _, rfl, .inl (SqL.of g1), _, _, rfl, rfl, _, _, rfl, b, d, ds, _, rfl, rfl, by rw [List.length_map]; omega, k'.bx, fun Ha v xa ba v0 v1 => ?_⟩
        have ka := k'.box xa ba
        have sa' := s'.box k'.bx xa
        have g1a : Ha ls = some (.lst (ps.map V.ref)) := xa _ _ (by simpa using s'.nb) g1
        have g2a : Paired (StAt K Ha) ps L := pmp g2 fun _ _ z => z.mono (k'.bx.tk xa)
        have hsta := hst.mono (k'.bx.tk xa)
        rw [List.length_map] at v1
        obtain ⟨j, rfl⟩ : ∃ j : Nat, v = (j : Int) := ⟨v.toNat, by omega⟩
        refine ⟨_, rfl, ls, _, _, _, rfl, rfl, g1a, szl (by rw [List.length_map]; omega), by omega, by omega, ?_⟩
        rw [Int.toNat_natCast]
        have hl : (ps.map V.ref).take j ++ [V.ref st] ++ (ps.map V.ref).drop j = (ps.take j ++ [st] ++ ps.drop j).map V.ref := by
          rw [List.map_append, List.map_append, List.map_take, List.map_drop]; rfl
        rw [hl]
        have tt : Tk K Ha (upd Ha ls (.lst ((ps.take j ++ [st] ++ ps.drop j).map V.ref))) := Tk.lst g1a
        refine ⟨ls, _, _, _, rfl, ka.lst g1a s'.nb s'.nd, ⟨⟨_, L.take j ++ [stp] ++ L.drop j, upd_same, papp (pmp (ps_drop j g2a) fun _ _ z => z.mono tt) (psnoc (hsta.mono tt) (pmp (ps_take j g2a) fun _ _ z => z.mono tt)), ?_⟩, s'.nb, s'.nd⟩⟩
        rw [List.length_append, List.length_append, List.length_take, List.length_drop, List.length_singleton]
        omega
    · obtain ⟨ls, u5, u6, u7, rfl, k8, s8⟩ := p
      obtain ⟨ps, L, g1, g2, g3⟩ := id s8.at_
      have zz := plen g2
      have zL : L.length ≤ 55 := by omega
      -- the steps themselves
      refine ⟨_, rfl, _, rfl, _, rfl, ls, _, rfl, .inl ⟨SqL.of g1, fun t ft => ?_⟩⟩
      have et : ExA H8 (upd H8 t (.tup (ps.map V.ref))) := ExM.new ft
      have k9 := k8.ext et
      have s9 := s8.ext et
      have g1' := ExA.at et g1
      have g2' : Paired (StAt K (upd H8 t (.tup (ps.map V.ref)))) ps L := pmp g2 fun _ _ z => z.mono (Tk.all et)
      have ht : SqT K (upd H8 t (.tup (ps.map V.ref))) t (ps.map V.ref ++ []) := by rw [List.append_nil]; exact SqT.of upd_same
      generalize upd H8 t (.tup (ps.map V.ref)) = H9 at k9 s9 g1' g2' ht et
      refine ⟨_, _, _, rfl, a, h, g, gs, rfl, rfl, k9.hA, ok, k9.hg, .inl ⟨t, ps, L, [], rfl, ht, g2', by omega, by simp, .inl rfl, fun Ha ba ea hba => ?_⟩⟩
      refine ⟨_, rfl, _, rfl, _, rfl, _, _, _, rfl, a, h, g, gs, ls, ps, L, rfl, rfl, rfl, (k9.ext ea).hA, ok, (k9.ext ea).hg, SqL.of (ExA.at ea g1'), pmp g2' fun _ _ z => z.mono (Tk.all ea), by omega, fun Hb bb eb hbb => ?_⟩
      have ebb : ba = bb := by
        rw [Bool.eq_iff_iff, hba, hbb]
        exact ⟨fun z => z.2, fun z => ⟨rfl, z⟩⟩
      subst ebb
      refine ⟨_, _, rfl, .bl ba, rfl, rfl, Nat.succ_pos 8, trivial, _, rfl, iteF ?_⟩
      have e9b := ea.trans eb
      have kb := k9.ext e9b
      have sb := s9.ext e9b
      clear k9 s9 g1' g2' ht et k8 s8 g1 g2 g3 hba hbb
      -- what is no step
      have B0 : Bads K Hb [] := fun x hx => nomatch hx
      refine ⟨sz (by show 2 ≤ 100000; decide), fun p1 f1 => ?_⟩
      have E1 : ExA Hb (upd Hb p1 (.tup [.str "no", .int 1])) := ExM.new f1
      have B1 := B0.more E1 (.inl (.text "no" (.int 1) (SqT.of upd_same)) : Bad K _ (.ref p1))
      generalize upd Hb p1 (.tup [.str "no", .int 1]) = J1 at E1 B1 ⊢
      refine ⟨sz (by show 2 ≤ 100000; decide), fun q2 fq2 => ⟨sz (by show 2 ≤ 100000; decide), fun p2 f2 => ?_⟩⟩
      have E2 : ExA J1 (upd (upd J1 q2 (.tup [.str "field", .int 0])) p2 (.tup [.int 0, .ref q2])) := (ExM.new fq2).trans (ExM.new f2)
      have B2 := B1.more E2 (bad2 f2 fun _ z => .short 0 z : Bad K _ (.ref p2))
      generalize upd (upd J1 q2 (.tup [.str "field", .int 0])) p2 (.tup [.int 0, .ref q2]) = J2 at E2 B2 ⊢
      refine ⟨1, rfl, sz (by show 2 ≤ 100000; decide), fun q3 fq3 => ⟨sz (by show 2 ≤ 100000; decide), fun p3 f3 => ?_⟩⟩
      have E3 : ExA J2 (upd (upd J2 q3 (.tup [.str "register", .int (-1)])) p3 (.tup [.int 0, .ref q3])) := (ExM.new fq3).trans (ExM.new f3)
      have B3 := B2.more E3 (.inr ⟨p3, q3, 0, rfl, SqT.of upd_same, Tk.new f3 _ _ (SqT.of upd_same)⟩ : Bad K _ (.ref p3))
      generalize upd (upd J2 q3 (.tup [.str "register", .int (-1)])) p3 (.tup [.int 0, .ref q3]) = J3 at E3 B3 ⊢
      refine ⟨sz (by show 2 ≤ 100000; decide), fun q4 fq4 => ⟨sz (by show 2 ≤ 100000; decide), fun p4 f4 => ?_⟩⟩
      have E4 : ExA J3 (upd (upd J3 q4 (.tup [.str "register", .bl true])) p4 (.tup [.int 0, .ref q4])) := (ExM.new fq4).trans (ExM.new f4)
      have B4 := B3.more E4 (bad2 f4 fun _ z => .bool true z : Bad K _ (.ref p4))
      generalize upd (upd J3 q4 (.tup [.str "register", .bl true])) p4 (.tup [.int 0, .ref q4]) = J4 at E4 B4 ⊢
      refine ⟨sz (by show 1 ≤ 100000; decide), fun q5 fq5 => ⟨sz (by show 2 ≤ 100000; decide), fun p5 f5 => ?_⟩⟩
      have E5 : ExA J4 (upd (upd J4 q5 (.tup [.str "kept"])) p5 (.tup [.int 0, .ref q5])) := (ExM.new fq5).trans (ExM.new f5)
      have B5 := B4.more E5 (bad2 f5 fun _ z => .kept z : Bad K _ (.ref p5))
      generalize upd (upd J4 q5 (.tup [.str "kept"])) p5 (.tup [.int 0, .ref q5]) = J5 at E5 B5 ⊢
      refine ⟨sz (by show 1 ≤ 100000; decide), fun p6 f6 => ?_⟩
      have E6 : ExA J5 (upd J5 p6 (.tup [.int 0])) := ExM.new f6
      have B6 := B5.more E6 (.inl (.one (.int 0) (SqT.of upd_same)) : Bad K _ (.ref p6))
      generalize upd J5 p6 (.tup [.int 0]) = J6 at E6 B6 ⊢
      have B8 := (B6.more (ExM.refl _ _) (.inl (.int 7) : Bad K _ (.int 7))).more (ExM.refl _ _) (.inl .non : Bad K _ .non)
      refine ⟨sz (by show 8 ≤ 100000; decide), fun la fla => ?_⟩
      have E7 : ExA J6 (upd J6 la (.lst [.ref p1, .ref p2, .ref p3, .ref p4, .ref p5, .ref p6, .int 7, .non])) := ExM.new fla
      have hla : (upd J6 la (.lst [.ref p1, .ref p2, .ref p3, .ref p4, .ref p5, .ref p6, .int 7, .non])) la = some (.lst [.ref p1, .ref p2, .ref p3, .ref p4, .ref p5, .ref p6, .int 7, .non]) := upd_same
      have B7 : Bads K (upd J6 la (.lst [.ref p1, .ref p2, .ref p3, .ref p4, .ref p5, .ref p6, .int 7, .non])) [.ref p1, .ref p2, .ref p3, .ref p4, .ref p5, .ref p6, .int 7, .non] := fun x hx => (B8 x hx).mono (Tk.all E7)
      generalize upd J6 la (.lst [.ref p1, .ref p2, .ref p3, .ref p4, .ref p5, .ref p6, .int 7, .non]) = J7 at E7 hla B7 ⊢
      refine ⟨_, rfl, ?_⟩
      have C0 : Bads K J7 [] := fun x hx => nomatch hx
      refine ⟨Nat.zero_le _, fun r1 fr1 => ⟨sz (by show 2 ≤ 100000; decide), fun s1 fs1 => ?_⟩⟩
      have F1 : ExA J7 (upd (upd J7 r1 (.tup [])) s1 (.tup [.int 0, .ref r1])) := (ExM.new fr1).trans (ExM.new fs1)
      have C1 := C0.more F1 (bad2 fs1 fun _ z => .nil z : Bad K _ (.ref s1))
      generalize upd (upd J7 r1 (.tup [])) s1 (.tup [.int 0, .ref r1]) = M1 at F1 C1 ⊢
      refine ⟨sz (by show 2 ≤ 100000; decide), fun s2 fs2 => ?_⟩
      have F2 : ExA M1 (upd M1 s2 (.tup [.int 0, .str "register"])) := ExM.new fs2
      have C2 := C1.more F2 (.inl (.rs 0 _ (SqT.of upd_same) (.str _)) : Bad K _ (.ref s2))
      generalize upd M1 s2 (.tup [.int 0, .str "register"]) = M2 at F2 C2 ⊢
      refine ⟨sz (by show 2 ≤ 100000; decide), fun r3 fr3 => ⟨sz (by show 2 ≤ 100000; decide), fun s3 fs3 => ?_⟩⟩
      have F3 : ExA M2 (upd (upd M2 r3 (.tup [.str "register", .int 0])) s3 (.tup [.bl true, .ref r3])) := (ExM.new fr3).trans (ExM.new fs3)
      have C3 := C2.more F3 (.inl (.bool true _ (SqT.of upd_same)) : Bad K _ (.ref s3))
      generalize upd (upd M2 r3 (.tup [.str "register", .int 0])) s3 (.tup [.bl true, .ref r3]) = M3 at F3 C3 ⊢
      refine ⟨sz (by show 2 ≤ 100000; decide), fun r4 fr4 => ⟨sz (by show 2 ≤ 100000; decide), fun s4 fs4 => ?_⟩⟩
      have F4 : ExA M3 (upd (upd M3 r4 (.tup [.str "deref", .str "0"])) s4 (.tup [.int 0, .ref r4])) := (ExM.new fr4).trans (ExM.new fs4)
      have C4 := C3.more F4 (bad2 fs4 fun _ z => .text _ z : Bad K _ (.ref s4))
      generalize upd (upd M3 r4 (.tup [.str "deref", .str "0"])) s4 (.tup [.int 0, .ref r4]) = M4 at F4 C4 ⊢
      refine ⟨sz (by show 2 ≤ 100000; decide), fun r5 fr5 => ⟨sz (by show 2 ≤ 100000; decide), fun s5 fs5 => ?_⟩⟩
      have F5 : ExA M4 (upd (upd M4 r5 (.tup [.int 1, .int 2])) s5 (.tup [.int 0, .ref r5])) := (ExM.new fr5).trans (ExM.new fs5)
      have C5 := C4.more F5 (bad2 fs5 fun _ z => .num 1 2 z : Bad K _ (.ref s5))
      generalize upd (upd M4 r5 (.tup [.int 1, .int 2])) s5 (.tup [.int 0, .ref r5]) = M5 at F5 C5 ⊢
      refine ⟨sz (by show 5 ≤ 100000; decide), fun lb flb => ?_⟩
      have F6 : ExA M5 (upd M5 lb (.lst [.ref s1, .ref s2, .ref s3, .ref s4, .ref s5])) := ExM.new flb
      have hlb : (upd M5 lb (.lst [.ref s1, .ref s2, .ref s3, .ref s4, .ref s5])) lb = some (.lst [.ref s1, .ref s2, .ref s3, .ref s4, .ref s5]) := upd_same
      have F76 : ExA J7 (upd M5 lb (.lst [.ref s1, .ref s2, .ref s3, .ref s4, .ref s5])) := ((((F1.trans F2).trans F3).trans F4).trans F5).trans F6
      have hla6 := ExA.at F76 hla
      refine ⟨la, lb, _, _, rfl, rfl, hla6, hlb, sz (by show 13 ≤ 100000; decide), fun lc flc => ?_⟩
      have F7 := F76.trans (ExM.new (o := .lst ([.ref p1, .ref p2, .ref p3, .ref p4, .ref p5, .ref p6, .int 7, .non] ++ [.ref s1, .ref s2, .ref s3, .ref s4, .ref s5])) flc)
      have F67 := F6.trans (ExM.new (o := .lst ([.ref p1, .ref p2, .ref p3, .ref p4, .ref p5, .ref p6, .int 7, .non] ++ [.ref s1, .ref s2, .ref s3, .ref s4, .ref s5])) flc)
      have hlc : (upd (upd M5 lb (.lst [.ref s1, .ref s2, .ref s3, .ref s4, .ref s5])) lc (.lst ([.ref p1, .ref p2, .ref p3, .ref p4, .ref p5, .ref p6, .int 7, .non] ++ [.ref s1, .ref s2, .ref s3, .ref s4, .ref s5]))) lc = some (.lst ([.ref p1, .ref p2, .ref p3, .ref p4, .ref p5, .ref p6, .int 7, .non] ++ [.ref s1, .ref s2, .ref s3, .ref s4, .ref s5])) := upd_same
      have Ball : Bads K (upd (upd M5 lb (.lst [.ref s1, .ref s2, .ref s3, .ref s4, .ref s5])) lc (.lst ([.ref p1, .ref p2, .ref p3, .ref p4, .ref p5, .ref p6, .int 7, .non] ++ [.ref s1, .ref s2, .ref s3, .ref s4, .ref s5]))) ([.ref p1, .ref p2, .ref p3, .ref p4, .ref p5, .ref p6, .int 7, .non] ++ [.ref s1, .ref s2, .ref s3, .ref s4, .ref s5]) := fun x hx => by
        rcases List.mem_append.mp hx with z | z
        · exact (B7 x z).mono (Tk.all F7)
        · exact (C5 x z).mono (Tk.all F67)
      have hln : ([.ref p1, .ref p2, .ref p3, .ref p4, .ref p5, .ref p6, .int 7, .non] ++ [.ref s1, .ref s2, .ref s3, .ref s4, .ref s5] : List V).length = 13 := rfl
      have Eall : ExA Hb (upd (upd M5 lb (.lst [.ref s1, .ref s2, .ref s3, .ref s4, .ref s5])) lc (.lst ([.ref p1, .ref p2, .ref p3, .ref p4, .ref p5, .ref p6, .int 7, .non] ++ [.ref s1, .ref s2, .ref s3, .ref s4, .ref s5]))) := ((((((E1.trans E2).trans E3).trans E4).trans E5).trans E6).trans E7).trans F7
      clear E1 E2 E3 E4 E5 E6 E7 F1 F2 F3 F4 F5 F6 F7 F67 F76 B0 B1 B2 B3 B4 B5 B6 B7 B8 C0 C1 C2 C3 C4 C5
      generalize ([.ref p1, .ref p2, .ref p3, .ref p4, .ref p5, .ref p6, .int 7, .non] ++ [.ref s1, .ref s2, .ref s3, .ref s4, .ref s5] : List V) = oth at hlc Ball hln Eall ⊢
      generalize upd (upd M5 lb (.lst [.ref s1, .ref s2, .ref s3, .ref s4, .ref s5])) lc (.lst oth) = Hc at hlc Ball Eall ⊢
      have kc := kb.ext Eall
      have sc := sb.ext Eall
      have nlc : lc ∉ [b] := fun m => by
        obtain ⟨⟨_, z⟩, _⟩ := kc.bx
        rw [List.mem_singleton.mp m, z] at hlc
        have := Option.some.inj hlc
        have := congrArg (fun o : HO => match o with | .lst xs => xs.length | _ => 0) this
        have : 2 = oth.length := this
        omega
      -- wrong
      refine ⟨_, rfl, _, rfl, _, _, rfl, b, d, ds, 13, rfl, rfl, by decide, kc.bx, fun Hd' v xd bd v0 v1 => ?_⟩
      have kd := kc.box xd bd
      have sd := sc.box kc.bx xd
      obtain ⟨j, rfl⟩ : ∃ j : Nat, v = (j : Int) := ⟨v.toNat, by omega⟩
      have hj : j < oth.length := by omega
      refine ⟨lc, _, _, oth[j], rfl, rfl, SqL.of (xd _ _ nlc hlc), atI_nat (List.getElem?_eq_getElem hj), ?_⟩
      have hbad : Bad K Hd' oth[j] := (Ball _ (List.getElem_mem hj)).mono (kc.bx.tk xd)
      generalize oth[j] = wr at hbad ⊢
      -- at
      obtain ⟨ps, L, g1, g2, g3⟩ := id sd.at_
      have zz := plen g2
      refine ⟨_, rfl, _, rfl, ls, _, rfl, .inl (SqL.of g1), _, _, rfl, rfl, _, _, rfl, b, d, ds, _, rfl, rfl, by rw [List.length_map]; omega, bd, fun He' v xe be v0 v1 => ?_⟩
      have ke := kd.box xe be
      have se := sd.box bd xe
      have g1e : He' ls = some (.lst (ps.map V.ref)) := xe _ _ (by simpa using sd.nb) g1
      have g2e : Paired (StAt K He') ps L := pmp g2 fun _ _ z => z.mono (bd.tk xe)
      have hbade := hbad.mono (bd.tk xe)
      rw [List.length_map] at v1
      obtain ⟨k, rfl⟩ : ∃ k : Nat, v = (k : Int) := ⟨v.toNat, by omega⟩
      -- changed
      refine ⟨_, rfl, _, rfl, _, rfl, ls, _, rfl, SqL.of g1e, fun u1 fu1 => ?_⟩
      rw [cut_to (by rw [List.length_map]; omega)]
      have e1' : ExA He' (upd He' u1 (.lst ((ps.map V.ref).take k))) := ExM.new fu1
      have hu1 : (upd He' u1 (.lst ((ps.map V.ref).take k))) u1 = some (.lst ((ps.map V.ref).take k)) := upd_same
      generalize upd He' u1 (.lst ((ps.map V.ref).take k)) = K1 at e1' hu1 ⊢
      refine ⟨_, rfl, sz (by show 1 ≤ 100000; decide), fun u2 fu2 => ?_⟩
      have e2' : ExA K1 (upd K1 u2 (.lst [wr])) := ExM.new fu2
      have hu2 : (upd K1 u2 (.lst [wr])) u2 = some (.lst [wr]) := upd_same
      generalize upd K1 u2 (.lst [wr]) = K2 at e2' hu2 ⊢
      refine ⟨u1, u2, _, _, rfl, rfl, ExA.at e2' hu1, hu2, sz (by rw [List.length_take, List.length_map]; show min k ps.length + 1 ≤ 100000; omega), fun u3 fu3 => ?_⟩
      have e3' : ExA K2 (upd K2 u3 (.lst ((ps.map V.ref).take k ++ [wr]))) := ExM.new fu3
      have hu3 : (upd K2 u3 (.lst ((ps.map V.ref).take k ++ [wr]))) u3 = some (.lst ((ps.map V.ref).take k ++ [wr])) := upd_same
      generalize upd K2 u3 (.lst ((ps.map V.ref).take k ++ [wr])) = K3 at e3' hu3 ⊢
      have e13 := (e1'.trans e2').trans e3'
      refine ⟨_, rfl, _, rfl, _, rfl, ls, _, rfl, SqL.of (ExA.at e13 g1e), fun u4 fu4 => ?_⟩
      rw [cut_from (by rw [List.length_map]; omega)]
      have e4' : ExA K3 (upd K3 u4 (.lst ((ps.map V.ref).drop k))) := ExM.new fu4
      have hu4 : (upd K3 u4 (.lst ((ps.map V.ref).drop k))) u4 = some (.lst ((ps.map V.ref).drop k)) := upd_same
      generalize upd K3 u4 (.lst ((ps.map V.ref).drop k)) = K4 at e4' hu4 ⊢
      refine ⟨u3, u4, _, _, rfl, rfl, ExA.at e4' hu3, hu4, sz (by rw [List.length_append, List.length_take, List.length_drop, List.length_map]; show min k ps.length + 1 + (ps.length - k) ≤ 100000; omega), fun u5 fu5 => ?_⟩
      refine ⟨u5, _, rfl, .inl ⟨SqL.of upd_same, fun ct fct => ?_⟩⟩
      have e5' : ExA K4 (upd (upd K4 u5 (.lst ((ps.map V.ref).take k ++ [wr] ++ (ps.map V.ref).drop k))) ct (.tup ((ps.map V.ref).take k ++ [wr] ++ (ps.map V.ref).drop k))) := (ExM.new fu5).trans (ExM.new fct)
      have hct : SqT K (upd (upd K4 u5 (.lst ((ps.map V.ref).take k ++ [wr] ++ (ps.map V.ref).drop k))) ct (.tup ((ps.map V.ref).take k ++ [wr] ++ (ps.map V.ref).drop k))) ct ((ps.take k).map V.ref ++ wr :: (ps.drop k).map V.ref) := by
        rw [List.map_take, List.map_drop, show (ps.map V.ref).take k ++ wr :: (ps.map V.ref).drop k = (ps.map V.ref).take k ++ [wr] ++ (ps.map V.ref).drop k by rw [List.append_assoc]; rfl]
        exact SqT.of upd_same
      generalize upd (upd K4 u5 (.lst ((ps.map V.ref).take k ++ [wr] ++ (ps.map V.ref).drop k))) ct (.tup ((ps.map V.ref).take k ++ [wr] ++ (ps.map V.ref).drop k)) = K5 at e5' hct ⊢
      have e15 := (e13.trans e4').trans e5'
      have k5' := ke.ext e15
      have g1f := ExA.at e15 g1e
      have g2f : Paired (StAt K K5) ps L := pmp g2e fun _ _ z => z.mono (Tk.all e15)
      have lk : (L.take k).length ≤ 1000 := by rw [List.length_take]; omega
      refine ⟨_, rfl, _, rfl, _, rfl, _, _, _, rfl, a, h, g, gs, rfl, rfl, k5'.hA, ok, k5'.hg, .inl ⟨ct, ps.take k, L.take k, wr :: (ps.drop k).map V.ref, rfl, hct, ps_take k g2f, lk, by rw [List.length_cons, List.length_map, List.length_drop]; omega, .inr ⟨_, _, rfl, hbade.mono (Tk.all e15)⟩, fun K6 b6 e6 hb6 => ?_⟩⟩
      have eb6 : b6 = false := by
        cases b6 with
        | false => rfl
        | true => exact absurd (hb6.mp rfl).1 (by simp)
      subst eb6
      refine ⟨_, _, rfl, rfl, _, rfl, iteF ?_⟩
      have k6' := k5'.ext e6
      have g1g := ExA.at e6 g1f
      -- a list, None
      refine ⟨_, rfl, _, rfl, _, rfl, ls, _, rfl, .inl (SqL.of g1g), fun u6 fu6 => ?_⟩
      have e7' : ExA K6 (upd K6 u6 (.lst (ps.map V.ref))) := ExM.new fu6
      have k7' := k6'.ext e7'
      refine ⟨_, _, _, rfl, a, h, g, gs, rfl, rfl, k7'.hA, ok, k7'.hg, .inr ⟨.inr ⟨u6, _, rfl, SqL.of upd_same⟩, fun K8 e8 => ?_⟩⟩
      have k8' := k7'.ext e8
      refine ⟨_, _, rfl, rfl, true, rfl, iteT ?_⟩
      refine ⟨_, rfl, _, rfl, _, _, _, rfl, a, h, g, gs, rfl, rfl, k8'.hA, ok, k8'.hg, .inr ⟨.inl rfl, fun K9 e9 => ?_⟩⟩
      exact ⟨_, _, rfl, rfl, q _⟩
end
end Wc
namespace Wc
open PySem L2
abbrev RW : PySem.W.OpenRow := PySem.W.OpenLaw.row PySem.Challenge.rw_weakcourt_k12_derivations_are_checked
def dd_registers_of : He.DefD := ⟨("registers_of", none), "registers_of", "registers_of", defArgs s_registers_of, defBody s_registers_of, defScope s_registers_of, [], []⟩
def dd_objects_of : He.DefD := ⟨("objects_of", none), "objects_of", "objects_of", defArgs s_objects_of, defBody s_objects_of, defScope s_objects_of, [], []⟩
def dd_by_number : He.DefD := ⟨("by_number", none), "by_number", "by_number", defArgs s_by_number, defBody s_by_number, defScope s_by_number, [], []⟩
def dd_objects_among : He.DefD := ⟨("objects_among", none), "objects_among", "objects_among", defArgs s_objects_among, defBody s_objects_among, defScope s_objects_among, [], []⟩
def dd_led_to : He.DefD := ⟨("led_to", none), "led_to", "led_to", defArgs s_led_to, defBody s_led_to, defScope s_led_to, [], []⟩
def dd_rounds : He.DefD := ⟨("rounds", none), "rounds", "rounds", defArgs s_rounds, defBody s_rounds, defScope s_rounds, [], []⟩
def dd_named : He.DefD := ⟨("named", none), "named", "named", defArgs s_named, defBody s_named, defScope s_named, [], []⟩
def dd_derive : He.DefD := ⟨("derive", none), "derive", "derive", defArgs s_derive, defBody s_derive, defScope s_derive, [], []⟩
def dd_best_reason : He.DefD := ⟨("best_reason", none), "best_reason", "best_reason", defArgs s_best_reason, defBody s_best_reason, defScope s_best_reason, [], []⟩
def dd_reason_from : He.DefD := ⟨("reason_from", none), "reason_from", "reason_from", defArgs s_reason_from, defBody s_reason_from, defScope s_reason_from, [], []⟩
def dd_check_derivation : He.DefD := ⟨("check_derivation", none), "check_derivation", "check_derivation", defArgs s_check_derivation, defBody s_check_derivation, defScope s_check_derivation, [], []⟩
def dd_has_shape : He.DefD := ⟨("has_shape", none), "has_shape", "has_shape", defArgs s_has_shape, defBody s_has_shape, defScope s_has_shape, [], []⟩
def dd_is_reason : He.DefD := ⟨("is_reason", none), "is_reason", "is_reason", defArgs s_is_reason, defBody s_is_reason, defScope s_is_reason, [], []⟩
def dd_found_by : He.DefD := ⟨("found_by", none), "found_by", "found_by", defArgs s_found_by, defBody s_found_by, defScope s_found_by, [], []⟩
def dd_at_index : He.DefD := ⟨("at_index", none), "at_index", "at_index", defArgs s_at_index, defBody s_at_index, defScope s_at_index, [], []⟩
def dd__law_of : He.DefD := ⟨("_law_of", none), "_law_of", "_law_of", defArgs s__law_of, defBody s__law_of, defScope s__law_of, [], []⟩
def dd__law_states : He.DefD := ⟨("_law_states", none), "_law_states", "_law_states", defArgs s__law_states, defBody s__law_states, defScope s__law_states, [], []⟩
def dd__law_named : He.DefD := ⟨("_law_named", none), "_law_named", "_law_named", defArgs s__law_named, defBody s__law_named, defScope s__law_named, [], []⟩
def dd__law_cell : He.DefD := ⟨("_law_cell", none), "_law_cell", "_law_cell", defArgs s__law_cell, defBody s__law_cell, defScope s__law_cell, [], []⟩
def dd__law_digits : He.DefD := ⟨("_law_digits", none), "_law_digits", "_law_digits", defArgs s__law_digits, defBody s__law_digits, defScope s__law_digits, [], []⟩
def dd__law_box : He.DefD := ⟨("_law_box", none), "_law_box", "_law_box", defArgs s__law_box, defBody s__law_box, defScope s__law_box, [], []⟩
def dd__law_draw : He.DefD := ⟨("_law_draw", none), "_law_draw", "_law_draw", defArgs s__law_draw, defBody s__law_draw, defScope s__law_draw, [], []⟩
def dd__law_number : He.DefD := ⟨("_law_number", none), "_law_number", "_law_number", defArgs s__law_number, defBody s__law_number, defScope s__law_number, [], []⟩
def dd__law_object : He.DefD := ⟨("_law_object", none), "_law_object", "_law_object", defArgs s__law_object, defBody s__law_object, defScope s__law_object, [], []⟩
def dd__law_heap : He.DefD := ⟨("_law_heap", none), "_law_heap", "_law_heap", defArgs s__law_heap, defBody s__law_heap, defScope s__law_heap, [], []⟩
def dd__law_some : He.DefD := ⟨("_law_some", none), "_law_some", "_law_some", defArgs s__law_some, defBody s__law_some, defScope s__law_some, [], []⟩
def dd__law_numbers : He.DefD := ⟨("_law_numbers", none), "_law_numbers", "_law_numbers", defArgs s__law_numbers, defBody s__law_numbers, defScope s__law_numbers, [], []⟩
def dd__law_true_reason : He.DefD := ⟨("_law_true_reason", none), "_law_true_reason", "_law_true_reason", defArgs s__law_true_reason, defBody s__law_true_reason, defScope s__law_true_reason, [], []⟩
def dd__law_any_reason : He.DefD := ⟨("_law_any_reason", none), "_law_any_reason", "_law_any_reason", defArgs s__law_any_reason, defBody s__law_any_reason, defScope s__law_any_reason, [], []⟩
def dd__law_same : He.DefD := ⟨("_law_same", none), "_law_same", "_law_same", defArgs s__law_same, defBody s__law_same, defScope s__law_same, [], []⟩
def dd__law_is_derivation : He.DefD := ⟨("_law_is_derivation", none), "_law_is_derivation", "_law_is_derivation", defArgs s__law_is_derivation, defBody s__law_is_derivation, defScope s__law_is_derivation, [], []⟩
def dd_law : He.DefD := ⟨("law", none), "law", "law", defArgs s_law, defBody s_law, defScope s_law, [], []⟩
def fnl : List He.DefD := [dd_registers_of, dd_objects_of, dd_by_number, dd_objects_among, dd_led_to, dd_rounds, dd_named, dd_derive, dd_best_reason, dd_reason_from, dd_check_derivation, dd_has_shape, dd_is_reason, dd_found_by, dd_at_index, dd__law_of, dd__law_states, dd__law_named, dd__law_cell, dd__law_digits, dd__law_box, dd__law_draw, dd__law_number, dd__law_object, dd__law_heap, dd__law_some, dd__law_numbers, dd__law_true_reason, dd__law_any_reason, dd__law_same, dd__law_is_derivation, dd_law]
def fal : List He.Fa := [.glo "registers_of", .glo "objects_of", .glo "by_number", .glo "objects_among", .glo "led_to", .glo "rounds", .glo "named", .glo "derive", .glo "best_reason", .glo "reason_from", .glo "check_derivation", .glo "has_shape", .glo "is_reason", .glo "found_by", .glo "at_index", .glo "_law_of", .glo "_law_states", .glo "_law_named", .glo "_law_cell", .glo "_law_digits", .glo "_law_box", .glo "_law_draw", .glo "_law_number", .glo "_law_object", .glo "_law_heap", .glo "_law_some", .glo "_law_numbers", .glo "_law_true_reason", .glo "_law_any_reason", .glo "_law_same", .glo "_law_is_derivation", .glo "law", .free "all", .free "bool", .free "dict", .free "int", .free "isinstance", .free "len", .free "list", .free "range", .free "sorted", .free "str", .free "tuple", .free "type", .glo "LENGTHS"]
def tfl : List He.Defn := [("derive", none)]
def tsl : List He.Tab := [(fun K => He.ga K "LENGTHS", ["register", "field", "entry", "deref"])]
abbrev exl : PySem.W.Frag → Bool := fun K => (He.valsB K (He.ga K "LENGTHS") [("register", .int 2), ("field", .int 3), ("entry", .int 3), ("deref", .int 2)]) && (He.eqO (PySem.W.nsIn K (He.ga K "LENGTHS") "kept") (some none))
abbrev hk : PySem.W.Hook := He.hookX 4 fal fnl tsl tfl exl
def ob (s : PySem.W.SharedT) : He.AlX := He.obsX 4 fal fnl tsl tfl exl (HandSHeadRun.getT s)
theorem ob_eq (s : PySem.W.SharedT) : ob s = hk.obs s.abs := He.obsX_eq (HandSHeadRun.getT_eq s)
def otherNames : List Str := ["registers_of", "objects_of", "by_number", "objects_among", "led_to", "rounds", "LENGTHS", "named", "derive", "best_reason", "reason_from", "check_derivation", "has_shape", "is_reason", "found_by", "at_index", "_law_of", "_law_states", "_law_named", "_law_cell", "_law_digits", "_law_box", "_law_draw", "_law_number", "_law_object", "_law_heap", "_law_some", "_law_numbers", "_law_true_reason", "_law_any_reason", "_law_same", "_law_is_derivation"]
set_option maxHeartbeats 0 in
theorem run (w : World) : HandSHeadRun.RunEq RW (PySem.W.view RW.prog [36]) hk ob 4000 otherNames w := by
  refine PySem.W.byRow2 "special-get-raises" (P := fun w => HandSHeadRun.RunEq RW (PySem.W.view RW.prog [36]) hk ob 4000 otherNames w) (fun w => ?_) (fun w => ?_) w
  · intro os
    kernel_rfl
  · intro os
    kernel_rfl
theorem all_x {l : PySem.W.OpenLaw} {w : World} {K : PySem.W.Frag} {h : Heap} {mg : Str → Option Value} {fa : Addr} (X : K.In h) (G : h.Ns mainGlobals mg) (hfa : mg "law" = some (.ref fa)) (S : He.SaysX fal fnl tsl tfl exl w h K) : LamX.LawAtS l w K CX0 10 63 "script" mg fa h := by
  have c := S.t.d
  obtain ⟨fd0, G0⟩ := c.def_ 0 (d := dd_registers_of) rfl
  have F0 : FunD K "registers_of" "registers_of" (defArgs s_registers_of) (defBody s_registers_of) (defScope s_registers_of) [] [] (He.fAd K ("registers_of", none)) fd0 := G0
  obtain ⟨cd0, D0, e0⟩ := FunD.df F0
  have a0 : mg "registers_of" = some (.ref (He.fAd K ("registers_of", none))) := He.glo_ok X G (c.fact 0 (f := .glo "registers_of") rfl)
  obtain ⟨fd1, G1⟩ := c.def_ 1 (d := dd_objects_of) rfl
  have F1 : FunD K "objects_of" "objects_of" (defArgs s_objects_of) (defBody s_objects_of) (defScope s_objects_of) [] [] (He.fAd K ("objects_of", none)) fd1 := G1
  obtain ⟨cd1, D1, e1⟩ := FunD.df F1
  have a1 : mg "objects_of" = some (.ref (He.fAd K ("objects_of", none))) := He.glo_ok X G (c.fact 1 (f := .glo "objects_of") rfl)
  obtain ⟨fd2, G2⟩ := c.def_ 2 (d := dd_by_number) rfl
  have F2 : FunD K "by_number" "by_number" (defArgs s_by_number) (defBody s_by_number) (defScope s_by_number) [] [] (He.fAd K ("by_number", none)) fd2 := G2
  obtain ⟨cd2, D2, e2⟩ := FunD.df F2
  have a2 : mg "by_number" = some (.ref (He.fAd K ("by_number", none))) := He.glo_ok X G (c.fact 2 (f := .glo "by_number") rfl)
  obtain ⟨fd3, G3⟩ := c.def_ 3 (d := dd_objects_among) rfl
  have F3 : FunD K "objects_among" "objects_among" (defArgs s_objects_among) (defBody s_objects_among) (defScope s_objects_among) [] [] (He.fAd K ("objects_among", none)) fd3 := G3
  obtain ⟨cd3, D3, e3⟩ := FunD.df F3
  have a3 : mg "objects_among" = some (.ref (He.fAd K ("objects_among", none))) := He.glo_ok X G (c.fact 3 (f := .glo "objects_among") rfl)
  obtain ⟨fd4, G4⟩ := c.def_ 4 (d := dd_led_to) rfl
  have F4 : FunD K "led_to" "led_to" (defArgs s_led_to) (defBody s_led_to) (defScope s_led_to) [] [] (He.fAd K ("led_to", none)) fd4 := G4
  obtain ⟨cd4, D4, e4⟩ := FunD.df F4
  have a4 : mg "led_to" = some (.ref (He.fAd K ("led_to", none))) := He.glo_ok X G (c.fact 4 (f := .glo "led_to") rfl)
  obtain ⟨fd5, G5⟩ := c.def_ 5 (d := dd_rounds) rfl
  have F5 : FunD K "rounds" "rounds" (defArgs s_rounds) (defBody s_rounds) (defScope s_rounds) [] [] (He.fAd K ("rounds", none)) fd5 := G5
  obtain ⟨cd5, D5, e5⟩ := FunD.df F5
  have a5 : mg "rounds" = some (.ref (He.fAd K ("rounds", none))) := He.glo_ok X G (c.fact 5 (f := .glo "rounds") rfl)
  obtain ⟨fd6, G6⟩ := c.def_ 6 (d := dd_named) rfl
  have F6 : FunD K "named" "named" (defArgs s_named) (defBody s_named) (defScope s_named) [] [] (He.fAd K ("named", none)) fd6 := G6
  obtain ⟨cd6, D6, e6⟩ := FunD.df F6
  have a6 : mg "named" = some (.ref (He.fAd K ("named", none))) := He.glo_ok X G (c.fact 6 (f := .glo "named") rfl)
  obtain ⟨fd7, G7⟩ := c.def_ 7 (d := dd_derive) rfl
  have F7 : FunD K "derive" "derive" (defArgs s_derive) (defBody s_derive) (defScope s_derive) [] [] (He.fAd K ("derive", none)) fd7 := G7
  obtain ⟨cd7, D7, e7⟩ := FunD.df F7
  have a7 : mg "derive" = some (.ref (He.fAd K ("derive", none))) := He.glo_ok X G (c.fact 7 (f := .glo "derive") rfl)
  obtain ⟨fd8, G8⟩ := c.def_ 8 (d := dd_best_reason) rfl
  have F8 : FunD K "best_reason" "best_reason" (defArgs s_best_reason) (defBody s_best_reason) (defScope s_best_reason) [] [] (He.fAd K ("best_reason", none)) fd8 := G8
  obtain ⟨cd8, D8, e8⟩ := FunD.df F8
  have a8 : mg "best_reason" = some (.ref (He.fAd K ("best_reason", none))) := He.glo_ok X G (c.fact 8 (f := .glo "best_reason") rfl)
  obtain ⟨fd9, G9⟩ := c.def_ 9 (d := dd_reason_from) rfl
  have F9 : FunD K "reason_from" "reason_from" (defArgs s_reason_from) (defBody s_reason_from) (defScope s_reason_from) [] [] (He.fAd K ("reason_from", none)) fd9 := G9
  obtain ⟨cd9, D9, e9⟩ := FunD.df F9
  have a9 : mg "reason_from" = some (.ref (He.fAd K ("reason_from", none))) := He.glo_ok X G (c.fact 9 (f := .glo "reason_from") rfl)
  obtain ⟨fd10, G10⟩ := c.def_ 10 (d := dd_check_derivation) rfl
  have F10 : FunD K "check_derivation" "check_derivation" (defArgs s_check_derivation) (defBody s_check_derivation) (defScope s_check_derivation) [] [] (He.fAd K ("check_derivation", none)) fd10 := G10
  obtain ⟨cd10, D10, e10⟩ := FunD.df F10
  have a10 : mg "check_derivation" = some (.ref (He.fAd K ("check_derivation", none))) := He.glo_ok X G (c.fact 10 (f := .glo "check_derivation") rfl)
  obtain ⟨fd11, G11⟩ := c.def_ 11 (d := dd_has_shape) rfl
  have F11 : FunD K "has_shape" "has_shape" (defArgs s_has_shape) (defBody s_has_shape) (defScope s_has_shape) [] [] (He.fAd K ("has_shape", none)) fd11 := G11
  obtain ⟨cd11, D11, e11⟩ := FunD.df F11
  have a11 : mg "has_shape" = some (.ref (He.fAd K ("has_shape", none))) := He.glo_ok X G (c.fact 11 (f := .glo "has_shape") rfl)
  obtain ⟨fd12, G12⟩ := c.def_ 12 (d := dd_is_reason) rfl
  have F12 : FunD K "is_reason" "is_reason" (defArgs s_is_reason) (defBody s_is_reason) (defScope s_is_reason) [] [] (He.fAd K ("is_reason", none)) fd12 := G12
  obtain ⟨cd12, D12, e12⟩ := FunD.df F12
  have a12 : mg "is_reason" = some (.ref (He.fAd K ("is_reason", none))) := He.glo_ok X G (c.fact 12 (f := .glo "is_reason") rfl)
  obtain ⟨fd13, G13⟩ := c.def_ 13 (d := dd_found_by) rfl
  have F13 : FunD K "found_by" "found_by" (defArgs s_found_by) (defBody s_found_by) (defScope s_found_by) [] [] (He.fAd K ("found_by", none)) fd13 := G13
  obtain ⟨cd13, D13, e13⟩ := FunD.df F13
  have a13 : mg "found_by" = some (.ref (He.fAd K ("found_by", none))) := He.glo_ok X G (c.fact 13 (f := .glo "found_by") rfl)
  obtain ⟨fd14, G14⟩ := c.def_ 14 (d := dd_at_index) rfl
  have F14 : FunD K "at_index" "at_index" (defArgs s_at_index) (defBody s_at_index) (defScope s_at_index) [] [] (He.fAd K ("at_index", none)) fd14 := G14
  obtain ⟨cd14, D14, e14⟩ := FunD.df F14
  have a14 : mg "at_index" = some (.ref (He.fAd K ("at_index", none))) := He.glo_ok X G (c.fact 14 (f := .glo "at_index") rfl)
  obtain ⟨fd15, G15⟩ := c.def_ 15 (d := dd__law_of) rfl
  have F15 : FunD K "_law_of" "_law_of" (defArgs s__law_of) (defBody s__law_of) (defScope s__law_of) [] [] (He.fAd K ("_law_of", none)) fd15 := G15
  obtain ⟨cd15, D15, e15⟩ := FunD.df F15
  have a15 : mg "_law_of" = some (.ref (He.fAd K ("_law_of", none))) := He.glo_ok X G (c.fact 15 (f := .glo "_law_of") rfl)
  obtain ⟨fd16, G16⟩ := c.def_ 16 (d := dd__law_states) rfl
  have F16 : FunD K "_law_states" "_law_states" (defArgs s__law_states) (defBody s__law_states) (defScope s__law_states) [] [] (He.fAd K ("_law_states", none)) fd16 := G16
  obtain ⟨cd16, D16, e16⟩ := FunD.df F16
  have a16 : mg "_law_states" = some (.ref (He.fAd K ("_law_states", none))) := He.glo_ok X G (c.fact 16 (f := .glo "_law_states") rfl)
  obtain ⟨fd17, G17⟩ := c.def_ 17 (d := dd__law_named) rfl
  have F17 : FunD K "_law_named" "_law_named" (defArgs s__law_named) (defBody s__law_named) (defScope s__law_named) [] [] (He.fAd K ("_law_named", none)) fd17 := G17
  obtain ⟨cd17, D17, e17⟩ := FunD.df F17
  have a17 : mg "_law_named" = some (.ref (He.fAd K ("_law_named", none))) := He.glo_ok X G (c.fact 17 (f := .glo "_law_named") rfl)
  obtain ⟨fd18, G18⟩ := c.def_ 18 (d := dd__law_cell) rfl
  have F18 : FunD K "_law_cell" "_law_cell" (defArgs s__law_cell) (defBody s__law_cell) (defScope s__law_cell) [] [] (He.fAd K ("_law_cell", none)) fd18 := G18
  obtain ⟨cd18, D18, e18⟩ := FunD.df F18
  have a18 : mg "_law_cell" = some (.ref (He.fAd K ("_law_cell", none))) := He.glo_ok X G (c.fact 18 (f := .glo "_law_cell") rfl)
  obtain ⟨fd19, G19⟩ := c.def_ 19 (d := dd__law_digits) rfl
  have F19 : FunD K "_law_digits" "_law_digits" (defArgs s__law_digits) (defBody s__law_digits) (defScope s__law_digits) [] [] (He.fAd K ("_law_digits", none)) fd19 := G19
  obtain ⟨cd19, D19, e19⟩ := FunD.df F19
  have a19 : mg "_law_digits" = some (.ref (He.fAd K ("_law_digits", none))) := He.glo_ok X G (c.fact 19 (f := .glo "_law_digits") rfl)
  obtain ⟨fd20, G20⟩ := c.def_ 20 (d := dd__law_box) rfl
  have F20 : FunD K "_law_box" "_law_box" (defArgs s__law_box) (defBody s__law_box) (defScope s__law_box) [] [] (He.fAd K ("_law_box", none)) fd20 := G20
  obtain ⟨cd20, D20, e20⟩ := FunD.df F20
  have a20 : mg "_law_box" = some (.ref (He.fAd K ("_law_box", none))) := He.glo_ok X G (c.fact 20 (f := .glo "_law_box") rfl)
  obtain ⟨fd21, G21⟩ := c.def_ 21 (d := dd__law_draw) rfl
  have F21 : FunD K "_law_draw" "_law_draw" (defArgs s__law_draw) (defBody s__law_draw) (defScope s__law_draw) [] [] (He.fAd K ("_law_draw", none)) fd21 := G21
  obtain ⟨cd21, D21, e21⟩ := FunD.df F21
  have a21 : mg "_law_draw" = some (.ref (He.fAd K ("_law_draw", none))) := He.glo_ok X G (c.fact 21 (f := .glo "_law_draw") rfl)
  obtain ⟨fd22, G22⟩ := c.def_ 22 (d := dd__law_number) rfl
  have F22 : FunD K "_law_number" "_law_number" (defArgs s__law_number) (defBody s__law_number) (defScope s__law_number) [] [] (He.fAd K ("_law_number", none)) fd22 := G22
  obtain ⟨cd22, D22, e22⟩ := FunD.df F22
  have a22 : mg "_law_number" = some (.ref (He.fAd K ("_law_number", none))) := He.glo_ok X G (c.fact 22 (f := .glo "_law_number") rfl)
  obtain ⟨fd23, G23⟩ := c.def_ 23 (d := dd__law_object) rfl
  have F23 : FunD K "_law_object" "_law_object" (defArgs s__law_object) (defBody s__law_object) (defScope s__law_object) [] [] (He.fAd K ("_law_object", none)) fd23 := G23
  obtain ⟨cd23, D23, e23⟩ := FunD.df F23
  have a23 : mg "_law_object" = some (.ref (He.fAd K ("_law_object", none))) := He.glo_ok X G (c.fact 23 (f := .glo "_law_object") rfl)
  obtain ⟨fd24, G24⟩ := c.def_ 24 (d := dd__law_heap) rfl
  have F24 : FunD K "_law_heap" "_law_heap" (defArgs s__law_heap) (defBody s__law_heap) (defScope s__law_heap) [] [] (He.fAd K ("_law_heap", none)) fd24 := G24
  obtain ⟨cd24, D24, e24⟩ := FunD.df F24
  have a24 : mg "_law_heap" = some (.ref (He.fAd K ("_law_heap", none))) := He.glo_ok X G (c.fact 24 (f := .glo "_law_heap") rfl)
  obtain ⟨fd25, G25⟩ := c.def_ 25 (d := dd__law_some) rfl
  have F25 : FunD K "_law_some" "_law_some" (defArgs s__law_some) (defBody s__law_some) (defScope s__law_some) [] [] (He.fAd K ("_law_some", none)) fd25 := G25
  obtain ⟨cd25, D25, e25⟩ := FunD.df F25
  have a25 : mg "_law_some" = some (.ref (He.fAd K ("_law_some", none))) := He.glo_ok X G (c.fact 25 (f := .glo "_law_some") rfl)
  obtain ⟨fd26, G26⟩ := c.def_ 26 (d := dd__law_numbers) rfl
  have F26 : FunD K "_law_numbers" "_law_numbers" (defArgs s__law_numbers) (defBody s__law_numbers) (defScope s__law_numbers) [] [] (He.fAd K ("_law_numbers", none)) fd26 := G26
  obtain ⟨cd26, D26, e26⟩ := FunD.df F26
  have a26 : mg "_law_numbers" = some (.ref (He.fAd K ("_law_numbers", none))) := He.glo_ok X G (c.fact 26 (f := .glo "_law_numbers") rfl)
  obtain ⟨fd27, G27⟩ := c.def_ 27 (d := dd__law_true_reason) rfl
  have F27 : FunD K "_law_true_reason" "_law_true_reason" (defArgs s__law_true_reason) (defBody s__law_true_reason) (defScope s__law_true_reason) [] [] (He.fAd K ("_law_true_reason", none)) fd27 := G27
  obtain ⟨cd27, D27, e27⟩ := FunD.df F27
  have a27 : mg "_law_true_reason" = some (.ref (He.fAd K ("_law_true_reason", none))) := He.glo_ok X G (c.fact 27 (f := .glo "_law_true_reason") rfl)
  obtain ⟨fd28, G28⟩ := c.def_ 28 (d := dd__law_any_reason) rfl
  have F28 : FunD K "_law_any_reason" "_law_any_reason" (defArgs s__law_any_reason) (defBody s__law_any_reason) (defScope s__law_any_reason) [] [] (He.fAd K ("_law_any_reason", none)) fd28 := G28
  obtain ⟨cd28, D28, e28⟩ := FunD.df F28
  have a28 : mg "_law_any_reason" = some (.ref (He.fAd K ("_law_any_reason", none))) := He.glo_ok X G (c.fact 28 (f := .glo "_law_any_reason") rfl)
  obtain ⟨fd29, G29⟩ := c.def_ 29 (d := dd__law_same) rfl
  have F29 : FunD K "_law_same" "_law_same" (defArgs s__law_same) (defBody s__law_same) (defScope s__law_same) [] [] (He.fAd K ("_law_same", none)) fd29 := G29
  obtain ⟨cd29, D29, e29⟩ := FunD.df F29
  have a29 : mg "_law_same" = some (.ref (He.fAd K ("_law_same", none))) := He.glo_ok X G (c.fact 29 (f := .glo "_law_same") rfl)
  obtain ⟨fd30, G30⟩ := c.def_ 30 (d := dd__law_is_derivation) rfl
  have F30 : FunD K "_law_is_derivation" "_law_is_derivation" (defArgs s__law_is_derivation) (defBody s__law_is_derivation) (defScope s__law_is_derivation) [] [] (He.fAd K ("_law_is_derivation", none)) fd30 := G30
  obtain ⟨cd30, D30, e30⟩ := FunD.df F30
  have a30 : mg "_law_is_derivation" = some (.ref (He.fAd K ("_law_is_derivation", none))) := He.glo_ok X G (c.fact 30 (f := .glo "_law_is_derivation") rfl)
  obtain ⟨fd31, G31⟩ := c.def_ 31 (d := dd_law) rfl
  have F31 : FunD K "law" "law" (defArgs s_law) (defBody s_law) (defScope s_law) [] [] (He.fAd K ("law", none)) fd31 := G31
  obtain ⟨cd31, D31, e31⟩ := FunD.df F31
  have a31 : mg "law" = some (.ref (He.fAd K ("law", none))) := He.glo_ok X G (c.fact 31 (f := .glo "law") rfl)
  have e := hfa.symm.trans a31
  cases e
  have T : Txt mg := ⟨He.free_ok X G (c.fact 32 (f := .free "all") rfl), He.free_ok X G (c.fact 33 (f := .free "bool") rfl), He.free_ok X G (c.fact 34 (f := .free "dict") rfl), He.free_ok X G (c.fact 35 (f := .free "int") rfl), He.free_ok X G (c.fact 36 (f := .free "isinstance") rfl), He.free_ok X G (c.fact 37 (f := .free "len") rfl), He.free_ok X G (c.fact 38 (f := .free "list") rfl), He.free_ok X G (c.fact 39 (f := .free "range") rfl), He.free_ok X G (c.fact 40 (f := .free "sorted") rfl), He.free_ok X G (c.fact 41 (f := .free "str") rfl), He.free_ok X G (c.fact 42 (f := .free "tuple") rfl), He.free_ok X G (c.fact 43 (f := .free "type") rfl)⟩
  have Lg : Lng K w mg := Lng.of (He.glo_ok X G (c.fact 44 (f := .glo "LENGTHS") rfl)) (S.t.tab 0 (t := (fun K => He.ga K "LENGTHS", ["register", "field", "entry", "deref"])) rfl) S.more
  have bl := FunD.bindsA (ps := ["script"]) F31 fun _ _ _ _ _ _ us hl => match us, hl with | [_], _ => rfl
  refine ⟨fd31, tfl.map (He.cT K), sp_law K, ?_, ?_, ?_, fun s v => bl s [v] rfl, fun H a ns hl _ hT hS => ⟨_, rfl, a, ns, rfl, hS, hl, fun p hp => hT (He.cT K p) (List.mem_map.mpr ⟨p, hp, rfl⟩), fun _ => rfl⟩, fun base KB GB TBs => ?_⟩
  · intro p hp
    obtain ⟨q, hq, rfl⟩ := List.mem_map.mp hp
    exact S.empty q hq
  · intro p hp
    obtain ⟨q, hq, rfl⟩ := List.mem_map.mp hp
    exact S.out q hq
  · intro p hp
    obtain ⟨q, hq, rfl⟩ := List.mem_map.mp hp
    exact PySem.W.codeHd_of_K X (S.hd q hq)
  have b0 := F0.bindsN (ps := ["heap"]) fun _ _ _ _ _ _ us hl => match us, hl with | [_], _ => rfl
  have C_registers_of : Cal l.prog w K mg base 1 "registers_of" (sp_registers_of K) [] := Cal.mk0 (ok_registers_of D0 T) a0 F0.kp b0
  have b1 := F1.bindsN (ps := ["heap"]) fun _ _ _ _ _ _ us hl => match us, hl with | [_], _ => rfl
  have C_objects_of : Cal l.prog w K mg base 1 "objects_of" (sp_objects_of K) [] := Cal.mk0 (ok_objects_of D1 T) a1 F1.kp b1
  have b3 := F3.bindsN (ps := ["references"]) fun _ _ _ _ _ _ us hl => match us, hl with | [_], _ => rfl
  have C_objects_among : Cal l.prog w K mg base 1 "objects_among" (sp_objects_among K) [] := Cal.mk0 (ok_objects_among D3 T) a3 F3.kp b3
  have b6 := F6.bindsN (ps := ["reason"]) fun _ _ _ _ _ _ us hl => match us, hl with | [_], _ => rfl
  have C_named : Cal l.prog w K mg base 1 "named" (sp_named K) [] := Cal.mk0 (ok_named D6 T) a6 F6.kp b6
  have b9 := F9.bindsN (ps := ["thing", "lower", "condemned", "number"]) fun _ _ _ _ _ _ us hl => match us, hl with | [_, _, _, _], _ => rfl
  have C_reason_from : Cal l.prog w K mg base 1 "reason_from" (sp_reason_from K) [] := Cal.mk0 (ok_reason_from D9 T) a9 F9.kp b9
  have b12 := F12.bindsN (ps := ["reason"]) fun _ _ _ _ _ _ us hl => match us, hl with | [_], _ => rfl
  have C_is_reason : Cal l.prog w K mg base 1 "is_reason" (sp_is_reason K) [] := Cal.mk0 (ok_is_reason D12 T Lg) a12 F12.kp b12
  have b14 := F14.bindsN (ps := ["row", "index"]) fun _ _ _ _ _ _ us hl => match us, hl with | [_, _], _ => rfl
  have C_at_index : Cal l.prog w K mg base 1 "at_index" (sp_at_index K) [] := Cal.mk0 (ok_at_index D14 T) a14 F14.kp b14
  have b15 := F15.bindsN (ps := ["heap", "number"]) fun _ _ _ _ _ _ us hl => match us, hl with | [_, _], _ => rfl
  have C__law_of : Cal l.prog w K mg base 1 "_law_of" (sp__law_of K) [] := Cal.mk0 (ok__law_of D15 T) a15 F15.kp b15
  have b17 := F17.bindsN (ps := ["reason"]) fun _ _ _ _ _ _ us hl => match us, hl with | [_], _ => rfl
  have C__law_named : Cal l.prog w K mg base 1 "_law_named" (sp__law_named K) [] := Cal.mk0 (ok__law_named D17 T) a17 F17.kp b17
  have b18 := F18.bindsN (ps := ["script", "k"]) fun _ _ _ _ _ _ us hl => match us, hl with | [_, _], _ => rfl
  have C__law_cell : Cal l.prog w K mg base 1 "_law_cell" (sp__law_cell K) [] := Cal.mk0 (ok__law_cell D18 T) a18 F18.kp b18
  have b21 := F21.bindsN (ps := ["box", "many"]) fun _ _ _ _ _ _ us hl => match us, hl with | [_, _], _ => rfl
  have C__law_draw : Cal l.prog w K mg base 1 "_law_draw" (sp__law_draw K) [] := Cal.mk0 (ok__law_draw D21 T) a21 F21.kp b21
  have b26 := F26.bindsN (ps := ["heap"]) fun _ _ _ _ _ _ us hl => match us, hl with | [_], _ => rfl
  have C__law_numbers : Cal l.prog w K mg base 1 "_law_numbers" (sp__law_numbers K) [] := Cal.mk0 (ok__law_numbers D26 T) a26 F26.kp b26
  have b2 := F2.bindsN (ps := ["heap"]) fun _ _ _ _ _ _ us hl => match us, hl with | [_], _ => rfl
  have C_by_number : Cal l.prog w K mg base 2 "by_number" (sp_by_number K) [] := Cal.mk0 (ok_by_number D2 T C_objects_of) a2 F2.kp b2
  have b4 := F4.bindsN (ps := ["thing", "got", "condemned"]) fun _ _ _ _ _ _ us hl => match us, hl with | [_, _, _], _ => rfl
  have C_led_to : Cal l.prog w K mg base 2 "led_to" (sp_led_to K) [] := Cal.mk0 (ok_led_to D4 T C_objects_among) a4 F4.kp b4
  have b8 := F8.bindsN (ps := ["heap", "things", "depths", "condemned", "number"]) fun _ _ _ _ _ _ us hl => match us, hl with | [_, _, _, _, _], _ => rfl
  have C_best_reason : Cal l.prog w K mg base 2 "best_reason" (sp_best_reason K) [] := Cal.mk0 (ok_best_reason D8 T C_registers_of C_reason_from) a8 F8.kp b8
  have b11 := F11.bindsN (ps := ["step"]) fun _ _ _ _ _ _ us hl => match us, hl with | [_], _ => rfl
  have C_has_shape : Cal l.prog w K mg base 2 "has_shape" (sp_has_shape K) [] := Cal.mk0 (ok_has_shape D11 T C_is_reason) a11 F11.kp b11
  have b13 := F13.bindsN (ps := ["heap", "things", "reason"]) fun _ _ _ _ _ _ us hl => match us, hl with | [_, _, _], _ => rfl
  have C_found_by : Cal l.prog w K mg base 2 "found_by" (sp_found_by K) [] := Cal.mk0 (ok_found_by D13 T C_registers_of C_at_index) a13 F13.kp b13
  have b16 := F16.bindsN (ps := ["heap", "number", "reason"]) fun _ _ _ _ _ _ us hl => match us, hl with | [_, _, _], _ => rfl
  have C__law_states : Cal l.prog w K mg base 2 "_law_states" (sp__law_states K) [] := Cal.mk0 (ok__law_states D16 T C__law_of) a16 F16.kp b16
  have b19 := F19.bindsN (ps := ["script", "first", "last"]) fun _ _ _ _ _ _ us hl => match us, hl with | [_, _, _], _ => rfl
  have C__law_digits : Cal l.prog w K mg base 2 "_law_digits" (sp__law_digits K) [] := Cal.mk0 (ok__law_digits D19 T C__law_cell) a19 F19.kp b19
  have b22 := F22.bindsN (ps := ["box", "numbers"]) fun _ _ _ _ _ _ us hl => match us, hl with | [_, _], _ => rfl
  have C__law_number : Cal l.prog w K mg base 2 "_law_number" (sp__law_number K) [] := Cal.mk0 (ok__law_number D22 T C__law_draw) a22 F22.kp b22
  have b25 := F25.bindsN (ps := ["box", "numbers"]) fun _ _ _ _ _ _ us hl => match us, hl with | [_, _], _ => rfl
  have C__law_some : Cal l.prog w K mg base 2 "_law_some" (sp__law_some K) [] := Cal.mk0 (ok__law_some D25 T C__law_draw) a25 F25.kp b25
  have b27 := F27.bindsN (ps := ["box", "heap"]) fun _ _ _ _ _ _ us hl => match us, hl with | [_, _], _ => rfl
  have C__law_true_reason : Cal l.prog w K mg base 2 "_law_true_reason" (sp__law_true_reason K) [] := Cal.mk0 (ok__law_true_reason D27 T C__law_draw) a27 F27.kp b27
  have b28 := F28.bindsN (ps := ["box", "heap"]) fun _ _ _ _ _ _ us hl => match us, hl with | [_, _], _ => rfl
  have C__law_any_reason : Cal l.prog w K mg base 2 "_law_any_reason" (sp__law_any_reason K) [] := Cal.mk0 (ok__law_any_reason D28 T C__law_draw C__law_numbers) a28 F28.kp b28
  have b5 := F5.bindsN (ps := ["heap", "condemned"]) fun _ _ _ _ _ _ us hl => match us, hl with | [_, _], _ => rfl
  have C_rounds : Cal l.prog w K mg base 3 "rounds" (sp_rounds K) [] := Cal.mk0 (ok_rounds D5 T C_registers_of C_by_number C_objects_among C_led_to) a5 F5.kp b5
  have b10 := F10.bindsN (ps := ["heap", "condemned", "steps"]) fun _ _ _ _ _ _ us hl => match us, hl with | [_, _, _], _ => rfl
  have C_check_derivation : Cal l.prog w K mg base 3 "check_derivation" (sp_check_derivation K) [] := Cal.mk0 (ok_check_derivation D10 T C_by_number C_named C_has_shape C_found_by) a10 F10.kp b10
  have b20 := F20.bindsN (ps := ["script", "first", "last"]) fun _ _ _ _ _ _ us hl => match us, hl with | [_, _, _], _ => rfl
  have C__law_box : Cal l.prog w K mg base 3 "_law_box" (sp__law_box K) [] := Cal.mk0 (ok__law_box D20 T C__law_digits) a20 F20.kp b20
  have b23 := F23.bindsN (ps := ["box", "number", "numbers"]) fun _ _ _ _ _ _ us hl => match us, hl with | [_, _, _], _ => rfl
  have C__law_object : Cal l.prog w K mg base 3 "_law_object" (sp__law_object K) [] := Cal.mk0 (ok__law_object D23 T C__law_draw C__law_number) a23 F23.kp b23
  have b30 := F30.bindsN (ps := ["heap", "gone", "steps"]) fun _ _ _ _ _ _ us hl => match us, hl with | [_, _, _], _ => rfl
  have C__law_is_derivation : Cal l.prog w K mg base 3 "_law_is_derivation" (sp__law_is_derivation K) [] := Cal.mk0 (ok__law_is_derivation D30 T C__law_states C__law_named) a30 F30.kp b30
  have b24 := F24.bindsN (ps := ["box", "most"]) fun _ _ _ _ _ _ us hl => match us, hl with | [_, _], _ => rfl
  have C__law_heap : Cal l.prog w K mg base 4 "_law_heap" (sp__law_heap K) [] := Cal.mk0 (ok__law_heap D24 T C__law_draw C__law_number C__law_object) a24 F24.kp b24
  have L7 : LamAt K base mg "derive" cd7 := ⟨e7, TBs (He.cT K ("derive", none)) (List.mem_map.mpr ⟨("derive", none), by simp [tfl], rfl⟩)⟩
  have b7 := F7.bindsN (ps := ["heap", "condemned", "number"]) fun _ _ _ _ _ _ us hl => match us, hl with | [_, _, _], _ => rfl
  have C_derive : Cal l.prog w K mg base 5 "derive" (sp_derive K) [] := Cal.mk0 (ok_derive D7 T L7 C_by_number C_rounds C_named C_best_reason) a7 F7.kp b7
  have b29 := F29.bindsN (ps := ["actual", "expected"]) fun _ _ _ _ _ _ us hl => match us, hl with | [_, _], _ => rfl
  have C__law_same : Cal l.prog w K mg base 9 "_law_same" (sp__law_same K) [] := ok__law_same D29 T b29 a29 F29.kp
  exact ok_law D31 T C_derive C_check_derivation C__law_box C__law_draw C__law_heap C__law_some C__law_numbers C__law_true_reason C__law_any_reason C__law_same C__law_is_derivation
end Wc
open PySem PySem.W PySem.Calls PyProof.Rows
set_option maxRecDepth 100000 in
set_option maxHeartbeats 0 in
theorem PySem.Challenge.cw_weakcourt_k12_derivations_are_checked_holds : PySem.Challenge.rw_weakcourt_k12_derivations_are_checked.Holds := by
  w_on; o_law
  refine HandSHeadRun.head_any (r := OpenLaw.row PySem.Challenge.rw_weakcourt_k12_derivations_are_checked) (q := view (OpenLaw.row PySem.Challenge.rw_weakcourt_k12_derivations_are_checked).prog [36]) (H := Wc.hk) (ob := Wc.ob) (M := 4000) (loose := Wc.otherNames) (d := HandSHeadRun.topDef (OpenLaw.row PySem.Challenge.rw_weakcourt_k12_derivations_are_checked).prog 36) (kwd := []) Wc.ob_eq
    (by kernel_rfl) (fun s => by kernel_rfl) Wc.run (by kernel_rfl) (by kernel_rfl) (by kernel_rfl) (by rfl) (by first | assumption | decide +kernel) (by decide +kernel) ⟨rfl, rfl, rfl, rfl, rfl, by decide +kernel⟩ ?hw ?hc
  case hw => w_witness2
  case hc =>
    refine LamX.walk_ofTsE (l := PySem.Challenge.rw_weakcourt_k12_derivations_are_checked) (n := 63) (k := 10) (x := "script") (CX := fun _ => L2.CX0) rfl (by decide) (by kernel_rfl) ⟨rfl, by decide, by decide⟩ ?F (fun _ _ _ _ _ z => z)
    intro w mg fa h Y G hmg0
    obtain ⟨K, KX, c⟩ := Y
    have hmg : mg ("law" : PySem.Str) = some (.ref fa) := by
      have e : (HandSHeadRun.topDef (OpenLaw.row PySem.Challenge.rw_weakcourt_k12_derivations_are_checked).prog 36).name = ("law" : PySem.Str) := by kernel_rfl
      rw [← e]
      exact hmg0
    exact ⟨K, KX, Wc.all_x KX G hmg c⟩
#print axioms PySem.Challenge.cw_weakcourt_k12_derivations_are_checked_holds
