import PyProof.Rows.All
import Wide.All
import OpenK.AllK
import Wide.FinOn
import HandS.ForMost
import HandS.Codes
import HandS.Evl
import HandS.Walk
import HandS.DictComp
import HandS.SortInts
import HandS.IsInst
import HandS.TupAny
import HandS.Conv
import HandS.Strs
import HandS.Lambda
import HandS.Nested
import KE.SortKeyHeap
import KE.SortData
import KE.KSortKey
import KE.KStateDown
import HandS.Head0
import HandS.Head1
import HandS.Head2
import HandS.HeadEnd
import HandS.HeadHook1
import HandS.HeadHook2
import HandS.HeadHook4
import HandS.HeadWalk
import HandS.Iter
import KE.GoesEnumKw
import KE.GoesMore
import HandS.TupMul
import HandS.SetKeys
import HandS.Flow
import PySem.Challenge.RW_weakcourt_k13_derivations_as_commands
set_option Elab.async false
set_option linter.all false
set_option maxRecDepth 100000
set_option maxHeartbeats 4000000
/-! Weakcourt's proofs, the common part: the data of a heap as it stands in the model's memory, relations between memories, readings of comprehensions. -/
namespace Wc
open PySem L2
theorem u20 {k : Nat} {A : Around} (r : Room k A) : A.units + 20 < cLine := by have := r.un; omega
/-! ### promises by their number of arguments -/
abbrev V1 := V → Hp → VK → Prop
abbrev V2 := V → V → Hp → VK → Prop
abbrev V3 := V → V → V → Hp → VK → Prop
abbrev V4 := V → V → V → V → Hp → VK → Prop
abbrev V5 := V → V → V → V → V → Hp → VK → Prop
abbrev sp1 (R : V1) : Sp := fun vs H Q _ => ∃ x, vs = [x] ∧ R x H Q
abbrev sp2 (R : V2) : Sp := fun vs H Q _ => ∃ x y, vs = [x, y] ∧ R x y H Q
abbrev sp3 (R : V3) : Sp := fun vs H Q _ => ∃ x y z, vs = [x, y, z] ∧ R x y z H Q
abbrev sp4 (R : V4) : Sp := fun vs H Q _ => ∃ x y z u, vs = [x, y, z, u] ∧ R x y z u H Q
abbrev sp5 (R : V5) : Sp := fun vs H Q _ => ∃ x y z u v, vs = [x, y, z, u, v] ∧ R x y z u v H Q
/-! ### a def where it stands, with its code object: the rule for its body -/
structure Df (K : PySem.W.Frag) (x : Str) (st : Stmt) (f : Addr) (fd : FuncData) (cd : Value) : Prop where
  ok : ∀ {P : Program} {w : World} {mg : Str → Option Value} {base : PySem.Heap} {N ps : List Str} {k : Nat} {sp : Sp}, FnScope N ps (defScope st) → (∀ vs H Q E, sp vs H Q E → vs.length = ps.length) →
    (∀ (A : Around) (outer : List Env) (s : Shared) (H : Hp) (vs : List V) (Q : VK) (E : XK), Room k (A.deeper (PyProof.Rows.envOfC x (defScope st) s.heap.objs.size f cd)) → sp vs H Q E →
      ∃ t, PSs (cxOf CX0 P w K mg base N x (defScope st) f cd A outer s H E).nox (defBody st) t ∧ t { nx := fun _ H' => Q .non H', rt := Q } (start N vs) H) → FnOk P w K mg base CX0 (k + 1) f fd ps sp
theorem Df.of {K : PySem.W.Frag} {x : Str} {st : Stmt} {f : Addr} {oc : Value} {od an : Option Addr} {dV kV doc pm cd ct : Value} {osl : Array (Option Value)}
    (lk : K.lookup f = some ⟨oc, od, .func (PySem.W.fnOf x x (defArgs st) (defBody st) (defScope st) dV kV doc pm an cd ct), osl⟩) (hcd : PySem.W.codeIn K cd x = true) :
    Df K x st f (PySem.W.fnOf x x (defArgs st) (defBody st) (defScope st) dV kV doc pm an cd ct) cd :=
  ⟨fun S len hb => fn_of lk hcd S len fun A outer s H vs Q E hr hsp => let ⟨t, h, q⟩ := hb A outer s H vs Q E hr hsp; ⟨t, h.nox, q⟩⟩
/-! ### a def that may be called by its name: its promise, where it stands, how arguments bind -/
structure Cal (P : Program) (w : World) (K : PySem.W.Frag) (mg : Str → Option Value) (base : PySem.Heap) (k : Nat) (x : Str) (sp : Sp) (dvs : List V) : Prop where
  all : ∃ (f : Addr) (fd : FuncData) (ps : List Str) (ds : List Value), FnOk P w K mg base CX0 k f fd ps sp ∧ mg x = some (.ref f) ∧
    PySem.W.keepIn K (.ref f) = true ∧ Binds K fd ps ds ∧ Vals dvs ds
theorem Cal.mk0 {P : Program} {w : World} {K : PySem.W.Frag} {mg : Str → Option Value} {base : PySem.Heap} {k : Nat} {x : Str} {sp : Sp} {f : Addr} {fd : FuncData} {ps : List Str}
    (h : FnOk P w K mg base CX0 k f fd ps sp) (m : mg x = some (.ref f)) (kp : PySem.W.keepIn K (.ref f) = true) (b : Binds K fd ps []) : Cal P w K mg base k x sp [] := ⟨f, fd, ps, [], h, m, kp, b, .nil⟩
theorem pe_c {X : Cx} {j k : Nat} {x : Str} {sp : Sp} {dvs : List V} {e : Expr} {es : List Expr} {p pos : Pos} {t : TA}
    (c : Cal X.prog X.w X.K X.mg X.base k x sp dvs) (hr : Room j X.A) (hk : k ≤ j) (hg : Gl X x) (ha : PA X (e :: es) t)
    (h1 : (x == ("__debug__" : Str)) = false := by decide) (h2 : starEach (e :: es) X.env = (false, eval e X.env) :: starEach es X.env := by rfl)
    (h3 : (backTo pos (starEach es X.env)).any (·.1) = false := by rfl) : PE X (.Call (.Name x p) (e :: es) [] pos) (tCall sp dvs E0 t) :=
  let ⟨_, _, _, _, F, hm, kp, b, d⟩ := c.all
  pe_call F (hr.mono hk) hg hm kp b d pass0 ha h1 h2 h3
/-- tuple(xs) -/
def rTupS (K : PySem.W.Frag) : List V → Hp → VK → Prop := fun xs H Q => ∃ p ys, xs = [.ref p] ∧ ((SqL K H p ys ∧ ∀ l, H l = none → Q (.ref l) (upd H l (.tup ys))) ∨ (SqT K H p ys ∧ Q (.ref p) H))
/-- a comprehension without a test -/
theorem tyes {σ : L2.St} {H : Hp} {F G : Hp → Prop} (h : F H) : tYes σ H fun c H4 => if c = true then F H4 else G H4 := by
  show if true = true then F H else G H
  rw [if_pos rfl]
  exact h
/-- a number among numbers -/
theorem inV_int (n : Int) (ns : List Int) : inV (.int n) (ns.map V.int) = decide (n ∈ ns) := by
  induction ns with
  | nil => rfl
  | cons k r ih =>
    show (eqV (.int k) (.int n) || inV (.int n) (r.map V.int)) = _
    rw [ih]
    show (k == n || decide (n ∈ r)) = _
    by_cases e : k = n
    · subst e; simp
    · have e3 : ¬ n = k := fun z => e z.symm
      simp [e, e3]
theorem flat_ints (ns : List Int) : (ns.map V.int).all flatV = true := by
  rw [List.all_eq_true]
  intro x hx
  obtain ⟨n, _, rfl⟩ := List.mem_map.mp hx
  rfl
/-! ### memories -/
/-- all but what stands at M is as it was -/
def ExM (M : List Addr) (H H' : Hp) : Prop := ∀ a o, a ∉ M → H a = some o → H' a = some o
abbrev ExA (H H' : Hp) : Prop := ExM [] H H'
/-- every tuple is as it was; so are those of which the object is known -/
structure Tk (K : PySem.W.Frag) (H H' : Hp) : Prop where
  sq : ∀ a xs, SqT K H a xs → SqT K H' a xs
  zq : ∀ a (o : Obj) xs, H a = some (.frz o (.tup xs)) → H' a = some (.frz o (.tup xs))
instance {K : PySem.W.Frag} {H H' : Hp} : CoeFun (Tk K H H') fun _ => ∀ a xs, SqT K H a xs → SqT K H' a xs := ⟨Tk.sq⟩
/-- a tuple of which it is known that its object has no dict -/
def SqZ (H : Hp) (a : Addr) (xs : List V) : Prop := ∃ o : Obj, o.dict = none ∧ H a = some (.frz o (.tup xs))
theorem SqZ.sq {K : PySem.W.Frag} {H : Hp} {a : Addr} {xs : List V} (h : SqZ H a xs) : SqT K H a xs := let ⟨o, _, e⟩ := h; .inl (.inr ⟨o, e⟩)
theorem SqZ.mono {K : PySem.W.Frag} {H H' : Hp} {a : Addr} {xs : List V} (t : Tk K H H') (h : SqZ H a xs) : SqZ H' a xs := let ⟨o, n, e⟩ := h; ⟨o, n, t.zq _ _ _ e⟩
section
variable {K : PySem.W.Frag} {M : List Addr} {H H' H1 H2 : Hp} {a b p D : Addr} {o u : HO} {xs ys : List V}
theorem ExM.refl (M : List Addr) (H : Hp) : ExM M H H := fun _ _ _ h => h
theorem ExM.trans (h1 : ExM M H H1) (h2 : ExM M H1 H2) : ExM M H H2 := fun a o n h => h2 a o n (h1 a o n h)
theorem ExM.of (h : ExA H H') : ExM M H H' := fun a o _ e => h a o (by simp) e
theorem ExA.at (h : ExA H H') (e : H a = some o) : H' a = some o := h a o (by simp) e
theorem ExM.new (n : H p = none) : ExM M H (upd H p o) := fun a u _ e => by
  rw [upd_ne (ne_of_none e n)]; exact e
theorem ExM.put (h : ExM M H H') (n : H p = none) : ExM M H (upd H' p o) := fun a u m e => by
  rw [upd_ne (ne_of_none e n)]; exact h a u m e
theorem ExM.mem (h : ExM M H H') (n : p ∈ M) : ExM M H (upd H' p o) := fun a u m e => by
  rw [upd_ne (fun z => m (by rw [z]; exact n))]; exact h a u m e
theorem ExM.free (h : ExM M H H') (m : p ∉ M) (n : H' p = none) : H p = none := by
  cases q : H p with
  | none => rfl
  | some u => rw [h p u m q] at n; cases n
theorem ExA.free (h : ExA H H') (n : H' p = none) : H p = none := ExM.free h (by simp) n
theorem Tk.refl : Tk K H H := ⟨fun _ _ h => h, fun _ _ _ h => h⟩
theorem Tk.trans (h1 : Tk K H H1) (h2 : Tk K H1 H2) : Tk K H H2 := ⟨fun a xs h => h2.sq a xs (h1.sq a xs h), fun a o xs h => h2.zq a o xs (h1.zq a o xs h)⟩
theorem Tk.new (n : H p = none) : Tk K H (upd H p o) := ⟨fun a xs h => by
  rcases h with (h | ⟨v, h⟩) | h
  · exact .inl (.inl (by rw [upd_ne (ne_of_none h n)]; exact h))
  · exact .inl (.inr ⟨v, by rw [upd_ne (ne_of_none h n)]; exact h⟩)
  · exact .inr h, fun a v xs h => by rw [upd_ne (ne_of_none h n)]; exact h⟩
theorem Tk.all (h : ExA H H') : Tk K H H' := ⟨fun a xs e => by
  rcases e with (e | ⟨v, e⟩) | e
  · exact .inl (.inl (h.at e))
  · exact .inl (.inr ⟨v, h.at e⟩)
  · exact .inr e, fun a v xs e => h.at e⟩
/-- what is no tuple, and no tuple locked, may be written -/
theorem Tk.upd (n : ∀ xs, H p ≠ some (.tup xs)) (n2 : ∀ v xs, H p ≠ some (.frz v (.tup xs))) : Tk K H (L2.upd H p o) := ⟨fun a xs h => by
  rcases h with (h | ⟨v, h⟩) | h
  · exact .inl (.inl (by rw [upd_ne (fun z => n xs (by rw [← z]; exact h))]; exact h))
  · exact .inl (.inr ⟨v, by rw [upd_ne (fun z => n2 v xs (by rw [← z]; exact h))]; exact h⟩)
  · exact .inr h, fun a v xs h => by rw [upd_ne (fun z => n2 v xs (by rw [← z]; exact h))]; exact h⟩
theorem Tk.lst (h : H p = some (.lst xs)) : Tk K H (L2.upd H p o) := Tk.upd (fun _ q => by rw [h] at q; cases q) (fun _ _ q => by rw [h] at q; cases q)
theorem Tk.dic {kvs : List (Key × V)} (h : H p = some (.dK kvs)) : Tk K H (L2.upd H p o) := Tk.upd (fun _ q => by rw [h] at q; cases q) (fun _ _ q => by rw [h] at q; cases q)
theorem Tk.frz {kvs : List (Key × V)} {v : Obj} (h : H p = some (.frz v (.dK kvs))) : Tk K H (L2.upd H p o) := Tk.upd (fun _ q => by rw [h] at q; cases q) (fun _ _ q => by rw [h] at q; cases q)
theorem SqL.all (h : ExA H H') (e : SqL K H a xs) : SqL K H' a xs := by
  rcases e with (e | ⟨v, e⟩) | e
  · exact .inl (.inl (h.at e))
  · exact .inl (.inr ⟨v, h.at e⟩)
  · exact .inr e
end
/-- tuple(xs), a new object without a dict -/
def rTupZ (K : PySem.W.Frag) : List V → Hp → VK → Prop := fun xs H Q => ∃ p ys, xs = [.ref p] ∧ SqL K H p ys ∧ ∀ l (o : Obj), H l = none → o.dict = none → Q (.ref l) (upd H l (.frz o (.tup ys)))
theorem SqZ.of {H : Hp} {a : Addr} {xs : List V} {o : Obj} (n : o.dict = none) (h : H a = some (.frz o (.tup xs))) : SqZ H a xs := ⟨o, n, h⟩
/-! ### a heap of the program, as data -/
abbrev Rf := Option Int
def rV : Rf → V
  | none => .non
  | some i => .int i
inductive Ob where
  | rcd (n : Int) (fs : List Rf)
  | weak (n : Int) (t : Rf)
  | tab (n : Int) (es : List (Int × Int))
def Ob.num : Ob → Int
  | .rcd n _ => n
  | .weak n _ => n
  | .tab n _ => n
structure Hd where
  nx : Int
  regs : List Rf
  kept : List Int
  obs : List Ob
  wat : List (Int × Int)
def Hd.nums (h : Hd) : List Int := h.obs.map Ob.num
def Rf.ok (S : List Int) (r : Rf) : Prop := ∀ i, r = some i → i ∈ S
def Ob.ok (S : List Int) : Ob → Prop
  | .rcd _ fs => fs.length ≤ 1000 ∧ ∀ r ∈ fs, Rf.ok S r
  | .weak _ t => Rf.ok S t
  | .tab _ es => es.length ≤ 1000 ∧ (es.map (·.1)).Nodup ∧ ∀ e ∈ es, e.1 ∈ S ∧ e.2 ∈ S
structure Hd.Ok (h : Hd) : Prop where
  up : h.nums.Pairwise (· < ·)
  size : h.obs.length ≤ 50
  nreg : h.regs.length ≤ 1000
  regs : ∀ r ∈ h.regs, Rf.ok h.nums r
  obs : ∀ o ∈ h.obs, o.ok h.nums
  kept : ∀ i ∈ h.kept, i ∈ h.nums
  wat : ∀ e ∈ h.wat, e.1 ∈ h.nums
  low : ∀ n ∈ h.nums, 0 ≤ n ∧ n < h.nx
  nxl : 0 ≤ h.nx ∧ h.nx ≤ 999
  kup : h.kept.Pairwise (· < ·)
  tok : ∀ e ∈ h.wat, 0 ≤ e.2 ∧ e.2 ≤ 999
  nwat : h.wat.length ≤ 50
  rpos : h.regs ≠ []
/-- what an object leads to -/
def ledTo (o : Ob) (got gone : List Int) : List Int := match o with
  | .rcd _ fs => fs.filterMap id
  | .weak _ none => []
  | .weak _ (some t) => if t ∈ gone then [] else [t]
  | .tab _ es => (es.filter fun e => decide (e.1 ∈ got)).map (·.2)
/-! ### .. as it stands in memory: tuples all through -/
section
variable (K : PySem.W.Frag) (H : Hp)
def PairAt (a : Addr) (p : Int × Int) : Prop := SqT K H a [.int p.1, .int p.2]
def ObAt (a : Addr) : Ob → Prop
  | .rcd n fs => ∃ t, SqT K H a [.str "record", .int n, .ref t] ∧ SqZ H t (fs.map rV)
  | .weak n r => SqT K H a [.str "weak", .int n, rV r]
  | .tab n es => ∃ t ps, SqT K H a [.str "table", .int n, .ref t] ∧ SqZ H t (ps.map .ref) ∧ Paired (PairAt K H) ps es
def ObsAt (o : Addr) (h : Hd) : Prop := ∃ os, SqT K H o (os.map V.ref) ∧ Paired (ObAt K H) os h.obs
def HeapAt (a : Addr) (h : Hd) : Prop := ∃ r k o w ws, SqT K H a [.str "heap", .int h.nx, .ref r, .ref k, .ref o, .ref w] ∧ SqZ H r (h.regs.map rV) ∧ SqT K H k (h.kept.map .int) ∧
  ObsAt K H o h ∧ SqT K H w (ws.map .ref) ∧ Paired (PairAt K H) ws h.wat
end
section
variable {K : PySem.W.Frag} {H H' : Hp} {a : Addr}
theorem pmp {α β : Type} {F G : α → β → Prop} {l : List α} {m : List β} (h : Paired F l m) (f : ∀ a b, F a b → G a b) : Paired G l m := Paired.mapP h f
theorem PairAt.mono (t : Tk K H H') {p : Int × Int} (h : PairAt K H a p) : PairAt K H' a p := t _ _ h
theorem ObAt.mono (t : Tk K H H') {o : Ob} (h : ObAt K H a o) : ObAt K H' a o := by
  cases o with
  | rcd n fs => obtain ⟨q, h1, h2⟩ := h; exact ⟨q, t _ _ h1, h2.mono t⟩
  | weak n r => exact t _ _ h
  | tab n es => obtain ⟨q, ps, h1, h2, h3⟩ := h; exact ⟨q, ps, t _ _ h1, h2.mono t, pmp h3 fun _ _ z => PairAt.mono t z⟩
theorem ObsAt.mono (t : Tk K H H') {h : Hd} (x : ObsAt K H a h) : ObsAt K H' a h := by
  obtain ⟨os, h1, h2⟩ := x
  exact ⟨os, t _ _ h1, pmp h2 fun _ _ z => ObAt.mono t z⟩
theorem HeapAt.mono (t : Tk K H H') {h : Hd} (x : HeapAt K H a h) : HeapAt K H' a h := by
  obtain ⟨r, k, o, w, ws, h1, h2, h3, h4, h5, h6⟩ := x
  exact ⟨r, k, o, w, ws, t _ _ h1, h2.mono t, t _ _ h3, h4.mono t, t _ _ h5, pmp h6 fun _ _ z => PairAt.mono t z⟩
theorem pget {α β : Type} {F : α → β → Prop} : ∀ {l : List α} {m : List β} {i : Nat} {x : α}, Paired F l m → l[i]? = some x → ∃ y, m[i]? = some y ∧ F x y
  | _, _, _, _, .nil, e => by simp at e
  | _, _, 0, _, .cons r _, e => by simp at e; subst e; exact ⟨_, rfl, r⟩
  | _, _, i + 1, x, .cons _ t, e => by
    obtain ⟨u, h1, h2⟩ := pget (i := i) (x := x) t (by simpa using e)
    exact ⟨u, by simpa using h1, h2⟩
theorem pget' {α β : Type} {F : α → β → Prop} : ∀ {l : List α} {m : List β} {i : Nat} {y : β}, Paired F l m → m[i]? = some y → ∃ x, l[i]? = some x ∧ F x y
  | _, _, _, _, .nil, e => by simp at e
  | _, _, 0, _, .cons r _, e => by simp at e; subst e; exact ⟨_, rfl, r⟩
  | _, _, i + 1, y, .cons _ t, e => by
    obtain ⟨u, h1, h2⟩ := pget' (i := i) (y := y) t (by simpa using e)
    exact ⟨u, by simpa using h1, h2⟩
theorem plen {α β : Type} {F : α → β → Prop} : ∀ {l : List α} {m : List β}, Paired F l m → l.length = m.length
  | _, _, .nil => rfl
  | _, _, .cons _ t => by rw [List.length_cons, List.length_cons, plen t]
theorem psnoc {α β : Type} {F : α → β → Prop} {x : α} {y : β} (q : F x y) : ∀ {l : List α} {m : List β}, Paired F l m → Paired F (l ++ [x]) (m ++ [y])
  | _, _, .nil => .cons q .nil
  | _, _, .cons r t => .cons r (psnoc q t)
/-- the number of an object, at its place -/
theorem ObAt.num {o : Ob} (h : ObAt K H a o) : ∃ k v, SqT K H a [.str k, .int o.num, v] := by
  cases o with
  | rcd n fs => obtain ⟨q, h1, h2⟩ := h; exact ⟨_, _, h1⟩
  | weak n r => exact ⟨_, _, h⟩
  | tab n es => obtain ⟨q, ps, h1, h2, h3⟩ := h; exact ⟨_, _, h1⟩
end
/-! ### items of short rows -/
theorem at0 {x : V} {r : List V} : atI (x :: r) (0 : Int) = some x := atI_nat (j := 0) rfl
theorem at1 {x y : V} {r : List V} : atI (x :: y :: r) (1 : Int) = some y := atI_nat (j := 1) rfl
theorem at2 {x y z : V} {r : List V} : atI (x :: y :: z :: r) (2 : Int) = some z := atI_nat (j := 2) rfl
theorem at3 {x y z w : V} {r : List V} : atI (x :: y :: z :: w :: r) (3 : Int) = some w := atI_nat (j := 3) rfl
theorem at4 {x y z w v : V} {r : List V} : atI (x :: y :: z :: w :: v :: r) (4 : Int) = some v := atI_nat (j := 4) rfl
theorem at5 {x y z w v u : V} {r : List V} : atI (x :: y :: z :: w :: v :: u :: r) (5 : Int) = some u := atI_nat (j := 5) rfl
theorem sz {n : Nat} (h : n ≤ 100000) : n ≤ sizeLine := Nat.le_trans h (by decide)
theorem szl {n : Nat} (h : n ≤ 100000) : n < sizeLine := Nat.lt_of_le_of_lt h (by decide)
/-! ### data of any depth: tuples of tuples of numbers, texts, None -/
inductive Dt where
  | non
  | bl (b : Bool)
  | int (i : Int)
  | str (s : Str)
  | tup (ds : List Dt)
mutual
def Is (K : PySem.W.Frag) (H : Hp) : Dt → V → Prop
  | .non, v => v = .non
  | .bl b, v => v = .bl b
  | .int i, v => v = .int i
  | .str s, v => v = .str s
  | .tup ds, v => ∃ a xs, v = .ref a ∧ SqT K H a xs ∧ IsL K H ds xs
def IsL (K : PySem.W.Frag) (H : Hp) : List Dt → List V → Prop
  | [], xs => xs = []
  | d :: ds, xs => ∃ x r, xs = x :: r ∧ Is K H d x ∧ IsL K H ds r
end
mutual
def Dt.dep : Dt → Nat
  | .tup ds => 1 + Dt.depL ds
  | _ => 0
def Dt.depL : List Dt → Nat
  | [] => 0
  | d :: ds => max d.dep (Dt.depL ds)
end
mutual
/-- rows that are not too long -/
def Dt.thin : Dt → Prop
  | .tup ds => ds.length ≤ 100000 ∧ Dt.thinL ds
  | _ => True
def Dt.thinL : List Dt → Prop
  | [] => True
  | d :: ds => d.thin ∧ Dt.thinL ds
end
theorem thin_get : ∀ {ds : List Dt} {i : Nat} {d : Dt}, Dt.thinL ds → ds[i]? = some d → d.thin
  | [], i, d, _, e => by simp at e
  | d :: ds, 0, d', h, e => by
    have e : d = d' := by simpa using e
    subst e
    exact h.1
  | d :: ds, i + 1, d', h, e => thin_get (i := i) h.2 (by simpa using e)
theorem thin_ints : ∀ ns : List Int, Dt.thinL (ns.map Dt.int)
  | [] => trivial
  | _ :: ns => ⟨trivial, thin_ints ns⟩
theorem IsL.len {K : PySem.W.Frag} {H : Hp} : ∀ {ds : List Dt} {xs : List V}, IsL K H ds xs → xs.length = ds.length
  | [], xs, h => by
    have e : xs = [] := h
    rw [e]; rfl
  | d :: ds, xs, h => by
    obtain ⟨x, r, e, _, h2⟩ := h
    rw [e, List.length_cons, List.length_cons, IsL.len h2]
theorem IsL.get {K : PySem.W.Frag} {H : Hp} : ∀ {ds : List Dt} {xs : List V} {i : Nat} {d : Dt}, IsL K H ds xs → ds[i]? = some d → ∃ x, xs[i]? = some x ∧ Is K H d x
  | [], xs, i, d, h, e => by simp at e
  | d :: ds, xs, 0, d', h, e => by
    obtain ⟨x, r, e1, h1, _⟩ := h
    have e : d = d' := by simpa using e
    subst e
    rw [e1]; exact ⟨x, rfl, h1⟩
  | d :: ds, xs, i + 1, d', h, e => by
    obtain ⟨x, r, e1, _, h2⟩ := h
    obtain ⟨y, h3, h4⟩ := IsL.get (i := i) h2 (by simpa using e)
    rw [e1]; exact ⟨y, by simpa using h3, h4⟩
theorem dep_get : ∀ {ds : List Dt} {i : Nat} {d : Dt}, ds[i]? = some d → d.dep ≤ Dt.depL ds
  | [], i, d, e => by simp at e
  | d :: ds, 0, d', e => by
    have e : d = d' := by simpa using e
    subst e
    exact Nat.le_max_left _ _
  | d :: ds, i + 1, d', e => Nat.le_trans (dep_get (i := i) (by simpa using e)) (Nat.le_max_right _ _)
theorem IsL.ints {K : PySem.W.Frag} {H : Hp} : ∀ ns : List Int, IsL K H (ns.map Dt.int) (ns.map V.int)
  | [] => rfl
  | n :: ns => ⟨_, _, rfl, rfl, IsL.ints ns⟩
theorem depL_ints : ∀ ns : List Int, Dt.depL (ns.map Dt.int) = 0
  | [] => rfl
  | n :: ns => by
    show max 0 (Dt.depL (ns.map Dt.int)) = 0
    rw [depL_ints ns]; rfl
theorem tyx_tup {K : PySem.W.Frag} {H : Hp} {a : Addr} {xs : List V} (h : SqT K H a xs) : TyX K H (.ref a) (.type "tuple") := by
  rcases h with (h | ⟨o, h⟩) | ⟨o, its, n, h1, h2, _⟩
  · exact .base (.tup h)
  · exact .fTuple h
  · exact .kTuple h1 h2
/-! ### a list or a tuple that is walked -/
def iSeq (K : PySem.W.Frag) (tl : TE) : TI := fun σ H R => iList K tl σ H R ∨ iTup K tl σ H R
theorem pi_seq {X : Cx} {tg l : Expr} {tl : TE} (hl : PE X l tl) : PI X tg l (iSeq X.K tl) :=
  ⟨fun pins s σ H R I h => h.elim ((pi_list hl).run pins s σ H R I) ((pi_tup hl).run pins s σ H R I)⟩
/-- a list or a tuple -/
def SqS (K : PySem.W.Frag) (H : Hp) (a : Addr) (xs : List V) : Prop := SqL K H a xs ∨ SqT K H a xs
theorem SqS.all {K : PySem.W.Frag} {H H' : Hp} {a : Addr} {xs : List V} (e : ExA H H') (h : SqS K H a xs) : SqS K H' a xs := h.elim (fun z => .inl (SqL.all e z)) fun z => .inr (Tk.all e _ _ z)
theorem seq_at {K : PySem.W.Frag} {tl : TE} {σ : L2.St} {H : Hp} {R : It → Hp → Prop} {c : Addr} {xs : List V} (h : SqS K H c xs) (ht : ∀ Q : VK, Q (.ref c) H → tl σ H Q)
    (k : ∀ J G, Walk J xs.length G (YAt xs) → (∀ H', ExA H H' → G H') → R J H) : iSeq K tl σ H R := by
  rcases h with h | h
  · exact .inl (ht _ ⟨c, rfl, ⟨xs, h⟩, k _ _ walk_list fun H' e => SqL.all e h⟩)
  · exact .inr (ht _ ⟨c, rfl, ⟨xs, h⟩, k _ _ walk_tup fun H' e => Tk.all e _ _ h⟩)
/-! ### what stands beside a list that may change -/
theorem SqL.exm {K : PySem.W.Frag} {M : List Addr} {H H' : Hp} {a : Addr} {xs : List V} (h : ExM M H H') (m : a ∉ M) (e : SqL K H a xs) : SqL K H' a xs := by
  rcases e with (e | ⟨v, e⟩) | e
  · exact .inl (.inl (h a _ m e))
  · exact .inl (.inr ⟨v, h a _ m e⟩)
  · exact .inr e
theorem Tk.exm {K : PySem.W.Frag} {b : Addr} {H H' : Hp} {xs : List V} (h : ExM [b] H H') (hb : H b = some (.lst xs)) : Tk K H H' := by
  have ne : ∀ a o, H a = some o → o ≠ .lst xs → a ∉ [b] := fun a o q z m => by
    have e : a = b := by simpa using m
    rw [e, hb] at q
    exact z (Option.some.inj q).symm
  refine ⟨fun a ys e => ?_, fun a o ys e => h a _ (ne a _ e (fun z => nomatch z)) e⟩
  rcases e with (e | ⟨v, e⟩) | e
  · exact .inl (.inl (h a _ (ne a _ e (fun z => nomatch z)) e))
  · exact .inl (.inr ⟨v, h a _ (ne a _ e (fun z => nomatch z)) e⟩)
  · exact .inr e
/-- the law's source of numbers: a list of a list of numbers and a place in it -/
def Bx (H : Hp) (b d : Addr) (ds : List Int) : Prop := (∃ n : Nat, H b = some (.lst [.ref d, .int (n : Int)])) ∧ H d = some (.lst (ds.map V.int)) ∧ d ≠ b
section
variable {K : PySem.W.Frag} {H H' H0 : Hp} {b d p : Addr} {ds : List Int} {o : HO}
theorem Bx.tk (x : Bx H b d ds) (h : ExM [b] H H') : Tk K H H' := let ⟨⟨_, e⟩, _, _⟩ := x; Tk.exm h e
theorem Bx.keep (x : Bx H b d ds) (h : ExA H H') : Bx H' b d ds := let ⟨⟨n, e⟩, e2, e3⟩ := x; ⟨⟨n, ExA.at h e⟩, ExA.at h e2, e3⟩
theorem Bx.put (x : Bx H b d ds) (x0 : Bx H0 b d ds) (n : H0 p = none) : Bx (upd H p o) b d ds := by
  obtain ⟨⟨k, e⟩, e2, e3⟩ := x
  obtain ⟨⟨k0, f⟩, f2, _⟩ := x0
  exact ⟨⟨k, by rw [upd_ne (ne_of_none f n)]; exact e⟩, by rw [upd_ne (ne_of_none f2 n)]; exact e2, e3⟩
theorem Bx.new (x : Bx H b d ds) (n : H p = none) : Bx (upd H p o) b d ds := x.put x n
theorem Bx.ne (x : Bx H b d ds) (n : H p = none) : p ∉ [b] := fun m => by
  have e : p = b := by simpa using m
  obtain ⟨⟨k, q⟩, _⟩ := x
  rw [e, q] at n; cases n
end
/-- a list of numbers, apart from the source -/
def Nm (K : PySem.W.Frag) (H : Hp) (b a : Addr) (ns : List Int) : Prop := SqL K H a (ns.map V.int) ∧ a ∉ [b]
theorem Nm.keep {K : PySem.W.Frag} {H H' : Hp} {b a : Addr} {ns : List Int} (x : Nm K H b a ns) (h : ExM [b] H H') : Nm K H' b a ns := ⟨SqL.exm h x.2 x.1, x.2⟩
/-! ### comprehensions: what holds of the turn, of the row made so far and of the memory -/
def LcP (M : List Addr) (H : Hp) (D : Addr) (Acc : Nat → List V → Hp → Prop) (i : Nat) (H' : Hp) : Prop := ExM M H H' ∧ ∃ acc, H' D = some (.lst acc) ∧ acc.length ≤ i ∧ Acc i acc H'
section
variable {M : List Addr} {H H1 H5 : Hp} {D : Addr} {Acc : Nat → List V → Hp → Prop} {i : Nat} {acc : List V} {y : V}
theorem LcP.yes (hD : H D = none) (hM : D ∉ M) (hi : i ≤ 40000) (e : ExM M H H1) (h1 : H1 D = some (.lst acc)) (h2 : acc.length ≤ i) (e2 : ExM M H1 H5) (h : Acc (i + 1) (acc ++ [y]) (upd H5 D (.lst (acc ++ [y])))) :
    ∃ acc', H5 D = some (.lst acc') ∧ acc'.length < sizeLine ∧ LcP M H D Acc (i + 1) (upd H5 D (.lst (acc' ++ [y]))) :=
  ⟨acc, e2 D _ hM h1, szl (by omega), (e.trans e2).put hD, acc ++ [y], upd_same, by rw [List.length_append, List.length_singleton]; omega, h⟩
theorem LcP.no (hM : D ∉ M) (e : ExM M H H1) (h1 : H1 D = some (.lst acc)) (h2 : acc.length ≤ i) (e2 : ExM M H1 H5) (h : Acc (i + 1) acc H5) : LcP M H D Acc (i + 1) H5 :=
  ⟨e.trans e2, acc, e2 D _ hM h1, by omega, h⟩
end
theorem lcM (M : List Addr) {J : It} {n : Nat} {G : Hp → Prop} {Y : Nat → Hp → V → Hp → Prop} (w : Walk J n G Y) {g : TG} {tt : TT} {te : TE} {vs : List Nat} {σ : L2.St} {H : Hp} {D : Addr} {Qd : Hp → Prop}
    (hD : H D = none) (Acc : Nat → List V → Hp → Prop) (h0 : Acc 0 [] (upd H D (.lst []))) (hG : ∀ H', ExM M H H' → G H')
    (hs : ∀ i x H1 H2 acc, i < n → ExM M H H1 → H1 D = some (.lst acc) → acc.length ≤ i → Acc i acc H1 → Y i H1 x H2 → g x (wipe σ vs) H2 fun σ2 H3 => wipe σ2 vs = wipe σ vs ∧ tt σ2 H3 fun c H4 =>
      if c = true then te σ2 H4 fun y H5 => ∃ acc', H5 D = some (.lst acc') ∧ acc'.length < sizeLine ∧ LcP M H D Acc (i + 1) (upd H5 D (.lst (acc' ++ [y]))) else LcP M H D Acc (i + 1) H4)
    (hd : ∀ H' acc, ExM M H H' → H' D = some (.lst acc) → acc.length ≤ n → Acc n acc H' → Qd H') :
    ∃ W : Nat → Nat → Hp → Prop, (∃ m, W 0 m (upd H D (.lst []))) ∧ ∀ i m H, W i m H →
      (J.stop i H ∧ Qd H) ∨ (J.go i H ∧ ∃ Nx : Hp → Prop, (∀ H', Nx H' → ∃ m', m' < m ∧ W (i + 1) m' H') ∧ ∀ x H', J.yld i H x H' → g x (wipe σ vs) H' fun σ2 H2 => wipe σ2 vs = wipe σ vs ∧ tt σ2 H2 fun b H3 =>
        if b = true then te σ2 H3 fun y H4 => ∃ acc, H4 D = some (.lst acc) ∧ acc.length < sizeLine ∧ Nx (upd H4 D (.lst (acc ++ [y]))) else Nx H3) := by
  refine lc_it w (LcP M H D Acc) ⟨ExM.new hD, [], upd_same, Nat.le_refl _, h0⟩ (fun i H' _ p => hG H' p.1) (fun i x H1 H2 hi p y => ?_)
    fun H' p => by obtain ⟨e, acc, h1, h2, h3⟩ := p; exact hd H' acc e h1 h2 h3
  obtain ⟨e, acc, h1, h2, h3⟩ := p
  exact hs i x H1 H2 acc hi e h1 h2 h3 y
/-! ### the same of dicts with number keys -/
def DcP (M : List Addr) (H : Hp) (D : Addr) (Acc : Nat → List (Key × V) → Hp → Prop) (i : Nat) (H' : Hp) : Prop := ExM M H H' ∧ ∃ acc, H' D = some (.dK acc) ∧ acc.length ≤ i ∧ Acc i acc H'
theorem DcP.yes {M : List Addr} {H H1 H5 : Hp} {D : Addr} {Acc : Nat → List (Key × V) → Hp → Prop} {i : Nat} {acc : List (Key × V)} {k : Key} {y z : V} (hD : H D = none) (hM : D ∉ M) (hi : i ≤ 40000) (e : ExM M H H1) (h1 : H1 D = some (.dK acc)) (h2 : acc.length ≤ i)
    (ek : y = kV k) (e2 : ExM M H1 H5) (h : Acc (i + 1) (putK acc k z) (upd H5 D (.dK (putK acc k z)))) :
    ∃ kvs k, y = kV k ∧ H5 D = some (.dK kvs) ∧ kvs.length < sizeLine ∧ DcP M H D Acc (i + 1) (upd H5 D (.dK (putK kvs k z))) :=
  ⟨acc, k, ek, e2 D _ hM h1, szl (by omega), (e.trans e2).put hD, putK acc k z, upd_same, Nat.le_trans (length_putK _ _ _) (by omega), h⟩
theorem dcM (M : List Addr) {J : It} {n : Nat} {G : Hp → Prop} {Y : Nat → Hp → V → Hp → Prop} (w : Walk J n G Y) {g : TG} {tt : TT} {tk tv : TE} {vs : List Nat} {σ : L2.St} {H : Hp} {D : Addr} {Qd : Hp → Prop}
    (hD : H D = none) (Acc : Nat → List (Key × V) → Hp → Prop) (h0 : Acc 0 [] (upd H D (.dK []))) (hG : ∀ H', ExM M H H' → G H')
    (hs : ∀ i x H1 H2 acc, i < n → ExM M H H1 → H1 D = some (.dK acc) → acc.length ≤ i → Acc i acc H1 → Y i H1 x H2 → g x (wipe σ vs) H2 fun σ2 H3 => wipe σ2 vs = wipe σ vs ∧ tt σ2 H3 fun c H4 =>
      if c = true then tk σ2 H4 fun y H5 => tv σ2 H5 fun z H6 => ∃ kvs k, y = kV k ∧ H6 D = some (.dK kvs) ∧ kvs.length < sizeLine ∧ DcP M H D Acc (i + 1) (upd H6 D (.dK (putK kvs k z))) else DcP M H D Acc (i + 1) H4)
    (hd : ∀ H' acc, ExM M H H' → H' D = some (.dK acc) → acc.length ≤ n → Acc n acc H' → Qd H') :
    ∃ W : Nat → Nat → Hp → Prop, (∃ m, W 0 m (upd H D (.dK []))) ∧ ∀ i m H, W i m H →
      (J.stop i H ∧ Qd H) ∨ (J.go i H ∧ ∃ Nx : Hp → Prop, (∀ H', Nx H' → ∃ m', m' < m ∧ W (i + 1) m' H') ∧ ∀ x H', J.yld i H x H' → g x (wipe σ vs) H' fun σ2 H2 => wipe σ2 vs = wipe σ vs ∧ tt σ2 H2 fun b H3 =>
        if b = true then tk σ2 H3 fun y H4 => tv σ2 H4 fun z H5 => ∃ kvs k, y = kV k ∧ H5 D = some (.dK kvs) ∧ kvs.length < sizeLine ∧ Nx (upd H5 D (.dK (putK kvs k z))) else Nx H3) := by
  refine ⟨fun i m H' => m + i = n ∧ DcP M H D Acc i H', ⟨n, rfl, ExM.new hD, [], upd_same, Nat.le_refl _, h0⟩, ?_⟩
  rintro i m H' ⟨hm, p⟩
  obtain ⟨e, acc, h1, h2, h3⟩ := id p
  have q := hG H' e
  by_cases hi : i < n
  · exact .inr ⟨w.goes i H' hi q, DcP M H D Acc (i + 1), fun H2 p2 => ⟨m - 1, by omega, by omega, p2⟩, fun x H2 y => hs i x H' H2 acc hi e h1 h2 h3 (w.yields i H' x H2 hi q y)⟩
  · have en : i = n := by omega
    subst en
    exact .inl ⟨w.stops H' q, hd H' acc e h1 h2 h3⟩
end Wc
/-! A dict comprehension of two clauses: {k: v for a in x if .. for b in y if ..}. -/
namespace Wc
open PySem PySem.Spec PyProof.Rows L2
abbrev dd (kx vx ta ia : Expr) (ca : List Expr) (tb ib : Expr) (cb : List Expr) (sc : Scope) (ps : Pos) : Expr :=
  .DictComp kx vx [⟨ta, ia, ca, 0⟩, ⟨tb, ib, cb, 0⟩] sc ps
abbrev tsts (cs : List Expr) (env : Env) : Sem Bool :=
  forIn cs true fun c r =>
    if r = true then do
      let ok ← isTrue c env (eval c env)
      pure (ForInStep.yield ok)
    else pure (ForInStep.yield r)
section
variable {kx vx ta ia tb ib : Expr} {ca cb : List Expr} {sc : Scope} {ps : Pos} {it : Value} {Da : Addr} {env : Env}
theorem dd_out {acc : Value} : compTurn (dd kx vx ta ia ca tb ib cb sc ps) 0 it acc env = (do
        standAt ia.pos
        match ← pyNext it with
        | none =>
          pure (.done .next)
        | some u =>
          letOwnedTupleGo ta it u
          assign ta env u
          let mut ok := true
          for c in ca do
            if ok then ok ← isTrue c env (eval c env)
          if ok then
            let y ← eval ib env
            standAt ib.pos
            let y ← foldedSetIterable ib env y
            let _ ← runOwn (.compStart (dd kx vx ta ia ca tb ib cb sc ps) 1 (← holding [y] (pyIter y)) acc env) env
          again (.compLoop (dd kx vx ta ia ca tb ib cb sc ps) 0 it acc env)) := by rfl
theorem dd_in : compTurn (dd kx vx ta ia ca tb ib cb sc ps) 1 it (.ref Da) env = (do
        standAt ib.pos
        match ← pyNext it with
        | none =>
          pure (.done .next)
        | some u =>
          letOwnedTupleGo tb it u
          assign tb env u
          let mut ok := true
          for c in cb do
            if ok then ok ← isTrue c env (eval c env)
          if ok then
            (do
              let k ← eval kx env
              let u ← holding [k] (eval vx env)
              standAt { kx.pos with endLine := vx.pos.endLine, endCol := vx.pos.endCol }
              holding [k, u] (dictSet Da k u))
          again (.compLoop (dd kx vx ta ia ca tb ib cb sc ps) 1 it (.ref Da) env)) := by rfl
end
section
variable {P : Program} {w : World} {A : Around} {R : Result → Shared → Prop} {s : Shared}
variable {kx vx ta ia tb ib : Expr} {ca cb : List Expr} {sc : Scope} {ps : Pos} {it acc : Value} {Da : Addr} {env : Env}
/-- what is wanted of an error in a turn -/
abbrev bad (P : Program) (w : World) (A : Around) (env : Env) (R : Result → Shared → Prop) := notedBy (model P w) A env fun e s' => R (.error e) s'
theorem dd_loop0 (fold : ∀ x, foldedSetIterable ib env x = pure x) (I : Nat → Shared → Prop)
    (turn : ∀ n s, I n s → wpAny (model P w) A (pyNext it) (fun r s1 =>
      match r with
      | none => R (.ok .next) s1
      | some v => wpAny (model P w) A (letOwnedTupleGo ta it v) (fun _ s2 =>
          wpAny (model P w) A (assign ta env v) (fun _ s3 =>
            wpAny (model P w) A (tsts ca env) (fun ok s4 =>
              if ok = true then
                wpAny (model P w) A (eval ib env) (fun x s5 =>
                  wpAny (model P w) A (pyIter x) (fun jt s6 =>
                    codeAny (model P w) A (.compStart (dd kx vx ta ia ca tb ib cb sc ps) 1 jt acc env) (fun r s7 =>
                      match r with
                      | .ok _ => ∃ m, m < n ∧ I m s7
                      | .error _ => False) s6) (bad P w A env R) s5) (bad P w A env R) s4
              else ∃ m, m < n ∧ I m s4) (bad P w A env R) s3) (bad P w A env R) s2) (bad P w A env R) s1) (bad P w A env R) s)
    (n : Nat) (h : I n s) : codeAny (model P w) A (.compLoop (dd kx vx ta ia ca tb ib cb sc ps) 0 it acc env) R s := by
  refine codeAny_loop rfl I (fun n s hI => ?_) n h
  show wpAny _ A ((compTurn (dd kx vx ta ia ca tb ib cb sc ps) 0 it acc env).onRaise fun x => do noteFrame x env; theTreesLotGoes x) _ _ s
  refine wpAny_noted ?_
  rw [dd_out]
  refine wpAny_bind <| wpAny_standAt <| wpAny_bind <| wpAny_mono (turn n s hI) (fun r s1 h1 => ?_) fun _ _ z => z
  match r, h1 with
  | none, h1 => exact wpAny_pure h1
  | some v, h1 =>
    refine wpAny_bind <| wpAny_mono h1 (fun _ s2 h2 => ?_) fun _ _ z => z
    refine wpAny_bind <| wpAny_mono h2 (fun _ s3 h3 => ?_) fun _ _ z => z
    refine wpAny_bind <| wpAny_mono h3 (fun ok s4 h4 => ?_) fun _ _ z => z
    match ok, h4 with
    | false, h4 => exact wpAny_pure ⟨rfl, h4⟩
    | true, h4 =>
      refine wpAny_bind <| wpAny_mono h4 (fun x s5 h5 => ?_) fun _ _ z => z
      refine wpAny_bind <| wpAny_standAt <| wpAny_bind <| wpAny_of_eq (fold x) <| wpAny_bind <| wpAny_holding <| wpAny_mono h5 (fun jt s6 h6 => ?_) fun _ _ z => z
      refine wpAny_bind <| wpAny_runOwn ?_
      rw [Around.mark_none]
      refine codeAny_mono h6 fun r s7 hr => ?_
      match r, hr with
      | .ok f, hr => first | exact wpAny_pure ⟨rfl, hr⟩ | exact wpAny_bind (wpAny_pure (wpAny_pure ⟨rfl, hr⟩))
      | .error e, hr => exact hr.elim
theorem dd_loop1 (I : Nat → Shared → Prop)
    (turn : ∀ n s, I n s → wpAny (model P w) A (pyNext it) (fun r s1 =>
      match r with
      | none => R (.ok .next) s1
      | some v => wpAny (model P w) A (letOwnedTupleGo tb it v) (fun _ s2 =>
          wpAny (model P w) A (assign tb env v) (fun _ s3 =>
            wpAny (model P w) A (tsts cb env) (fun ok s4 =>
              if ok = true then
                wpAny (model P w) A (eval kx env) (fun k s5 =>
                  wpAny (model P w) A (eval vx env) (fun u s6 =>
                    wpAny (model P w) A (dictSet Da k u) (fun _ s7 => ∃ m, m < n ∧ I m s7) (bad P w A env R) s6) (bad P w A env R) s5) (bad P w A env R) s4
              else ∃ m, m < n ∧ I m s4) (bad P w A env R) s3) (bad P w A env R) s2) (bad P w A env R) s1) (bad P w A env R) s)
    (n : Nat) (h : I n s) : codeAny (model P w) A (.compLoop (dd kx vx ta ia ca tb ib cb sc ps) 1 it (.ref Da) env) R s := by
  refine codeAny_loop rfl I (fun n s hI => ?_) n h
  show wpAny _ A ((compTurn (dd kx vx ta ia ca tb ib cb sc ps) 1 it (.ref Da) env).onRaise fun x => do noteFrame x env; theTreesLotGoes x) _ _ s
  refine wpAny_noted ?_
  rw [dd_in]
  refine wpAny_bind <| wpAny_standAt <| wpAny_bind <| wpAny_mono (turn n s hI) (fun r s1 h1 => ?_) fun _ _ z => z
  match r, h1 with
  | none, h1 => exact wpAny_pure h1
  | some v, h1 =>
    refine wpAny_bind <| wpAny_mono h1 (fun _ s2 h2 => ?_) fun _ _ z => z
    refine wpAny_bind <| wpAny_mono h2 (fun _ s3 h3 => ?_) fun _ _ z => z
    refine wpAny_bind <| wpAny_mono h3 (fun ok s4 h4 => ?_) fun _ _ z => z
    match ok, h4 with
    | false, h4 => exact wpAny_pure ⟨rfl, h4⟩
    | true, h4 =>
      refine wpAny_bind <| wpAny_bind <| wpAny_mono h4 (fun k s5 h5 => ?_) fun _ _ z => z
      refine wpAny_bind <| wpAny_holding <| wpAny_mono h5 (fun u s6 h6 => ?_) fun _ _ z => z
      exact wpAny_bind <| wpAny_standAt <| wpAny_holding <| wpAny_mono h6 (fun _ s7 h7 => wpAny_pure ⟨rfl, h7⟩) fun _ _ z => z
/-- the second clause begins -/
theorem dd_start1 (h0 : codeAny (model P w) A (.compLoop (dd kx vx ta ia ca tb ib cb sc ps) 1 it acc env) R s)
    (h : wpAny (model P w) A (pyIter it) (fun jt s' => codeAny (model P w) A (.compLoop (dd kx vx ta ia ca tb ib cb sc ps) 1 jt acc env) R s')
      (notedBy (model P w) A env fun x s' => R (.error x) s') s) :
    codeAny (model P w) A (.compStart (dd kx vx ta ia ca tb ib cb sc ps) 1 it acc env) R s := by
  refine codeAny_of_tree ?_
  show wpAny _ _ ((compStart (dd kx vx ta ia ca tb ib cb sc ps) 1 it acc env).onRaise fun x => do noteFrame x env; standAt theWindowsPlace) _ _ s
  refine wpAny_notedAt ?_
  unfold compStart
  show wpAny _ _ (ask >>= _) _ _ s
  refine wpAny_bind <| wpAny_askSetting <| wpAny_ite ?_
  split
  · first | exact wpAny_bind (wpAny_pure (wpAny_pure ⟨rfl, h0⟩)) | exact wpAny_pure ⟨rfl, h0⟩
  · first
      | exact wpAny_bind <| wpAny_rule <| wpAny_bind <| wpAny_standAt <| wpAny_bind <| wpAny_mono h (fun jt s' h' => wpAny_pure ⟨rfl, h'⟩) fun _ _ x => x
      | (refine wpAny_bind <| wpAny_rule ?_
         show wpAny _ _ (standAt ib.pos >>= _) _ _ s
         exact wpAny_bind <| wpAny_standAt <| wpAny_bind <| wpAny_mono h (fun jt s' h' => wpAny_pure ⟨rfl, h'⟩) fun _ _ x => x)
end
/-- the reading: behind the first clause's store and tests the second source's own loop. vs: the block's names; vb: those of the second target -/
def tDd (wa : TI) (ga : TG) (ua : TT) (wb : TI) (gb : TG) (ub : TT) (tk tv : TE) (vs vb : List Nat) : TE := fun σ H Q => wa σ H fun J H1 => ∀ D, H1 D = none →
  ∃ W : Nat → Nat → Hp → Prop, (∃ m, W 0 m (upd H1 D (.dK []))) ∧ ∀ i m H, W i m H →
    (J.stop i H ∧ Q (.ref D) H) ∨
    (J.go i H ∧ ∃ Nx : Hp → Prop, (∀ H', Nx H' → ∃ m', m' < m ∧ W (i + 1) m' H') ∧
      ∀ x H', J.yld i H x H' → ga x (wipe σ vs) H' fun σ2 H2 => wipe σ2 vs = wipe σ vs ∧ ua σ2 H2 fun c H3 =>
        if c = true then
          wb σ2 H3 fun J1 H4 => ∃ W1 : Nat → Nat → Hp → Prop, (∃ m, W1 0 m H4) ∧ ∀ j k H, W1 j k H →
            (J1.stop j H ∧ Nx H) ∨
            (J1.go j H ∧ ∃ Ny : Hp → Prop, (∀ H', Ny H' → ∃ k', k' < k ∧ W1 (j + 1) k' H') ∧
              ∀ x H', J1.yld j H x H' → gb x (wipe σ2 vb) H' fun σ3 H5 => wipe σ3 vb = wipe σ2 vb ∧ ub σ3 H5 fun c H6 =>
                if c = true then tk σ3 H6 fun y H7 => tv σ3 H7 fun z H8 => ∃ kvs k, y = kV k ∧ H8 D = some (.dK kvs) ∧ kvs.length < sizeLine ∧ Ny (upd H8 D (.dK (putK kvs k z)))
                else Ny H6)
        else Nx H3)
section
variable {X : Cx}
/-- everywhere in a block -/
abbrev Blk (X : Cx) (sc : Scope) (F : Cx → Prop) : Prop := ∀ (s : Shared) (H : Hp) (C : Addr) (cl : List (Str × Addr)) (fp : List Addr), F (X.blk s H sc (compEnvC sc cl C X.env) fp)
theorem pe_dc2 {kx vx ta ia tb ib : Expr} {ca cb : List Expr} {sc : Scope} {own : List (Str × Nat)} {vs1 : List Nat} {ps : Pos} {wa wb : TI} {ga gb : TG} {ua ub : TT} {tk tv : TE}
    (hc : X.calm = true) (hN : X.N.Nodup) (hia : PI X ta ia wa) (ok : BlkOk X.N X.env.scope sc own) (hv : ∀ i ∈ vs1, i ∈ own.map (·.2))
    (hga : Blk X sc fun B => PG B ta ga) (hua : Blk X sc fun B => PTs B ca ua) (hib : Blk X sc fun B => PI B tb ib wb) (hgb : Blk X sc fun B => PG B tb gb) (hub : Blk X sc fun B => PTs B cb ub)
    (hk : Blk X sc fun B => PE B kx tk) (he : Blk X sc fun B => PE B vx tv) (fa : ∀ x, foldedSetIterable ia X.env x = pure x := by intro _; rfl) (fb : ∀ env x, foldedSetIterable ib env x = pure x := by intro _ _; rfl) :
    PE X (dd kx vx ta ia ca tb ib cb sc ps) (tDd wa ga ua wb gb ub tk tv (own.map (·.2)) vs1) := by
  refine ⟨fun pins s σ H Q I h => ?_⟩
  rw [arm_eval_DictComp]
  have hfree : ∀ y ∈ sc.names, y.2 = .free → ∃ c, X.env.cells.lookup y.1 = some c := fun y hy e => (ok.free y hy e).elim (fun k => I.ok.has _ (.inl k)) fun k => I.ok.has _ (.inr k)
  refine wpAny_comprehension_free rfl fa (closure_ok hfree) ok.kind (fun y hy e => by rw [ok.uniq y hy, e]) ?_
  refine thn (hia.run pins s σ H _ I h) fun xv s1 hx => thn hx fun itv s2 hh => ?_
  obtain ⟨it, fp, tn, J, H2, rfl, I2, T, st2, f2, q⟩ := hh
  refine wpAny_newObj_type (newEnv_comp ?_)
  generalize hD : s2.heap.objs.size = D
  have hDn : H2 D = none := I2.hok.fresh (Nat.le_of_eq hD)
  obtain ⟨W, ⟨m0, w0⟩, turn⟩ := q D hDn
  -- the new dict is laid
  generalize hs3 : ({ s2 with heap := s2.heap.push { cls := .type "dict", data := .dict #[] } } : Shared) = s3
  have h3 : s3.heap = s2.heap.push { cls := .type "dict", data := .dict #[] } := by rw [← hs3]
  have I3 : Inv X pins σ (upd H2 D (.dK [])) s3 := by
    rw [← hs3]
    exact I2.laid (t' := s2.toks) (fun b o e => Heap.get?_push_of_some _ e) (Nat.le_of_eq hD) (by rw [← hD]; exact dk_empty s2.heap I2.big)
  have low : ∀ b ∈ fp, b < s2.heap.objs.size := fun b hb => let ⟨_, e, _⟩ := T.obj _ _ st2 b hb; Heap.lt_size e
  have f3 : ∀ b ∈ fp, FpOk X pins (upd H2 D (.dK [])) b ∧ b < s3.heap.objs.size := fun b hb =>
    ⟨⟨by rw [upd_ne (by rw [← hD]; exact Nat.ne_of_lt (low b hb))]; exact (f2 b hb).1, (f2 b hb).2⟩, by rw [h3, Heap.size_push]; exact Nat.lt_succ_of_lt (low b hb)⟩
  have st3 : tn 0 s3.heap := T.keep _ _ _ st2 fun b _ o e => by rw [h3]; exact Heap.get?_push_of_some _ e
  have I4 := block_start I3 ok hN f3
  have qg := hga s3 (upd H2 D (.dK [])) s3.heap.objs.size (cellsFrom (s3.heap.objs.size + 1) sc.names (cloFrom X.env.cells sc.names [])) fp
  have qt := hua s3 (upd H2 D (.dK [])) s3.heap.objs.size (cellsFrom (s3.heap.objs.size + 1) sc.names (cloFrom X.env.cells sc.names [])) fp
  have qi1 := hib s3 (upd H2 D (.dK [])) s3.heap.objs.size (cellsFrom (s3.heap.objs.size + 1) sc.names (cloFrom X.env.cells sc.names [])) fp
  have qg1 := hgb s3 (upd H2 D (.dK [])) s3.heap.objs.size (cellsFrom (s3.heap.objs.size + 1) sc.names (cloFrom X.env.cells sc.names [])) fp
  have qt1 := hub s3 (upd H2 D (.dK [])) s3.heap.objs.size (cellsFrom (s3.heap.objs.size + 1) sc.names (cloFrom X.env.cells sc.names [])) fp
  have qk := hk s3 (upd H2 D (.dK [])) s3.heap.objs.size (cellsFrom (s3.heap.objs.size + 1) sc.names (cloFrom X.env.cells sc.names [])) fp
  have qe := he s3 (upd H2 D (.dK [])) s3.heap.objs.size (cellsFrom (s3.heap.objs.size + 1) sc.names (cloFrom X.env.cells sc.names [])) fp
  show codeAny _ _ (.compStart (dd kx vx ta ia ca tb ib cb sc ps) 0 (.ref it) (.ref D) (compEnvC sc (cellsFrom (s3.heap.objs.size + 1) sc.names (cloFrom X.env.cells sc.names [])) s3.heap.objs.size X.env))
    (compPost (model X.prog X.w) X.A X.xe none (EP X pins σ Q) (.ref D) s3.heap.objs.size) { s3 with heap := pushCells (s3.heap.push { cls := .type "dict", data := .dict #[] }) sc.names }
  have nfp : ∀ b ∈ fp, (upd H2 D (.dK [])) b = none := fun b hb => (f3 b hb).1.1
  generalize hce : compEnvC sc (cellsFrom (s3.heap.objs.size + 1) sc.names (cloFrom X.env.cells sc.names [])) s3.heap.objs.size X.env = ce at I4 qg qt qi1 qg1 qt1 qk qe ⊢
  have cL : ce.locals = s3.heap.objs.size := by subst hce; rfl
  generalize hH3 : upd H2 D (.dK []) = H3 at I3 I4 qg qt qi1 qg1 qt1 qk qe w0 nfp f3
  generalize hs4 : ({ s3 with heap := pushCells (s3.heap.push { cls := .type "dict", data := .dict #[] }) sc.names } : Shared) = s4 at I4 ⊢
  have st4 : tn 0 s4.heap := T.keep _ _ _ st3 fun b _ o e => by rw [← hs4]; exact pushCells_keeps _ _ _ _ (Heap.get?_push_of_some _ e)
  have stat : ∀ {σ' : L2.St} {H' : Hp} {s' : Shared}, Inv (X.blk s3 H3 sc ce fp) [] σ' H' s' → (∀ b ∈ fp, H' b = none) → ∀ b ∈ fp, FpOk (X.blk s3 H3 sc ce fp) [] H' b := fun {σ' H' s'} I' hn b hb =>
    ⟨hn b hb, (I'.ok.exf b hb).1, I'.ok.exfs b hb, .inl hb, fun x c e => (I'.ok.exf b hb).2 x c e, fun p hp => by cases (show p ∈ ([] : List (Addr × Obj)) ++ [] from hp)⟩
  have lp : codeAny (model X.prog X.w) X.A (.compLoop (dd kx vx ta ia ca tb ib cb sc ps) 0 (.ref it) (.ref D) ce) (compPost (model X.prog X.w) X.A X.xe none (EP X pins σ Q) (.ref D) s3.heap.objs.size) s4 := by
    refine dd_loop0 (fb ce) (fun n s' => ∃ i H', Inv (X.blk s3 H3 sc ce fp) [] (wipe σ (own.map (·.2))) H' s' ∧ tn i s'.heap ∧ (∀ b ∈ fp, H' b = none) ∧ W i n H') (fun n s5 hn5 => ?_) m0 ⟨0, H3, I4, st4, nfp, w0⟩
    obtain ⟨i, H5, I5, st5, n5, w5⟩ := hn5
    rcases turn i n H5 w5 with ⟨stop, qq⟩ | ⟨go, Nx, hNx, step⟩
    · refine thnF (T.done (X.blk s3 H3 sc ce fp) rfl rfl rfl hc i [] s5 _ H5 (fun _ _ => False) I5 (stat I5 n5) st5 stop) fun r s6 hr6 => ?_
      obtain ⟨rfl, I6⟩ := hr6
      have I7 : Inv X pins σ H5 s6 := I3.call' (ch := fp) I6.os I6.base I6.hok I6.bare fun b hb => let z := (f3 b hb).1; ⟨z.2.2.2.1, z.2.1, z.2.2.2.2.1, z.2.2.2.2.2⟩
      have nC : H5 s3.heap.objs.size = none := by have z : H5 ce.locals = none := I6.free; rwa [cL] at z
      obtain ⟨m, hm, _⟩ := I6.loc
      have hm : s6.heap.Ns ce.locals m := hm
      rw [cL] at hm
      refine ⟨m, hm, fun h'' sb => ?_⟩
      obtain ⟨g0, g1, g2, g3, g4, g5⟩ := I3.fpOk (Nat.le_refl _) nC
      exact ⟨.ref D, H5, I7.turned (t' := s6.toks) (fun b o hb e => (sb.2 b hb).trans e) g0 g1 g3 g4 g5, rfl, qq⟩
    · refine thnF (T.item (X.blk s3 H3 sc ce fp) rfl rfl rfl hc i [] s5 _ H5 (fun _ _ => False) I5 (stat I5 n5) st5 go) fun r s6 hr6 => ?_
      obtain ⟨u, rfl, h6⟩ := hr6
      refine thnF h6 fun _ s7 hh7 => ?_
      obtain ⟨x, H7, I7, r7, y7, st7, n7⟩ := hh7
      have I7' := I7.pinned (stat I7 n7) (T.obj _ _ st7)
      refine thnF (qg.run _ s7 _ H7 x u _ I7' r7 (step x H7 y7)) fun _ s8 hh8 => ?_
      obtain ⟨σ8, H8, I8, hw8, q8⟩ := hh8
      refine thnF (qt.run _ s8 σ8 H8 _ I8 q8) fun c s9 hh9 => ?_
      obtain ⟨H9, I9, q9⟩ := hh9
      -- where a turn of the outer loop ends
      have fin : ∀ {σ9 : L2.St} {s' : Shared} {H' : Hp}, Inv (X.blk s3 H3 sc ce fp) ([] ++ pinsAt fp s7.heap) σ9 H' s' → (wipe σ (own.map (·.2))).length = σ9.length →
          (∀ (j : Nat) v, (wipe σ (own.map (·.2)))[j]? = some (some v) → σ9[j]? = some (some v)) → Nx H' →
          ∃ m, m < n ∧ ∃ i H', Inv (X.blk s3 H3 sc ce fp) [] (wipe σ (own.map (·.2))) H' s' ∧ tn i s'.heap ∧ (∀ b ∈ fp, H' b = none) ∧ W i m H' := fun {σ9 s' H'} I' hl hk nx => by
        obtain ⟨m', hm, w'⟩ := hNx H' nx
        have pin' : ∀ b ∈ fp, ∀ o, s7.heap.get? b = some o → s'.heap.get? b = some o ∧ H' b = none := fun b hb o e =>
          let z := I'.pin (b, o) (List.mem_append_right _ (List.mem_append_right _ (mem_pinsAt hb e))); ⟨z.1, z.2.1⟩
        exact ⟨m', hm, i + 1, H', (I'.unpinned (pins := [])).weak hl hk, T.keep _ _ _ st7 fun b hb o e => (pin' b hb o e).1, fun b hb => let ⟨o, e, _⟩ := T.obj _ _ st7 b hb; (pin' b hb o e).2, w'⟩
      have hl8 : (wipe σ (own.map (·.2))).length = σ8.length := by rw [← hw8, wipe_length]
      have hk8 : ∀ (j : Nat) v, (wipe σ (own.map (·.2)))[j]? = some (some v) → σ8[j]? = some (some v) := fun j v e => by rw [← hw8] at e; exact (wipe_some e).1
      have hk9 : ∀ (j : Nat) v, (wipe σ (own.map (·.2)))[j]? = some (some v) → (wipe σ8 vs1)[j]? = some (some v) := fun j v e => by
        rw [← hw8] at e
        rw [wipe_out fun z => (wipe_some e).2 (hv j z)]
        exact (wipe_some e).1
      match c, q9 with
      | false, q9 => exact fin I9 hl8 hk8 (by simpa using q9)
      | true, q9 =>
        simp only [if_true] at q9 ⊢
        refine thnF (qi1.run _ s9 σ8 H9 _ I9 q9) fun xv s10 hx => thnF hx fun itv s11 hh => ?_
        obtain ⟨jt, fq, tm, J1, H11, rfl, I11, T1, st11, f11, W1, ⟨m1, w1⟩, turn1⟩ := hh
        have stat1 : ∀ {H' : Hp}, (∀ b ∈ fq, H' b = none) → ∀ b ∈ fq, FpOk (X.blk s3 H3 sc ce fp) ([] ++ pinsAt fp s7.heap) H' b := fun hn b hb => ⟨hn b hb, (f11 b hb).2⟩
        have lq : codeAny (model X.prog X.w) X.A (.compLoop (dd kx vx ta ia ca tb ib cb sc ps) 1 (.ref jt) (.ref D) ce) (fun r s' =>
            match r with
            | .ok _ => ∃ m, m < n ∧ ∃ i H', Inv (X.blk s3 H3 sc ce fp) [] (wipe σ (own.map (·.2))) H' s' ∧ tn i s'.heap ∧ (∀ b ∈ fp, H' b = none) ∧ W i m H'
            | .error _ => False) s11 := by
          refine dd_loop1 (fun k s' => ∃ j H', Inv (X.blk s3 H3 sc ce fp) ([] ++ pinsAt fp s7.heap) (wipe σ8 vs1) H' s' ∧ tm j s'.heap ∧ (∀ b ∈ fq, H' b = none) ∧ W1 j k H') (fun k s12 hh12 => ?_) m1
            ⟨0, H11, I11.weak (wipe_length _ _) (fun j v e => (wipe_some e).1), st11, fun b hb => (f11 b hb).1, w1⟩
          obtain ⟨j, H12, I12, st12, n12, w12⟩ := hh12
          rcases turn1 j k H12 w12 with ⟨stop1, nx1⟩ | ⟨go1, Ny, hNy, step1⟩
          · refine thnF (T1.done (X.blk s3 H3 sc ce fp) rfl rfl rfl hc j _ s12 (wipe σ8 vs1) H12 (fun _ _ => False) I12 (stat1 n12) st12 stop1) fun r s13 hr => ?_
            obtain ⟨rfl, I13⟩ := hr
            exact fin I13 (hl8.trans (wipe_length σ8 vs1).symm) hk9 nx1
          · refine thnF (T1.item (X.blk s3 H3 sc ce fp) rfl rfl rfl hc j _ s12 (wipe σ8 vs1) H12 (fun _ _ => False) I12 (stat1 n12) st12 go1) fun r s13 hr => ?_
            obtain ⟨u1, rfl, h13⟩ := hr
            refine thnF h13 fun _ s14 hh => ?_
            obtain ⟨x1, H14, I14, r14, y14, st14, n14⟩ := hh
            have I14' := I14.pinned (stat1 n14) (T1.obj _ _ st14)
            refine thnF (qg1.run _ s14 (wipe σ8 vs1) H14 x1 u1 _ I14' r14 (step1 x1 H14 y14)) fun _ s15 hh => ?_
            obtain ⟨σ15, H15, I15, hw15, q15⟩ := hh
            refine thnF (qt1.run _ s15 σ15 H15 _ I15 q15) fun c1 s16 hh => ?_
            obtain ⟨H16, I16, q16⟩ := hh
            have fin1 : ∀ {s' : Shared} {H' : Hp}, Inv (X.blk s3 H3 sc ce fp) (([] ++ pinsAt fp s7.heap) ++ pinsAt fq s14.heap) σ15 H' s' → Ny H' →
                ∃ m, m < k ∧ ∃ j H', Inv (X.blk s3 H3 sc ce fp) ([] ++ pinsAt fp s7.heap) (wipe σ8 vs1) H' s' ∧ tm j s'.heap ∧ (∀ b ∈ fq, H' b = none) ∧ W1 j m H' := fun {s' H'} I' nx => by
              obtain ⟨m', hm, w'⟩ := hNy H' nx
              have pin' : ∀ b ∈ fq, ∀ o, s14.heap.get? b = some o → s'.heap.get? b = some o ∧ H' b = none := fun b hb o e =>
                let z := I'.pin (b, o) (List.mem_append_right _ (List.mem_append_right _ (mem_pinsAt hb e))); ⟨z.1, z.2.1⟩
              exact ⟨m', hm, j + 1, H', I'.unpinned.weak (by rw [← hw15, wipe_length]) (fun j v e => by rw [← hw15] at e; exact (wipe_some e).1), T1.keep _ _ _ st14 fun b hb o e => (pin' b hb o e).1,
                fun b hb => let ⟨o, e, _⟩ := T1.obj _ _ st14 b hb; (pin' b hb o e).2, w'⟩
            match c1, q16 with
            | false, q16 => exact fin1 I16 (by simpa using q16)
            | true, q16 =>
              simp only [if_true] at q16 ⊢
              refine thnF (qk.run _ s16 σ15 H16 _ I16 q16) fun z s17 hh => ?_
              obtain ⟨yk, H17, I17, r17, q17⟩ := hh
              refine thnF (qe.run _ s17 σ15 H17 _ I17 q17) fun z2 s18 hh => ?_
              obtain ⟨yv, H18, I18, r18, kvs, k', rfl, hD18, hz18, ny⟩ := hh
              exact d_dictSet (X := X.blk s3 H3 sc ce fp) I18 hD18 hz18 r17 r18 fun s19 I19 => fin1 I19 ny
        exact dd_start1 lq (T1.self X.A 0 _ _ _ st11 lq)
  exact codeAny_compStart_dict lp (T.self X.A 0 _ _ _ st4 lp)
end
end Wc
/-! What can be obtained: rounds, the mathematics. -/
namespace Wc
/-- n follows from objects of S by another reason than a register -/
def Ob.fol (cs : List Int) (S : Int → Prop) (n : Int) : Ob → Prop
  | .rcd _ fs => some n ∈ fs
  | .weak _ t => t = some n ∧ n ∉ cs
  | .tab _ es => ∃ k, (k, n) ∈ es ∧ S k
def Fol (h : Hd) (cs : List Int) (S : Int → Prop) (n : Int) : Prop := ∃ o ∈ h.obs, S o.num ∧ o.fol cs S n
/-- obtainable within so many rounds -/
def In (h : Hd) (cs : List Int) : Nat → Int → Prop
  | 0 => fun n => some n ∈ h.regs
  | k + 1 => fun n => In h cs k n ∨ Fol h cs (In h cs k) n
def Obt (h : Hd) (cs : List Int) (n : Int) : Prop := ∃ k, In h cs k n
section
variable {h : Hd} {cs ds : List Int} {S S' : Int → Prop} {n : Int}
theorem Ob.fol_mono (hs : ∀ n, S n → S' n) {o : Ob} (x : o.fol cs S n) : o.fol cs S' n := by
  cases o with
  | rcd _ _ => exact x
  | weak _ _ => exact x
  | tab _ _ => obtain ⟨k, h1, h2⟩ := x; exact ⟨k, h1, hs k h2⟩
theorem Fol.mono (hs : ∀ n, S n → S' n) (x : Fol h cs S n) : Fol h cs S' n := by
  obtain ⟨o, h1, h2, h3⟩ := x
  exact ⟨o, h1, hs _ h2, Ob.fol_mono hs h3⟩
theorem In.succ {k : Nat} (x : In h cs k n) : In h cs (k + 1) n := .inl x
theorem In.le {k j : Nat} (hk : k ≤ j) (x : In h cs k n) : In h cs j n := by
  induction hk with
  | refl => exact x
  | step _ ih => exact .inl ih
theorem Ob.fol_in {S : List Int} {T : Int → Prop} {o : Ob} (ok : o.ok S) (x : o.fol cs T n) : n ∈ S := by
  cases o with
  | rcd m fs => exact ok.2 _ x n rfl
  | weak m t => exact ok n x.1
  | tab m es => obtain ⟨k, h1, _⟩ := x; exact (ok.2.2 _ h1).2
theorem In.num (ok : h.Ok) : ∀ {k : Nat} {n : Int}, In h cs k n → n ∈ h.nums
  | 0, n, x => ok.regs _ x n rfl
  | k + 1, n, .inl x => In.num ok x
  | k + 1, n, .inr ⟨o, ho, _, hf⟩ => Ob.fol_in (ok.obs o ho) hf
theorem Obt.num (ok : h.Ok) (x : Obt h cs n) : n ∈ h.nums := let ⟨_, y⟩ := x; In.num ok y
/-- fewer condemned, more is obtained -/
theorem Ob.fol_less (hc : ∀ n, n ∈ ds → n ∈ cs) {o : Ob} (x : o.fol cs S n) : o.fol ds S n := by
  cases o with
  | rcd _ _ => exact x
  | weak _ _ => exact ⟨x.1, fun z => x.2 (hc _ z)⟩
  | tab _ _ => exact x
theorem In.less (hc : ∀ n, n ∈ ds → n ∈ cs) : ∀ {k : Nat} {n : Int}, In h cs k n → In h ds k n
  | 0, _, x => x
  | _ + 1, _, .inl x => .inl (In.less hc x)
  | _ + 1, _, .inr ⟨o, ho, h2, h3⟩ => .inr ⟨o, ho, In.less hc h2, Ob.fol_mono (fun _ z => In.less hc z) (Ob.fol_less hc h3)⟩
theorem Obt.less (hc : ∀ n, n ∈ ds → n ∈ cs) (x : Obt h cs n) : Obt h ds n := let ⟨k, y⟩ := x; ⟨k, In.less hc y⟩
/-- what is closed has all that is obtained -/
theorem Obt.closed (h0 : ∀ n, some n ∈ h.regs → S n) (h1 : ∀ n, Fol h cs S n → S n) (x : Obt h cs n) : S n := by
  obtain ⟨k, x⟩ := x
  induction k generalizing n with
  | zero => exact h0 n x
  | succ k ih =>
    rcases x with x | x
    · exact ih x
    · exact h1 n (x.mono fun m z => ih z)
theorem Obt.reg (x : some n ∈ h.regs) : Obt h cs n := ⟨0, x⟩
theorem two {k j : Nat} {m : Int} (x : In h cs k n) (y : In h cs j m) : ∃ i, In h cs i n ∧ In h cs i m := ⟨max k j, x.le (Nat.le_max_left _ _), y.le (Nat.le_max_right _ _)⟩
theorem Obt.fol (x : Fol h cs (Obt h cs) n) : Obt h cs n := by
  obtain ⟨o, ho, ⟨k, hk⟩, hf⟩ := x
  cases o with
  | rcd m fs => exact ⟨k + 1, .inr ⟨_, ho, hk, hf⟩⟩
  | weak m t => exact ⟨k + 1, .inr ⟨_, ho, hk, hf⟩⟩
  | tab m es =>
    obtain ⟨q, h1, j, hj⟩ := hf
    obtain ⟨i, a, b⟩ := two hk hj
    exact ⟨i + 1, .inr ⟨_, ho, a, q, h1, b⟩⟩
end
/-- what an object leads to, and what follows from it -/
theorem mem_ledTo {o : Ob} {gs cs : List Int} {n : Int} : n ∈ ledTo o gs cs ↔ o.fol cs (· ∈ gs) n := by
  cases o with
  | rcd m fs => simp [ledTo, Ob.fol]
  | weak m t =>
    cases t with
    | none => simp [ledTo, Ob.fol]
    | some i =>
      show n ∈ (if i ∈ cs then [] else [i]) ↔ (some i = some n ∧ n ∉ cs)
      by_cases c : i ∈ cs
      · rw [if_pos c]
        constructor
        · intro z; cases z
        · rintro ⟨e, z⟩; exact absurd (Option.some.inj e ▸ c) z
      · rw [if_neg c]
        constructor
        · intro z
          have e : n = i := by simpa using z
          subst e; exact ⟨rfl, c⟩
        · rintro ⟨e, _⟩
          have e := Option.some.inj e
          subst e; simp
  | tab m es =>
    show n ∈ ((es.filter fun e => decide (e.1 ∈ gs)).map (·.2)) ↔ ∃ k, (k, n) ∈ es ∧ k ∈ gs
    rw [List.mem_map]
    constructor
    · rintro ⟨e, he, rfl⟩
      obtain ⟨h1, h2⟩ := List.mem_filter.mp he
      exact ⟨e.1, h1, of_decide_eq_true h2⟩
    · rintro ⟨k, h1, h2⟩
      exact ⟨(k, n), List.mem_filter.mpr ⟨h1, decide_eq_true h2⟩, rfl⟩
/-! ### rows without repetition -/
theorem nd_sub {l m : List Int} (h : l.Nodup) (s : ∀ n ∈ l, n ∈ m) : l.length ≤ m.length := by
  induction l generalizing m with
  | nil => exact Nat.zero_le _
  | cons x r ih =>
    have hx : x ∈ m := s x List.mem_cons_self
    obtain ⟨nx, nr⟩ := List.nodup_cons.mp h
    have q := ih (m := m.erase x) nr fun n hn => (List.mem_erase_of_ne (fun e => nx (by rw [← e]; exact hn))).mpr (s n (List.mem_cons_of_mem _ hn))
    rw [List.length_erase_of_mem hx] at q
    have : 0 < m.length := List.length_pos_of_mem hx
    rw [List.length_cons]
    omega
/-- two rising rows with the same members are one -/
theorem up_same : ∀ {l m : List Int}, l.Pairwise (· < ·) → m.Pairwise (· < ·) → (∀ n, n ∈ l ↔ n ∈ m) → l = m
  | [], [], _, _, _ => rfl
  | [], y :: m, _, _, h => absurd ((h y).mpr List.mem_cons_self) (by simp)
  | x :: l, [], _, _, h => absurd ((h x).mp List.mem_cons_self) (by simp)
  | x :: l, y :: m, hl, hm, h => by
    obtain ⟨hx, hl'⟩ := List.pairwise_cons.mp hl
    obtain ⟨hy, hm'⟩ := List.pairwise_cons.mp hm
    have e : x = y := by
      rcases List.mem_cons.mp ((h x).mp List.mem_cons_self) with e | e
      · exact e
      · rcases List.mem_cons.mp ((h y).mpr List.mem_cons_self) with e2 | e2
        · exact e2.symm
        · have := hx y e2
          have := hy x e
          omega
    subst e
    have hh : ∀ n, n ∈ l ↔ n ∈ m := fun n => by
      constructor
      · intro z
        rcases List.mem_cons.mp ((h n).mp (List.mem_cons_of_mem _ z)) with e | e
        · subst e; exact absurd (hx n z) (by omega)
        · exact e
      · intro z
        rcases List.mem_cons.mp ((h n).mpr (List.mem_cons_of_mem _ z)) with e | e
        · subst e; exact absurd (hy n z) (by omega)
        · exact e
    rw [up_same hl' hm' hh]
theorem up_of {l : List Int} (h : l.Pairwise (· ≤ ·)) (nd : l.Nodup) : l.Pairwise (· < ·) := by
  induction l with
  | nil => exact .nil
  | cons x r ih =>
    obtain ⟨h1, h2⟩ := List.pairwise_cons.mp h
    obtain ⟨n1, n2⟩ := List.nodup_cons.mp nd
    exact List.pairwise_cons.mpr ⟨fun y hy => by
      have := h1 y hy
      have : x ≠ y := fun e => n1 (by rw [e]; exact hy)
      omega, ih h2 n2⟩
/-! ### the rounds as they are found, one behind the other -/
structure RI (h : Hd) (cs : List Int) (d : Nat) (G : List (Int × Int)) (W : List Int) : Prop where
  ndG : (G.map (·.1)).Nodup
  ndW : W.Nodup
  mem : ∀ n, n ∈ G.map (·.1) ↔ ∃ j, j < d ∧ In h cs j n
  new : ∀ n, n ∈ W ↔ In h cs d n ∧ ¬ ∃ j, j < d ∧ In h cs j n
  val : ∀ n v, (n, v) ∈ G → ∃ k : Nat, v = k ∧ In h cs k n ∧ ∀ j, j < k → ¬ In h cs j n
structure RoundsOf (h : Hd) (cs : List Int) (G : List (Int × Int)) : Prop where
  nd : (G.map (·.1)).Nodup
  all : ∀ n, n ∈ G.map (·.1) ↔ Obt h cs n
  val : ∀ n v, (n, v) ∈ G → ∃ k : Nat, v = k ∧ In h cs k n ∧ ∀ j, j < k → ¬ In h cs j n
def addW (G : List (Int × Int)) (W : List Int) (d : Nat) : List (Int × Int) := G ++ W.map fun n => (n, (d : Int))
section
variable {h : Hd} {cs : List Int} {d : Nat} {G : List (Int × Int)} {W : List Int}
theorem addW_keys : (addW G W d).map (·.1) = G.map (·.1) ++ W := by
  unfold addW
  rw [List.map_append, List.map_map]
  congr 1
  exact List.map_id' W
theorem RI.dis (r : RI h cs d G W) {n : Int} (hn : n ∈ W) : n ∉ G.map (·.1) := fun z => ((r.new n).mp hn).2 ((r.mem n).mp z)
theorem RI.ndA (r : RI h cs d G W) : ((addW G W d).map (·.1)).Nodup := by
  rw [addW_keys]
  exact List.nodup_append.mpr ⟨r.ndG, r.ndW, fun a ha b hb e => r.dis hb (e ▸ ha)⟩
theorem RI.memA (r : RI h cs d G W) (n : Int) : n ∈ (addW G W d).map (·.1) ↔ In h cs d n := by
  rw [addW_keys, List.mem_append, r.mem, r.new]
  constructor
  · rintro (⟨j, hj, x⟩ | x)
    · exact x.le (by omega)
    · exact x.1
  · intro x
    by_cases c : ∃ j, j < d ∧ In h cs j n
    · exact .inl c
    · exact .inr ⟨x, c⟩
theorem RI.size (r : RI h cs d G W) (ok : h.Ok) : (addW G W d).length ≤ h.nums.length := by
  have q := nd_sub r.ndA fun n hn => In.num ok ((r.memA n).mp hn)
  rwa [List.length_map] at q
theorem RI.more (hw : W ≠ []) : G.length < (addW G W d).length := by
  unfold addW
  rw [List.length_append, List.length_map]
  have := List.length_pos_iff.mpr hw
  omega
/-- a round: who is asked, and what is found -/
theorem RI.step (r : RI h cs d G W) {as W' : List Int} (ha : ∀ n ∈ as, n ∈ (addW G W d).map (·.1)) (hb : ∀ n, n ∈ (addW G W d).map (·.1) → (n ∈ W ∨ ∃ m es, Ob.tab m es ∈ h.obs ∧ m = n) → n ∈ as)
    (nd : W'.Nodup) (hw : ∀ n, n ∈ W' ↔ n ∉ (addW G W d).map (·.1) ∧ ∃ o ∈ h.obs, o.num ∈ as ∧ o.fol cs (· ∈ (addW G W d).map (·.1)) n) : RI h cs (d + 1) (addW G W d) W' := by
  refine ⟨r.ndA, nd, fun n => ?_, fun n => ?_, fun n v hv => ?_⟩
  · rw [r.memA]
    exact ⟨fun x => ⟨d, by omega, x⟩, fun ⟨j, hj, x⟩ => x.le (by omega)⟩
  · rw [hw n]
    have e1 : (∃ j, j < d + 1 ∧ In h cs j n) ↔ In h cs d n := ⟨fun ⟨j, hj, x⟩ => x.le (by omega), fun x => ⟨d, by omega, x⟩⟩
    rw [e1, r.memA]
    constructor
    · rintro ⟨hn, o, ho, hoa, hf⟩
      exact ⟨.inr ⟨o, ho, (r.memA _).mp (ha _ hoa), Ob.fol_mono (fun m z => (r.memA m).mp z) hf⟩, hn⟩
    · rintro ⟨x, hn⟩
      refine ⟨hn, ?_⟩
      rcases x with x | ⟨o, ho, h1, hf⟩
      · exact absurd x hn
      · refine ⟨o, ho, ?_, Ob.fol_mono (fun m z => (r.memA m).mpr z) hf⟩
        refine hb _ ((r.memA _).mpr h1) ?_
        by_cases c : o.num ∈ W
        · exact .inl c
        · refine .inr ?_
          -- found before the last round: then n would have been found, but for a table
          have h2 : ∃ j, j < d ∧ In h cs j o.num := by
            by_cases c2 : ∃ j, j < d ∧ In h cs j o.num
            · exact c2
            · exact absurd ((r.new _).mpr ⟨h1, c2⟩) c
          obtain ⟨j, hj, x⟩ := h2
          cases o with
          | rcd m fs => exact absurd (In.le (by omega : j + 1 ≤ d) (.inr ⟨_, ho, x, hf⟩)) hn
          | weak m t => exact absurd (In.le (by omega : j + 1 ≤ d) (.inr ⟨_, ho, x, hf⟩)) hn
          | tab m es => exact ⟨m, es, ho, rfl⟩
  · rcases List.mem_append.mp hv with z | z
    · exact r.val n v z
    · obtain ⟨m, hm, e⟩ := List.mem_map.mp z
      cases e
      have q := (r.new _).mp hm
      exact ⟨d, rfl, q.1, fun j hj x => q.2 ⟨j, hj, x⟩⟩
theorem RI.first {W : List Int} (nd : W.Nodup) (hw : ∀ n, n ∈ W ↔ some n ∈ h.regs) : RI h cs 0 [] W :=
  ⟨List.nodup_nil, nd, fun n => ⟨fun z => by simp at z, fun ⟨j, hj, _⟩ => absurd hj (by omega)⟩, fun n => (hw n).trans ⟨fun z => ⟨z, fun ⟨j, hj, _⟩ => absurd hj (by omega)⟩, fun z => z.1⟩, fun n v z => by simp at z⟩
theorem RI.done (r : RI h cs d G []) : RoundsOf h cs G := by
  refine ⟨r.ndG, fun n => ⟨fun z => let ⟨j, _, x⟩ := (r.mem n).mp z; ⟨j, x⟩, fun x => ?_⟩, r.val⟩
  have stop : ∀ n, In h cs d n → ∃ j, j < d ∧ In h cs j n := fun n y => by
    by_cases c : ∃ j, j < d ∧ In h cs j n
    · exact c
    · exact absurd ((r.new n).mpr ⟨y, c⟩) (by simp)
  refine Obt.closed (S := fun n => n ∈ G.map (·.1)) (fun n z => (r.mem n).mpr (stop n (In.le (Nat.zero_le d) z))) (fun n z => ?_) x
  have hd : ∀ m, m ∈ G.map (·.1) → In h cs (d - 1) m := fun m hm => let ⟨j, hj, y⟩ := (r.mem m).mp hm; y.le (by omega)
  by_cases d0 : d = 0
  · obtain ⟨o, _, h1, _⟩ := z
    obtain ⟨j, hj, _⟩ := (r.mem _).mp h1
    omega
  · have y : In h cs (d - 1 + 1) n := .inr (z.mono hd)
    exact (r.mem n).mpr (stop n (y.le (by omega)))
end
end Wc
namespace Wc
open PySem PySem.Spec PyProof.Rows L2
/-- t.index(x): the first place, items of any flat kinds -/
def rIndexT (K : PySem.W.Frag) : V → List V → Hp → VK → Prop := fun x xs H Q => ∃ (a : Addr) (ys : List V) (y : V) (j : Nat) (z : V), x = V.ref a ∧ xs = [y] ∧ SqT K H a ys ∧ flatV y = true ∧ ys.all flatV = true ∧ ys[j]? = some z ∧ eqV z y = true ∧
  (∀ (m : Nat) (z' : V), m < j → ys[m]? = some z' → eqV z' y = false) ∧ Q (.int (j : Nat)) H
theorem mt_indexT {X : Cx} : MtR X "tuple.index" (rIndexT X.K) := by
  intro pins s σ H x xs v us Q I rx rxs h
  obtain ⟨a, ys, y, j, z, rfl, rfl, hq, fy, fys, hz, hzj, hno, q⟩ := h
  cases rx
  cases rxs with
  | cons ry rt =>
    rename_i uy ut
    cases rt
    obtain ⟨its, rv, pl, hsz⟩ := I.tuple hq
    obtain ⟨⟨cls, dd, dt, sl⟩, ho, hc, n, hd⟩ := pl
    simp only at hc hd
    subst hc
    subst hd
    obtain ⟨u, hu, ru⟩ := rv.get hz
    obtain ⟨hjl, hje⟩ := List.getElem?_eq_some_iff.mp hu
    have hvl := rv.length
    have hj : j < its.toArray.size := by simpa using hjl
    refine call_meets PySem.F.slot_tuple_index ⟨_, ho, rfl⟩ PySem.F.entry_tuple_index (PySem.F.args_tuple_index_2 _ _) (TI.tuple_indexAt a its.toArray n dd sl uy (eqU y) j hj ?_ ?_)
      ⟨ho, fun u' hu' => mem_eqAt ry fy rv fys u' (by simpa using hu'), ⟨.int (j : Nat), H, I.tok _, ⟨_, rfl⟩, q⟩⟩
    · have e1 : its.toArray[j] = u := by simpa using hje
      rw [e1, eqU_of ru (flat_at fys hz)]
      exact hzj
    · intro m hm hmj
      have hml : m < its.length := by simpa using hm
      have hmy : m < ys.length := by omega
      have hy' : ys[m]? = some ys[m] := List.getElem?_eq_getElem hmy
      obtain ⟨u2, hu2, ru2⟩ := rv.get hy'
      obtain ⟨_, hme⟩ := List.getElem?_eq_some_iff.mp hu2
      have e1 : its.toArray[m] = u2 := by simpa using hme
      rw [e1, eqU_of ru2 (flat_at fys hy')]
      exact hno m _ hmj hy'
section
open PySem.Calls
theorem call_tupleZ {X : Cx} : CallR X (.type "tuple") (rTupZ X.K) := by
  intro pins s σ H xs us Q I r h
  obtain ⟨p, ys, rfl, hq, q⟩ := h
  obtain ⟨u, rfl, rx⟩ := vals1 r
  cases rx
  obtain ⟨its, r', pl, hz⟩ := I.list hq
  have hlen := r'.length
  refine call_tuple_list pl.isList (fun h' kp => ?_) (by simp only [List.size_toArray] <;> omega)
  have I1 : Inv X pins σ H { s with heap := h' } := I.kept (t' := s.toks) kp
  have I2 : Inv X pins σ (upd H h'.objs.size (.frz { cls := .type "tuple", data := .seq its.toArray } (.tup ys))) { s with heap := h'.push { cls := .type "tuple", data := .seq its.toArray } } :=
    I1.laid (t' := s.toks) (fun b o e => Heap.get?_push_of_some _ e) (Nat.le_refl _) (show ObjOk X.prog X.w _ _ _ (.frz _ (.tup ys)) from ⟨Heap.get?_push_size _ rfl, hz, its, r', IsTup.new _ _⟩)
  exact ⟨.ref h'.objs.size, _, I2, rfl, q _ _ (I1.hok.fresh (Nat.le_refl _)) rfl⟩
/-- a method of a tuple of which it is known that its object has no dict -/
def tBMZ (r : V → List V → Hp → VK → Prop) (to : TE) (t : TA) : TE := fun σ H Q => to σ H fun x H1 => (∃ p xs, x = .ref p ∧ SqZ H1 p xs) ∧ t σ H1 fun xs H2 => r x xs H2 Q
theorem pe_bmZ {X : Cx} {o e : Expr} {es : List Expr} {to : TE} {t : TA} {name : Str} {apos cpos : Pos} {id : String} {r : V → List V → Hp → VK → Prop} (pa : PlainAttrs "tuple") (slot : Slot "tuple" name id) (hty : typeOf (.builtin id) = pure (.type "method_descriptor")) (hm : MtR X id r) (ho : PE X o to) (ha : PA X (e :: es) t)
    (hbase : attributeBase o name X.env (eval o X.env) = eval o X.env := by rfl)
    (hfew : ((backTo cpos (starEach (e :: es) X.env)).all (fun x => !x.1) && (backToKw cpos (keywordEach [] X.env)).all (fun x => x.1.isSome)
      && decide ((e :: es).length + ([] : List Keyword).length + (if ([] : List Keyword).isEmpty then 0 else 1) < 30)) = true := by rfl)
    (hline : (apos.endLine == cpos.line) = true := by rfl) (hs : starEach (e :: es) X.env = (false, eval e X.env) :: starEach es X.env := by rfl) (hplain : (backTo cpos (starEach es X.env)).any (·.1) = false := by rfl) :
    PE X (.Call (.Attribute o name apos) (e :: es) [] cpos) (tBMZ r to t) := by
  refine ⟨fun pins s σ H Q I h => ?_⟩
  refine wpAny_Call_method_late hbase hfew hline rfl (thn (ho.run pins s σ H _ I h) fun v s1 ⟨x, H1, I1, r1, ty, q1⟩ => ?_)
  obtain ⟨p, xs, rfl, ob, hd, hz⟩ := ty
  cases r1
  obtain ⟨e1, _, its, _, ho2, e2, hc, _⟩ := I1.hok p _ hz
  rw [e1] at e2
  cases e2
  refine ⟨"tuple", id, pa, slot, hty, ⟨ob, e1, hc⟩, fun a e => ?_, ?_⟩
  · cases e
    exact ⟨ob, e1, hd⟩
  have hA := ha.run cpos pins s1 σ H1 _ I1 q1
  rw [hs] at hA ⊢
  refine Calls.callWith_builtin (by show (false || (backTo cpos (starEach es X.env)).any (·.1)) = false; rw [hplain] <;> rfl) (Calls.evalArgs_plain ?_)
  exact thn hA fun us s2 ⟨vs, H2, I2, r2, q2⟩ => hm pins s2 σ H2 (.ref p) vs _ us Q I2 rfl r2 q2
end
/-- the first place of a number among numbers and None -/
def ixR (rs : List Rf) (n : Int) : Nat := rs.findIdx (· == some n)
theorem flat_rfs (rs : List Rf) : (rs.map rV).all flatV = true := by
  rw [List.all_eq_true]
  intro x hx
  obtain ⟨r, _, rfl⟩ := List.mem_map.mp hx
  cases r <;> rfl
theorem eqV_rf (r : Rf) (n : Int) : eqV (rV r) (.int n) = (r == some n) := by
  cases r with
  | none => rfl
  | some i =>
    show (i == n) = (some i == some n)
    by_cases e : i = n
    · subst e; simp
    · simp [e]
theorem inV_rf (n : Int) (rs : List Rf) : inV (.int n) (rs.map rV) = decide (some n ∈ rs) := by
  induction rs with
  | nil => rfl
  | cons k r ih =>
    show (eqV (rV k) (.int n) || inV (.int n) (r.map rV)) = _
    rw [ih, eqV_rf]
    by_cases e : k = some n
    · subst e; simp
    · have e3 : ¬ some n = k := fun z => e z.symm
      simp [e, e3]
theorem indexT_ok {K : PySem.W.Frag} {H : Hp} {a : Addr} {rs : List Rf} {n : Int} {Q : VK} (h : SqT K H a (rs.map rV)) (m : some n ∈ rs) (q : Q (.int (ixR rs n : Nat)) H) : rIndexT K (.ref a) [.int n] H Q := by
  have hl : ixR rs n < rs.length := List.findIdx_lt_length_of_exists ⟨_, m, by simp⟩
  refine ⟨a, _, .int n, ixR rs n, rV rs[ixR rs n], rfl, rfl, h, rfl, flat_rfs rs, ?_, ?_, ?_, q⟩
  · rw [List.getElem?_map, List.getElem?_eq_getElem hl]; rfl
  · rw [eqV_rf]; exact List.findIdx_getElem (p := (· == some n)) (w := hl)
  · intro k z' hk hz'
    have hkl : k < rs.length := Nat.lt_trans hk hl
    rw [List.getElem?_map, List.getElem?_eq_getElem hkl] at hz'
    obtain rfl : rV rs[k] = z' := Option.some.inj hz'
    rw [eqV_rf]
    exact List.not_of_lt_findIdx (p := (· == some n)) hk
end Wc
/-! sorted(d, key=lambda x: (ranks[x], x)) over a dict of numbers. -/
namespace Wc
open PySem PySem.Spec PyProof.Rows L2
/-- one call of the key: a new pair, all else as it was -/
theorem lam_key {P : Program} {w : World} {A : Around} {s : Shared} {f c' : Addr} {pm ctv : Value} {params : Arguments} {scope : Scope} {cl : List (Str × Addr)} {pn dn qual : Str} {p1 p2 p3 p4 p5 : Pos} {k0 : Nat} {g cell : Addr} {vs : List (Key × Value)} {v zv : Value} {k z : Int}
    (hroom : A.depth < recursionLimit) (lim : s.heap.NoLimit)
    (hf : s.heap.get? f = some (PySem.W.kla_obj "<lambda>" qual params (.Tuple [.Subscript (.Name dn p1) (.Name pn p2) p3, .Name pn p4] k0 p5) scope cl pm c' ctv))
    (hcd : s.heap.CodeRec (.ref c') qual) (kind : scope.kind = .function) (co : scope.isCoroutine = false) (gen : scope.isGenerator = false) (nocell : ∀ y ∈ scope.names, y.2 ≠ .cell)
    (hpn : scope.names.lookup pn = some .local) (hdn : scope.names.lookup dn = some .free)
    (d1 : (pn == ("__debug__" : Str)) = false) (d2 : (dn == ("__debug__" : Str)) = false) (d3 : (dn == ("__classdict__" : Str)) = false)
    (hbind : ∀ u, bindArgs (PySem.W.kla_fn "<lambda>" qual params (.Tuple [.Subscript (.Name dn p1) (.Name pn p2) p3, .Name pn p4] k0 p5) scope cl pm (.ref c') ctv) ⟨[u], []⟩ = pure [(pn, u)])
    (hcell : cl.lookup dn = some cell) (hIs : s.heap.IsCell cell (some (.ref g))) (dd : s.heap.DictOf (mixKind P w) g vs) (hval : valueAt vs (Sum.inl k) = some zv) (hz : RelV (.int z) zv) (hv : RelV (.int k) v) :
    wpAny (model P w) A (call (.ref f) [v]) (PySem.W.KeyPure (.tuple [.int z, .int k]) s) (fun _ _ => False) s := by
  obtain ⟨tz, rfl⟩ := hz
  obtain ⟨tv, rfl⟩ := hv
  have rc : codeAny (model P w) A (.call (.ref f) ⟨[.int k tv], []⟩) (fun r s' => match r with
      | .ok (.ret u) => PySem.W.KeyPure (.tuple [.int z, .int k]) s u s'
      | _ => False) s := by
    refine PySem.W.kla_callFunE hroom hf rfl co gen rfl hcd ?_
    rw [hbind]
    refine wpAny_pure (wpAny_newFunctionEnv nocell (fun y hy => ?_) (fun h1 hns hsb => ⟨lim.fresh _ hsb, ?_⟩) kind)
    · obtain ⟨n, u⟩ := y
      have e : (n, u) = (pn, Value.int k tv) := by simpa using hy
      cases e
      exact hpn
    have kp : ∀ b o, s.heap.get? b = some o → h1.get? b = some o := fun b o e => hsb.extBut b o (Nat.ne_of_lt (Heap.lt_size e)) (Heap.get?_push_of_some _ e)
    show codeAny _ _ (.expr _ (PySem.W.envX qual scope s.heap.objs.size f (.ref c') cl)) _ _
    refine PySem.W.kla_codeExpr ?_
    refine wpAny_Tuple_spliced ?_
    show wpAny _ _ (spliced ((false, eval (.Subscript (.Name dn p1) (.Name pn p2) p3) (PySem.W.envX qual scope s.heap.objs.size f (.ref c') cl)) :: backTo p5 (starEach [.Name pn p4] (PySem.W.envX qual scope s.heap.objs.size f (.ref c') cl)))) _ _ _
    refine Calls.spliced_cons ?_
    refine subD_of PySem.F.slot_dict_getitem.lookup (fun _ _ => rfl) ?_
    have dd1 : h1.DictOf (mixKind P w) g vs := by
      obtain ⟨o, es, ep, e, r⟩ := dd
      exact ⟨o, es, ep, kp _ _ e, r⟩
    refine wpAny_Name (wpAny_loadName_free kind hdn hcell (by obtain ⟨o, e, r⟩ := hIs; exact ⟨o, kp _ _ e, r⟩) ?_ d3) d2
    refine wpAny_Name (wpAny_loadName_local kind hpn hns (v := Value.int k tv) (by simp) ?_) d1
    refine ⟨dd1.typeIs, ?_⟩
    refine wpAny_getItem_of (kV_is (k := Sum.inl k) ⟨tv, rfl⟩) dd1.mapOf hval ?_
    show wpAny _ _ (spliced ((false, eval (.Name pn p4) (PySem.W.envX qual scope s.heap.objs.size f (.ref c') cl)) :: backTo p5 (starEach [] (PySem.W.envX qual scope s.heap.objs.size f (.ref c') cl)))) _ _ _
    refine Calls.spliced_cons ?_
    refine wpAny_Name (wpAny_loadName_local kind hpn hns (v := Value.int k tv) (by simp) ?_) d1
    refine Calls.spliced_nil ⟨by show 2 ≤ sizeLine; decide, ?_⟩
    refine ⟨_, _, rfl, fun b o e => Heap.get?_push_of_some _ (kp b o e), ?_⟩
    exact .tuple (Heap.get?_push_size _ rfl) rfl rfl (.cons (.int z _) (.cons (.int k _) .nil))
  refine wpAny_call (codeAny_mono rc fun r s' hq => ?_)
  match r, hq with
  | .ok (.ret u), hq => exact hq
end Wc
namespace Wc
open PySem PySem.Spec PyProof.Rows L2
/-- by rank, then by number -/
abbrev rkLe (rk : Int → Int) : Int → Int → Bool := fun p q => decide (rk p < rk q ∨ (rk p = rk q ∧ p ≤ q))
theorem vals_of_each {vs : List Value} {ns : List Int} (h : PySem.W.EachIs (fun v n => RelV (V.int n) v) vs ns) : Vals (ns.map V.int) vs := by
  induction h with
  | nil => exact .nil
  | cons r _ ih => exact .cons r ih
theorem sortLam_run {X : Cx} {pins : List (Addr × Obj)} {σ : L2.St} {H : Hp} {s : Shared} {d f : Addr} {kvs : List (Key × V)} {ks : List Int} {rk : Int → Int} {Q : VK} {E : Value → Shared → Prop}
    (I : Inv X pins σ H s) (hcalm : X.calm = true) (hd : Rd H d (.dK kvs)) (hks : kvs.map (·.1) = ks.map Sum.inl) (hz : ks.length ≤ 1000) (hu : X.A.units + 20 < cLine)
    (turn : ∀ (v : Value) (n : Int), RelV (.int n) v → n ∈ ks → ∀ (h : Heap) (tk : Nat), (∀ b o, s.heap.get? b = some o → h.get? b = some o) →
      wpAny (model X.prog X.w) X.A.in1.in1 (call (.ref f) [v]) (PySem.W.KeyPure (.tuple [.int (rk n), .int n]) { s with heap := h, toks := tk }) (fun _ _ => False) { s with heap := h, toks := tk })
    (q : ∀ p, H p = none → Q (.ref p) (upd H p (.lst ((ks.mergeSort (rkLe rk)).map V.int)))) :
    wpAny (model X.prog X.w) X.A (call (.builtin "sorted") [.ref d] [(Str.ofString "key", .ref f)]) (EP X pins σ Q) E s := by
  obtain ⟨z, lo, vs, rel, dd⟩ := dk_rd I.hok hd
  obtain ⟨ep, hat⟩ := dd.dictAt
  have hkeys : vs.map (·.1) = ks.map Sum.inl := rel.keys.symm.trans hks
  have hl : vs.length = ks.length := by
    have e := congrArg List.length hkeys
    rwa [List.length_map, List.length_map] at e
  have h16 : vs.length ≤ sizeLine := by rw [hl]; exact Nat.le_trans hz (by decide)
  refine call_function_entry_kw PyProof.Rows.kind_sorted PyProof.Rows.plain_sorted PyProof.Rows.entry_sorted (ksk_s1 _ _) ?_
  unfold Builtin.«sorted»
  refine wpAny_bind (m := checkCount "sorted" 1 1 _) (wpAny_pure ?_)
  refine wpAny_bind (PySem.W.kdu_collect (A := X.A.in1) (PySem.W.kdl_dict (knd := mixKind X.prog X.w) (kvs := vs) (ep := ep) lo) (I.ok.hd hcalm) hat h16 fun h1 tk acc hk hacc => ?_)
  have hal : acc.toList.length = ks.length := by rw [Array.length_toList, hacc.1, hl]
  have each : PySem.W.EachIs (fun v n => RelV (V.int n) v) acc.toList ks := by
    have get : ∀ (j : Nat) v, acc.toList[j]? = some v → ∃ n, ks[j]? = some n ∧ RelV (V.int n) v := fun j v e => by
      obtain ⟨k, x, e1, e2⟩ := hacc.2 j v (by rw [← Array.getElem?_toList]; exact e)
      have e3 : (vs.map (·.1))[j]? = some k := by rw [List.getElem?_map, e1]; rfl
      rw [hkeys, List.getElem?_map] at e3
      cases e4 : ks[j]? with
      | none => rw [e4] at e3; cases e3
      | some y =>
        rw [e4] at e3
        have e5 : Sum.inl y = k := Option.some.inj e3
        subst e5
        rcases keyIs_shape (show keyIs (Sum.inl y) v = true from e2) with ⟨i, t, ek, ev⟩ | ⟨z, t, ek, ev⟩
        · cases ek
          exact ⟨y, rfl, t, ev⟩
        · cases ek
    have go : ∀ (as : List Value) (bs : List Int), as.length = bs.length → (∀ (j : Nat) v, as[j]? = some v → ∃ n, bs[j]? = some n ∧ RelV (V.int n) v) → PySem.W.EachIs (fun v n => RelV (V.int n) v) as bs := by
      intro as
      induction as with
      | nil =>
        intro bs hl _
        cases bs with
        | nil => exact .nil
        | cons b r => simp at hl
      | cons a r ih =>
        intro bs hl hg
        cases bs with
        | nil => simp at hl
        | cons b t =>
          obtain ⟨n, e, rn⟩ := hg 0 a rfl
          have e : b = n := by simpa using e
          subst e
          exact .cons rn (ih t (by simpa using hl) fun j v e => by simpa using hg (j + 1) v (by simpa using e))
    exact go _ _ hal get
  have I1 : Inv X pins σ H { s with heap := h1, toks := tk } := I.kept hk
  have zl : acc.toList.length ≤ sizeLine := by rw [hal]; exact Nat.le_trans hz (by decide)
  refine wpAny_bind (wpAny_newList ?_ zl)
  have hoL : (h1.push (seqObj "list" acc.toList.toArray 0)).get? h1.objs.size = some (seqObj "list" acc.toList.toArray 0) := Heap.get?_push_size _ rfl
  show wpAny _ _ _ _ _ { s with heap := h1.push (seqObj "list" acc.toList.toArray 0), toks := tk }
  have hal2 : PySem.W.AllAlike (ks.map fun n => PyData.tuple [.int (rk n), .int n]) := by
    intro a ha b hb
    obtain ⟨_, _, rfl⟩ := List.mem_map.mp ha
    obtain ⟨_, _, rfl⟩ := List.mem_map.mp hb
    rfl
  have hsk : PySem.W.Sortable (ks.map fun n => PyData.tuple [.int (rk n), .int n]) := .inl fun a ha => by
    obtain ⟨_, _, rfl⟩ := List.mem_map.mp ha
    exact ⟨_, _, rfl⟩
  refine wpAny_bind (wpAny_holding (wpAny_call_entry_kw PyProof.Rows.slot_list_sort ⟨_, hoL, rfl⟩ PyProof.Rows.entry_list_sort ?_ (ksk_l1 _ _)))
  show wpAny _ _ (PySem.Builtin.«list.sort» ⟨[.ref h1.objs.size], [(Str.ofString "key", .ref f)]⟩) _ _ _
  rw [ksk_t1]
  refine PySem.W.keyH_tree (kz := ks.map fun n => PyData.tuple [.int (rk n), .int n]) (s := { s with heap := h1.push (seqObj "list" acc.toList.toArray 0), toks := tk }) hoL (by rw [List.length_map, hal]) zl hal2 hsk (fun a ha => ?_)
    (PySem.W.keyH_turns each fun v x hR hx h tk' kp => ?_) fun h2 tk2 out c kp hD ko => ?_
  · obtain ⟨_, _, rfl⟩ := List.mem_map.mp ha
    show X.A.units + 1 + 1 + _ < cLine
    have e : ∀ (a b : Int), (PyData.tuple [.int a, .int b]).depth ≤ 4 := fun a b => by simp [PyData.depth, PyData.depthAll]
    have := e (rk ‹Int›) ‹Int›
    omega
  · refine turn v x hR hx h tk' fun b o e => ?_
    exact kp b o (Nat.ne_of_lt (Heap.lt_size (hk b o e))) (Heap.get?_push_of_some _ (hk b o e))
  · have eo := PySem.W.keyedOut_each (fun n => PyData.tuple [.int (rk n), .int n]) ko each
    rw [PySem.W.dataLe_ii] at eo
    have vo := vals_of_each eo
    have hlen : ((ks.mergeSort (rkLe rk)).map V.int).length ≤ sizeLine := by
      rw [List.length_map, List.length_mergeSort]
      exact Nat.le_trans hz (by decide)
    refine ⟨_, rfl, ?_⟩
    refine wpAny_pure ⟨_, rfl, .ref h1.objs.size, upd H h1.objs.size (.lst ((ks.mergeSort (rkLe rk)).map V.int)), I1.laid (t' := tk2) (fun b u e => ?_) (Nat.le_refl _)
      (show ObjOk X.prog X.w _ _ _ (.lst _) from ⟨hlen, out, c, vo, hD⟩), rfl, q _ (I1.hok.fresh (Nat.le_refl _))⟩
    exact kp b u (Nat.ne_of_lt (Heap.lt_size e)) (Heap.get?_push_of_some _ e)
end Wc
namespace Wc
open PySem PySem.Spec PyProof.Rows L2 LamX NdefX
/-- sorted(a, key=lambda x: (ranks[x], x)): ranks in the slot jd -/
def SortRest (T : List (Addr × Str)) (jd : Nat) (σ : L2.St) (Q : VK) (x : V) (H1 : Hp) : Prop := Tabs T H1 ∧ ∃ (d g : Addr) (kvs dvs : List (Key × V)) (ks : List Int) (rk : Int → Int),
  x = .ref d ∧ H1 d = some (.dK kvs) ∧ kvs.map (·.1) = ks.map Sum.inl ∧ ks.length ≤ 1000 ∧ σ[jd]? = some (some (.ref g)) ∧ H1 g = some (.dK dvs) ∧ (∀ n ∈ ks, valV dvs (Sum.inl n) = some (.int (rk n))) ∧
  ∀ H2 p, ExtN H1 H2 → Tabs T H2 → H2 p = none → Q (.ref p) (upd H2 p (.lst ((ks.mergeSort (rkLe rk)).map V.int)))
def tSortLam (T : List (Addr × Str)) (jd : Nat) (ta : TE) : TE := fun σ H Q => ta σ H (SortRest T jd σ Q)
def oneOf (R : V → Hp → Prop) : List V → Hp → Prop := fun vs H => match vs with
  | [x] => R x H
  | _ => False
theorem pe_sortLam {X : Cx} {T : List (Addr × Str)} {c Pa : Addr} {a : Expr} {ta : TE} {params : Arguments} {scope : Scope} {pn dn : Str} {p p1 p2 p3 p4 p5 lpos kpos pos : Pos} {k0 jd : Nat}
    (hcalm : X.calm = true) (hr : Room 4 X.A) (TB : TabB X.base X.mg c Pa) (hcode : X.env.code = .ref c) (hm : (Pa, X.env.qual ++ "<lambda>") ∈ T) (hu : ∀ p ∈ T, p.1 = Pa → p.2 = X.env.qual ++ "<lambda>")
    (hdef : defaultsOf params X.env = ([], []))
    (kind : scope.kind = .function) (co : scope.isCoroutine = false) (gen : scope.isGenerator = false) (nocell : ∀ y ∈ scope.names, y.2 ≠ .cell) (hpn : scope.names.lookup pn = some .local) (hdn : scope.names.lookup dn = some .free)
    (hfr : ∀ y ∈ scope.names, y.2 = .free → X.env.scope.names.lookup y.1 = some .cell) (hN : X.N[jd]? = some dn)
    (d1 : (pn == ("__debug__" : Str)) = false) (d2 : (dn == ("__debug__" : Str)) = false) (d3 : (dn == ("__classdict__" : Str)) = false)
    (hbind : ∀ (cl : List (Str × Addr)) (pm cdv ctv u : Value), bindArgs (PySem.W.kla_fn "<lambda>" (X.env.qual ++ "<lambda>") params (.Tuple [.Subscript (.Name dn p1) (.Name pn p2) p3, .Name pn p4] k0 p5) scope cl pm cdv ctv) ⟨[u], []⟩ = pure [(pn, u)])
    (hg : Gl X "sorted") (hmg : X.mg "sorted" = none) (ha : PE X a ta)
    (hse : starEach [a] X.env = (false, eval a X.env) :: starEach [] X.env := by rfl) (he : backTo pos (starEach [a] X.env) = (false, eval a X.env) :: backTo pos (starEach [] X.env) := by rfl) (hpl : (backTo pos (starEach [a] X.env)).any (·.1) = false := by rfl) :
    PE X (.Call (.Name "sorted" p) [a] [⟨some "key", .Lambda params (.Tuple [.Subscript (.Name dn p1) (.Name pn p2) p3, .Name pn p4] k0 p5) scope lpos, kpos⟩] pos) (tSortLam T jd ta) := by
  refine ⟨fun pins s σ H Q I h => ?_⟩
  have hboot : bootBuiltins "sorted" = some (.builtin "sorted") := by decide +kernel
  refine wpAny_Call_Name_kw (ld_blt I hg hmg hboot ?_)
  have h0 : tCons ta tNil σ H (oneOf (SortRest T jd σ Q)) := h
  refine PyProof.Rows.callWith_kw (thn ((pa_cons ha pa_nil hse).run pos pins s σ H _ I h0) fun us s1 hh => ?_) he hpl (by rfl) (by rfl)
  obtain ⟨vs, H1, I1, r1, hh⟩ := hh
  obtain ⟨x, rfl⟩ : ∃ x, vs = [x] := by
    match vs, hh with
    | [x], _ => exact ⟨x, rfl⟩
  obtain ⟨hT, d, g, kvs, dvs, ks, rk, rfl, hd, hks, hz, hs, hgd, hrk, q⟩ : SortRest T jd σ Q x H1 := hh
  cases r1 with
  | cons rx rr =>
  cases rr
  have ed := rx
  cases ed
  have hfree : ∀ y ∈ scope.names, y.2 = .free → ∃ c, X.env.cells.lookup y.1 = some c := fun y hy e => I.ok.has _ (.inl (hfr y hy e))
  show wpAny _ _ (evalAll [do let v ← eval (.Lambda params (.Tuple [.Subscript (.Name dn p1) (.Name pn p2) p3, .Name pn p4] k0 p5) scope lpos) X.env; standAt pos; pure v]) _ _ s1
  refine wpAny_evalAll_cons (wpAny_bind (lam_make2 I1 TB hcode hm hu hT hdef hfree fun f c' pm ctv H2 s2 I2 ex tb hf hfn hfrs hco => wpAny_bind (wpAny_standAt (wpAny_pure ?_))))
  refine wpAny_evalAll_nil ?_
  show wpAny _ _ (call (.builtin "sorted") [.ref d] [(Str.ofString "key", .ref f)]) _ _ s2
  have hd2 : H2 d = some (.dK kvs) := ex d _ hd (fun _ z => nomatch z)
  have hg2 : H2 g = some (.dK dvs) := ex g _ hgd (fun _ z => nomatch z)
  -- what the lambda has captured
  obtain ⟨m, hn, hl⟩ := id I2.loc
  have hcl : X.env.scope.names.lookup dn = some .cell := hfr (dn, .free) (PySem.mem_of_lookup hdn) rfl
  obtain ⟨ug, rg, lk⟩ := hl jd dn (.ref g) hN hs (.inr (.inl hcl))
  have erg : ug = Value.ref g := rg
  subst erg
  obtain ⟨cell, hcell, hIs⟩ : ∃ cell, X.env.cells.lookup dn = some cell ∧ s2.heap.IsCell cell (some (.ref g)) := by
    rcases lk with ⟨k, _⟩ | ⟨_, cc, e, z⟩
    · have k' : X.env.scope.names.lookup dn = some .local := k
      rw [hcl] at k'; cases k'
    · exact ⟨cc, e, z⟩
  have hcell2 : (cloFrom X.env.cells scope.names []).lookup dn = some cell := clo_has hfree (PySem.mem_of_lookup hdn) hcell
  obtain ⟨zz, lo, vg, rel, dd⟩ := dk_of I2.hok hg2
  obtain ⟨cd, oc, cvs, ct, ec, hoc, hdc, hvc⟩ := codeO_at I2.hok hco
  refine sortLam_run (ks := ks) (rk := rk) I2 hcalm (.inl hd2) hks hz (by have := hr.un; omega) (fun v n rv hn' h tk kp => ?_) fun p hp => q H2 p ex tb hp
  have hroom : X.A.in1.in1.depth < recursionLimit := by
    have := hr.dp
    show X.A.depth < recursionLimit
    omega
  obtain ⟨zv, hzv, rz⟩ := RelO.some_of (v := .int (rk n)) (o := valueAt vg (Sum.inl n)) (by rw [← hrk n hn']; exact rel.val _)
  have dd' : h.DictOf (mixKind X.prog X.w) g vg := by
    obtain ⟨o, es, ep, e, r⟩ := dd
    exact ⟨o, es, ep, kp _ _ e, r⟩
  have hIs' : h.IsCell cell (some (.ref g)) := by
    obtain ⟨o, e, r⟩ := hIs
    exact ⟨o, kp _ _ e, r⟩
  exact lam_key (s := { s2 with heap := h, toks := tk }) hroom (I2.nolimit.keeps kp) (kp _ _ hf) ⟨cd, oc, cvs, ct, ec, kp _ _ hoc, hdc, hvc⟩ kind co gen nocell hpn hdn d1 d2 d3 (hbind _ _ _ _) hcell2 hIs' dd' hzv rz rv
end Wc
namespace Wc
open PySem PySem.Spec PyProof.Rows L2 LamX
/-! ### a def of a program whose head tells its facts by a Hook -/
/-- the def's code object and its table, as K tells them -/
structure LamAt (K : PySem.W.Frag) (base : PySem.Heap) (mg : Str → Option Value) (x : Str) (cd : Value) : Prop where
  code : cd = .ref (He.cT K (x, none)).1
  tb : TabB base mg (He.cT K (x, none)).1 (He.cT K (x, none)).2
theorem FunD.df {K : PySem.W.Frag} {x : Str} {st : Stmt} {p : Str × Option Str} {fd : FuncData} (F : FunD K x x (defArgs st) (defBody st) (defScope st) [] [] (He.fAd K p) fd) :
    ∃ cd, Df K x st (He.fAd K p) fd cd ∧ cd = .ref (He.cT K p).1 := by
  obtain ⟨oc, od, dV, kV, doc, pm, an, cdv, ct, osl, rfl, lk, hcd, _, _⟩ := F.ex
  obtain ⟨c, rfl⟩ := He.codeIn_ref hcd
  refine ⟨.ref c, Df.of lk hcd, ?_⟩
  show Value.ref c = .ref (He.codeOf K p)
  rw [He.codeOf_eq lk rfl]
end Wc
/-! Derivations: reasons, ranks, steps; the mathematics. -/
namespace Wc
open PySem L2
/-! ### reasons -/
inductive Rs where
  | reg (k : Nat)
  | fld (n : Int) (k : Nat)
  | ent (n key : Int)
  | drf (n : Int)
def Rs.row : Rs → List V
  | .reg k => [.str "register", .int (k : Nat)]
  | .fld n k => [.str "field", .int n, .int (k : Nat)]
  | .ent n key => [.str "entry", .int n, .int key]
  | .drf n => [.str "deref", .int n]
def Rs.dt : Rs → Dt
  | .reg k => .tup [.str "register", .int (k : Nat)]
  | .fld n k => .tup [.str "field", .int n, .int (k : Nat)]
  | .ent n key => .tup [.str "entry", .int n, .int key]
  | .drf n => .tup [.str "deref", .int n]
def Rs.names : Rs → List Int
  | .reg _ => []
  | .fld n _ => [n]
  | .ent n key => [n, key]
  | .drf n => [n]
theorem Rs.names_len (r : Rs) : r.names.length ≤ 2 := by cases r <;> simp [Rs.names]
def RsAt (K : PySem.W.Frag) (H : Hp) (a : Addr) (r : Rs) : Prop := SqT K H a r.row
theorem RsAt.mono {K : PySem.W.Frag} {H H' : Hp} {a : Addr} {r : Rs} (t : Tk K H H') (h : RsAt K H a r) : RsAt K H' a r := t _ _ h
theorem RsAt.is {K : PySem.W.Frag} {H : Hp} {a : Addr} {r : Rs} (h : RsAt K H a r) : Is K H r.dt (.ref a) := by
  cases r with
  | reg k => exact ⟨a, _, rfl, h, _, _, rfl, rfl, _, _, rfl, rfl, rfl⟩
  | fld n k => exact ⟨a, _, rfl, h, _, _, rfl, rfl, _, _, rfl, rfl, _, _, rfl, rfl, rfl⟩
  | ent n k => exact ⟨a, _, rfl, h, _, _, rfl, rfl, _, _, rfl, rfl, _, _, rfl, rfl, rfl⟩
  | drf n => exact ⟨a, _, rfl, h, _, _, rfl, rfl, _, _, rfl, rfl, rfl⟩
/-- None, or a reason -/
def RsV (K : PySem.W.Frag) (H : Hp) (r : Option Rs) (v : V) : Prop := match r with
  | none => v = .non
  | some r => ∃ a, v = .ref a ∧ RsAt K H a r
theorem RsV.mono {K : PySem.W.Frag} {H H' : Hp} {r : Option Rs} {v : V} (t : Tk K H H') (h : RsV K H r v) : RsV K H' r v := by
  cases r with
  | none => exact h
  | some r => obtain ⟨a, e, h⟩ := h; exact ⟨a, e, RsAt.mono t h⟩
/-- the reason that this object gives, others being those of ls -/
def rsFrom (ls cs : List Int) (n : Int) : Ob → Option Rs
  | .rcd m fs => if some n ∈ fs then some (.fld m (ixR fs n)) else none
  | .weak m t => if t = some n ∧ n ∉ cs then some (.drf m) else none
  | .tab m es => ((es.filter fun e => decide (e.2 = n) && decide (e.1 ∈ ls)).head?).map fun e => .ent m e.1
def rsAll (h : Hd) (ls cs : List Int) (n : Int) : List Rs := (h.obs.filter fun o => decide (o.num ∈ ls)).filterMap (rsFrom ls cs n)
section
variable {h : Hd} {ls ms cs : List Int} {n : Int} {o : Ob} {r : Rs}
theorem rsFrom_congr (e : ∀ m, m ∈ ls ↔ m ∈ ms) (o : Ob) : rsFrom ls cs n o = rsFrom ms cs n o := by
  cases o with
  | rcd m fs => rfl
  | weak m t => rfl
  | tab m es =>
    show ((es.filter fun e => decide (e.2 = n) && decide (e.1 ∈ ls)).head?).map _ = ((es.filter fun e => decide (e.2 = n) && decide (e.1 ∈ ms)).head?).map _
    congr 3
    funext x
    rw [decide_eq_decide.mpr (e x.1)]
theorem rsAll_congr (e : ∀ m, m ∈ ls ↔ m ∈ ms) : rsAll h ls cs n = rsAll h ms cs n := by
  unfold rsAll
  have e1 : (fun o : Ob => decide (o.num ∈ ls)) = fun o => decide (o.num ∈ ms) := by
    funext o; exact decide_eq_decide.mpr (e o.num)
  have e2 : rsFrom ls cs n = rsFrom ms cs n := by funext o; exact rsFrom_congr e o
  rw [e1, e2]
/-- what a reason names -/
theorem rsFrom_names (e : rsFrom ls cs n o = some r) : ∀ m ∈ r.names, m = o.num ∨ m ∈ ls := by
  cases o with
  | rcd m fs =>
    have e : (if some n ∈ fs then some (Rs.fld m (ixR fs n)) else none) = some r := e
    split at e
    · cases e; intro k hk; have hk : k = m := by simpa [Rs.names] using hk
      exact .inl hk
    · cases e
  | weak m t =>
    have e : (if t = some n ∧ n ∉ cs then some (Rs.drf m) else none) = some r := e
    split at e
    · cases e; intro k hk; have hk : k = m := by simpa [Rs.names] using hk
      exact .inl hk
    · cases e
  | tab m es =>
    have e : ((es.filter fun e => decide (e.2 = n) && decide (e.1 ∈ ls)).head?).map (fun e => Rs.ent m e.1) = some r := e
    obtain ⟨q, hq, rfl⟩ := Option.map_eq_some_iff.mp e
    have hm := List.mem_of_head? hq
    obtain ⟨_, h2⟩ := List.mem_filter.mp hm
    have h3 := (Bool.and_eq_true_iff.mp h2).2
    intro k hk
    rcases List.mem_cons.mp (show k ∈ [m, q.1] from hk) with z | z
    · exact .inl z
    · have z : k = q.1 := by simpa using z
      subst z; exact .inr (of_decide_eq_true h3)
/-- there is one exactly if n follows -/
theorem rsFrom_some : (∃ r, rsFrom ls cs n o = some r) ↔ o.fol cs (· ∈ ls) n := by
  cases o with
  | rcd m fs =>
    show (∃ r, (if some n ∈ fs then some (Rs.fld m (ixR fs n)) else none) = some r) ↔ some n ∈ fs
    split
    · rename_i c; exact ⟨fun _ => c, fun _ => ⟨_, rfl⟩⟩
    · rename_i c; exact Iff.intro (fun ⟨_, z⟩ => nomatch z) (fun z => absurd z c)
  | weak m t =>
    show (∃ r, (if t = some n ∧ n ∉ cs then some (Rs.drf m) else none) = some r) ↔ (t = some n ∧ n ∉ cs)
    split
    · rename_i c; exact ⟨fun _ => c, fun _ => ⟨_, rfl⟩⟩
    · rename_i c; exact Iff.intro (fun ⟨_, z⟩ => nomatch z) (fun z => absurd z c)
  | tab m es =>
    show (∃ r, ((es.filter fun e => decide (e.2 = n) && decide (e.1 ∈ ls)).head?).map (fun e => Rs.ent m e.1) = some r) ↔ ∃ k, (k, n) ∈ es ∧ k ∈ ls
    constructor
    · rintro ⟨r, e⟩
      obtain ⟨q, hq, _⟩ := Option.map_eq_some_iff.mp e
      obtain ⟨h1, h2⟩ := List.mem_filter.mp (List.mem_of_head? hq)
      obtain ⟨h3, h4⟩ := Bool.and_eq_true_iff.mp h2
      have h3 := of_decide_eq_true h3
      refine ⟨q.1, ?_, of_decide_eq_true h4⟩
      rw [← h3]; exact h1
    · rintro ⟨k, h1, h2⟩
      have hm : (k, n) ∈ es.filter fun e => decide (e.2 = n) && decide (e.1 ∈ ls) := List.mem_filter.mpr ⟨h1, by simp [h2]⟩
      cases e : es.filter (fun e => decide (e.2 = n) && decide (e.1 ∈ ls)) with
      | nil => rw [e] at hm; cases hm
      | cons q t => exact ⟨_, rfl⟩
theorem rsAll_mem : r ∈ rsAll h ls cs n ↔ ∃ o ∈ h.obs, o.num ∈ ls ∧ rsFrom ls cs n o = some r := by
  unfold rsAll
  rw [List.mem_filterMap]
  constructor
  · rintro ⟨o, h1, h2⟩
    obtain ⟨h3, h4⟩ := List.mem_filter.mp h1
    exact ⟨o, h3, of_decide_eq_true h4, h2⟩
  · rintro ⟨o, h1, h2, h3⟩
    exact ⟨o, List.mem_filter.mpr ⟨h1, decide_eq_true h2⟩, h3⟩
theorem rsAll_some : rsAll h ls cs n ≠ [] ↔ Fol h cs (· ∈ ls) n := by
  constructor
  · intro e
    obtain ⟨r, hr⟩ := List.exists_mem_of_ne_nil _ e
    obtain ⟨o, h1, h2, h3⟩ := rsAll_mem.mp hr
    exact ⟨o, h1, h2, rsFrom_some.mp ⟨r, h3⟩⟩
  · rintro ⟨o, h1, h2, h3⟩ e
    obtain ⟨r, hr⟩ := rsFrom_some.mpr h3
    have := rsAll_mem.mpr ⟨o, h1, h2, hr⟩
    rw [e] at this; cases this
end
/-! ### ranks -/
theorem least {p : Nat → Prop} : ∀ {k : Nat}, p k → ∃ j, j ≤ k ∧ p j ∧ ∀ i, i < j → ¬ p i := by
  intro k
  induction k using Nat.strongRecOn with
  | _ k ih =>
    intro hk
    by_cases c : ∃ i, i < k ∧ p i
    · obtain ⟨i, hi, pi⟩ := c
      obtain ⟨j, h1, h2, h3⟩ := ih i hi pi
      exact ⟨j, by omega, h2, h3⟩
    · exact ⟨k, Nat.le_refl _, hk, fun i hi z => c ⟨i, hi, z⟩⟩
def Rnk (h : Hd) (cs : List Int) (k : Nat) (n : Int) : Prop := In h cs k n ∧ ∀ j, j < k → ¬ In h cs j n
open Classical in
noncomputable def rnk (h : Hd) (cs : List Int) (n : Int) : Nat := if e : ∃ k, Rnk h cs k n then choose e else 0
open Classical in
noncomputable def low (h : Hd) (cs : List Int) (k : Nat) : List Int := h.nums.filter fun m => decide (In h cs k m)
/-- the first reason of n, by its rank -/
noncomputable def bst (h : Hd) (cs : List Int) (n : Int) : Rs := match rnk h cs n with
  | 0 => .reg (ixR h.regs n)
  | k + 1 => ((rsAll h (low h cs k) cs n).head?).getD (.reg 0)
section
variable {h : Hd} {cs : List Int} {n m : Int} {k j : Nat}
theorem Rnk.uniq (a : Rnk h cs k n) (b : Rnk h cs j n) : k = j := by
  rcases Nat.lt_trichotomy k j with z | z | z
  · exact absurd a.1 (b.2 k z)
  · exact z
  · exact absurd b.1 (a.2 j z)
theorem Rnk.eq (a : Rnk h cs k n) : rnk h cs n = k := by
  unfold rnk
  have e : ∃ k, Rnk h cs k n := ⟨k, a⟩
  rw [dif_pos e]
  exact Rnk.uniq (Classical.choose_spec e) a
theorem Obt.rnk (x : Obt h cs n) : Rnk h cs (rnk h cs n) n := by
  obtain ⟨k, hk⟩ := x
  obtain ⟨j, _, h2, h3⟩ := least (p := fun k => In h cs k n) hk
  have a : Rnk h cs j n := ⟨h2, h3⟩
  rw [a.eq]; exact a
open Classical in
theorem mem_low (ok : h.Ok) : m ∈ low h cs k ↔ In h cs k m := by
  unfold low
  rw [List.mem_filter]
  refine Iff.intro (fun z => ?_) fun z => ⟨In.num ok z, ?_⟩
  · exact of_decide_eq_true z.2
  · exact decide_eq_true z
theorem rnk_le (z : In h cs k n) : rnk h cs n ≤ k := by
  have a := Obt.rnk ⟨k, z⟩
  rcases Nat.lt_or_ge k (rnk h cs n) with q | q
  · exact absurd z (a.2 k q)
  · exact q
theorem in_iff (x : Obt h cs n) : In h cs k n ↔ rnk h cs n ≤ k := ⟨rnk_le, fun q => In.le q (Obt.rnk x).1⟩
theorem bst_zero (e : rnk h cs n = 0) : bst h cs n = .reg (ixR h.regs n) := by unfold bst; rw [e]
theorem bst_succ (ok : h.Ok) (e : rnk h cs n = k + 1) {ls : List Int} (hl : ∀ m, m ∈ ls ↔ In h cs k m) {r : Rs} (hr : (rsAll h ls cs n).head? = some r) : bst h cs n = r := by
  unfold bst
  rw [e]
  show ((rsAll h (low h cs k) cs n).head?).getD (.reg 0) = r
  rw [rsAll_congr (ms := ls) fun m => (mem_low ok).trans (hl m).symm, hr]; rfl
/-- what is of a later round follows from the round before -/
theorem Rnk.fol (a : Rnk h cs (k + 1) n) : Fol h cs (In h cs k) n := by
  rcases a.1 with z | z
  · exact absurd z (a.2 k (by omega))
  · exact z
theorem Fol.congr {S T : Int → Prop} (e : ∀ n, S n ↔ T n) : Fol h cs S n ↔ Fol h cs T n := ⟨Fol.mono fun n z => (e n).mp z, Fol.mono fun n z => (e n).mpr z⟩
theorem rs_some (x : Obt h cs n) (e : rnk h cs n = k + 1) {ls : List Int} (hl : ∀ m, m ∈ ls ↔ In h cs k m) : ∃ r t, rsAll h ls cs n = r :: t := by
  have a := Obt.rnk x
  rw [e] at a
  have q := rsAll_some.mpr ((Fol.congr hl).mpr a.fol)
  cases z : rsAll h ls cs n with
  | nil => exact absurd z q
  | cons r t => exact ⟨r, t, rfl⟩
theorem bst_names (ok : h.Ok) (x : Obt h cs n) : ∀ m ∈ (bst h cs n).names, Obt h cs m ∧ rnk h cs m < rnk h cs n := by
  intro m hm
  cases e : rnk h cs n with
  | zero => rw [bst_zero e] at hm; cases hm
  | succ k =>
    obtain ⟨r, t, hr⟩ := rs_some x e (ls := low h cs k) fun m => mem_low ok
    have e2 := bst_succ ok e (ls := low h cs k) (fun m => mem_low ok) (by rw [hr]; rfl)
    rw [e2] at hm
    obtain ⟨o, h1, h2, h3⟩ := rsAll_mem.mp (show r ∈ rsAll h (low h cs k) cs n by rw [hr]; exact List.mem_cons_self)
    have key : In h cs k m := by
      rcases rsFrom_names h3 m hm with z | z
      · rw [z]; exact (mem_low ok).mp h2
      · exact (mem_low ok).mp z
    exact ⟨⟨k, key⟩, by have := rnk_le key; omega⟩
/-- every lower rank is somebody's: there are no more rounds than objects -/
theorem Rnk.below (a : Rnk h cs (k + 1) n) : ∃ m, Rnk h cs k m := by
  by_cases c : ∃ m, Rnk h cs k m
  · exact c
  · exfalso
    have f := a.fol
    cases k with
    | zero =>
      obtain ⟨o, h1, h2, _⟩ := f
      exact c ⟨o.num, h2, fun j hj => absurd hj (by omega)⟩
    | succ k =>
      have back : ∀ m, In h cs (k + 1) m → In h cs k m := fun m z => by
        by_cases q : In h cs k m
        · exact q
        · exact absurd ⟨m, z, fun j hj x => q (x.le (by omega))⟩ c
      exact a.2 (k + 1) (by omega) (.inr (f.mono back))
theorem rank_row (ok : h.Ok) : ∀ {k : Nat} {n : Int}, Rnk h cs k n → ∃ l : List Int, l.length = k + 1 ∧ l.Nodup ∧ ∀ m ∈ l, m ∈ h.nums ∧ ∃ j, j ≤ k ∧ Rnk h cs j m
  | 0, n, a => ⟨[n], rfl, by simp, fun m hm => by
      have e : m = n := by simpa using hm
      subst e; exact ⟨In.num ok a.1, 0, Nat.le_refl _, a⟩⟩
  | k + 1, n, a => by
    obtain ⟨m, b⟩ := a.below
    obtain ⟨l, h1, h2, h3⟩ := rank_row ok b
    refine ⟨n :: l, by rw [List.length_cons, h1], List.nodup_cons.mpr ⟨fun z => ?_, h2⟩, fun q hq => ?_⟩
    · obtain ⟨_, j, hj, c⟩ := h3 n z
      have := a.uniq c
      omega
    · rcases List.mem_cons.mp hq with e | z
      · subst e; exact ⟨In.num ok a.1, k + 1, Nat.le_refl _, a⟩
      · obtain ⟨z1, j, z2, z3⟩ := h3 q z
        exact ⟨z1, j, by omega, z3⟩
theorem rank_lt (ok : h.Ok) (x : Obt h cs n) : rnk h cs n < h.obs.length := by
  obtain ⟨l, h1, h2, h3⟩ := rank_row ok (Obt.rnk x)
  have q := nd_sub h2 fun m hm => (h3 m hm).1
  unfold Hd.nums at q
  rw [List.length_map] at q
  omega
theorem obt_in (ok : h.Ok) : Obt h cs n ↔ In h cs h.obs.length n := ⟨fun x => (in_iff x).mpr (Nat.le_of_lt (rank_lt ok x)), fun z => ⟨_, z⟩⟩
/-! ### the steps of a derivation -/
inductive Need (h : Hd) (cs : List Int) (n : Int) : Int → Prop
  | base : Need h cs n n
  | step {m k : Int} : Need h cs n m → k ∈ (bst h cs m).names → Need h cs n k
theorem Need.obt (ok : h.Ok) (x : Obt h cs n) (y : Need h cs n m) : Obt h cs m := by
  induction y with
  | base => exact x
  | step _ hk ih => exact (bst_names ok ih _ hk).1
abbrev rkLt (rk : Int → Nat) (p q : Int) : Prop := rk p < rk q ∨ (rk p = rk q ∧ p < q)
theorem rkLt.irr {rk : Int → Nat} {p : Int} : ¬ rkLt rk p p := by rintro (z | ⟨_, z⟩) <;> omega
theorem rkLt.asym {rk : Int → Nat} {p q : Int} (a : rkLt rk p q) : ¬ rkLt rk q p := by
  rintro b
  rcases a with a | ⟨a, a'⟩ <;> rcases b with b | ⟨b, b'⟩ <;> omega
structure Drv (h : Hd) (cs : List Int) (n : Int) (L : List Int) : Prop where
  up : L.Pairwise (rkLt (rnk h cs))
  mem : ∀ m, m ∈ L ↔ Need h cs n m
theorem rk_same {rk : Int → Nat} : ∀ {l m : List Int}, l.Pairwise (rkLt rk) → m.Pairwise (rkLt rk) → (∀ n, n ∈ l ↔ n ∈ m) → l = m
  | [], [], _, _, _ => rfl
  | [], y :: m, _, _, h => absurd ((h y).mpr List.mem_cons_self) (by simp)
  | x :: l, [], _, _, h => absurd ((h x).mp List.mem_cons_self) (by simp)
  | x :: l, y :: m, hl, hm, h => by
    obtain ⟨hx, hl'⟩ := List.pairwise_cons.mp hl
    obtain ⟨hy, hm'⟩ := List.pairwise_cons.mp hm
    have e : x = y := by
      rcases List.mem_cons.mp ((h x).mp List.mem_cons_self) with e | e
      · exact e
      · rcases List.mem_cons.mp ((h y).mpr List.mem_cons_self) with e2 | e2
        · exact e2.symm
        · exact absurd (hx y e2) (rkLt.asym (hy x e))
    subst e
    have hh : ∀ n, n ∈ l ↔ n ∈ m := fun n => by
      constructor
      · intro z
        rcases List.mem_cons.mp ((h n).mp (List.mem_cons_of_mem _ z)) with e | e
        · subst e; exact absurd (hx n z) rkLt.irr
        · exact e
      · intro z
        rcases List.mem_cons.mp ((h n).mpr (List.mem_cons_of_mem _ z)) with e | e
        · subst e; exact absurd (hy n z) rkLt.irr
        · exact e
    rw [rk_same hl' hm' hh]
theorem Drv.uniq {L M : List Int} (a : Drv h cs n L) (b : Drv h cs n M) : L = M := rk_same a.up b.up fun m => (a.mem m).trans (b.mem m).symm
theorem rk_of {rk : Int → Nat} {l : List Int} (h : l.Pairwise fun p q => rk p < rk q ∨ (rk p = rk q ∧ p ≤ q)) (nd : l.Nodup) : l.Pairwise (rkLt rk) := by
  induction l with
  | nil => exact .nil
  | cons x r ih =>
    obtain ⟨h1, h2⟩ := List.pairwise_cons.mp h
    obtain ⟨n1, n2⟩ := List.nodup_cons.mp nd
    exact List.pairwise_cons.mpr ⟨fun y hy => by
      have a := h1 y hy
      have b : x ≠ y := fun e => n1 (by rw [e]; exact hy)
      rcases a with a | ⟨a, a'⟩
      · exact .inl a
      · exact .inr ⟨a, by omega⟩, ih h2 n2⟩
theorem Drv.nd {L : List Int} (a : Drv h cs n L) : L.Nodup := a.up.imp fun {p q} z e => by subst e; exact rkLt.irr z
theorem Drv.len (ok : h.Ok) (x : Obt h cs n) {L : List Int} (a : Drv h cs n L) : L.length ≤ h.nums.length :=
  nd_sub a.nd fun m hm => Obt.num ok (Need.obt ok x ((a.mem m).mp hm))
/-- the steps, as data -/
noncomputable def drvDt (h : Hd) (cs : List Int) (L : List Int) : Dt := .tup (L.map fun m => .tup [.int m, (bst h cs m).dt])
end
end Wc
/-! for k, .. in enumerate(xs, start=c), xs a tuple -/
namespace Wc
open PySem PySem.Spec PyProof.Rows L2
/-- a tuple at a, each item in a new pair behind its count -/
def IteS (K : PySem.W.Frag) (a : Addr) (c : Int) : It :=
  ⟨fun i H => ∃ (xs : List V) (x : V), SqT K H a xs ∧ xs[i]? = some x, fun i H v H' => ∃ T x, v = .ref T ∧ H T = none ∧ H' = upd H T (.tup [.int (c + ((i : Nat) : Int)), x]) ∧ ∀ xs, SqT K H a xs → xs[i]? = some x, fun i H => ∃ xs : List V, SqT K H a xs ∧ xs.length ≤ i⟩
theorem enumT_end {prog : Program} {w : World} {A : Around} {E : Value → Shared → Prop} {s : Shared} {e it l : Addr} {i : Nat} {c : Int} {items : Array Value} {old : Value} {Q : Option Value → Shared → Prop} (hh : A.handled = none)
    (he : IsEnum s.heap e it c old) (hit : s.heap.IsTupleIter it l i) (hl : s.heap.IsTuple l items) (hx : items[i]? = none)
    (hQ : ∀ h', Heap.ExtBut it s.heap h' → Q none { s with heap := h' }) : wpAny (model prog w) A (pyNext (.ref e)) Q E s := by
  have hT : s.TypeIs (.ref e) "enumerate" := ⟨_, he, rfl⟩
  unfold pyNext
  refine wpAny_bind (wpAny_attempt (wpAny_callSpecial?_slot (name := Str.ofString "__next__") hT F.slot_enumerate_next
    (wpAny_call_entry F.slot_enumerate_next hT F.entry_enumerate_next ?_ (F.args_enumerate_next_1 _))))
  show wpAny _ _ (field (.ref e) 2 >>= _) _ _ _
  refine wpAny_bind (wpAny_field he rfl (x := .ref it) rfl ?_)
  refine wpAny_bind (wpAny_nextOf_tuple_end hh hit hl hx fun h' x he' hx' => ?_)
  obtain ⟨o, ho, hc⟩ := hx'
  refine wpAny_bind (wpAny_isInstance (T := "StopIteration") (b := true) ⟨o, ho, hc⟩ isSubtype_stop ?_)
  exact wpAny_pure (hQ _ he')
theorem turn_enumS {P : Program} {w : World} {K : PySem.W.Frag} {elts : List Expr} {kk : Nat} {tpos : Pos} (a e it : Addr) (c : Int) :
    Turn P w K (.Tuple elts kk tpos) (IteS K a c) [e, it] e (fun i h => (∃ old, IsEnum h e it (c + ((i : Nat) : Int)) old) ∧ h.IsTupleIter it a i ∧ e ≠ it ∧ a ≠ it ∧ e ≠ a) where
  mem := by simp
  obj := fun i h st b hb => by
    obtain ⟨⟨old, he⟩, ⟨o, ho, hc, hd⟩, _⟩ := st
    have e' : b = e ∨ b = it := by simpa using hb
    rcases e' with z | z
    · rw [z]; exact ⟨_, he, fun v q => nomatch q⟩
    · rw [z]; exact ⟨o, ho, fun v q => by rw [hd] at q; cases q⟩
  keep := fun i h h' st k => let ⟨⟨old, he⟩, hi, hne⟩ := st; ⟨⟨old, k e (by simp) _ he⟩, hi.at fun o q => k it (by simp) o q, hne⟩
  item := by
    intro X hP hw hK hc i pins s σ H E I hf st hg
    subst hP hw hK
    obtain ⟨⟨old, he⟩, hit, hne, hai, hea⟩ := st
    obtain ⟨xs, x, hq, hx⟩ := hg
    obtain ⟨its, rv, p, hz⟩ := I.tuple hq
    obtain ⟨u, hu, ru⟩ := rv.get hx
    have hel : e < s.heap.objs.size := Heap.lt_size he
    have hil : it < s.heap.objs.size := by obtain ⟨_, q, _⟩ := hit; exact Heap.lt_size q
    have hlt : i < its.toArray.size := by
      have := (List.getElem?_eq_some_iff.mp hu).1
      simpa using this
    refine wpAny_pyNext_enum_itemC (Draws.tuple (prog := X.prog) (w := X.w) (A := X.A.in1) (I.ok.hd hc) it a hai its.toArray) he ⟨hit, p⟩ hlt hne (by simp [hne, hea]) fun y h' tk hP ho st' hT hsz hk => ?_
    have ey : y = u := by
      have z : its.toArray[i]? = some y := hP
      rw [List.getElem?_toArray, hu] at z
      exact (Option.some.inj z).symm
    subst ey
    refine ⟨_, rfl, wpAny_letOwnedTupleGo_enum (s := { s with heap := h', toks := tk + 1 }) ho fun h'' he' sb => ?_⟩
    have hT2 : h''.get? s.heap.objs.size = some { cls := .type "tuple", data := .seq #[.int (c + ((i : Nat) : Int)) tk, y] } := (sb.2 _ (Nat.ne_of_gt hel)).trans hT
    have new : ObjOk X.prog X.w (upd H s.heap.objs.size (.tup [.int (c + ((i : Nat) : Int)), x])) h'' s.heap.objs.size (.tup [.int (c + ((i : Nat) : Int)), x]) :=
      ⟨by show 2 ≤ sizeLine; decide, [.int (c + ((i : Nat) : Int)) tk, y], .cons ⟨_, rfl⟩ (.cons ru .nil), ⟨_, hT2, rfl, _, rfl⟩⟩
    have I1 : Inv X pins σ (upd H s.heap.objs.size (.tup [.int (c + ((i : Nat) : Int)), x])) { s with heap := h'', toks := tk + 1 } :=
      I.turnedNew (ch := [e, it]) (fun b ob hb q => (sb.2 b (fun z => hb (by simp [z]))).trans (hk b ob (fun z => hb (by simp [z])) (fun z => hb (by simp [z])) q)) hf (Nat.le_refl _) new
    refine ⟨.ref s.heap.objs.size, _, I1, rfl, ⟨_, x, rfl, I.hok.fresh (Nat.le_refl _), rfl, fun ys hy => by rw [I.tuple_inj hy hq]; exact hx⟩, ⟨⟨y, ?_⟩, st'.1.at fun o q => (sb.2 it (Ne.symm hne)).trans q, hne, hai, hea⟩, fun b hb => ?_⟩
    · have e1 : c + ((i + 1 : Nat) : Int) = c + (i : Int) + 1 := by omega
      rw [e1]; exact he'
    · have hb' : b < s.heap.objs.size := by
        have e' : b = e ∨ b = it := by simpa using hb
        rcases e' with z | z
        · rw [z]; exact hel
        · rw [z]; exact hil
      rw [upd_ne (Nat.ne_of_lt hb')]
      exact (hf b hb).1
  done := by
    intro X hP hw hK hc i pins s σ H E I hf st hg
    subst hP hw hK
    obtain ⟨⟨old, he⟩, hit, hne, hai, hea⟩ := st
    obtain ⟨xs, hq, hx⟩ := hg
    obtain ⟨its, rv, p, hz⟩ := I.tuple hq
    obtain ⟨f0, f1, f2, f3, f4, f5⟩ := hf it (by simp)
    have hl := rv.length
    exact enumT_end (I.ok.hd hc) he hit p (by simp; omega) fun h' eb => ⟨rfl, I.turned (t' := s.toks) (fun b o hb q => eb b o hb q) f0 f1 f3 f4 f5⟩
  self := fun A i s Q E st h => let ⟨⟨_, he⟩, _⟩ := st; wpAny_pyIter_enum he h
theorem callWith_typeKw {M : Model} {A : Around} {E : Value → Shared → Prop} {s : Shared} {env : Env} {pos : Pos} {T : String} {e : Expr} {rest : List Expr} {kws : List Keyword} {Q : Value → Shared → Prop}
    (h : wpAny M A (spliced (backTo pos (starEach (e :: rest) env))) (fun vs s₁ => wpAny M A (evalAll ((backToKw pos (keywordEach kws env)).map (·.2)))
      (fun kvs s₂ => wpAny M A (call (.type T) vs (((backToKw pos (keywordEach kws env)).filterMap (·.1)).zip kvs)) Q E s₂) E s₁) E s)
    (he : backTo pos (starEach (e :: rest) env) = (false, eval e env) :: backTo pos (starEach rest env) := by rfl)
    (hplain : (backTo pos (starEach (e :: rest) env)).any (·.1) = false := by rfl)
    (hall : (backToKw pos (keywordEach kws env)).all (·.1.isSome) = true := by rfl)
    (hkw : (backToKw pos (keywordEach kws env)).any (·.1.isNone) = false := by rfl) :
    wpAny M A (callWith pos (.type T) [] (backTo pos (starEach (e :: rest) env)) (backToKw pos (keywordEach kws env))) Q E s := by
  have h2 : wpAny M A (evalArgs (.type T) true (backTo pos (starEach (e :: rest) env)) (backToKw pos (keywordEach kws env))) (fun a s₁ => wpAny M A (call (.type T) ([] ++ a.pos) a.kw) Q E s₁) E s := by
    rw [he] at h ⊢
    exact evalArgs_kwB hall h
  unfold callWith
  refine wpAny_bind (wpAny_holding (wpAny_mono h2 (fun a s₁ h₁ => wpAny_bind (wpAny_standAt ?_)) fun _ _ x => x))
  simp only [hplain, hkw, Bool.or_false]
  refine wpAny_bind (wpAny_pure ?_)
  exact wpAny_bind (wpAny_mono h₁ (fun r s₂ hr => wpAny_bind (wpAny_holding (wpAny_point (wpAny_pure hr)))) fun _ _ x => x)
def iEnumS (K : PySem.W.Frag) (ta tk : TA) : TI := fun σ H R => ta σ H fun vs H1 => tk σ H1 fun zs H2 => ∃ (a : Addr) (xs : List V) (c : Int), vs = [.ref a] ∧ zs = [.int c] ∧ SqT K H2 a xs ∧ -(2 ^ 63) ≤ c ∧ c < 2 ^ 63 ∧ R (IteS K a c) H2
theorem pi_enumS {X : Cx} {e k : Expr} {ta tk : TA} {p kp pos tpos : Pos} {elts : List Expr} {kk : Nat} (hg : Gl X "enumerate") (hm : X.mg "enumerate" = none) (ha : PA X [e] ta) (hk : PK X [⟨some "start", k, kp⟩] tk)
    (hse : backTo pos (starEach [e] X.env) = (false, eval e X.env) :: backTo pos (starEach [] X.env) := by rfl) (hpl : (backTo pos (starEach [e] X.env)).any (·.1) = false := by rfl)
    (hks : (backToKw pos (keywordEach [⟨some "start", k, kp⟩] X.env)).filterMap (·.1) = [("start" : Str)] := by rfl) :
    PI X (.Tuple elts kk tpos) (.Call (.Name "enumerate" p) [e] [⟨some "start", k, kp⟩] pos) (iEnumS X.K ta tk) := by
  refine ⟨fun pins s σ H R I h => ?_⟩
  refine wpAny_Call_Name_kw (ld_blt I hg hm boot_enumerate ?_)
  refine callWith_typeKw (thn (ha.run pos pins s σ H _ I h) fun us s1 ⟨vs, H1, I1, r1, q1⟩ => thn (hk.run pos pins s1 σ H1 _ I1 q1) fun ws s2 ⟨zs, H2, I2, r2, q2⟩ => ?_) hse hpl (by rfl) (by rfl)
  rw [hks]
  obtain ⟨a, xs, c, rfl, rfl, hq, h1, h2, q⟩ := q2
  obtain ⟨u, rfl, ru⟩ := vals1 r1
  obtain ⟨z, rfl, rz⟩ := vals1 r2
  cases ru
  obtain ⟨t, rfl⟩ := rz
  obtain ⟨its, rv, p', hz⟩ := I2.tuple hq
  refine enum_begins_start (begins_tuple a its.toArray) p' h1 h2 fun h' he hit hsz hk' => wpAny_pyIter_enum he ?_
  have I3 : Inv X pins σ H2 { s2 with heap := h' } := I2.kept (t' := s2.toks) hk'
  have hal : a < s2.heap.objs.size := by obtain ⟨o, e, _⟩ := p'; exact Heap.lt_size e
  refine ⟨s2.heap.objs.size + 1, [s2.heap.objs.size + 1, s2.heap.objs.size], _, _, H2, rfl, I3, turn_enumS a (s2.heap.objs.size + 1) s2.heap.objs.size c, ⟨⟨.none, by simpa using he⟩, ⟨_, hit, rfl, rfl⟩, Nat.succ_ne_self _, Nat.ne_of_lt hal, Nat.ne_of_gt (Nat.lt_succ_of_lt hal)⟩, fun b hb => ?_, q⟩
  have e' : b = s2.heap.objs.size + 1 ∨ b = s2.heap.objs.size := by simpa using hb
  have hle : s2.heap.objs.size ≤ b := by
    rcases e' with z | z
    · rw [z]; exact Nat.le_add_right _ _
    · rw [z]; exact Nat.le_refl _
  exact I2.fpOk hle (I2.hok.fresh hle)
def YEnS (xs : List V) (c : Int) : Nat → Hp → V → Hp → Prop := fun i H v H' => ∃ T x, v = .ref T ∧ H T = none ∧ H' = upd H T (.tup [.int (c + ((i : Nat) : Int)), x]) ∧ xs[i]? = some x
theorem walk_enumS {K : PySem.W.Frag} {a : Addr} {c : Int} {xs : List V} : Walk (IteS K a c) xs.length (fun H => SqT K H a xs) (YEnS xs c) :=
  ⟨fun i _ hi q => ⟨xs, xs[i], q, by simp [hi]⟩, fun _ q => ⟨xs, q, Nat.le_refl _⟩, fun _ _ _ _ _ q y => let ⟨T, x, h1, h2, h3, h4⟩ := y; ⟨T, x, h1, h2, h3, h4 xs q⟩⟩
end Wc
/-! a tuple, not empty, times any count from 0 on -/
namespace Wc
open PySem PySem.Spec PyProof.Rows L2
theorem tuple_mul0 (l : Addr) (items : Array Value) (n : Nat) (dd : Option Addr) (sl : Array (Option Value)) (u : Tok) (c1 : items.isEmpty = false) :
    Meets (Builtin.«tuple.__mul__» ⟨[.ref l, .int 0 u], []⟩) (fun _ R s => s.heap.get? l = some { cls := .type "tuple", dict := dd, data := .seq items n, slots := sl } ∧
      R (.ok (.ret (Value.ref s.heap.objs.size))) { s with heap := s.heap.push { cls := Value.type "tuple", data := Data.seq #[] }, toks := s.toks }) :=
  .of_wp fun prog w A R s h => by
    obtain ⟨hp, g, d, tk, os⟩ := s
    obtain ⟨hl, h⟩ := h
    have f1 := AutoSeq1.idx_int
    have c1' : (items.isEmpty || (0 : Int) == 1) = false := by rw [c1]; rfl
    wp_walk using wpAny_loadPart' hl
    repeat (first
      | (refine wpAny_ite_false (decide_eq_false (by rw [c1']; exact Bool.false_ne_true)) ?_; wp_walk using wpAny_loadPart' hl))
    all_goals exact ⟨_, rfl, h⟩
theorem tuple_mul1 (l : Addr) (items : Array Value) (n : Nat) (dd : Option Addr) (sl : Array (Option Value)) (u : Tok) :
    Meets (Builtin.«tuple.__mul__» ⟨[.ref l, .int 1 u], []⟩) (fun _ R s => s.heap.get? l = some { cls := .type "tuple", dict := dd, data := .seq items n, slots := sl } ∧ R (.ok (.ret (.ref l))) s) :=
  .of_wp fun prog w A R s h => by
    obtain ⟨hp, g, d, tk, os⟩ := s
    obtain ⟨hl, h⟩ := h
    have f1 := AutoSeq1.idx_int
    have c1' : (items.isEmpty || (1 : Int) == 1) = true := by simp
    wp_walk using wpAny_loadPart' hl
    repeat (first
      | (refine wpAny_ite_true (decide_eq_true c1') ?_; wp_walk using wpAny_loadPart' hl))
    all_goals exact ⟨_, rfl, h⟩
def rRepZ (K : PySem.W.Frag) : R2 := fun x y H Q => ∃ l k xs, x = .ref l ∧ y = .int k ∧ SqT K H l xs ∧ xs ≠ [] ∧ 0 ≤ k ∧ k ≤ 1000 ∧ xs.length ≤ 1000 ∧ (k = 1 → Q (.ref l) H) ∧ (k ≠ 1 → ∀ p, H p = none → Q (.ref p) (upd H p (.tup (List.replicate k.toNat xs).flatten)))
theorem op_repZ {X : Cx} : OpR X (binaryOp .Mult) (rRepZ X.K) := by
  intro pins s σ H x y v u Q I rx ry h
  obtain ⟨l, k, xs, rfl, rfl, hT, hne, h1, h2, hz, q1, q2⟩ := h
  by_cases c : 2 ≤ k
  · exact op_repT pins s σ H _ _ v u Q I rx ry ⟨l, k, xs, rfl, rfl, hT, hne, c, h2, hz, q2 (by omega)⟩
  cases rx
  obtain ⟨t, rfl⟩ := ry
  obtain ⟨its, r, ⟨⟨cls, dd, data, sl⟩, ho, hc, n, hd⟩, hs⟩ := I.tuple hT
  simp only at hc hd
  subst hc hd
  have hle : its.length = xs.length := r.length.symm
  have hn : its ≠ [] := fun e => hne (by
    rw [e] at hle
    exact List.eq_nil_of_length_eq_zero hle.symm)
  have hi : its.toArray.isEmpty = false := by
    cases its with
    | nil => exact absurd rfl hn
    | cons a b => rfl
  have e01 : k = 0 ∨ k = 1 := by omega
  rcases e01 with rfl | rfl
  · refine wpAny_binaryOp_repeat_ref (T := "tuple") (U := "int") (by decide) ⟨_, ho, rfl⟩ (fun s' => typeIs_int s' 0 t) noFill_tuple_mul F.fills_int_mul F.slot_int_rmul repeat_tuple F.slot_int_index.lookup
      (call_meets F.slot_int_rmul (typeIs_int s 0 t) F.entry_int_rmul (F.args_int_rmul_2 _ _) (int_rmul_tuple 0 t l its.toArray n dd sl)
        ⟨ho, rfl, ⟨_, ho, rfl⟩, call_meets F.slot_tuple_mul ⟨_, ho, rfl⟩ F.entry_tuple_mul (F.args_tuple_mul_2 _ _) (tuple_mul0 l its.toArray n dd sl t hi) ⟨ho, ?_⟩⟩)
    refine ⟨.ref s.heap.objs.size, _, I.laid (t' := s.toks) (o := .tup (List.replicate (0 : Int).toNat xs).flatten) (fun b ob q => Heap.get?_push_of_some _ q) (Nat.le_refl _) ?_, rfl, q2 (by decide) _ (I.hok.fresh (Nat.le_refl _))⟩
    exact ⟨Nat.zero_le _, [], .nil, IsTup.new _ _⟩
  · exact wpAny_binaryOp_repeat_ref (T := "tuple") (U := "int") (by decide) ⟨_, ho, rfl⟩ (fun s' => typeIs_int s' 1 t) noFill_tuple_mul F.fills_int_mul F.slot_int_rmul repeat_tuple F.slot_int_index.lookup
      (call_meets F.slot_int_rmul (typeIs_int s 1 t) F.entry_int_rmul (F.args_int_rmul_2 _ _) (int_rmul_tuple 1 t l its.toArray n dd sl)
        ⟨ho, rfl, ⟨_, ho, rfl⟩, call_meets F.slot_tuple_mul ⟨_, ho, rfl⟩ F.entry_tuple_mul (F.args_tuple_mul_2 _ _) (tuple_mul1 l its.toArray n dd sl t) ⟨ho, ⟨.ref l, H, I, rfl, q1 rfl⟩⟩⟩)
end Wc
namespace Wc
open PySem L2
/-! ### tuples joined, cut -/
theorem cat_any {K : PySem.W.Frag} {H : Hp} {a b : Addr} {xs ys : List V} {Q : VK} (ha : SqT K H a xs) (hb : SqT K H b ys) (hz : xs.length + ys.length ≤ 100000) (q : ∀ p H', ExA H H' → SqT K H' p (xs ++ ys) → Q (.ref p) H') : rCatA K (.ref a) (.ref b) H Q := by
  refine ⟨a, b, xs, ys, rfl, rfl, ha, hb, sz hz, fun e => ?_, fun _ e => ?_, fun _ _ p fp => q p _ (ExM.new fp) (SqT.of upd_same)⟩
  · subst e; exact q b H (ExM.refl _ _) hb
  · subst e; exact q a H (ExM.refl _ _) (by rw [List.append_nil]; exact ha)
theorem cut_to {xs : List V} {i : Nat} (h : i ≤ xs.length) : cutV xs none (some (i : Int)) = xs.take i := by
  unfold cutV
  rw [HT.sIx_nat, HT.sIx_none, Nat.min_eq_left h]
  simp
theorem cut_from {xs : List V} {i : Nat} (h : i ≤ xs.length) : cutV xs (some (i : Int)) none = xs.drop i := by
  unfold cutV
  rw [HT.sIx_nat, HT.sIx_none, Nat.min_eq_left h]
  rw [List.take_of_length_le (by rw [List.length_drop]; omega)]
theorem sl_to {K : PySem.W.Frag} {H : Hp} {a : Addr} {xs : List V} {i : Nat} {Q : VK} (ha : SqT K H a xs) (h : i < xs.length) (q : ∀ p H', ExA H H' → SqT K H' p (xs.take i) → Q (.ref p) H') : rSlT K (.ref a) none (some (i : Int)) H Q := by
  refine ⟨a, xs, rfl, ha, fun z => ?_, fun p fp => q p _ (ExM.new fp) (by rw [cut_to (by omega)]; exact SqT.of upd_same)⟩
  have z2 := z.2
  rw [HT.sIx_nat, Nat.min_eq_left (by omega)] at z2
  omega
theorem sl_from {K : PySem.W.Frag} {H : Hp} {a : Addr} {xs : List V} {i : Nat} {Q : VK} (ha : SqT K H a xs) (h0 : 0 < i) (h : i ≤ xs.length) (q : ∀ p H', ExA H H' → SqT K H' p (xs.drop i) → Q (.ref p) H') : rSlT K (.ref a) (some (i : Int)) none H Q := by
  refine ⟨a, xs, rfl, ha, fun z => ?_, fun p fp => q p _ (ExM.new fp) (by rw [cut_from h]; exact SqT.of upd_same)⟩
  have z2 := z.1
  rw [HT.sIx_nat, Nat.min_eq_left h] at z2
  omega
end Wc
namespace Wc
open PySem L2
def topS (i : Nat) : Stmt := PySem.Challenge.pw_weakcourt_k13_derivations_as_commands.main.body.getD i (.Pass ⟨0, 0, 0, 0⟩)
abbrev s_registers_of : Stmt := topS 1
abbrev N_registers_of : List Str := ["heap"]
theorem sc_registers_of : FnScope N_registers_of ["heap"] (defScope s_registers_of) := ⟨rfl, rfl, rfl, by decide +kernel, rfl, by decide +kernel, by decide +kernel⟩
abbrev s_objects_of : Stmt := topS 2
abbrev N_objects_of : List Str := ["heap"]
theorem sc_objects_of : FnScope N_objects_of ["heap"] (defScope s_objects_of) := ⟨rfl, rfl, rfl, by decide +kernel, rfl, by decide +kernel, by decide +kernel⟩
abbrev s_by_number : Stmt := topS 3
abbrev N_by_number : List Str := ["heap", "thing"]
theorem sc_by_number : FnScope N_by_number ["heap"] (defScope s_by_number) := ⟨rfl, rfl, rfl, by decide +kernel, rfl, by decide +kernel, by decide +kernel⟩
abbrev s_objects_among : Stmt := topS 4
abbrev N_objects_among : List Str := ["references", "number"]
theorem sc_objects_among : FnScope N_objects_among ["references"] (defScope s_objects_among) := ⟨rfl, rfl, rfl, by decide +kernel, rfl, by decide +kernel, by decide +kernel⟩
abbrev s_led_to : Stmt := topS 6
abbrev N_led_to : List Str := ["thing", "got", "condemned", "key", "value"]
theorem sc_led_to : FnScope N_led_to ["thing", "got", "condemned"] (defScope s_led_to) := ⟨rfl, rfl, rfl, by decide +kernel, rfl, by decide +kernel, by decide +kernel⟩
abbrev s_rounds : Stmt := topS 7
abbrev N_rounds : List Str := ["heap", "condemned", "things", "gone", "number", "got", "depth", "newest", "asked", "found"]
theorem sc_rounds : FnScope N_rounds ["heap", "condemned"] (defScope s_rounds) := ⟨rfl, rfl, rfl, by decide +kernel, rfl, by decide +kernel, by decide +kernel⟩
abbrev s_named : Stmt := topS 9
abbrev N_named : List Str := ["reason"]
theorem sc_named : FnScope N_named ["reason"] (defScope s_named) := ⟨rfl, rfl, rfl, by decide +kernel, rfl, by decide +kernel, by decide +kernel⟩
abbrev s_derive : Stmt := topS 10
abbrev N_derive : List Str := ["heap", "condemned", "number", "depths", "things", "reasons", "waiting", "asked", "other", "ordered", "step"]
theorem sc_derive : FnScope N_derive ["heap", "condemned", "number"] (defScope s_derive) := ⟨rfl, rfl, rfl, by decide +kernel, rfl, by decide +kernel, by decide +kernel⟩
abbrev s_best_reason : Stmt := topS 11
abbrev N_best_reason : List Str := ["heap", "things", "depths", "condemned", "number", "lower", "other", "reasons", "reason"]
theorem sc_best_reason : FnScope N_best_reason ["heap", "things", "depths", "condemned", "number"] (defScope s_best_reason) := ⟨rfl, rfl, rfl, by decide +kernel, rfl, by decide +kernel, by decide +kernel⟩
abbrev s_reason_from : Stmt := topS 12
abbrev N_reason_from : List Str := ["thing", "lower", "condemned", "number", "keys", "key", "value"]
theorem sc_reason_from : FnScope N_reason_from ["thing", "lower", "condemned", "number"] (defScope s_reason_from) := ⟨rfl, rfl, rfl, by decide +kernel, rfl, by decide +kernel, by decide +kernel⟩
abbrev s_compile_derivation : Stmt := topS 13
abbrev N_compile_derivation : List Str := ["heap", "steps", "commands", "places", "place", "number", "reason"]
theorem sc_compile_derivation : FnScope N_compile_derivation ["heap", "steps"] (defScope s_compile_derivation) := ⟨rfl, rfl, rfl, by decide +kernel, rfl, by decide +kernel, by decide +kernel⟩
abbrev s_loading : Stmt := topS 14
abbrev N_loading : List Str := ["place", "reason", "places"]
theorem sc_loading : FnScope N_loading ["place", "reason", "places"] (defScope s_loading) := ⟨rfl, rfl, rfl, by decide +kernel, rfl, by decide +kernel, by decide +kernel⟩
abbrev s_with_registers : Stmt := topS 15
abbrev N_with_registers : List Str := ["heap", "many", "word", "following", "registers", "kept", "objects", "watches"]
theorem sc_with_registers : FnScope N_with_registers ["heap", "many"] (defScope s_with_registers) := ⟨rfl, rfl, rfl, by decide +kernel, rfl, by decide +kernel, by decide +kernel⟩
abbrev s__law_cell : Stmt := topS 17
abbrev N__law_cell : List Str := ["script", "k"]
theorem sc__law_cell : FnScope N__law_cell ["script", "k"] (defScope s__law_cell) := ⟨rfl, rfl, rfl, by decide +kernel, rfl, by decide +kernel, by decide +kernel⟩
abbrev s__law_digits : Stmt := topS 18
abbrev N__law_digits : List Str := ["script", "first", "last", "digits", "k", "cell", "turn", "seed"]
theorem sc__law_digits : FnScope N__law_digits ["script", "first", "last"] (defScope s__law_digits) := ⟨rfl, rfl, rfl, by decide +kernel, rfl, by decide +kernel, by decide +kernel⟩
abbrev s__law_box : Stmt := topS 19
abbrev N__law_box : List Str := ["script", "first", "last"]
theorem sc__law_box : FnScope N__law_box ["script", "first", "last"] (defScope s__law_box) := ⟨rfl, rfl, rfl, by decide +kernel, rfl, by decide +kernel, by decide +kernel⟩
abbrev s__law_draw : Stmt := topS 20
abbrev N__law_draw : List Str := ["box", "many", "at"]
theorem sc__law_draw : FnScope N__law_draw ["box", "many"] (defScope s__law_draw) := ⟨rfl, rfl, rfl, by decide +kernel, rfl, by decide +kernel, by decide +kernel⟩
abbrev s__law_number : Stmt := topS 21
abbrev N__law_number : List Str := ["box", "numbers"]
theorem sc__law_number : FnScope N__law_number ["box", "numbers"] (defScope s__law_number) := ⟨rfl, rfl, rfl, by decide +kernel, rfl, by decide +kernel, by decide +kernel⟩
abbrev s__law_object : Stmt := topS 22
abbrev N__law_object : List Str := ["box", "number", "numbers", "kind", "k", "entries", "key", "value", "entry"]
theorem sc__law_object : FnScope N__law_object ["box", "number", "numbers"] (defScope s__law_object) := ⟨rfl, rfl, rfl, by decide +kernel, rfl, by decide +kernel, by decide +kernel⟩
abbrev s__law_heap : Stmt := topS 23
abbrev N__law_heap : List Str := ["box", "most", "many", "numbers", "at", "k", "objects", "number", "registers", "kept", "watches"]
theorem sc__law_heap : FnScope N__law_heap ["box", "most"] (defScope s__law_heap) := ⟨rfl, rfl, rfl, by decide +kernel, rfl, by decide +kernel, by decide +kernel⟩
abbrev s__law_numbers : Stmt := topS 24
abbrev N__law_numbers : List Str := ["heap", "row"]
theorem sc__law_numbers : FnScope N__law_numbers ["heap"] (defScope s__law_numbers) := ⟨rfl, rfl, rfl, by decide +kernel, rfl, by decide +kernel, by decide +kernel⟩
abbrev s__law_same : Stmt := topS 25
abbrev N__law_same : List Str := ["actual", "expected", "k"]
theorem sc__law_same : FnScope N__law_same ["actual", "expected"] (defScope s__law_same) := ⟨rfl, rfl, rfl, by decide +kernel, rfl, by decide +kernel, by decide +kernel⟩
abbrev s__law_needed : Stmt := topS 26
abbrev N__law_needed : List Str := ["command", "kind"]
theorem sc__law_needed : FnScope N__law_needed ["command"] (defScope s__law_needed) := ⟨rfl, rfl, rfl, by decide +kernel, rfl, by decide +kernel, by decide +kernel⟩
abbrev s__law_of : Stmt := topS 27
abbrev N__law_of : List Str := ["heap", "number", "row"]
theorem sc__law_of : FnScope N__law_of ["heap", "number"] (defScope s__law_of) := ⟨rfl, rfl, rfl, by decide +kernel, rfl, by decide +kernel, by decide +kernel⟩
abbrev s__law_fault : Stmt := topS 28
abbrev N__law_fault : List Str := ["heap", "command", "place", "kind", "wanted", "row"]
theorem sc__law_fault : FnScope N__law_fault ["heap", "command"] (defScope s__law_fault) := ⟨rfl, rfl, rfl, by decide +kernel, rfl, by decide +kernel, by decide +kernel⟩
abbrev s__law_load : Stmt := topS 29
abbrev N__law_load : List Str := ["heap", "to", "number"]
theorem sc__law_load : FnScope N__law_load ["heap", "to", "number"] (defScope s__law_load) := ⟨rfl, rfl, rfl, by decide +kernel, rfl, by decide +kernel, by decide +kernel⟩
abbrev s__law_made : Stmt := topS 30
abbrev N__law_made : List Str := ["heap", "to", "row", "objects"]
theorem sc__law_made : FnScope N__law_made ["heap", "to", "row"] (defScope s__law_made) := ⟨rfl, rfl, rfl, by decide +kernel, rfl, by decide +kernel, by decide +kernel⟩
abbrev s__law_keep : Stmt := topS 31
abbrev N__law_keep : List Str := ["heap", "number"]
theorem sc__law_keep : FnScope N__law_keep ["heap", "number"] (defScope s__law_keep) := ⟨rfl, rfl, rfl, by decide +kernel, rfl, by decide +kernel, by decide +kernel⟩
abbrev s__law_with : Stmt := topS 32
abbrev N__law_with : List Str := ["heap", "changed", "objects", "row"]
theorem sc__law_with : FnScope N__law_with ["heap", "changed"] (defScope s__law_with) := ⟨rfl, rfl, rfl, by decide +kernel, rfl, by decide +kernel, by decide +kernel⟩
abbrev s__law_table : Stmt := topS 33
abbrev N__law_table : List Str := ["heap", "command", "row", "found", "entry", "key", "keys", "entries", "value"]
theorem sc__law_table : FnScope N__law_table ["heap", "command"] (defScope s__law_table) := ⟨rfl, rfl, rfl, by decide +kernel, rfl, by decide +kernel, by decide +kernel⟩
abbrev s__law_do : Stmt := topS 34
abbrev N__law_do : List Str := ["heap", "command", "kind", "loaded", "found", "row", "fields"]
theorem sc__law_do : FnScope N__law_do ["heap", "command"] (defScope s__law_do) := ⟨rfl, rfl, rfl, by decide +kernel, rfl, by decide +kernel, by decide +kernel⟩
abbrev s__law_loading : Stmt := topS 35
abbrev N__law_loading : List Str := ["heap", "steps", "k", "places", "j", "reason", "to"]
theorem sc__law_loading : FnScope N__law_loading ["heap", "steps", "k"] (defScope s__law_loading) := ⟨rfl, rfl, rfl, by decide +kernel, rfl, by decide +kernel, by decide +kernel⟩
abbrev s_law : Stmt := topS 36
abbrev N_law : List Str := ["script", "box", "heap", "steps", "number", "wide", "commands", "k", "command", "told"]
theorem sc_law : FnScope N_law ["script"] (defScope s_law) := ⟨rfl, rfl, rfl, by decide +kernel, rfl, by decide +kernel, by decide +kernel⟩
structure Txt (mg : Str → Option Value) : Prop where
  bool : mg "bool" = none
  enumerate : mg "enumerate" = none
  int : mg "int" = none
  isinstance : mg "isinstance" = none
  len : mg "len" = none
  list : mg "list" = none
  range : mg "range" = none
  sorted : mg "sorted" = none
  str : mg "str" = none
  tuple : mg "tuple" = none
/-! ### dicts with number keys -/
def dictOf (os : List Addr) (obs : List Ob) : List (Key × V) := List.zipWith (fun a o => ((Sum.inl o.num : Key), V.ref a)) os obs
theorem key_has {kvs : List (Key × V)} {ks : List Int} (h : kvs.map (·.1) = ks.map Sum.inl) (n : Int) : (valV kvs (Sum.inl n)).isSome = decide (n ∈ ks) := by
  rw [← valV_any]
  induction kvs generalizing ks with
  | nil =>
    cases ks with
    | nil => rfl
    | cons k r => simp at h
  | cons p r ih =>
    cases ks with
    | nil => simp at h
    | cons k t =>
      simp only [List.map_cons, List.cons.injEq] at h
      rw [List.any_cons, ih h.2, h.1]
      by_cases e : k = n
      · subst e; simp
      · have e2 : ¬ ((Sum.inl k : Key) = Sum.inl n) := fun z => e (Sum.inl.inj z)
        have e3 : ¬ n = k := fun z => e z.symm
        simp [e2, e3]
theorem dictOf_keys : ∀ {os : List Addr} {obs : List Ob}, os.length = obs.length → (dictOf os obs).map (·.1) = (obs.map Ob.num).map Sum.inl
  | [], [], _ => rfl
  | [], _ :: _, h => by simp at h
  | _ :: _, [], h => by simp at h
  | a :: os, o :: obs, h => by
    show (Sum.inl o.num : Key) :: (dictOf os obs).map (·.1) = _
    rw [dictOf_keys (by simpa using h)]
    rfl
theorem dictOf_len {os : List Addr} {obs : List Ob} (h : os.length = obs.length) : (dictOf os obs).length = obs.length := by
  unfold dictOf; rw [List.length_zipWith, h, Nat.min_self]
theorem dictOf_at {os : List Addr} {obs : List Ob} {i : Nat} {a : Addr} {o : Ob} (h1 : os[i]? = some a) (h2 : obs[i]? = some o) : (dictOf os obs)[i]? = some (Sum.inl o.num, .ref a) := by
  unfold dictOf; rw [List.getElem?_zipWith, h1, h2]
/-- looked up by its number -/
theorem dictOf_get {K : PySem.W.Frag} {H : Hp} : ∀ {os : List Addr} {obs : List Ob} {n : Int}, Paired (ObAt K H) os obs → n ∈ obs.map Ob.num →
    ∃ a o, valV (dictOf os obs) (Sum.inl n) = some (.ref a) ∧ o ∈ obs ∧ o.num = n ∧ ObAt K H a o
  | _, _, n, .nil, h => by simp at h
  | a :: os, o :: obs, n, .cons r t, h => by
    by_cases e : o.num = n
    · exact ⟨a, o, valV_pos (by show (Sum.inl o.num : Key) = _; rw [e]), List.mem_cons_self, e, r⟩
    · have h' : n ∈ obs.map Ob.num := by
        rcases List.mem_cons.mp h with z | z
        · exact absurd z.symm e
        · exact z
      obtain ⟨a', o', h1, h2, h3, h4⟩ := dictOf_get t h'
      refine ⟨a', o', ?_, List.mem_cons_of_mem _ h2, h3, h4⟩
      show valV ((Sum.inl o.num, V.ref a) :: dictOf os obs) (Sum.inl n) = _
      rw [valV_neg (fun z => e (Sum.inl.inj z))]
      exact h1
theorem take_snoc {α : Type} {l : List α} {i : Nat} {x : α} (h : l[i]? = some x) : l.take (i + 1) = l.take i ++ [x] := by
  rw [List.take_add_one, h]; rfl
theorem num_notin {obs : List Ob} {os : List Addr} {i : Nat} {o : Ob} (hl : os.length = obs.length) (nd : (obs.map Ob.num).Nodup) (h : obs[i]? = some o) : valV ((dictOf os obs).take i) (Sum.inl o.num) = none := by
  have hk : ((dictOf os obs).take i).map (·.1) = ((obs.map Ob.num).take i).map Sum.inl := by
    rw [List.map_take, dictOf_keys hl, List.map_take]
  have q := key_has hk o.num
  cases e : valV ((dictOf os obs).take i) (Sum.inl o.num) with
  | none => rfl
  | some v =>
    rw [e] at q
    have m : o.num ∈ (obs.map Ob.num).take i := of_decide_eq_true q.symm
    obtain ⟨j, hj⟩ := List.getElem?_of_mem m
    have hlt : j < i := by
      have := (List.getElem?_eq_some_iff.mp hj).1
      rw [List.length_take] at this; omega
    rw [List.getElem?_take_of_lt hlt] at hj
    have hi : (obs.map Ob.num)[i]? = some o.num := by rw [List.getElem?_map, h]; rfl
    exact absurd (nd_ix nd hj hi) (Nat.ne_of_lt hlt)
theorem nodup_of_up {l : List Int} (h : l.Pairwise (· < ·)) : l.Nodup := h.imp fun h => Int.ne_of_lt h
section
variable (K : PySem.W.Frag)
def R_registers_of : V1 := fun x H Q => ∃ a h, x = .ref a ∧ HeapAt K H a h ∧ ∀ r, SqZ H r (h.regs.map rV) → Q (.ref r) H
abbrev sp_registers_of : Sp := sp1 (R_registers_of K)
def R_objects_of : V1 := fun x H Q => ∃ a h, x = .ref a ∧ HeapAt K H a h ∧ ∀ o, ObsAt K H o h → Q (.ref o) H
abbrev sp_objects_of : Sp := sp1 (R_objects_of K)
def R_by_number : V1 := fun x H Q => ∃ a h, x = .ref a ∧ HeapAt K H a h ∧ h.Ok ∧ ∀ p H' os, H p = none → ExA H H' → Paired (ObAt K H') os h.obs → H' p = some (.dK (dictOf os h.obs)) → Q (.ref p) H'
abbrev sp_by_number : Sp := sp1 (R_by_number K)
/-- a new list of numbers -/
def NewL (ns : List Int) (H : Hp) (Q : VK) : Prop := ∀ p H', H p = none → ExA H H' → H' p = some (.lst (ns.map .int)) → Q (.ref p) H'
/-- a new tuple of numbers -/
def NewT (ns : List Int) (H : Hp) (Q : VK) : Prop := ∀ p H', H p = none → ExA H H' → H' p = some (.tup (ns.map .int)) → Q (.ref p) H'
def R_objects_among : V1 := fun x H Q => ∃ (a : Addr) (rs : List Rf), x = .ref a ∧ SqT K H a (rs.map rV) ∧ rs.length ≤ 1000 ∧ NewL (rs.filterMap id) H Q
abbrev sp_objects_among : Sp := sp1 (R_objects_among K)
def Ob.small : Ob → Prop
  | .rcd _ fs => fs.length ≤ 1000
  | .weak _ _ => True
  | .tab _ es => es.length ≤ 1000
theorem Ob.ok.small {S : List Int} {o : Ob} (h : o.ok S) : o.small := by
  cases o with
  | rcd n fs => exact h.1
  | weak n t => trivial
  | tab n es => exact h.1
/-- a dict whose keys are these numbers -/
def KeysAt (H : Hp) (g : Addr) (gs : List Int) : Prop := ∃ kvs, H g = some (.dK kvs) ∧ kvs.map (·.1) = gs.map Sum.inl
def R_led_to : V3 := fun x y z H Q => ∃ (a : Addr) (o : Ob) (g : Addr) (gs : List Int) (c : Addr) (cs : List Int), x = .ref a ∧ y = .ref g ∧ z = .ref c ∧ ObAt K H a o ∧ o.small ∧ KeysAt H g gs ∧ KeysAt H c cs ∧ NewL (ledTo o gs cs) H Q
abbrev sp_led_to : Sp := sp3 (R_led_to K)
end
section
variable {P : Program} {w : World} {K : PySem.W.Frag} {mg : Str → Option Value} {base : Heap}
theorem ok_registers_of {f : Addr} {fd : FuncData} {cd : Value} (F : Df K "registers_of" s_registers_of f fd cd) (T : Txt mg) : FnOk P w K mg base CX0 1 f fd ["heap"] (sp_registers_of K) := by
  have nd := sc_registers_of.nd
  refine F.ok sc_registers_of (fun vs H Q E h => ?_) (fun A outer s H vs Q E hr h => ?_)
  · obtain ⟨_, rfl, _⟩ := h; rfl
  have hu := hu_of hr
  obtain ⟨x0, rfl, h⟩ := h
  refine ⟨_, (pss_one (ps_ret (pe_ix (r := rIxT K) ix_tup (pv 0) pe_int (fun _ _ => rfl)))), ?_⟩
  obtain ⟨a, h, rfl, ⟨r, k, o, w, ws, h1, h2, _⟩, q⟩ := h
  exact ⟨_, rfl, a, _, _, _, rfl, rfl, h1, at2, q r h2⟩
theorem ok_objects_of {f : Addr} {fd : FuncData} {cd : Value} (F : Df K "objects_of" s_objects_of f fd cd) (T : Txt mg) : FnOk P w K mg base CX0 1 f fd ["heap"] (sp_objects_of K) := by
  have nd := sc_objects_of.nd
  refine F.ok sc_objects_of (fun vs H Q E h => ?_) (fun A outer s H vs Q E hr h => ?_)
  · obtain ⟨_, rfl, _⟩ := h; rfl
  have hu := hu_of hr
  obtain ⟨x0, rfl, h⟩ := h
  refine ⟨_, (pss_one (ps_ret (pe_ix (r := rIxT K) ix_tup (pv 0) pe_int (fun _ _ => rfl)))), ?_⟩
  obtain ⟨a, h, rfl, ⟨r, k, o, w, ws, h1, h2, h3, h4, _⟩, q⟩ := h
  exact ⟨_, rfl, a, _, _, _, rfl, rfl, h1, at4, q o h4⟩
theorem ok_by_number {f : Addr} {fd : FuncData} {cd : Value} (F : Df K "by_number" s_by_number f fd cd) (T : Txt mg) (C_objects_of : Cal P w K mg base 1 "objects_of" (sp_objects_of K) []) : FnOk P w K mg base CX0 2 f fd ["heap"] (sp_by_number K) := by
  have nd := sc_by_number.nd
  refine F.ok sc_by_number (fun vs H Q E h => ?_) (fun A outer s H vs Q E hr h => ?_)
  · obtain ⟨_, rfl, _⟩ := h; rfl
  have hu := hu_of hr
  obtain ⟨x0, rfl, h⟩ := h
  refine ⟨_, (pss_one (ps_ret (pe_dc (own := [("thing", 1)]) rfl nd (show PI _ _ _ (iTup K _) from pi_tup (pe_c C_objects_of hr (by first | exact Nat.le_refl _ | decide) rfl (pa_cons (pv 0) pa_nil))) (blkOk_by (own := [("thing", 1)]) (N := N_by_number) (sc := defScope s_by_number) (by decide +kernel)) (fun _ _ _ _ _ => (pg_name (i := 1) nd rfl (by first | exact Or.inl rfl | exact Or.inr rfl))) (fun _ _ _ _ _ => pts_nil) (fun _ _ _ _ _ => (pe_ix (r := rIxT K) ix_tup (pv 1) pe_int (fun _ _ => rfl))) (fun _ _ _ _ _ => (pv 1))))), ?_⟩
  obtain ⟨a, h, rfl, hA, ok, q⟩ := h
  refine ⟨_, rfl, _, rfl, a, h, rfl, hA, fun o hO => ?_⟩
  obtain ⟨os, ho, hp⟩ := hO
  have hl := plen hp
  refine ⟨o, rfl, ⟨_, ho⟩, fun D hD => ?_⟩
  refine dcM [] (walk_tup (xs := os.map V.ref)) hD (fun i acc _ => acc = (dictOf os h.obs).take i) rfl (fun H' e => Tk.all e _ _ ho) (fun i x H1 H2 acc hi e h1 h2 hacc y => ?_) (fun H' acc e h1 h2 hacc => ?_)
  · obtain ⟨rfl, hx⟩ := y
    rw [List.getElem?_map] at hx
    cases hos : os[i]? with
    | none => rw [hos] at hx; cases hx
    | some a1 =>
      rw [hos] at hx
      obtain ⟨o1, ho1, hob⟩ := pget hp hos
      obtain rfl : V.ref a1 = x := Option.some.inj hx
      obtain ⟨kn, vn, hn⟩ := (ObAt.mono (Tk.all e) hob).num
      refine ⟨rfl, tyes ⟨_, rfl, a1, _, _, _, rfl, rfl, hn, at1, _, rfl, ?_⟩⟩
      have hi' : i < 50 := by
        have z := (List.getElem?_eq_some_iff.mp ho1).1
        have := ok.size
        omega
      refine DcP.yes (k := Sum.inl o1.num) hD (by simp) (by omega) e h1 h2 rfl (ExM.refl _ _) ?_
      rw [hacc, putK_new _ (num_notin hl (nodup_of_up ok.up) ho1), take_snoc (dictOf_at hos ho1)]
  · refine q D H' os hD e (pmp hp fun _ _ z => ObAt.mono (Tk.all e) z) ?_
    rw [h1, hacc, List.length_map, hl, ← dictOf_len hl, List.take_length]
theorem ok_objects_among {f : Addr} {fd : FuncData} {cd : Value} (F : Df K "objects_among" s_objects_among f fd cd) (T : Txt mg) : FnOk P w K mg base CX0 1 f fd ["references"] (sp_objects_among K) := by
  have nd := sc_objects_among.nd
  refine F.ok sc_objects_among (fun vs H Q E h => ?_) (fun A outer s H vs Q E hr h => ?_)
  · obtain ⟨_, rfl, _⟩ := h; rfl
  have hu := hu_of hr
  obtain ⟨x0, rfl, h⟩ := h
  refine ⟨_, (pss_one (ps_ret (pe_lc (own := [("number", 1)]) rfl nd (show PI _ _ _ (iTup K _) from pi_tup (pv 0)) (blkOk_by (own := [("number", 1)]) (N := N_objects_among) (sc := defScope s_objects_among) (by decide +kernel)) (fun _ _ _ _ _ => (pg_name (i := 1) nd rfl (by first | exact Or.inl rfl | exact Or.inr rfl))) (fun _ _ _ _ _ => (pts_one (pt_cmpR op_notN (pv 1) pe_non (nomark _)))) (fun _ _ _ _ _ => (pv 1))))), ?_⟩
  obtain ⟨a, rs, rfl, hA, hz, q⟩ := h
  refine ⟨_, rfl, a, rfl, ⟨_, hA⟩, fun D hD => ?_⟩
  refine lcM [] (walk_tup (xs := rs.map rV)) hD (fun i acc _ => acc = ((rs.take i).filterMap id).map V.int) rfl (fun H' e => Tk.all e _ _ hA) (fun i x H1 H2 acc hi e h1 h2 hacc y => ?_) (fun H' acc e h1 h2 hacc => ?_)
  · obtain ⟨rfl, hx⟩ := y
    rw [List.length_map] at hi
    obtain ⟨r, hr⟩ : ∃ r, rs[i]? = some r := ⟨rs[i], List.getElem?_eq_getElem hi⟩
    rw [List.getElem?_map, hr] at hx
    obtain rfl : rV r = x := Option.some.inj hx
    refine ⟨rfl, _, rfl, rfl, _, rfl, ?_⟩
    have ht := take_snoc hr
    cases r with
    | none => exact iteF (LcP.no (by simp) e h1 h2 (ExM.refl _ _) (by rw [hacc, ht, List.filterMap_append]; simp))
    | some n => exact iteT ⟨_, rfl, LcP.yes hD (by simp) (by omega) e h1 h2 (ExM.refl _ _) (by rw [hacc, ht, List.filterMap_append, List.map_append]; rfl)⟩
  · refine q D H' hD e ?_
    rw [h1, hacc, List.length_map, List.take_length]
theorem ok_led_to {f : Addr} {fd : FuncData} {cd : Value} (F : Df K "led_to" s_led_to f fd cd) (T : Txt mg) (C_objects_among : Cal P w K mg base 1 "objects_among" (sp_objects_among K) []) : FnOk P w K mg base CX0 2 f fd ["thing", "got", "condemned"] (sp_led_to K) := by
  have nd := sc_led_to.nd
  refine F.ok sc_led_to (fun vs H Q E h => ?_) (fun A outer s H vs Q E hr h => ?_)
  · obtain ⟨_, _, _, rfl, _⟩ := h; rfl
  have hu := hu_of hr
  obtain ⟨x0, x1, x2, rfl, h⟩ := h
  refine ⟨_, (pss_cons (ps_if (pt_cmpR op_eq (pe_ix (r := rIxT K) ix_tup (pv 0) pe_int (fun _ _ => rfl)) pe_str (nomark _)) (pss_one (ps_ret (pe_c C_objects_among hr (by first | exact Nat.le_refl _ | decide) rfl (pa_cons (pe_ix (r := rIxT K) ix_tup (pv 0) pe_int (fun _ _ => rfl)) pa_nil)))) pss_nil)
    (pss_cons (ps_if (pt_cmpR op_eq (pe_ix (r := rIxT K) ix_tup (pv 0) pe_int (fun _ _ => rfl)) pe_str (nomark _)) (pss_one (ps_ret (pe_lc (own := [("key", 3), ("value", 4)]) rfl nd (show PI _ _ _ (iTup K _) from pi_tup (pe_ix (r := rIxT K) ix_tup (pv 0) pe_int (fun _ _ => rfl))) (blkOk_by (own := [("key", 3), ("value", 4)]) (N := N_led_to) (sc := defScope s_led_to) (by decide +kernel)) (fun _ _ _ _ _ => (show PG _ _ (gTup K 2 _) from pg_tup rfl (pgs_cons (pg_name (i := 3) nd rfl (by first | exact Or.inl rfl | exact Or.inr rfl)) (pgs_cons (pg_name (i := 4) nd rfl (by first | exact Or.inl rfl | exact Or.inr rfl)) pgs_nil)))) (fun _ _ _ _ _ => (pts_one (pt_cmp (pc_din hu (pv 3) (pv 1)) rfl))) (fun _ _ _ _ _ => (pv 4))))) pss_nil)
    (pss_cons (ps_if (PW.pt (pw_or (pt_cmpR op_isN (pe_ix (r := rIxT K) ix_tup (pv 0) pe_int (fun _ _ => rfl)) pe_non (nomark _)) (pw_or1 (pt_cmp (pc_din hu (pe_ix (r := rIxT K) ix_tup (pv 0) pe_int (fun _ _ => rfl)) (pv 2)) rfl)))) (pss_one (ps_ret (pe_lst pa_nil))) pss_nil)
    (pss_one (ps_ret (pe_lst (pa_cons (pe_ix (r := rIxT K) ix_tup (pv 0) pe_int (fun _ _ => rfl)) pa_nil))))))), ?_⟩
  obtain ⟨a, o, g, gs, c, cs, rfl, rfl, rfl, hO, sm, ⟨gk, hg, hgk⟩, ⟨ck, hc, hck⟩, q⟩ := h
  cases o with
  | rcd n fs =>
    obtain ⟨t, h1, h2⟩ := hO
    refine ⟨_, rfl, a, _, _, _, rfl, rfl, h1, at0, rfl, _, rfl, iteT ?_⟩
    exact ⟨_, rfl, a, _, _, _, rfl, rfl, h1, at2, _, rfl, t, fs, rfl, h2.sq, sm, q⟩
  | weak n t =>
    have h1 : SqT K H a [.str "weak", .int n, rV t] := hO
    refine ⟨_, rfl, a, _, _, _, rfl, rfl, h1, at0, rfl, _, rfl, iteF ?_⟩
    refine ⟨_, rfl, a, _, _, _, rfl, rfl, h1, at0, rfl, _, rfl, iteF ?_⟩
    refine ⟨_, rfl, a, _, _, _, rfl, rfl, h1, at2, rfl, _, rfl, ?_⟩
    cases t with
    | none => exact iteT (iteT ⟨Nat.zero_le _, fun p hp => q p _ hp (ExM.new hp) upd_same⟩)
    | some i =>
      refine iteF ⟨_, rfl, a, _, _, _, rfl, rfl, h1, at2, _, rfl, c, _, rfl, DGet.k (k := Sum.inl i) hc, _, rfl, ?_⟩
      rw [key_has hck i]
      have q : NewL (if i ∈ cs then [] else [i]) H Q := q
      by_cases m : i ∈ cs
      · rw [decide_eq_true m]
        rw [if_pos m] at q
        exact iteT ⟨Nat.zero_le _, fun p hp => q p _ hp (ExM.new hp) upd_same⟩
      · rw [decide_eq_false m]
        rw [if_neg m] at q
        exact iteF ⟨_, rfl, a, _, _, _, rfl, rfl, h1, at2, sz (by show 1 ≤ 100000; decide), fun p hp => q p _ hp (ExM.new hp) upd_same⟩
  | tab n es =>
    obtain ⟨t, ps, h1, hz2, h3⟩ := hO; have h2 := hz2.sq (K := K)
    refine ⟨_, rfl, a, _, _, _, rfl, rfl, h1, at0, rfl, _, rfl, iteF ?_⟩
    refine ⟨_, rfl, a, _, _, _, rfl, rfl, h1, at0, rfl, _, rfl, iteT ?_⟩
    refine ⟨_, rfl, a, _, _, _, rfl, rfl, h1, at2, t, rfl, ⟨_, h2⟩, fun D hD => ?_⟩
    have hl := plen h3
    have sm' : es.length ≤ 1000 := sm
    refine lcM [] (walk_tup (xs := ps.map V.ref)) hD (fun i acc _ => acc = (((es.take i).filter fun e => decide (e.1 ∈ gs)).map (·.2)).map V.int) rfl (fun H' e => Tk.all e _ _ h2) (fun i x H1 H2 acc hi e k1 k2 hacc y => ?_) (fun H' acc e k1 k2 hacc => ?_)
    · obtain ⟨rfl, hx⟩ := y
      rw [List.length_map] at hi
      obtain ⟨p, hp⟩ : ∃ p, ps[i]? = some p := ⟨ps[i], List.getElem?_eq_getElem hi⟩
      obtain ⟨e1, he1, hpa⟩ := pget h3 hp
      rw [List.getElem?_map, hp] at hx
      obtain rfl : V.ref p = x := Option.some.inj hx
      refine ⟨p, _, rfl, Tk.all e _ _ hpa, rfl, _, _, rfl, _, _, rfl, ⟨rfl, rfl, ?_⟩⟩
      refine ⟨_, rfl, _, rfl, g, _, rfl, DGet.k (k := Sum.inl e1.1) (ExA.at e hg), _, rfl, ?_⟩
      rw [key_has hgk e1.1]
      have ht := take_snoc he1
      by_cases m : e1.1 ∈ gs
      · rw [decide_eq_true m]
        refine iteT ⟨_, rfl, LcP.yes hD (by simp) (by omega) e k1 k2 (ExM.refl _ _) ?_⟩
        rw [hacc, ht, List.filter_append, List.map_append, List.map_append]
        simp [m]
      · rw [decide_eq_false m]
        refine iteF (LcP.no (by simp) e k1 k2 (ExM.refl _ _) ?_)
        rw [hacc, ht, List.filter_append, List.map_append, List.map_append]
        simp [m]
    · refine q D H' hD e ?_
      rw [k1, hacc, List.length_map, hl, List.take_length]
      rfl
end
end Wc
namespace Wc
open PySem L2
/-! ### comprehensions of two clauses into a dict -/
abbrev dIn (gb : TG) (ub : TT) (tk tv : TE) (vb : List Nat) (σ2 : L2.St) (D : Addr) (Nx : Hp → Prop) (J1 : It) (H4 : Hp) : Prop :=
  ∃ W1 : Nat → Nat → Hp → Prop, (∃ m, W1 0 m H4) ∧ ∀ j k H, W1 j k H →
            (J1.stop j H ∧ Nx H) ∨
            (J1.go j H ∧ ∃ Ny : Hp → Prop, (∀ H', Ny H' → ∃ k', k' < k ∧ W1 (j + 1) k' H') ∧
              ∀ x H', J1.yld j H x H' → gb x (wipe σ2 vb) H' fun σ3 H5 => wipe σ3 vb = wipe σ2 vb ∧ ub σ3 H5 fun c H6 =>
                if c = true then tk σ3 H6 fun y H7 => tv σ3 H7 fun z H8 => ∃ kvs k, y = kV k ∧ H8 D = some (.dK kvs) ∧ kvs.length < sizeLine ∧ Ny (upd H8 D (.dK (putK kvs k z)))
                else Ny H6)
theorem ddI {J1 : It} {n1 : Nat} {G1 : Hp → Prop} {Y1 : Nat → Hp → V → Hp → Prop} (w1 : Walk J1 n1 G1 Y1) {gb : TG} {ub : TT} {tk tv : TE} {vb : List Nat} {σ2 : L2.St} {D : Addr} {Nx : Hp → Prop} {H5 : Hp}
    (Pv : Nat → Hp → Prop) (h0 : Pv 0 H5) (hG : ∀ j H, j ≤ n1 → Pv j H → G1 H)
    (hs : ∀ j x H1 H2, j < n1 → Pv j H1 → Y1 j H1 x H2 → gb x (wipe σ2 vb) H2 fun σ3 H5 => wipe σ3 vb = wipe σ2 vb ∧ ub σ3 H5 fun c H6 =>
      if c = true then tk σ3 H6 fun y H7 => tv σ3 H7 fun z H8 => ∃ kvs k, y = kV k ∧ H8 D = some (.dK kvs) ∧ kvs.length < sizeLine ∧ Pv (j + 1) (upd H8 D (.dK (putK kvs k z))) else Pv (j + 1) H6)
    (hd : ∀ H, Pv n1 H → Nx H) : dIn gb ub tk tv vb σ2 D Nx J1 H5 := by
  refine ⟨fun j k H => k + j = n1 ∧ Pv j H, ⟨n1, rfl, h0⟩, fun j k H q => ?_⟩
  obtain ⟨e, p⟩ := q
  have g := hG j H (by omega) p
  by_cases hj : j < n1
  · exact .inr ⟨w1.goes j H hj g, Pv (j + 1), fun H' p' => ⟨k - 1, by omega, by omega, p'⟩, fun x H' y => hs j x H H' hj p (w1.yields j H x H' hj g y)⟩
  · have ej : j = n1 := by omega
    subst ej
    exact .inl ⟨w1.stops H g, hd H p⟩
theorem ddM {J : It} {n : Nat} {G : Hp → Prop} {Y : Nat → Hp → V → Hp → Prop} (w : Walk J n G Y) {ga gb : TG} {ua ub : TT} {wb : TI} {tk tv : TE} {vs vb : List Nat} {σ : L2.St} {H5 : Hp} {D : Addr} {Qd : Hp → Prop}
    (Pv : Nat → Hp → Prop) (h0 : Pv 0 H5) (hG : ∀ j H, j ≤ n → Pv j H → G H)
    (hs : ∀ i x H1 H2, i < n → Pv i H1 → Y i H1 x H2 → ga x (wipe σ vs) H2 fun σ2 H3 => wipe σ2 vs = wipe σ vs ∧ ua σ2 H3 fun c H4 =>
      if c = true then wb σ2 H4 fun J1 H5 => dIn gb ub tk tv vb σ2 D (Pv (i + 1)) J1 H5 else Pv (i + 1) H4)
    (hd : ∀ H, Pv n H → Qd H) :
    ∃ W : Nat → Nat → Hp → Prop, (∃ m, W 0 m H5) ∧ ∀ i m H, W i m H →
      (J.stop i H ∧ Qd H) ∨
      (J.go i H ∧ ∃ Nx : Hp → Prop, (∀ H', Nx H' → ∃ m', m' < m ∧ W (i + 1) m' H') ∧
        ∀ x H', J.yld i H x H' → ga x (wipe σ vs) H' fun σ2 H2 => wipe σ2 vs = wipe σ vs ∧ ua σ2 H2 fun c H3 =>
          if c = true then wb σ2 H3 fun J1 H4 => dIn gb ub tk tv vb σ2 D Nx J1 H4 else Nx H3) := by
  refine ⟨fun j k H => k + j = n ∧ Pv j H, ⟨n, rfl, h0⟩, fun j k H q => ?_⟩
  obtain ⟨e, p⟩ := q
  have g := hG j H (by omega) p
  by_cases hj : j < n
  · exact .inr ⟨w.goes j H hj g, Pv (j + 1), fun H' p' => ⟨k - 1, by omega, by omega, p'⟩, fun x H' y => hs j x H H' hj p (w.yields j H x H' hj g y)⟩
  · have ej : j = n := by omega
    subst ej
    exact .inl ⟨w.stops H g, hd H p⟩
/-! ### dicts of numbers, of marks -/
def dI (G : List (Int × Int)) : List (Key × V) := G.map fun q => ((Sum.inl q.1 : Key), V.int q.2)
def dB (W : List Int) : List (Key × V) := W.map fun n => ((Sum.inl n : Key), V.bl true)
theorem dI_keys (G : List (Int × Int)) : (dI G).map (·.1) = (G.map (·.1)).map Sum.inl := by unfold dI; rw [List.map_map, List.map_map]; rfl
theorem dB_keys (W : List Int) : (dB W).map (·.1) = W.map Sum.inl := by unfold dB; rw [List.map_map]; rfl
def addK (W : List Int) (n : Int) : List Int := if n ∈ W then W else W ++ [n]
theorem dB_put (W : List Int) (n : Int) : putK (dB W) (Sum.inl n) (.bl true) = dB (addK W n) := by
  have q := key_has (dB_keys W) n
  unfold addK
  by_cases m : n ∈ W
  · rw [if_pos m]
    rw [decide_eq_true m] at q
    unfold putK
    rw [valV_any, q, if_pos rfl]
    unfold dB
    rw [List.map_map]
    refine List.map_congr_left fun k _ => ?_
    show (if (Sum.inl k : Key) = Sum.inl n then ((Sum.inl k : Key), V.bl true) else (Sum.inl k, V.bl true)) = _
    split <;> rfl
  · rw [if_neg m]
    rw [decide_eq_false m] at q
    rw [putK_new _ (by cases e : valV (dB W) (Sum.inl n) with | none => rfl | some v => rw [e] at q; cases q)]
    unfold dB
    rw [List.map_append]
    rfl
theorem dI_put {G : List (Int × Int)} {n d : Int} (h : n ∉ G.map (·.1)) : putK (dI G) (Sum.inl n) (.int d) = dI (G ++ [(n, d)]) := by
  have q := key_has (dI_keys G) n
  rw [decide_eq_false h] at q
  rw [putK_new _ (by cases e : valV (dI G) (Sum.inl n) with | none => rfl | some v => rw [e] at q; cases q)]
  unfold dI
  rw [List.map_append]
  rfl
theorem addK_nd {W : List Int} {n : Int} (h : W.Nodup) : (addK W n).Nodup := by
  unfold addK
  split
  · exact h
  · rename_i m
    exact List.nodup_append.mpr ⟨h, by simp, fun a ha b hb e => m (by have : b = n := by simpa using hb
                                                                      subst this; rw [← e]; exact ha)⟩
theorem mem_addK {W : List Int} {n k : Int} : k ∈ addK W n ↔ k ∈ W ∨ k = n := by
  unfold addK
  split
  · rename_i m
    constructor
    · exact Or.inl
    · rintro (z | rfl)
      · exact z
      · exact m
  · simp
theorem mem_take_snoc {α : Type} {l : List α} {i : Nat} {x y : α} (h : l[i]? = some x) : y ∈ l.take (i + 1) ↔ y ∈ l.take i ∨ y = x := by
  rw [take_snoc h]; simp
theorem dI_len (G : List (Int × Int)) : (dI G).length = G.length := by unfold dI; rw [List.length_map]
theorem dB_len (W : List Int) : (dB W).length = W.length := by unfold dB; rw [List.length_map]
section
variable (K : PySem.W.Frag)
def R_rounds : V2 := fun x y H Q => ∃ (a : Addr) (h : Hd) (c : Addr) (cs : List Int), x = .ref a ∧ y = .ref c ∧ HeapAt K H a h ∧ h.Ok ∧ SqS K H c (cs.map .int) ∧ cs.length ≤ 1000 ∧
  ∀ p H' G, RoundsOf h cs G → H p = none → ExA H H' → H' p = some (.dK (dI G)) → Q (.ref p) H'
abbrev sp_rounds : Sp := sp2 (R_rounds K)
end
/-- what rounds keeps through its loop: the dicts things, gone, got; newest -/
structure Rw (K : PySem.W.Frag) (H0 H : Hp) (h : Hd) (cs : List Int) (th gn gt nw : Addr) (G : List (Int × Int)) (W : List Int) : Prop where
  ex : ExA H0 H
  fg : H0 gt = none
  fw : H0 nw = none
  aT : ∃ os, Paired (ObAt K H) os h.obs ∧ H th = some (.dK (dictOf os h.obs))
  aN : H gn = some (.dK (dB cs))
  aG : H gt = some (.dK (dI G))
  aW : H nw = some (.dK (dB W))
  n1 : th ≠ gt
  n2 : gn ≠ gt
  n3 : th ≠ nw
  n4 : gn ≠ nw
  n5 : gt ≠ nw
/-- .. while one of the two is locked -/
structure Rk (K : PySem.W.Frag) (H0 H : Hp) (h : Hd) (cs : List Int) (th gn gt nw : Addr) (gd wd : HO) : Prop where
  ex : ExA H0 H
  fg : H0 gt = none
  fw : H0 nw = none
  aT : ∃ os, Paired (ObAt K H) os h.obs ∧ H th = some (.dK (dictOf os h.obs))
  aN : H gn = some (.dK (dB cs))
  aG : H gt = some gd
  aW : H nw = some wd
  n1 : th ≠ gt
  n2 : gn ≠ gt
  n3 : th ≠ nw
  n4 : gn ≠ nw
  n5 : gt ≠ nw
section
variable {K : PySem.W.Frag} {H0 H H' : Hp} {h : Hd} {cs : List Int} {th gn gt nw : Addr} {gd wd u : HO} {G : List (Int × Int)} {W : List Int}
theorem Rw.rk (r : Rw K H0 H h cs th gn gt nw G W) : Rk K H0 H h cs th gn gt nw (.dK (dI G)) (.dK (dB W)) := ⟨r.ex, r.fg, r.fw, r.aT, r.aN, r.aG, r.aW, r.n1, r.n2, r.n3, r.n4, r.n5⟩
theorem Rk.rw (r : Rk K H0 H h cs th gn gt nw (.dK (dI G)) (.dK (dB W))) : Rw K H0 H h cs th gn gt nw G W := ⟨r.ex, r.fg, r.fw, r.aT, r.aN, r.aG, r.aW, r.n1, r.n2, r.n3, r.n4, r.n5⟩
theorem Rk.setG (r : Rk K H0 H h cs th gn gt nw gd wd) (t : Tk K H (upd H gt u)) : Rk K H0 (upd H gt u) h cs th gn gt nw u wd := by
  obtain ⟨os, h1, h2⟩ := r.aT
  exact ⟨r.ex.put r.fg, r.fg, r.fw, ⟨os, pmp h1 fun _ _ z => ObAt.mono t z, by rw [upd_ne r.n1]; exact h2⟩, by rw [upd_ne r.n2]; exact r.aN, upd_same, by rw [upd_ne r.n5.symm]; exact r.aW, r.n1, r.n2, r.n3, r.n4, r.n5⟩
theorem Rk.setW (r : Rk K H0 H h cs th gn gt nw gd wd) (t : Tk K H (upd H nw u)) : Rk K H0 (upd H nw u) h cs th gn gt nw gd u := by
  obtain ⟨os, h1, h2⟩ := r.aT
  exact ⟨r.ex.put r.fw, r.fg, r.fw, ⟨os, pmp h1 fun _ _ z => ObAt.mono t z, by rw [upd_ne r.n3]; exact h2⟩, by rw [upd_ne r.n4]; exact r.aN, by rw [upd_ne r.n5]; exact r.aG, upd_same, r.n1, r.n2, r.n3, r.n4, r.n5⟩
theorem Rk.keep (r : Rk K H0 H h cs th gn gt nw gd wd) (e : ExA H H') : Rk K H0 H' h cs th gn gt nw gd wd := by
  obtain ⟨os, h1, h2⟩ := r.aT
  exact ⟨r.ex.trans e, r.fg, r.fw, ⟨os, pmp h1 fun _ _ z => ObAt.mono (Tk.all e) z, ExA.at e h2⟩, ExA.at e r.aN, ExA.at e r.aG, ExA.at e r.aW, r.n1, r.n2, r.n3, r.n4, r.n5⟩
/-- the object of a number, by things -/
theorem Rk.look (r : Rk K H0 H h cs th gn gt nw gd wd) {n : Int} (hn : n ∈ h.nums) : ∃ a o, DGet H th (.int n) (some (.ref a)) ∧ o ∈ h.obs ∧ o.num = n ∧ ObAt K H a o := by
  obtain ⟨os, h1, h2⟩ := r.aT
  obtain ⟨a, o, q, q1, q2, q3⟩ := dictOf_get h1 hn
  exact ⟨a, o, .inl ⟨_, Sum.inl n, .inl h2, rfl, q.symm⟩, q1, q2, q3⟩
end
theorem ob_uniq {h : Hd} (ok : h.Ok) {o p : Ob} (ho : o ∈ h.obs) (hp : p ∈ h.obs) (e : o.num = p.num) : o = p := by
  have key : ∀ (l : List Ob), (l.map Ob.num).Pairwise (· < ·) → o ∈ l → p ∈ l → o = p := by
    intro l
    induction l with
    | nil => intro _ z _; cases z
    | cons x r ih =>
      intro up h1 h2
      obtain ⟨u1, u2⟩ := List.pairwise_cons.mp (show (x.num :: r.map Ob.num).Pairwise (· < ·) from up)
      rcases List.mem_cons.mp h1 with e1 | m1
      · rcases List.mem_cons.mp h2 with e2 | m2
        · rw [e1, e2]
        · have := u1 _ (List.mem_map_of_mem (f := Ob.num) m2); rw [← e1] at this; omega
      · rcases List.mem_cons.mp h2 with e2 | m2
        · have := u1 _ (List.mem_map_of_mem (f := Ob.num) m1); rw [← e2] at this; omega
        · exact ih u2 m1 m2
  exact key h.obs ok.up ho hp
theorem In.same {h : Hd} {cs ds : List Int} (e : ∀ n, n ∈ cs ↔ n ∈ ds) (k : Nat) (n : Int) : In h cs k n ↔ In h ds k n := ⟨In.less fun m z => (e m).mpr z, In.less fun m z => (e m).mp z⟩
theorem RoundsOf.same {h : Hd} {cs ds : List Int} {G : List (Int × Int)} (e : ∀ n, n ∈ cs ↔ n ∈ ds) (r : RoundsOf h cs G) : RoundsOf h ds G :=
  ⟨r.nd, fun n => (r.all n).trans ⟨fun ⟨k, x⟩ => ⟨k, (In.same e k n).mp x⟩, fun ⟨k, x⟩ => ⟨k, (In.same e k n).mpr x⟩⟩, fun n v z => let ⟨k, a, b, c⟩ := r.val n v z; ⟨k, a, (In.same e k n).mp b, fun j hj x => c j hj ((In.same e j n).mpr x)⟩⟩
section
variable {P : Program} {w : World} {K : PySem.W.Frag} {mg : Str → Option Value} {base : Heap}
theorem ok_rounds {f : Addr} {fd : FuncData} {cd : Value} (F : Df K "rounds" s_rounds f fd cd) (T : Txt mg) (C_registers_of : Cal P w K mg base 1 "registers_of" (sp_registers_of K) []) (C_by_number : Cal P w K mg base 2 "by_number" (sp_by_number K) []) (C_objects_among : Cal P w K mg base 1 "objects_among" (sp_objects_among K) []) (C_led_to : Cal P w K mg base 2 "led_to" (sp_led_to K) []) : FnOk P w K mg base CX0 3 f fd ["heap", "condemned"] (sp_rounds K) := by
  have nd := sc_rounds.nd
  refine F.ok sc_rounds (fun vs H Q E h => ?_) (fun A outer s H vs Q E hr h => ?_)
  · obtain ⟨_, _, rfl, _⟩ := h; rfl
  have hu := hu_of hr
  obtain ⟨x0, x1, rfl, h⟩ := h
  refine ⟨_, (pss_cons (ps_set (i := 2) nd rfl (by first | exact Or.inl rfl | exact Or.inr rfl) (pe_c C_by_number hr (by first | exact Nat.le_refl _ | decide) rfl (pa_cons (pv 0) pa_nil)))
    (pss_cons (ps_set (i := 3) nd rfl (by first | exact Or.inl rfl | exact Or.inr rfl) (pe_dc (own := [("number", 4)]) rfl nd (show PI _ _ _ (iSeq K _) from pi_seq (pv 1)) (blkOk_by (own := [("number", 4)]) (N := N_rounds) (sc := defScope s_rounds) (by decide +kernel)) (fun _ _ _ _ _ => (pg_name (i := 4) nd rfl (by first | exact Or.inl rfl | exact Or.inr rfl))) (fun _ _ _ _ _ => pts_nil) (fun _ _ _ _ _ => (pv 4)) (fun _ _ _ _ _ => pe_bl)))
    (pss_cons (ps_set (i := 5) nd rfl (by first | exact Or.inl rfl | exact Or.inr rfl) pe_dnewK)
    (pss_cons (ps_set (i := 6) nd rfl (by first | exact Or.inl rfl | exact Or.inr rfl) pe_int)
    (pss_cons (ps_set (i := 7) nd rfl (by first | exact Or.inl rfl | exact Or.inr rfl) (pe_dc (own := [("number", 4)]) rfl nd (show PI _ _ _ (iList K _) from pi_list (pe_c C_objects_among hr (by first | exact Nat.le_refl _ | decide) rfl (pa_cons (pe_c C_registers_of hr (by first | exact Nat.le_refl _ | decide) rfl (pa_cons (pv 0) pa_nil)) pa_nil))) (blkOk_by (own := [("number", 4)]) (N := N_rounds) (sc := defScope s_rounds) (by decide +kernel)) (fun _ _ _ _ _ => (pg_name (i := 4) nd rfl (by first | exact Or.inl rfl | exact Or.inr rfl))) (fun _ _ _ _ _ => pts_nil) (fun _ _ _ _ _ => (pv 4)) (fun _ _ _ _ _ => pe_bl)))
    (pss_cons (ps_while PassesOwn.never (pt_truth (pv 7) (by intro _; rfl)) (pss_cons (ps_lock (ps_for PassesOwn.never rfl (pi_keys (pv 7)) (pg_name (i := 4) nd rfl (by first | exact Or.inl rfl | exact Or.inr rfl))
    (pss_one (ps_dput hu (pv 5) (pv 4) (pv 6) rfl))))
    (pss_cons (ps_lock (ps_setLc (i := 8) (own := [("number", 4)]) rfl nd rfl rfl (sw_true rfl rfl rfl (by decide +kernel)) (pi_keys (pv 5)) (blkOk_by (own := [("number", 4)]) (N := N_rounds) (sc := defScope s_rounds) (by decide +kernel)) (fun _ _ _ _ _ => (pg_name (i := 4) nd rfl (by first | exact Or.inl rfl | exact Or.inr rfl))) (fun _ _ _ _ _ => (pts_one (PW.pt (pw_or (pt_cmp (pc_din hu (pv 4) (pv 7)) rfl) (pw_or1 (pt_cmpR op_eq (pe_ix (r := rIxT K) ix_tup (pe_dget hu (pv 2) (pv 4) (fun _ _ => rfl)) pe_int (fun _ _ => rfl)) pe_str (nomark _))))))) (fun _ _ _ _ _ => (pv 4))))
    (pss_cons (ps_set (i := 7) nd rfl (by first | exact Or.inl rfl | exact Or.inr rfl) (pe_dc2 (own := [("number", 4), ("found", 9)]) (vs1 := [9]) rfl nd (show PI _ _ _ (iList K _) from pi_list (pv 8)) (blkOk_by (own := [("number", 4), ("found", 9)]) (N := N_rounds) (sc := defScope s_rounds) (by decide +kernel)) (by decide) (fun _ _ _ _ _ => (pg_name (i := 4) nd rfl (by first | exact Or.inl rfl | exact Or.inr rfl))) (fun _ _ _ _ _ => pts_nil) (fun _ _ _ _ _ => (show PI _ _ _ (iList K _) from pi_list (pe_c C_led_to hr (by first | exact Nat.le_refl _ | decide) rfl (pa_cons (pe_dget hu (pv 2) (pv 4) (fun _ _ => rfl)) (pa_cons (pv 5) (pa_cons (pv 3) pa_nil)))))) (fun _ _ _ _ _ => (pg_name (i := 9) nd rfl (by first | exact Or.inl rfl | exact Or.inr rfl))) (fun _ _ _ _ _ => (pts_one (pt_cmp (pc_dnotin hu (pv 9) (pv 5)) rfl))) (fun _ _ _ _ _ => (pv 9)) (fun _ _ _ _ _ => pe_bl)))
    (pss_one (ps_aug (i := 6) nd rfl (by first | exact Or.inl rfl | exact Or.inr rfl) pe_int ip_add))))))
    (pss_one (ps_ret (pv 5))))))))), ?_⟩
  obtain ⟨a, h, c, cs, rfl, rfl, hA, ok, hC, hcz, q⟩ := h
  -- things
  refine ⟨_, rfl, _, rfl, a, h, rfl, hA, ok, fun th H1 os f1 e1 hos hth => ?_⟩
  -- gone
  have hC1 := SqS.all e1 hC
  refine seq_at hC1 (fun _ z => ⟨_, rfl, z⟩) fun J G wk hG gn fgn => ?_
  refine dcM [] wk fgn (fun i acc _ => ∃ ks, acc = dB ks ∧ ∀ n, n ∈ ks ↔ n ∈ cs.take i) ⟨[], rfl, by simp⟩ (fun H' e => hG H' e) (fun i x H2 H3 acc hi e k1 k2 hacc y => ?_) (fun H2 acc e2 k1 k2 hacc => ?_)
  · obtain ⟨rfl, hx⟩ := y
    rw [List.length_map] at hi
    obtain ⟨n, hn⟩ : ∃ n, cs[i]? = some n := ⟨cs[i], List.getElem?_eq_getElem hi⟩
    rw [List.getElem?_map, hn] at hx
    obtain rfl : V.int n = x := Option.some.inj hx
    obtain ⟨ks, rfl, hk⟩ := hacc
    refine ⟨rfl, tyes ⟨_, rfl, ?_⟩⟩
    refine DcP.yes (k := Sum.inl n) fgn (by simp) (by omega) e k1 k2 rfl (ExM.refl _ _) ⟨addK ks n, dB_put ks n, fun m => ?_⟩
    rw [mem_addK, hk, mem_take_snoc hn]
  obtain ⟨ks, rfl, hks⟩ := hacc
  rw [List.length_map, List.take_length] at hks
  have hth2 : H2 th = some (.dK (dictOf os h.obs)) := ExA.at e2 hth
  have hgn2 : H2 gn = some (.dK (dB ks)) := k1
  have nth_gn : th ≠ gn := ne_of_none hth fgn
  -- got, depth
  intro gt fgt
  have hth3 : (upd H2 gt (.dK [])) th = some (.dK (dictOf os h.obs)) := by rw [upd_ne (ne_of_none hth2 fgt)]; exact hth2
  have hgn3 : (upd H2 gt (.dK [])) gn = some (.dK (dB ks)) := by rw [upd_ne (ne_of_none hgn2 fgt)]; exact hgn2
  have hgt3 : (upd H2 gt (.dK [])) gt = some (.dK []) := upd_same
  have n_tg : th ≠ gt := ne_of_none hth2 fgt
  have n_gg : gn ≠ gt := ne_of_none hgn2 fgt
  have E2 : ExA H H2 := e1.trans e2
  have fgt0 : H gt = none := ExA.free E2 fgt
  have E3 : ExA H (upd H2 gt (.dK [])) := E2.put fgt0
  have T3 : Tk K H (upd H2 gt (.dK [])) := Tk.all E3
  have P3 : Paired (ObAt K (upd H2 gt (.dK []))) os h.obs := pmp hos fun _ _ z => ObAt.mono (Tk.trans (Tk.all e2) (Tk.new fgt)) z
  generalize upd H2 gt (.dK []) = H3 at hth3 hgn3 hgt3 E3 T3 P3 ⊢
  -- the registers
  refine ⟨_, rfl, _, rfl, a, h, rfl, HeapAt.mono T3 hA, fun r hr => ?_⟩
  refine ⟨_, rfl, r, h.regs, rfl, hr.sq, ok.nreg, fun l H4 fl e4 hl => ?_⟩
  refine ⟨l, rfl, ⟨_, SqL.of hl⟩, fun nw fnw => ?_⟩
  have hl' : ∀ H', ExA H4 H' → SqL K H' l ((h.regs.filterMap id).map V.int) := fun H' e => SqL.of (ExA.at e hl)
  have mreg : ∀ n, n ∈ h.regs.filterMap id ↔ some n ∈ h.regs := fun n => by simp
  refine dcM [] (walk_list (xs := (h.regs.filterMap id).map V.int)) fnw (fun i acc _ => ∃ ks, acc = dB ks ∧ ks.Nodup ∧ ∀ n, n ∈ ks ↔ n ∈ (h.regs.filterMap id).take i) ⟨[], rfl, by simp, by simp⟩ hl' (fun i x H5 H6 acc hi e k1 k2 hacc y => ?_) (fun H5 acc e5 k1 k2 hacc => ?_)
  · obtain ⟨rfl, hx⟩ := y
    rw [List.length_map] at hi
    have hz : i < 1000 := Nat.lt_of_lt_of_le hi (Nat.le_trans (List.length_filterMap_le _ _) ok.nreg)
    obtain ⟨n, hn⟩ : ∃ n, (h.regs.filterMap id)[i]? = some n := ⟨_, List.getElem?_eq_getElem hi⟩
    rw [List.getElem?_map, hn] at hx
    obtain rfl : V.int n = x := Option.some.inj hx
    obtain ⟨js, rfl, nd1, hk⟩ := hacc
    refine ⟨rfl, tyes ⟨_, rfl, ?_⟩⟩
    refine DcP.yes (k := Sum.inl n) fnw (by simp) (by omega) e k1 k2 rfl (ExM.refl _ _) ⟨addK js n, dB_put js n, addK_nd nd1, fun m => ?_⟩
    rw [mem_addK, hk, mem_take_snoc hn]
  obtain ⟨W, rfl, ndW, hW⟩ := hacc
  rw [List.length_map, List.take_length] at hW
  have E5 : ExA H H5 := (E3.trans e4).trans e5
  have nwE : ∀ {b : Addr} {o : HO}, H3 b = some o → b ≠ nw := fun hb => ne_of_none (ExA.at e4 hb) fnw
  have R0 : Rw K H H5 h ks th gn gt nw [] W := ⟨E5, fgt0, ExA.free (E3.trans e4) fnw, ⟨os, pmp P3 fun _ _ z => ObAt.mono (Tk.all (e4.trans e5)) z, ExA.at (e4.trans e5) hth3⟩, ExA.at (e4.trans e5) hgn3, ExA.at (e4.trans e5) hgt3, k1, n_tg, n_gg, nwE hth3, nwE hgn3, nwE hgt3⟩
  have hcs : ∀ n, n ∈ ks ↔ n ∈ cs := hks
  have I0 : RI h ks 0 [] W := RI.first ndW fun n => (hW n).trans (mreg n)
  -- the loop
  refine ⟨fun m σ' H' => ∃ (d : Nat) (G : List (Int × Int)) (W : List Int) (nw : Addr) (u4 u8 : Option V), m + G.length = h.nums.length + 1 ∧ σ' = [some (.ref a), some (.ref c), some (.ref th), some (.ref gn), u4, some (.ref gt), some (.int (d : Int)), some (.ref nw), u8, none] ∧
      RI h ks d G W ∧ Rw K H H' h ks th gn gt nw G W, ⟨h.nums.length + 1, 0, [], W, nw, none, none, rfl, rfl, I0, R0⟩, ?_⟩
  rintro m σ' H' ⟨d, G, W, nw, u4, u8, hm, rfl, I, R⟩
  refine ⟨_, rfl, !(dB W).isEmpty, .inr (.inr ⟨_, R.aW, rfl⟩), ?_⟩
  by_cases hW : W = []
  · subst hW
    exact iteF ⟨_, rfl, q gt H' G (I.done.same hcs) fgt0 R.ex R.aG⟩
  have hne : (!(dB W).isEmpty) = true := by
    cases W with
    | nil => exact absurd rfl hW
    | cons _ _ => rfl
  rw [hne]
  refine iteT ⟨fun σ2 H2 => ∃ (W' : List Int) (nw' : Addr) (v4 v8 : Option V), σ2 = [some (.ref a), some (.ref c), some (.ref th), some (.ref gn), v4, some (.ref gt), some (.int ((d + 1 : Nat) : Int)), some (.ref nw'), v8, none] ∧
      RI h ks (d + 1) (addW G W d) W' ∧ Rw K H H2 h ks th gn gt nw' (addW G W d) W', ?_, ?_⟩
  · rintro σ2 H2 ⟨W', nw', v4, v8, rfl, I', R'⟩
    have z1 := I.size ok
    have z2 := RI.more (G := G) (d := d) hW
    exact ⟨h.nums.length + 1 - (addW G W d).length, by omega, d + 1, addW G W d, W', nw', v4, v8, by omega, rfl, I', R'⟩
  -- got[number] = depth, for the newest
  refine ⟨nw, _, R.aW, trivial, fun od => ?_⟩
  have Rl : Rk K H (upd H' nw (.frz od (.dK (dB W)))) h ks th gn gt nw (.dK (dI G)) (.frz od (.dK (dB W))) := R.rk.setW (Tk.dic R.aW)
  refine ⟨_, rfl, nw, od, rfl, .inl ⟨_, upd_same, ?_⟩⟩
  generalize upd H' nw (.frz od (.dK (dB W))) = H1 at Rl ⊢
  refine for_it (walk_keys (d := nw) (o := od) (kvs := dB W)) (fun i σ2 H2 => ∃ v4, σ2 = [some (.ref a), some (.ref c), some (.ref th), some (.ref gn), v4, some (.ref gt), some (.int (d : Int)), some (.ref nw), u8, none] ∧
      Rk K H H2 h ks th gn gt nw (.dK (dI (G ++ (W.take i).map fun n => (n, (d : Int))))) (.frz od (.dK (dB W)))) ⟨u4, rfl, by simpa using Rl⟩ (fun i σ2 H2 _ p => p.elim fun _ z => z.2.aW) (fun i x σ2 H2 H3 hi p y => ?_) (fun σ2 H2 p => ?_)
  · obtain ⟨v4, rfl, r⟩ := p
    obtain ⟨rfl, k, v, hk, rfl⟩ := y
    rw [dB_len] at hi
    obtain ⟨n, hn⟩ : ∃ n, W[i]? = some n := ⟨_, List.getElem?_eq_getElem hi⟩
    have hk' : (dB W)[i]? = some (Sum.inl n, .bl true) := by unfold dB; rw [List.getElem?_map, hn]; rfl
    rw [hk'] at hk
    cases hk
    have hnw : n ∈ W := List.mem_of_getElem? hn
    have ng : n ∉ (G ++ (W.take i).map fun n => (n, (d : Int))).map (·.1) := by
      rw [List.map_append, List.map_map, List.mem_append]
      rintro (z | z)
      · exact I.dis hnw z
      · have z' : n ∈ W.take i := by
          obtain ⟨m, hm, e⟩ := List.mem_map.mp z
          have e : m = n := e
          rw [← e]; exact hm
        obtain ⟨j, hj⟩ := List.getElem?_of_mem z'
        have hlt : j < i := by
          have := (List.getElem?_eq_some_iff.mp hj).1
          rw [List.length_take] at this; omega
        rw [List.getElem?_take_of_lt hlt] at hj
        exact absurd (nd_ix I.ndW hj hn) (Nat.ne_of_lt hlt)
    have zl : (dI (G ++ (W.take i).map fun n => (n, (d : Int)))).length < sizeLine := by
      rw [dI_len, List.length_append, List.length_map]
      have z1 := I.size ok
      unfold addW at z1
      rw [List.length_append, List.length_map] at z1
      have z2 : (W.take i).length ≤ W.length := by rw [List.length_take]; omega
      have z3 : h.nums.length ≤ 50 := by unfold Hd.nums; rw [List.length_map]; exact ok.size
      exact szl (by omega)
    refine ⟨_, rfl, _, rfl, _, rfl, gt, _, rfl, DPut.k (k := Sum.inl n) r.aG zl, some (.int n), rfl, ?_⟩
    have r2 := r.setG (u := .dK (putK (dI (G ++ (W.take i).map fun n => (n, (d : Int)))) (Sum.inl n) (.int (d : Int)))) (Tk.dic r.aG)
    rw [dI_put ng] at r2
    rw [dI_put ng, take_snoc hn, List.map_append, ← List.append_assoc]
    rw [List.append_assoc] at r2 ⊢
    simpa using r2
  obtain ⟨v4, rfl, r⟩ := p
  rw [dB_len, List.take_length] at r
  refine ⟨r.aW, ?_⟩
  have R2 : Rw K H (upd H2 nw (.dK (dB W))) h ks th gn gt nw (addW G W d) W := (r.setW (u := .dK (dB W)) (Tk.frz r.aW)).rw
  generalize upd H2 nw (.dK (dB W)) = H3 at R2 ⊢
  -- who is asked
  have keysI : (dI (addW G W d)).map (·.1) = ((addW G W d).map (·.1)).map Sum.inl := dI_keys _
  have zK : ((addW G W d).map (·.1)).length ≤ 50 := by
    rw [List.length_map]
    have z1 := I.size ok
    have z3 : h.nums.length ≤ 50 := by unfold Hd.nums; rw [List.length_map]; exact ok.size
    omega
  have hnum : ∀ n, n ∈ (addW G W d).map (·.1) → n ∈ h.nums := fun n z => In.num ok ((I.memA n).mp z)
  refine ⟨gt, _, R2.aG, trivial, fun od => ?_⟩
  have Rl := R2.rk.setG (u := .frz od (.dK (dI (addW G W d)))) (Tk.dic R2.aG)
  refine ⟨_, rfl, gt, od, rfl, .inl ⟨_, upd_same, fun D hD => ?_⟩⟩
  generalize upd H3 gt (.frz od (.dK (dI (addW G W d)))) = H4 at Rl hD ⊢
  refine lcM [] (walk_keys (d := gt) (o := od) (kvs := dI (addW G W d))) hD (fun i acc _ => ∃ as : List Int, acc = as.map V.int ∧ (∀ m ∈ as, m ∈ (addW G W d).map (·.1)) ∧
      ∀ m, m ∈ ((addW G W d).map (·.1)).take i → (m ∈ W ∨ ∃ k es, Ob.tab k es ∈ h.obs ∧ k = m) → m ∈ as) ⟨[], rfl, by simp, by simp⟩ (fun H' e => ExA.at e Rl.aG) (fun i x H5 H6 acc hi e k1 k2 hacc y => ?_) (fun H5 acc e5 k1 k2 hacc => ?_)
  · obtain ⟨rfl, k, v, hk, rfl⟩ := y
    rw [dI_len] at hi
    obtain ⟨n, hn⟩ : ∃ n, ((addW G W d).map (·.1))[i]? = some n := ⟨_, List.getElem?_eq_getElem (by rw [List.length_map]; exact hi)⟩
    have hk' : ((dI (addW G W d)).map (·.1))[i]? = some (Sum.inl n) := by rw [keysI, List.getElem?_map, hn]; rfl
    rw [List.getElem?_map, hk] at hk'
    obtain rfl : k = Sum.inl n := Option.some.inj hk'
    have hin : n ∈ (addW G W d).map (·.1) := List.mem_of_getElem? hn
    obtain ⟨as, rfl, ha, hb⟩ := hacc
    have r5 := Rl.keep e
    have zi : i ≤ 40000 := by rw [List.length_map] at zK; omega
    have yes : ∀ H7, ExA H6 H7 → ∃ acc', H7 D = some (.lst acc') ∧ acc'.length < sizeLine ∧ LcP [] H4 D (fun i acc _ => ∃ as : List Int, acc = as.map V.int ∧ (∀ m ∈ as, m ∈ (addW G W d).map (·.1)) ∧
      ∀ m, m ∈ ((addW G W d).map (·.1)).take i → (m ∈ W ∨ ∃ k es, Ob.tab k es ∈ h.obs ∧ k = m) → m ∈ as) (i + 1) (upd H7 D (.lst (acc' ++ [.int n]))) := fun H7 e7 => by
      refine LcP.yes hD (by simp) zi e k1 k2 e7 ⟨as ++ [n], by rw [List.map_append]; rfl, fun m hm => ?_, fun m hm hq => ?_⟩
      · rcases List.mem_append.mp hm with z | z
        · exact ha m z
        · have : m = n := by simpa using z
          rw [this]; exact hin
      · rcases (mem_take_snoc hn).mp hm with z | z
        · exact List.mem_append_left _ (hb m z hq)
        · rw [z]; simp
    refine ⟨rfl, _, rfl, _, rfl, nw, _, rfl, DGet.k (k := Sum.inl n) r5.aW, _, rfl, ?_⟩
    rw [key_has (dB_keys W) n]
    by_cases mW : n ∈ W
    · rw [decide_eq_true mW]
      exact iteT (iteT ⟨_, rfl, yes _ (ExM.refl _ _)⟩)
    rw [decide_eq_false mW]
    refine iteF ?_
    obtain ⟨ao, o, hg, ho, hon, hob⟩ := r5.look (hnum n hin)
    refine ⟨_, rfl, _, rfl, th, _, rfl, hg, ?_⟩
    have no : (∀ k es, Ob.tab k es ∈ h.obs → k ≠ n) → LcP [] H4 D (fun i acc _ => ∃ as : List Int, acc = as.map V.int ∧ (∀ m ∈ as, m ∈ (addW G W d).map (·.1)) ∧
      ∀ m, m ∈ ((addW G W d).map (·.1)).take i → (m ∈ W ∨ ∃ k es, Ob.tab k es ∈ h.obs ∧ k = m) → m ∈ as) (i + 1) H6 := fun nt => by
      refine LcP.no (by simp) e k1 k2 (ExM.refl _ _) ⟨as, rfl, ha, fun m hm hq => ?_⟩
      rcases (mem_take_snoc hn).mp hm with z | rfl
      · exact hb m z hq
      · rcases hq with z | ⟨k, es, h1, h2⟩
        · exact absurd z mW
        · exact absurd h2 (nt k es h1)
    cases o with
    | rcd n' fs =>
      obtain ⟨t, h1, _⟩ := hob
      exact ⟨ao, _, _, _, rfl, rfl, h1, at0, rfl, _, rfl, iteF (no fun k es h1 h2 => by cases ob_uniq ok ho h1 (hon.trans h2.symm))⟩
    | weak n' t =>
      have h1 : SqT K H6 ao [.str "weak", .int n', rV t] := hob
      exact ⟨ao, _, _, _, rfl, rfl, h1, at0, rfl, _, rfl, iteF (no fun k es h1 h2 => by cases ob_uniq ok ho h1 (hon.trans h2.symm))⟩
    | tab n' es =>
      obtain ⟨t, ps, h1, _⟩ := hob
      exact ⟨ao, _, _, _, rfl, rfl, h1, at0, rfl, _, rfl, iteT ⟨_, rfl, yes _ (ExM.refl _ _)⟩⟩
  obtain ⟨as, rfl, ha, hb⟩ := hacc
  rw [dI_len, ← List.length_map (f := fun q : Int × Int => q.1), List.take_length] at hb
  rw [dI_len] at k2
  have r5 := Rl.keep e5
  refine ⟨r5.aG, ?_⟩
  have R6 : Rw K H (upd H5 gt (.dK (dI (addW G W d)))) h ks th gn gt nw (addW G W d) W := (r5.setG (u := .dK (dI (addW G W d))) (Tk.frz r5.aG)).rw
  have hask : (upd H5 gt (.dK (dI (addW G W d)))) D = some (.lst (as.map V.int)) := by
    rw [upd_ne (ne_of_none Rl.aG hD).symm]; exact k1
  generalize upd H5 gt (.dK (dI (addW G W d))) = H6 at R6 hask ⊢
  -- what is found
  refine ⟨_, rfl, D, rfl, ⟨_, SqL.of hask⟩, fun N hN => ?_⟩
  have zN : ∀ W' : List Int, W'.Nodup → (∀ n ∈ W', n ∈ h.nums) → (dB W').length < sizeLine := fun W' n1 n2 => by
    have z1 := nd_sub n1 n2
    have z3 : h.nums.length ≤ 50 := by unfold Hd.nums; rw [List.length_map]; exact ok.size
    rw [dB_len]
    exact szl (by omega)
  have Fnd : ∀ (l : List Int) (n : Int), (∃ o ∈ h.obs, o.num ∈ l ∧ o.fol ks (· ∈ (addW G W d).map (·.1)) n) → n ∈ h.nums := fun l n ⟨o, ho, _, hf⟩ => Ob.fol_in (ok.obs o ho) hf
  refine ddM (walk_list (xs := as.map V.int)) (fun i H7 => ExA H6 H7 ∧ ∃ W' : List Int, H7 N = some (.dK (dB W')) ∧ W'.Nodup ∧ ∀ n, n ∈ W' ↔ n ∉ (addW G W d).map (·.1) ∧ ∃ o ∈ h.obs, o.num ∈ as.take i ∧ o.fol ks (· ∈ (addW G W d).map (·.1)) n)
    ⟨ExM.new hN, [], upd_same, List.nodup_nil, fun n => by simp⟩ (fun i H7 _ p => SqL.of (ExA.at p.1 hask)) (fun i x H7 H8 hi p y => ?_) (fun H7 p => ?_)
  · obtain ⟨rfl, hx⟩ := y
    obtain ⟨e7, W', hW', ndW', mW'⟩ := p
    rw [List.length_map] at hi
    obtain ⟨m, hm⟩ : ∃ m, as[i]? = some m := ⟨_, List.getElem?_eq_getElem hi⟩
    rw [List.getElem?_map, hm] at hx
    obtain rfl : V.int m = x := Option.some.inj hx
    have hmK := ha m (List.mem_of_getElem? hm)
    have R7 := R6.rk.keep e7
    obtain ⟨ao, o, hg, ho, hon, hob⟩ := R7.look (hnum m hmK)
    refine ⟨rfl, tyes ?_⟩
    refine ⟨_, rfl, _, rfl, th, _, rfl, hg, _, rfl, _, rfl, ?_⟩
    refine ⟨_, _, _, rfl, ao, o, gt, (addW G W d).map (·.1), gn, ks, rfl, rfl, rfl, hob, (ok.obs o ho).small, ⟨_, R7.aG, keysI⟩, ⟨_, R7.aN, dB_keys ks⟩, fun l H9 fl e9 hl => ?_⟩
    refine ⟨l, rfl, ⟨_, SqL.of hl⟩, ?_⟩
    have nNl : N ≠ l := ne_of_none hW' fl
    refine ddI (walk_list (xs := (ledTo o ((addW G W d).map (·.1)) ks).map V.int)) (fun j H10 => ExA H6 H10 ∧ H10 l = some (.lst ((ledTo o ((addW G W d).map (·.1)) ks).map V.int)) ∧ ∃ W2 : List Int, H10 N = some (.dK (dB W2)) ∧ W2.Nodup ∧
        ∀ n, n ∈ W2 ↔ n ∉ (addW G W d).map (·.1) ∧ ((∃ o ∈ h.obs, o.num ∈ as.take i ∧ o.fol ks (· ∈ (addW G W d).map (·.1)) n) ∨ n ∈ (ledTo o ((addW G W d).map (·.1)) ks).take j))
      ⟨ExM.trans e7 e9, hl, W', ExA.at e9 hW', ndW', fun n => by rw [mW' n]; simp⟩ (fun j H10 _ p => SqL.of p.2.1) (fun j x H10 H11 hj p y => ?_) (fun H10 p => ?_)
    · obtain ⟨rfl, hx⟩ := y
      obtain ⟨e10, hl10, W2, hW2, nd2, mW2⟩ := p
      rw [List.length_map] at hj
      obtain ⟨n, hn⟩ : ∃ n, (ledTo o ((addW G W d).map (·.1)) ks)[j]? = some n := ⟨_, List.getElem?_eq_getElem hj⟩
      rw [List.getElem?_map, hn] at hx
      obtain rfl : V.int n = x := Option.some.inj hx
      have R10 := R6.rk.keep e10
      refine ⟨rfl, _, rfl, _, rfl, gt, _, rfl, DGet.k (k := Sum.inl n) R10.aG, _, rfl, ?_⟩
      rw [key_has keysI n]
      by_cases c : n ∈ (addW G W d).map (·.1)
      · rw [decide_eq_true c]
        refine iteF ⟨e10, hl10, W2, hW2, nd2, fun k => ?_⟩
        rw [mW2 k, mem_take_snoc hn]
        constructor
        · rintro ⟨z1, z2⟩
          exact ⟨z1, z2.elim .inl fun z => .inr (.inl z)⟩
        · rintro ⟨z1, z2 | z2 | rfl⟩
          · exact ⟨z1, .inl z2⟩
          · exact ⟨z1, .inr z2⟩
          · exact absurd c z1
      · rw [decide_eq_false c]
        have nd3 : (addK W2 n).Nodup := addK_nd nd2
        have hm3 : ∀ k, k ∈ addK W2 n ↔ k ∉ (addW G W d).map (·.1) ∧ ((∃ o ∈ h.obs, o.num ∈ as.take i ∧ o.fol ks (· ∈ (addW G W d).map (·.1)) k) ∨ k ∈ (ledTo o ((addW G W d).map (·.1)) ks).take (j + 1)) := fun k => by
          rw [mem_addK, mW2 k, mem_take_snoc hn]
          constructor
          · rintro (⟨z1, z2⟩ | rfl)
            · exact ⟨z1, z2.elim .inl fun z => .inr (.inl z)⟩
            · exact ⟨c, .inr (.inr rfl)⟩
          · rintro ⟨z1, z2 | z2 | z2⟩
            · exact .inl ⟨z1, .inl z2⟩
            · exact .inl ⟨z1, .inr z2⟩
            · exact .inr z2
        have hin2 : ∀ k ∈ W2, k ∈ h.nums := fun k hk => by
          rcases ((mW2 k).mp hk).2 with z | z
          · exact Fnd _ _ z
          · exact Ob.fol_in (ok.obs o ho) (mem_ledTo.mp (List.mem_of_mem_take z))
        refine iteT ⟨_, rfl, dB W2, Sum.inl n, rfl, hW2, zN W2 nd2 hin2, ExM.put e10 (ExA.free (ExM.refl _ _) hN), ?_, addK W2 n, ?_, nd3, hm3⟩
        · rw [upd_ne nNl.symm]; exact hl10
        · rw [dB_put]; exact upd_same
    · obtain ⟨e10, hl10, W2, hW2, nd2, mW2⟩ := p
      rw [List.length_map, List.take_length] at mW2
      refine ⟨e10, W2, hW2, nd2, fun n => ?_⟩
      rw [mW2 n, mem_ledTo]
      constructor
      · rintro ⟨z1, ⟨o1, h1, h2, h3⟩ | z⟩
        · exact ⟨z1, o1, h1, (mem_take_snoc hm).mpr (.inl h2), h3⟩
        · exact ⟨z1, o, ho, (mem_take_snoc hm).mpr (.inr hon), z⟩
      · rintro ⟨z1, o1, h1, h2, h3⟩
        rcases (mem_take_snoc hm).mp h2 with z | z
        · exact ⟨z1, .inl ⟨o1, h1, z, h3⟩⟩
        · have e1 := ob_uniq ok h1 ho (z.trans hon.symm)
          rw [e1] at h3
          exact ⟨z1, .inr h3⟩
  obtain ⟨e7, W', hW', ndW', mW'⟩ := p
  rw [List.length_map, List.take_length] at mW'
  have R7 := R6.rk.keep e7
  have fN : H6 N = none := hN
  refine ⟨.int (d : Int), rfl, _, _, rfl, rfl, W', N, _, _, rfl, I.step ha hb ndW' mW', ?_⟩
  exact ⟨R7.ex, R7.fg, ExA.free R6.ex hN, R7.aT, R7.aN, R7.aG, hW', R7.n1, R7.n2, (let ⟨_, z⟩ := R6.aT; ne_of_none z.2 fN), ne_of_none R6.aN fN, ne_of_none R6.aG fN⟩
end
end Wc
namespace Wc
open PySem L2
/-- rising, and these -/
def UpSet (ns : List Int) (S : Int → Prop) : Prop := ns.Pairwise (· < ·) ∧ ∀ n, n ∈ ns ↔ S n
section
variable (K : PySem.W.Frag)
def R_obtainable : V2 := fun x y H Q => ∃ (a : Addr) (h : Hd) (c : Addr) (cs : List Int), x = .ref a ∧ y = .ref c ∧ HeapAt K H a h ∧ h.Ok ∧ SqT K H c (cs.map .int) ∧ cs.length ≤ 1000 ∧
  ∀ ns, UpSet ns (Obt h cs) → NewT ns H Q
abbrev sp_obtainable : Sp := sp2 (R_obtainable K)
def R_numbers_of : V1 := fun x H Q => ∃ (a : Addr) (h : Hd), x = .ref a ∧ HeapAt K H a h ∧ h.Ok ∧ NewT h.nums H Q
abbrev sp_numbers_of : Sp := sp1 (R_numbers_of K)
def R_reachable : V1 := fun x H Q => ∃ (a : Addr) (h : Hd), x = .ref a ∧ HeapAt K H a h ∧ h.Ok ∧ ∀ ns, UpSet ns (Obt h h.nums) → NewT ns H Q
abbrev sp_reachable : Sp := sp1 (R_reachable K)
def R__law_cell : V2 := fun x y H Q => ∃ (a : Addr) (ns : List Int) (i : Int), x = .ref a ∧ y = .int i ∧ SqL K H a (ns.map .int) ∧ 0 ≤ i ∧ ∀ v : Int, Q (.int v) H
abbrev sp__law_cell : Sp := sp2 (R__law_cell K)
def R__law_digits : V3 := fun x y z H Q => ∃ (a : Addr) (ns : List Int) (i j : Int), x = .ref a ∧ y = .int i ∧ z = .int j ∧ SqL K H a (ns.map .int) ∧ 0 ≤ i ∧ i ≤ j ∧ j ≤ 1000 ∧ ∀ ds, NewL ds H Q
abbrev sp__law_digits : Sp := sp3 (R__law_digits K)
def R__law_box : V3 := fun x y z H Q => ∃ (a : Addr) (ns : List Int) (i j : Int), x = .ref a ∧ y = .int i ∧ z = .int j ∧ SqL K H a (ns.map .int) ∧ 0 ≤ i ∧ i ≤ j ∧ j ≤ 1000 ∧ ∀ b d ds H', H b = none → ExA H H' → Bx H' b d ds → Q (.ref b) H'
abbrev sp__law_box : Sp := sp3 (R__law_box K)
def R__law_draw (_ : PySem.W.Frag) : V2 := fun x y H Q => ∃ (b d : Addr) (ds : List Int) (m : Int), x = .ref b ∧ y = .int m ∧ 0 < m ∧ Bx H b d ds ∧ ∀ H' (v : Int), ExM [b] H H' → Bx H' b d ds → 0 ≤ v → v < m → Q (.int v) H'
abbrev sp__law_draw : Sp := sp2 (R__law_draw K)
def R__law_number : V2 := fun x y H Q => ∃ (b d : Addr) (ds : List Int) (a : Addr) (ns : List Int), x = .ref b ∧ y = .ref a ∧ Bx H b d ds ∧ Nm K H b a ns ∧ ∀ H' (r : Rf), ExM [b] H H' → Bx H' b d ds → Rf.ok ns r → Q (rV r) H'
abbrev sp__law_number : Sp := sp2 (R__law_number K)
def R__law_object : V3 := fun x y z H Q => ∃ (b d : Addr) (ds : List Int) (n : Int) (a : Addr) (ns : List Int), x = .ref b ∧ y = .int n ∧ z = .ref a ∧ Bx H b d ds ∧ Nm K H b a ns ∧
  ∀ H' p o, ExM [b] H H' → Bx H' b d ds → ObAt K H' p o → o.num = n → o.ok ns → Q (.ref p) H'
abbrev sp__law_object : Sp := sp3 (R__law_object K)
def R__law_heap : V2 := fun x y H Q => ∃ (b d : Addr) (ds : List Int) (m : Int), x = .ref b ∧ y = .int m ∧ 0 ≤ m ∧ m ≤ 49 ∧ Bx H b d ds ∧ ∀ H' p (h : Hd), ExM [b] H H' → Bx H' b d ds → HeapAt K H' p h → h.Ok → (h.obs.length : Int) ≤ m → Q (.ref p) H'
abbrev sp__law_heap : Sp := sp2 (R__law_heap K)
def R__law_numbers : V1 := fun x H Q => ∃ (a : Addr) (h : Hd), x = .ref a ∧ HeapAt K H a h ∧ h.Ok ∧ NewL h.nums H Q
abbrev sp__law_numbers : Sp := sp1 (R__law_numbers K)
def R__law_some : V2 := fun x y H Q => ∃ (b d : Addr) (ds : List Int) (a : Addr) (ns : List Int), x = .ref b ∧ y = .ref a ∧ Bx H b d ds ∧ (Nm K H b a ns ∨ SqT K H a (ns.map .int)) ∧ ns.length ≤ 1000 ∧
  ∀ H' p (ms : List Int), ExM [b] H H' → Bx H' b d ds → ms.Sublist ns → H' p = some (.tup (ms.map V.int)) → Q (.ref p) H'
abbrev sp__law_some : Sp := sp2 (R__law_some K)
end
section
variable {P : Program} {w : World} {K : PySem.W.Frag} {mg : Str → Option Value} {base : Heap}
theorem ok__law_cell {f : Addr} {fd : FuncData} {cd : Value} (F : Df K "_law_cell" s__law_cell f fd cd) (T : Txt mg) : FnOk P w K mg base CX0 1 f fd ["script", "k"] (sp__law_cell K) := by
  have nd := sc__law_cell.nd
  refine F.ok sc__law_cell (fun vs H Q E h => ?_) (fun A outer s H vs Q E hr h => ?_)
  · obtain ⟨_, _, rfl, _⟩ := h; rfl
  have hu := hu_of hr
  obtain ⟨x0, x1, rfl, h⟩ := h
  refine ⟨_, (pss_cons (ps_if (pt_cmpR op_lt (pv 1) (pe_callB (r := Evl.rLenS K) call_len_seq rfl T.len PySem.boot_len (pa_cons (pv 0) pa_nil)) (nomark _)) (pss_one (ps_ret (pe_ix (r := rIxL K) ix_list (pv 0) (pv 1) (fun _ _ => rfl)))) pss_nil)
    (pss_one (ps_ret pe_int))), ?_⟩
  obtain ⟨a, ns, i, rfl, rfl, hS, h0, q⟩ := h
  obtain ⟨j, rfl⟩ : ∃ j : Nat, i = (j : Int) := ⟨i.toNat, by omega⟩
  refine ⟨_, rfl, _, rfl, a, _, rfl, .inl hS, _, _, rfl, rfl, _, rfl, ite2 (fun c => ?_) (fun c => ?_)⟩
  · have c' : (j : Int) < (((ns.map V.int).length : Nat) : Int) := of_decide_eq_true c
    rw [List.length_map] at c'
    have hj : j < ns.length := by omega
    exact ⟨_, rfl, _, rfl, a, _, _, V.int ns[j], rfl, rfl, hS, atI_nat (by rw [List.getElem?_map]; simp [hj]), q _⟩
  · exact q 0
theorem ok__law_draw {f : Addr} {fd : FuncData} {cd : Value} (F : Df K "_law_draw" s__law_draw f fd cd) (T : Txt mg) : FnOk P w K mg base CX0 1 f fd ["box", "many"] (sp__law_draw K) := by
  have nd := sc__law_draw.nd
  refine F.ok sc__law_draw (fun vs H Q E h => ?_) (fun A outer s H vs Q E hr h => ?_)
  · obtain ⟨_, _, rfl, _⟩ := h; rfl
  have hu := hu_of hr
  obtain ⟨x0, x1, rfl, h⟩ := h
  refine ⟨_, (pss_cons (ps_set (i := 2) nd rfl (by first | exact Or.inl rfl | exact Or.inr rfl) (pe_ix (r := rIxL K) ix_list (pv 0) pe_int (fun _ _ => rfl)))
    (pss_cons (ps_asg (pe_op op_add (pv 2) pe_int) (pg_sub (pv 0) pe_int set_list))
    (pss_cons (ps_if (pt_cmpR op_lt (pv 2) (pe_callB (r := Evl.rLenS K) call_len_seq rfl T.len PySem.boot_len (pa_cons (pe_ix (r := rIxL K) ix_list (pv 0) pe_int (fun _ _ => rfl)) pa_nil)) (nomark _)) (pss_one (ps_ret (pe_op op_mod (pe_callTy call_int1 rfl T.int (by decide +kernel) (pa_cons (pe_ix (r := rIxL K) ix_list (pe_ix (r := rIxL K) ix_list (pv 0) pe_int (fun _ _ => rfl)) (pv 2) (fun _ _ => rfl)) pa_nil)) (pv 1)))) pss_nil)
    (pss_one (ps_ret pe_int))))), ?_⟩
  obtain ⟨b, d, ds, m, rfl, rfl, hm, hb, q⟩ := h
  obtain ⟨⟨n, e1⟩, e2, e3⟩ := id hb
  refine ⟨_, rfl, b, _, _, _, rfl, rfl, SqL.of e1, at1, ?_⟩
  refine ⟨_, rfl, _, _, rfl, rfl, _, rfl, b, _, _, 1, rfl, rfl, e1, rfl, ?_⟩
  have e4 : (upd H b (.lst ([V.ref d, V.int (n : Int)].set 1 (V.int ((n : Int) + 1))))) b = some (.lst [.ref d, .int ((n + 1 : Nat) : Int)]) := by rw [upd_same]; rfl
  have e5 : (upd H b (.lst ([V.ref d, V.int (n : Int)].set 1 (V.int ((n : Int) + 1))))) d = some (.lst (ds.map V.int)) := by rw [upd_ne e3]; exact e2
  have e6 : ExM [b] H (upd H b (.lst ([V.ref d, V.int (n : Int)].set 1 (V.int ((n : Int) + 1))))) := (ExM.refl _ _).mem (by simp)
  have hb' : Bx _ b d ds := ⟨⟨n + 1, e4⟩, e5, e3⟩
  refine ⟨_, rfl, _, rfl, b, _, _, _, rfl, rfl, SqL.of e4, at0, d, _, rfl, .inl (SqL.of e5), _, _, rfl, rfl, _, rfl, ite2 (fun c => ?_) (fun c => ?_)⟩
  · have c' : (n : Int) < (((ds.map V.int).length : Nat) : Int) := of_decide_eq_true c
    rw [List.length_map] at c'
    have hj : n < ds.length := by omega
    refine ⟨_, rfl, b, _, _, _, rfl, rfl, SqL.of e4, at0, _, rfl, d, _, _, V.int ds[n], rfl, rfl, SqL.of e5, atI_nat (by rw [List.getElem?_map]; simp [hj]), .inl ⟨_, rfl, _, rfl, _, _, rfl, rfl, hm, ?_⟩⟩
    exact q _ _ e6 hb' (Int.emod_nonneg _ (by omega)) (Int.emod_lt_of_pos _ hm)
  · exact q _ 0 e6 hb' (Int.le_refl 0) hm
theorem ok__law_number {f : Addr} {fd : FuncData} {cd : Value} (F : Df K "_law_number" s__law_number f fd cd) (T : Txt mg) (C__law_draw : Cal P w K mg base 1 "_law_draw" (sp__law_draw K) []) : FnOk P w K mg base CX0 2 f fd ["box", "numbers"] (sp__law_number K) := by
  have nd := sc__law_number.nd
  refine F.ok sc__law_number (fun vs H Q E h => ?_) (fun A outer s H vs Q E hr h => ?_)
  · obtain ⟨_, _, rfl, _⟩ := h; rfl
  have hu := hu_of hr
  obtain ⟨x0, x1, rfl, h⟩ := h
  refine ⟨_, (pss_cons (ps_if (PW.pt (pw_or (pt_cmpR op_eq (pe_callB (r := Evl.rLenS K) call_len_seq rfl T.len PySem.boot_len (pa_cons (pv 1) pa_nil)) pe_int (nomark _)) (pw_or1 (pt_cmpR op_eq (pe_c C__law_draw hr (by first | exact Nat.le_refl _ | decide) rfl (pa_cons (pv 0) (pa_cons pe_int pa_nil))) pe_int (nomark _))))) (pss_one (ps_ret pe_non)) pss_nil)
    (pss_one (ps_ret (pe_ix (r := rIxL K) ix_list (pv 1) (pe_op op_mod (pe_callTy call_int1 rfl T.int (by decide +kernel) (pa_cons (pe_c C__law_draw hr (by first | exact Nat.le_refl _ | decide) rfl (pa_cons (pv 0) (pa_cons pe_int pa_nil))) pa_nil)) (pe_callB (r := Evl.rLenS K) call_len_seq rfl T.len PySem.boot_len (pa_cons (pv 1) pa_nil))) (fun _ _ => rfl))))), ?_⟩
  obtain ⟨b, d, ds, a, ns, rfl, rfl, hb, hN, q⟩ := h
  refine ⟨_, rfl, a, _, rfl, .inl hN.1, rfl, _, rfl, ite2 (fun c => ?_) (fun c => ?_)⟩
  · exact iteT (q _ none (ExM.refl _ _) hb (fun i z => by cases z))
  have hne : 0 < ns.length := by
    rw [List.length_map] at c
    have c' : ¬ (V.int (ns.length : Int) = V.int 0) := of_decide_eq_false (Bool.eq_false_iff.mpr c)
    rcases Nat.eq_zero_or_pos ns.length with z | z
    · rw [z] at c'; exact absurd rfl c'
    · exact z
  refine ⟨_, rfl, _, _, rfl, b, d, ds, 5, rfl, rfl, by decide, hb, fun H1 v x1 b1 v0 v5 => ?_⟩
  refine ⟨rfl, _, rfl, ite2 (fun c2 => ?_) (fun c2 => ?_)⟩
  · exact q _ none x1 b1 (fun i z => by cases z)
  have N1 := hN.keep x1
  refine ⟨_, rfl, _, rfl, _, _, rfl, b, d, ds, 1000, rfl, rfl, by decide, b1, fun H2 u x2 b2 u0 u5 => ?_⟩
  have N2 := N1.keep x2
  refine .inl ⟨_, rfl, _, rfl, a, _, rfl, .inl N2.1, _, _, rfl, rfl, by rw [List.length_map]; omega, ?_⟩
  have hl : (ns.map V.int).length = ns.length := List.length_map _
  have r0 : 0 ≤ u % ((ns.map V.int).length : Int) := Int.emod_nonneg _ (by omega)
  have r1 : u % ((ns.map V.int).length : Int) < ((ns.map V.int).length : Int) := Int.emod_lt_of_pos _ (by omega)
  obtain ⟨j, hj⟩ : ∃ j : Nat, u % ((ns.map V.int).length : Int) = (j : Int) := ⟨(u % ((ns.map V.int).length : Int)).toNat, by omega⟩
  have hjl : j < ns.length := by omega
  show rIxL K (.ref a) (.int (u % (((ns.map V.int).length : Nat) : Int))) H2 _
  rw [hj]
  refine ⟨a, _, _, V.int ns[j], rfl, rfl, N2.1, atI_nat (by rw [List.getElem?_map]; simp [hjl]), ?_⟩
  exact q _ (some ns[j]) (x1.trans x2) b2 (fun i z => by cases z; exact List.getElem_mem hjl)
theorem ok__law_numbers {f : Addr} {fd : FuncData} {cd : Value} (F : Df K "_law_numbers" s__law_numbers f fd cd) (T : Txt mg) : FnOk P w K mg base CX0 1 f fd ["heap"] (sp__law_numbers K) := by
  have nd := sc__law_numbers.nd
  refine F.ok sc__law_numbers (fun vs H Q E h => ?_) (fun A outer s H vs Q E hr h => ?_)
  · obtain ⟨_, rfl, _⟩ := h; rfl
  have hu := hu_of hr
  obtain ⟨x0, rfl, h⟩ := h
  refine ⟨_, (pss_one (ps_ret (pe_lc (own := [("row", 1)]) rfl nd (show PI _ _ _ (iTup K _) from pi_tup (pe_ix (r := rIxT K) ix_tup (pv 0) pe_int (fun _ _ => rfl))) (blkOk_by (own := [("row", 1)]) (N := N__law_numbers) (sc := defScope s__law_numbers) (by decide +kernel)) (fun _ _ _ _ _ => (pg_name (i := 1) nd rfl (by first | exact Or.inl rfl | exact Or.inr rfl))) (fun _ _ _ _ _ => pts_nil) (fun _ _ _ _ _ => (pe_ix (r := rIxT K) ix_tup (pv 1) pe_int (fun _ _ => rfl)))))), ?_⟩
  obtain ⟨a, h, rfl, ⟨r, k, o, w, ws, h1, h2, h3, ⟨os, ho, hp⟩, _⟩, ok, q⟩ := h
  have hl := plen hp
  refine ⟨_, rfl, a, _, _, _, rfl, rfl, h1, at4, o, rfl, ⟨_, ho⟩, fun D hD => ?_⟩
  refine lcM [] (walk_tup (xs := os.map V.ref)) hD (fun i acc _ => acc = (h.nums.take i).map V.int) rfl (fun H' e => Tk.all e _ _ ho) (fun i x H1 H2 acc hi e h1 h2 hacc y => ?_) (fun H' acc e h1 h2 hacc => ?_)
  · obtain ⟨rfl, hx⟩ := y
    rw [List.length_map] at hi
    obtain ⟨a1, hos⟩ : ∃ a1, os[i]? = some a1 := ⟨_, List.getElem?_eq_getElem hi⟩
    rw [List.getElem?_map, hos] at hx
    obtain rfl : V.ref a1 = x := Option.some.inj hx
    obtain ⟨o1, ho1, hob⟩ := pget hp hos
    obtain ⟨kn, vn, hn⟩ := (ObAt.mono (Tk.all e) hob).num
    have hnum : h.nums[i]? = some o1.num := by unfold Hd.nums; rw [List.getElem?_map, ho1]; rfl
    have zi : i ≤ 40000 := by have := ok.size; omega
    refine ⟨rfl, tyes ⟨_, rfl, a1, _, _, _, rfl, rfl, hn, at1, LcP.yes hD (by simp) zi e h1 h2 (ExM.refl _ _) ?_⟩⟩
    rw [hacc, take_snoc hnum, List.map_append]; rfl
  · have hn : h.nums.length = os.length := by unfold Hd.nums; rw [List.length_map, hl]
    rw [List.length_map, ← hn, List.take_length] at hacc
    exact q D H' hD e (by rw [h1, hacc])
end
end Wc
namespace Wc
open PySem L2
/-- a or b, a and b, where nothing is made: by their answers -/
theorem or_join {t u : TT} {σ : L2.St} {H : Hp} {Q : Bool → Hp → Prop} (b c : Bool) (ht : ∀ Q' : Bool → Hp → Prop, Q' b H → t σ H Q') (hu : b = false → ∀ Q' : Bool → Hp → Prop, Q' c H → u σ H Q') (h : Q (b || c) H) : tOr t u σ H Q := by
  refine ht _ ?_
  cases b with
  | true => exact iteT h
  | false => exact iteF (hu rfl _ h)
theorem gN {i : Nat} {v : V} {σ : L2.St} {H : Hp} {Q : L2.St → Hp → Prop} (h : Q (σ.set i (some v)) H) : gName i v σ H Q := h
theorem and_join {t u : TT} {σ : L2.St} {H : Hp} {Q : Bool → Hp → Prop} (b c : Bool) (ht : ∀ Q' : Bool → Hp → Prop, Q' b H → t σ H Q') (hu : b = true → ∀ Q' : Bool → Hp → Prop, Q' c H → u σ H Q') (h : Q (b && c) H) : tAnd t u σ H Q := by
  refine ht _ ?_
  cases b with
  | true => exact iteT (hu rfl _ h)
  | false => exact iteF h
theorem len0 (ns : List Int) : decide (V.int (((ns.map V.int).length : Nat) : Int) = V.int 0) = decide (ns.length = 0) := by
  rw [List.length_map]
  by_cases c : ns.length = 0
  · rw [c]; rfl
  · rw [decide_eq_false c]
    exact decide_eq_false fun z => c (by have := V.int.inj z; omega)
theorem pick_ok {K : PySem.W.Frag} {H : Hp} {a : Addr} {ns : List Int} (hS : SqL K H a (ns.map V.int)) (hne : 0 < ns.length) (u : Int) {Q : VK} (q : ∀ i, i ∈ ns → Q (.int i) H) :
    rIxL K (.ref a) (.int (u % (((ns.map V.int).length : Nat) : Int))) H Q := by
  have hl : (ns.map V.int).length = ns.length := List.length_map _
  have r0 : 0 ≤ u % ((ns.map V.int).length : Int) := Int.emod_nonneg _ (by omega)
  have r1 : u % ((ns.map V.int).length : Int) < ((ns.map V.int).length : Int) := Int.emod_lt_of_pos _ (by omega)
  obtain ⟨j, hj⟩ : ∃ j : Nat, u % ((ns.map V.int).length : Int) = (j : Int) := ⟨(u % ((ns.map V.int).length : Int)).toNat, by omega⟩
  have hjl : j < ns.length := by omega
  rw [hj]
  exact ⟨a, _, _, V.int ns[j], rfl, rfl, hS, atI_nat (by rw [List.getElem?_map]; simp [hjl]), q _ (List.getElem_mem hjl)⟩
section
variable {P : Program} {w : World} {K : PySem.W.Frag} {mg : Str → Option Value} {base : Heap}
theorem ok__law_digits {f : Addr} {fd : FuncData} {cd : Value} (F : Df K "_law_digits" s__law_digits f fd cd) (T : Txt mg) (C__law_cell : Cal P w K mg base 1 "_law_cell" (sp__law_cell K) []) : FnOk P w K mg base CX0 2 f fd ["script", "first", "last"] (sp__law_digits K) := by
  have nd := sc__law_digits.nd
  refine F.ok sc__law_digits (fun vs H Q E h => ?_) (fun A outer s H vs Q E hr h => ?_)
  · obtain ⟨_, _, _, rfl, _⟩ := h; rfl
  have hu := hu_of hr
  obtain ⟨x0, x1, x2, rfl, h⟩ := h
  refine ⟨_, (pss_cons (ps_set (i := 3) nd rfl (by first | exact Or.inl rfl | exact Or.inr rfl) (pe_lst pa_nil))
    (pss_cons (ps_for PassesOwn.never rfl (pi_range2 rfl T.range (pa_cons (pv 1) (pa_cons (pv 2) pa_nil))) (pg_name (i := 4) nd rfl (by first | exact Or.inl rfl | exact Or.inr rfl))
    (pss_cons (ps_set (i := 5) nd rfl (by first | exact Or.inl rfl | exact Or.inr rfl) (pe_c C__law_cell hr (by first | exact Nat.le_refl _ | decide) rfl (pa_cons (pv 0) (pa_cons (pv 4) pa_nil))))
    (Evl.pss_cut (ps_if (pt_cmpR op_lt (pv 5) pe_int (nomark _)) (pss_one (ps_set (i := 5) nd rfl (by first | exact Or.inl rfl | exact Or.inr rfl) (pe_op op_sub pe_int (pe_op op_mul pe_int (pv 5))))) pss_nil)
    (pss_one (ps_if (pt_cmpR op_ge (pv 5) (pe_op op_pow pe_int pe_int) (nomark _)) (pss_one (ps_for PassesOwn.never rfl (pi_range1 rfl T.range (pa_cons pe_int pa_nil)) (pg_name (i := 6) nd rfl (by first | exact Or.inl rfl | exact Or.inr rfl))
    (pss_one (ps_if (pt_cmpR op_gt (pv 5) pe_int (nomark _)) (pss_cons (ps_expr (pe_bm PySem.F.plainAttrs_list PySem.F.slot_list_append PySem.F.type_list_append mt_append (pv 3) (pa_cons (pe_op op_mod (pe_callTy call_int1 rfl T.int (by decide +kernel) (pa_cons (pv 5) pa_nil)) pe_int) pa_nil)))
    (pss_one (ps_set (i := 5) nd rfl (by first | exact Or.inl rfl | exact Or.inr rfl) (pe_op op_fdiv (pv 5) pe_int)))) pss_nil)))) (pss_cons (ps_set (i := 7) nd rfl (by first | exact Or.inl rfl | exact Or.inr rfl) (pe_op op_mod (pe_callTy call_int1 rfl T.int (by decide +kernel) (pa_cons (pe_op op_add (pe_op op_add (pe_op op_mul (pv 5) pe_int) (pe_op op_mul (pv 4) pe_int)) pe_int) pa_nil)) pe_int))
    (pss_one (ps_for PassesOwn.never rfl (pi_range1 rfl T.range (pa_cons pe_int pa_nil)) (pg_name (i := 6) nd rfl (by first | exact Or.inl rfl | exact Or.inr rfl))
    (pss_cons (ps_set (i := 7) nd rfl (by first | exact Or.inl rfl | exact Or.inr rfl) (pe_op op_mod (pe_callTy call_int1 rfl T.int (by decide +kernel) (pa_cons (pe_op op_add (pe_op op_add (pe_op op_mul (pv 7) pe_int) (pe_op op_mul pe_int (pv 6))) pe_int) pa_nil)) pe_int))
    (pss_one (ps_expr (pe_bm PySem.F.plainAttrs_list PySem.F.slot_list_append PySem.F.type_list_append mt_append (pv 3) (pa_cons (pe_op op_mod (pe_callTy call_int1 rfl T.int (by decide +kernel) (pa_cons (pe_op op_fdiv (pv 7) pe_int) pa_nil)) pe_int) pa_nil)))))))))))))
    (pss_one (ps_ret (pv 3))))), ?_⟩
  obtain ⟨a, ns, i, j, rfl, rfl, rfl, hS, hi0, hij, hj, q⟩ := h
  refine ⟨Nat.zero_le _, fun l fl => ?_⟩
  refine ⟨_, rfl, _, rfl, i, j, rfl, ⟨by omega, by omega, by omega, by omega⟩, ?_⟩
  refine for_range (lo := i) (n := (j - i).toNat) (fun t σ2 H2 => ∃ u4 u5 u6 u7, σ2 = [some (.ref a), some (.int i), some (.int j), some (.ref l), u4, u5, u6, u7] ∧ ExA H H2 ∧ ∃ ds : List Int, H2 l = some (.lst (ds.map V.int)) ∧ ds.length ≤ 60 * t)
    ⟨none, none, none, none, rfl, ExM.new fl, [], upd_same, Nat.le_refl _⟩ (fun t σ2 H2 ht p => ?_) (fun σ2 H2 p => ?_)
  · obtain ⟨u4, u5, u6, u7, rfl, e2, ds, hl, hz⟩ := p
    refine ⟨_, rfl, _, rfl, _, _, rfl, a, ns, _, rfl, rfl, SqL.all e2 hS, by omega, fun v => ?_⟩
    refine ⟨fun σ3 H3 => ∃ c : Int, 0 ≤ c ∧ H3 = H2 ∧ σ3 = [some (.ref a), some (.int i), some (.int j), some (.ref l), some (.int (i + (t : Int))), some (.int c), u6, u7], ?_, ?_⟩
    · refine ⟨_, rfl, _, _, rfl, rfl, _, rfl, ite2 (fun c => ?_) (fun c => ?_)⟩
      · have c' : v < 0 := of_decide_eq_true c
        exact ⟨_, rfl, 2, v, rfl, rfl, .inl ⟨by decide, by decide⟩, 1, _, rfl, rfl, 1 - 2 * v, by omega, rfl, rfl⟩
      · have c' : ¬ v < 0 := of_decide_eq_false (Bool.eq_false_iff.mpr c)
        exact ⟨v, by omega, rfl, rfl⟩
    rintro σ3 H3 ⟨c, c0, rfl, rfl⟩
    have zt : t ≤ 1000 := by omega
    refine ⟨_, rfl, 10, 18, rfl, rfl, ⟨by decide, by decide, by decide⟩, _, _, rfl, rfl, _, rfl, ite2 (fun _ => ?_) (fun _ => ?_)⟩
    · refine ⟨60, rfl, by decide, by decide, ?_⟩
      refine for_range (lo := 0) (n := 60) (fun r σ4 H4 => ∃ (c : Int) (u6 : Option V), σ4 = [some (.ref a), some (.int i), some (.int j), some (.ref l), some (.int (i + (t : Int))), some (.int c), u6, u7] ∧ ExA H H4 ∧ ∃ ds : List Int, H4 l = some (.lst (ds.map V.int)) ∧ ds.length ≤ 60 * t + r)
        ⟨c, u6, rfl, e2, ds, hl, hz⟩ (fun r σ4 H4 hr p => ?_) (fun σ4 H4 p => ?_)
      · obtain ⟨c, u6, rfl, e4, ds, hl, hz⟩ := p
        refine ⟨_, rfl, _, _, rfl, rfl, _, rfl, ite2 (fun _ => ?_) (fun _ => ?_)⟩
        · refine ⟨_, rfl, .inl ⟨rfl, _, SqL.of hl⟩, _, rfl, .inl ⟨_, rfl, _, _, rfl, rfl, (by show (0 : Int) < 1000; decide), l, _, _, rfl, rfl, hl, szl (by rw [List.length_map]; omega), ?_⟩⟩
          refine ⟨_, rfl, _, _, rfl, rfl, ⟨by decide, by decide⟩, _, _, rfl, e4.put fl, ds ++ [c % 1000], ?_, by rw [List.length_append, List.length_singleton]; omega⟩
          rw [upd_same, List.map_append]; rfl
        · exact ⟨c, _, rfl, e4, ds, hl, by omega⟩
      · obtain ⟨c, u6, rfl, e4, ds, hl, hz⟩ := p
        exact ⟨_, _, _, _, rfl, e4, ds, hl, by omega⟩
    · refine ⟨_, rfl, _, _, rfl, rfl, .inr ⟨by decide, by decide⟩, _, rfl, _, _, rfl, rfl, .inr ⟨by decide, by decide⟩, _, _, rfl, rfl, _, _, rfl, rfl, .inl ⟨_, rfl, _, _, rfl, rfl, (by show (0 : Int) < 2147483647; decide), ?_⟩⟩
      refine ⟨12, rfl, by decide, by decide, ?_⟩
      refine for_range (lo := 0) (n := 12) (fun r σ4 H4 => ∃ (e : Int) (u6 : Option V), σ4 = [some (.ref a), some (.int i), some (.int j), some (.ref l), some (.int (i + (t : Int))), some (.int c), u6, some (.int e)] ∧ ExA H H4 ∧ ∃ ds : List Int, H4 l = some (.lst (ds.map V.int)) ∧ ds.length ≤ 60 * t + r)
        ⟨_, u6, rfl, e2, ds, hl, hz⟩ (fun r σ4 H4 hr p => ?_) (fun σ4 H4 p => ?_)
      · obtain ⟨e, u6, rfl, e4, ds, hl, hz⟩ := p
        refine ⟨_, rfl, _, _, rfl, rfl, .inr ⟨by decide, by decide⟩, _, rfl, _, _, rfl, rfl, .inl ⟨by decide, by decide⟩, _, _, rfl, rfl, _, _, rfl, rfl, .inl ⟨_, rfl, _, _, rfl, rfl, (by show (0 : Int) < 2147483647; decide), ?_⟩⟩
        refine ⟨_, rfl, .inl ⟨rfl, _, SqL.of hl⟩, _, rfl, _, _, rfl, rfl, ⟨by decide, by decide⟩, .inl ⟨_, rfl, _, _, rfl, rfl, (by show (0 : Int) < 1000; decide), l, _, _, rfl, rfl, hl, szl (by rw [List.length_map]; omega), ?_⟩⟩
        refine ⟨(e * 16807 + 7 * (0 + (r : Int)) + 1) % 2147483647, _, rfl, e4.put fl, ds ++ [(e * 16807 + 7 * (0 + (r : Int)) + 1) % 2147483647 / 997 % 1000], ?_, by rw [List.length_append, List.length_singleton]; omega⟩
        rw [upd_same, List.map_append]; rfl
      · obtain ⟨e, u6, rfl, e4, ds, hl, hz⟩ := p
        exact ⟨_, _, _, _, rfl, e4, ds, hl, by omega⟩
  · obtain ⟨u4, u5, u6, u7, rfl, e2, ds, hl, hz⟩ := p
    exact ⟨_, rfl, q ds l H2 fl e2 hl⟩
theorem ok__law_box {f : Addr} {fd : FuncData} {cd : Value} (F : Df K "_law_box" s__law_box f fd cd) (T : Txt mg) (C__law_digits : Cal P w K mg base 2 "_law_digits" (sp__law_digits K) []) : FnOk P w K mg base CX0 3 f fd ["script", "first", "last"] (sp__law_box K) := by
  have nd := sc__law_box.nd
  refine F.ok sc__law_box (fun vs H Q E h => ?_) (fun A outer s H vs Q E hr h => ?_)
  · obtain ⟨_, _, _, rfl, _⟩ := h; rfl
  have hu := hu_of hr
  obtain ⟨x0, x1, x2, rfl, h⟩ := h
  refine ⟨_, (pss_one (ps_ret (pe_lst (pa_cons (pe_c C__law_digits hr (by first | exact Nat.le_refl _ | decide) rfl (pa_cons (pv 0) (pa_cons (pv 1) (pa_cons (pv 2) pa_nil)))) (pa_cons pe_int pa_nil))))), ?_⟩
  obtain ⟨a, ns, i, j, rfl, rfl, rfl, hS, hi0, hij, hj, q⟩ := h
  refine ⟨_, rfl, _, rfl, _, rfl, _, _, _, rfl, a, ns, i, j, rfl, rfl, rfl, hS, hi0, hij, hj, fun ds p H1 fp e1 hp => ?_⟩
  refine ⟨sz (by show 2 ≤ 100000; decide), fun b fb => q b p ds _ (ExA.free e1 fb) (e1.put (ExA.free e1 fb)) ⟨⟨0, upd_same⟩, ?_, ne_of_none hp fb⟩⟩
  rw [upd_ne (ne_of_none hp fb)]; exact hp
theorem ok__law_object {f : Addr} {fd : FuncData} {cd : Value} (F : Df K "_law_object" s__law_object f fd cd) (T : Txt mg) (C__law_draw : Cal P w K mg base 1 "_law_draw" (sp__law_draw K) []) (C__law_number : Cal P w K mg base 2 "_law_number" (sp__law_number K) []) : FnOk P w K mg base CX0 3 f fd ["box", "number", "numbers"] (sp__law_object K) := by
  have nd := sc__law_object.nd
  refine F.ok sc__law_object (fun vs H Q E h => ?_) (fun A outer s H vs Q E hr h => ?_)
  · obtain ⟨_, _, _, rfl, _⟩ := h; rfl
  have hu := hu_of hr
  obtain ⟨x0, x1, x2, rfl, h⟩ := h
  refine ⟨_, (pss_cons (ps_set (i := 3) nd rfl (by first | exact Or.inl rfl | exact Or.inr rfl) (pe_c C__law_draw hr (by first | exact Nat.le_refl _ | decide) rfl (pa_cons (pv 0) (pa_cons pe_int pa_nil))))
    (pss_cons (ps_if (PW.pt (pw_or (pt_cmpR op_lt (pv 3) pe_int (nomark _)) (pw_or1 (PW.pt (pw_and (pt_cmpR op_gt (pv 3) pe_int (nomark _)) (pw_and1 (pt_cmpR op_eq (pe_callB (r := Evl.rLenS K) call_len_seq rfl T.len PySem.boot_len (pa_cons (pv 2) pa_nil)) pe_int (nomark _)))))))) (pss_one (ps_ret (pe_tup (pa_cons pe_str (pa_cons (pv 1) (pa_cons (pe_callTy (r := rTupZ K) call_tupleZ rfl T.tuple (by decide +kernel) (pa_cons (pe_lc (own := [("k", 4)]) rfl nd (pi_range1 rfl T.range (pa_cons (pe_c C__law_draw hr (by first | exact Nat.le_refl _ | decide) rfl (pa_cons (pv 0) (pa_cons pe_int pa_nil))) pa_nil)) (blkOk_by (own := [("k", 4)]) (N := N__law_object) (sc := defScope s__law_object) (by decide +kernel)) (fun _ _ _ _ _ => (pg_name (i := 4) nd rfl (by first | exact Or.inl rfl | exact Or.inr rfl))) (fun _ _ _ _ _ => pts_nil) (fun _ _ _ _ _ => (pe_c C__law_number hr (by first | exact Nat.le_refl _ | decide) rfl (pa_cons (pv 0) (pa_cons (pv 2) pa_nil))))) pa_nil)) pa_nil)))))) pss_nil)
    (pss_cons (ps_if (pt_cmpR op_lt (pv 3) pe_int (nomark _)) (pss_one (ps_ret (pe_tup (pa_cons pe_str (pa_cons (pv 1) (pa_cons (pe_c C__law_number hr (by first | exact Nat.le_refl _ | decide) rfl (pa_cons (pv 0) (pa_cons (pv 2) pa_nil))) pa_nil)))))) pss_nil)
    (pss_cons (ps_set (i := 5) nd rfl (by first | exact Or.inl rfl | exact Or.inr rfl) (pe_lst pa_nil))
    (pss_cons (ps_for PassesOwn.never rfl (pi_range1 rfl T.range (pa_cons (pe_c C__law_draw hr (by first | exact Nat.le_refl _ | decide) rfl (pa_cons (pv 0) (pa_cons pe_int pa_nil))) pa_nil)) (pg_name (i := 4) nd rfl (by first | exact Or.inl rfl | exact Or.inr rfl))
    (pss_cons (ps_set (i := 6) nd rfl (by first | exact Or.inl rfl | exact Or.inr rfl) (pe_ix (r := rIxL K) ix_list (pv 2) (pe_op op_mod (pe_callTy call_int1 rfl T.int (by decide +kernel) (pa_cons (pe_c C__law_draw hr (by first | exact Nat.le_refl _ | decide) rfl (pa_cons (pv 0) (pa_cons pe_int pa_nil))) pa_nil)) (pe_callB (r := Evl.rLenS K) call_len_seq rfl T.len PySem.boot_len (pa_cons (pv 2) pa_nil))) (fun _ _ => rfl)))
    (pss_cons (ps_set (i := 7) nd rfl (by first | exact Or.inl rfl | exact Or.inr rfl) (pe_ix (r := rIxL K) ix_list (pv 2) (pe_op op_mod (pe_callTy call_int1 rfl T.int (by decide +kernel) (pa_cons (pe_c C__law_draw hr (by first | exact Nat.le_refl _ | decide) rfl (pa_cons (pv 0) (pa_cons pe_int pa_nil))) pa_nil)) (pe_callB (r := Evl.rLenS K) call_len_seq rfl T.len PySem.boot_len (pa_cons (pv 2) pa_nil))) (fun _ _ => rfl)))
    (pss_one (ps_if (pt_cmpR (r := rIn K true) op_notIn_seq (pv 6) (pe_lc (own := [("entry", 8)]) rfl nd (show PI _ _ _ (iList K _) from pi_list (pv 5)) (blkOk_by (own := [("entry", 8)]) (N := N__law_object) (sc := defScope s__law_object) (by decide +kernel)) (fun _ _ _ _ _ => (pg_name (i := 8) nd rfl (by first | exact Or.inl rfl | exact Or.inr rfl))) (fun _ _ _ _ _ => pts_nil) (fun _ _ _ _ _ => (pe_ix (r := rIxT K) ix_tup (pv 8) pe_int (fun _ _ => rfl)))) (by first | exact nomark _ | rfl)) (pss_one (ps_expr (pe_bm PySem.F.plainAttrs_list PySem.F.slot_list_append PySem.F.type_list_append mt_append (pv 5) (pa_cons (pe_tup (pa_cons (pv 6) (pa_cons (pv 7) pa_nil))) pa_nil)))) pss_nil)))))
    (pss_one (ps_ret (pe_tup (pa_cons pe_str (pa_cons (pv 1) (pa_cons (pe_callTy (r := rTupZ K) call_tupleZ rfl T.tuple (by decide +kernel) (pa_cons (pv 5) pa_nil)) pa_nil))))))))))), ?_⟩
  obtain ⟨b, d, ds, n, a, ns, rfl, rfl, rfl, hb, hN, q⟩ := h
  refine ⟨_, rfl, _, _, rfl, b, d, ds, 7, rfl, rfl, by decide, hb, fun H1 v x1 b1 v0 v7 => ?_⟩
  have N1 := hN.keep x1
  refine gN ?_
  dsimp only
  show tSeq (tIfS (tOr _ _) _ _) _ _ _ _
  refine or_join (decide (v < 3)) (decide (v > 4) && decide (ns.length = 0)) (fun Q' z => ⟨_, rfl, _, _, rfl, rfl, _, rfl, z⟩) (fun _ Q' z => and_join (decide (v > 4)) (decide (ns.length = 0)) (fun Q' z => ⟨_, rfl, _, _, rfl, rfl, _, rfl, z⟩)
    (fun _ Q' z => ⟨_, rfl, a, _, rfl, .inl N1.1, rfl, _, rfl, by rw [len0]; exact z⟩) z) ?_
  refine ite2 (fun c1 => ?_) (fun c1 => ?_)
  · -- a record
    refine ⟨_, rfl, _, rfl, _, _, rfl, b, d, ds, 4, rfl, rfl, by decide, b1, fun H2 k x2 b2 k0 k4 => ?_⟩
    have N2 := N1.keep x2
    refine ⟨k, rfl, by omega, by omega, fun D hD => ?_⟩
    have nD := b2.ne hD
    refine lcM [b] (walk_range (lo := 0) (n := k.toNat)) hD (fun i acc H' => Bx H' b d ds ∧ ∃ rs : List Rf, acc = rs.map rV ∧ ∀ r ∈ rs, Rf.ok ns r) ⟨b2.new hD, [], rfl, by simp⟩ (fun _ _ => trivial) (fun i x H3 H4 acc hi e h1 h2 hacc y => ?_) (fun H3 acc e h1 h2 hacc => ?_)
    · obtain ⟨rfl, rfl⟩ := y
      obtain ⟨b3, rs, rfl, hrs⟩ := hacc
      refine ⟨rfl, tyes ⟨_, rfl, _, rfl, _, _, rfl, b, d, ds, a, ns, rfl, rfl, b3, N2.keep e, fun H5 r x5 b5 hr => ?_⟩⟩
      refine LcP.yes hD nD (by omega) e h1 h2 x5 ⟨b5.put b2 hD, rs ++ [r], by rw [List.map_append]; rfl, fun r' hr' => ?_⟩
      rcases List.mem_append.mp hr' with z | z
      · exact hrs r' z
      · have : r' = r := by simpa using z
        rw [this]; exact hr
    · obtain ⟨b3, rs, rfl, hrs⟩ := hacc
      refine ⟨D, _, rfl, SqL.of h1, fun t zt ft nt => ⟨sz (by show 3 ≤ 100000; decide), fun p fp => ?_⟩⟩
      have np : p ≠ t := fun z => by rw [z, upd_same] at fp; cases fp
      have x3 : ExM [b] H (upd (upd H3 t (.frz zt (.tup (rs.map rV)))) p (.tup [.str "record", .int n, .ref t])) := ((x1.trans x2).trans e).trans ((ExM.new ft).trans (ExM.new fp))
      refine q _ p (.rcd n rs) x3 ((b3.new ft).new fp) ⟨t, SqT.of upd_same, SqZ.of nt (by rw [upd_ne np.symm]; exact upd_same)⟩ rfl ⟨?_, hrs⟩
      rw [List.length_map] at h2
      omega
  have c1' : ¬ v < 3 ∧ (v > 4 → ns.length ≠ 0) := by
    have c2 := Bool.eq_false_iff.mpr c1
    rw [Bool.or_eq_false_iff] at c2
    refine ⟨of_decide_eq_false c2.1, fun hv z => ?_⟩
    have := c2.2
    rw [decide_eq_true hv, decide_eq_true z] at this
    cases this
  refine ⟨_, rfl, _, _, rfl, rfl, _, rfl, ite2 (fun c2 => ?_) (fun c2 => ?_)⟩
  · -- a weak reference
    refine ⟨_, rfl, _, rfl, _, rfl, _, _, rfl, b, d, ds, a, ns, rfl, rfl, b1, N1, fun H2 r x2 b2 hr => ?_⟩
    refine ⟨sz (by show 3 ≤ 100000; decide), fun p fp => ?_⟩
    exact q _ p (.weak n r) ((x1.trans x2).trans (ExM.new fp)) (b2.new fp) (SqT.of upd_same) rfl hr
  -- a table
  have c2' : ¬ v < 5 := of_decide_eq_false (Bool.eq_false_iff.mpr c2)
  have hne : 0 < ns.length := by have := c1'.2 (by omega); omega
  refine ⟨Nat.zero_le _, fun l fl => ?_⟩
  have nl : l ∉ [b] := b1.ne fl
  refine ⟨_, rfl, _, _, rfl, b, d, ds, 4, rfl, rfl, by decide, b1.new fl, fun H2 k x2 b2 k0 k4 => ?_⟩
  have hl2 : H2 l = some (.lst []) := x2 l _ nl upd_same
  have e2 : ExM [b] H1 H2 := (ExM.new fl).trans x2
  refine ⟨k, rfl, by omega, by omega, ?_⟩
  refine for_range (lo := 0) (n := k.toNat) (fun t σ3 H3 => ∃ u4 u6 u7, σ3 = [some (.ref b), some (.int n), some (.ref a), some (.int v), u4, some (.ref l), u6, u7, none] ∧ ExM [b] H1 H3 ∧ Bx H3 b d ds ∧
      ∃ (rs : List Addr) (es : List (Int × Int)), H3 l = some (.lst (rs.map V.ref)) ∧ Paired (PairAt K H3) rs es ∧ es.length ≤ t ∧ (es.map (·.1)).Nodup ∧ ∀ e ∈ es, e.1 ∈ ns ∧ e.2 ∈ ns)
    ⟨none, none, none, rfl, e2, b2, [], [], hl2, .nil, Nat.le_refl _, List.nodup_nil, by simp⟩ (fun t σ3 H3 ht p => ?_) (fun σ3 H3 p => ?_)
  · obtain ⟨u4, u6, u7, rfl, e3, b3, rs, es, hl, hp, hz, hnd, hin⟩ := p
    have N3 := N1.keep e3
    refine ⟨_, rfl, _, rfl, _, _, rfl, b, d, ds, 1000, rfl, rfl, by decide, b3, fun H4 u x4 b4 u0 u1 => .inl ⟨_, rfl, ?_⟩⟩
    have N4 := N3.keep x4
    refine ⟨_, rfl, a, _, rfl, .inl N4.1, _, _, rfl, rfl, by rw [List.length_map]; omega, pick_ok N4.1 hne u fun key hkey => ?_⟩
    refine ⟨_, rfl, _, rfl, _, _, rfl, b, d, ds, 1000, rfl, rfl, by decide, b4, fun H5 u' x5 b5 u0' u1' => .inl ⟨_, rfl, ?_⟩⟩
    have N5 := N4.keep x5
    refine ⟨_, rfl, a, _, rfl, .inl N5.1, _, _, rfl, rfl, by rw [List.length_map]; omega, pick_ok N5.1 hne u' fun val hval => ?_⟩
    have x35 := x4.trans x5
    have hl5 : H5 l = some (.lst (rs.map V.ref)) := x35 l _ nl hl
    have hp5 : Paired (PairAt K H5) rs es := pmp hp fun _ _ z => PairAt.mono (b3.tk x35) z
    have e5 : ExM [b] H1 H5 := e3.trans x35
    have hlen := plen hp
    refine ⟨_, rfl, _, rfl, l, rfl, ⟨_, SqL.of hl5⟩, fun D hD => ?_⟩
    refine lcM [] (walk_list (xs := rs.map V.ref)) hD (fun i acc _ => acc = ((es.take i).map (·.1)).map V.int) rfl (fun H' e => SqL.of (ExA.at e hl5)) (fun i x H6 H7 acc hi e h1 h2 hacc y => ?_) (fun H6 acc e h1 h2 hacc => ?_)
    · obtain ⟨rfl, hx⟩ := y
      rw [List.length_map] at hi
      obtain ⟨r1, hr⟩ : ∃ r1, rs[i]? = some r1 := ⟨_, List.getElem?_eq_getElem hi⟩
      rw [List.getElem?_map, hr] at hx
      obtain rfl : V.ref r1 = x := Option.some.inj hx
      obtain ⟨e1, he1, hpa⟩ := pget hp5 hr
      refine ⟨rfl, tyes ⟨_, rfl, r1, _, _, _, rfl, rfl, Tk.all e _ _ hpa, at0, LcP.yes hD (by simp) (by omega) e h1 h2 (ExM.refl _ _) ?_⟩⟩
      rw [hacc, take_snoc he1, List.map_append, List.map_append]; rfl
    · rw [List.length_map, hlen, List.take_length] at hacc
      subst hacc
      refine ⟨D, _, rfl, .inl (SqL.of h1), rfl, flat_ints _, _, rfl, ?_⟩
      rw [if_pos rfl, inV_int]
      have hl6 := ExA.at e hl5
      have b6 := b5.keep e
      have hp6 : Paired (PairAt K H6) rs es := pmp hp5 fun _ _ z => PairAt.mono (Tk.all e) z
      have e6 : ExM [b] H1 H6 := e5.trans (ExM.of e)
      by_cases m : key ∈ es.map (·.1)
      · rw [decide_eq_true m]
        exact iteF ⟨_, _, _, rfl, e6, b6, rs, es, hl6, hp6, by omega, hnd, hin⟩
      · rw [decide_eq_false m]
        refine iteT ⟨_, rfl, .inl ⟨rfl, _, SqL.of hl6⟩, _, rfl, _, rfl, sz (by show 2 ≤ 100000; decide), fun r2 fr => ?_⟩
        have nr : l ≠ r2 := ne_of_none hl6 fr
        have hl7 : (upd H6 r2 (.tup [V.int key, V.int val])) l = some (.lst (rs.map V.ref)) := by rw [upd_ne nr]; exact hl6
        have hp7 : Paired (PairAt K (upd H6 r2 (.tup [V.int key, V.int val]))) (rs ++ [r2]) (es ++ [(key, val)]) := by
          have hq : Paired (PairAt K (upd H6 r2 (.tup [V.int key, V.int val]))) rs es := pmp hp6 fun _ _ z => PairAt.mono (Tk.new fr) z
          have hr : PairAt K (upd H6 r2 (.tup [V.int key, V.int val])) r2 (key, val) := SqT.of upd_same
          exact psnoc hr hq
        have zl : (rs.map V.ref).length < sizeLine := szl (by rw [List.length_map]; omega)
        refine ⟨l, _, _, rfl, rfl, hl7, zl, _, _, _, rfl, (e6.trans (ExM.new fr)).put fl, (b6.new fr).put b1 fl, rs ++ [r2], es ++ [(key, val)], ?_, ?_, ?_, ?_, ?_⟩
        · rw [upd_same, List.map_append]; rfl
        · exact pmp hp7 fun _ _ z => PairAt.mono (Tk.lst hl7) z
        · rw [List.length_append, List.length_singleton]; omega
        · rw [List.map_append]
          exact List.nodup_append.mpr ⟨hnd, by simp, fun x hx y hy z => m (by have : y = key := by simpa using hy
                                                                              rw [← this, ← z]; exact hx)⟩
        · intro e' he'
          rcases List.mem_append.mp he' with z | z
          · exact hin e' z
          · have : e' = (key, val) := by simpa using z
            rw [this]; exact ⟨hkey, hval⟩
  · obtain ⟨u4, u6, u7, rfl, e3, b3, rs, es, hl, hp, hz, hnd, hin⟩ := p
    refine ⟨_, rfl, _, rfl, l, _, rfl, SqL.of hl, fun t zt ft nt => ⟨sz (by show 3 ≤ 100000; decide), fun p fp => ?_⟩⟩
    have np : p ≠ t := fun z => by rw [z, upd_same] at fp; cases fp
    have tt : Tk K H3 (upd (upd H3 t (.frz zt (.tup (rs.map V.ref)))) p (.tup [.str "table", .int n, .ref t])) := Tk.trans (Tk.new ft) (Tk.new fp)
    refine q _ p (.tab n es) ((x1.trans e3).trans ((ExM.new ft).trans (ExM.new fp))) ((b3.new ft).new fp) ⟨t, rs, SqT.of upd_same, SqZ.of nt (by rw [upd_ne np.symm]; exact upd_same), pmp hp fun _ _ z => PairAt.mono tt z⟩ rfl ⟨by omega, hnd, hin⟩
end
end Wc
namespace Wc
open PySem L2
section
variable {P : Program} {w : World} {K : PySem.W.Frag} {mg : Str → Option Value} {base : Heap}
theorem ok__law_heap {f : Addr} {fd : FuncData} {cd : Value} (F : Df K "_law_heap" s__law_heap f fd cd) (T : Txt mg) (C__law_draw : Cal P w K mg base 1 "_law_draw" (sp__law_draw K) []) (C__law_number : Cal P w K mg base 2 "_law_number" (sp__law_number K) []) (C__law_object : Cal P w K mg base 3 "_law_object" (sp__law_object K) []) : FnOk P w K mg base CX0 4 f fd ["box", "most"] (sp__law_heap K) := by
  have nd := sc__law_heap.nd
  refine F.ok sc__law_heap (fun vs H Q E h => ?_) (fun A outer s H vs Q E hr h => ?_)
  · obtain ⟨_, _, rfl, _⟩ := h; rfl
  have hu := hu_of hr
  obtain ⟨x0, x1, rfl, h⟩ := h
  refine ⟨_, (pss_cons (ps_set (i := 2) nd rfl (by first | exact Or.inl rfl | exact Or.inr rfl) (pe_c C__law_draw hr (by first | exact Nat.le_refl _ | decide) rfl (pa_cons (pv 0) (pa_cons (pe_op op_add (pv 1) pe_int) pa_nil))))
    (pss_cons (ps_set (i := 3) nd rfl (by first | exact Or.inl rfl | exact Or.inr rfl) (pe_lst pa_nil))
    (pss_cons (ps_set (i := 4) nd rfl (by first | exact Or.inl rfl | exact Or.inr rfl) pe_int)
    (pss_cons (ps_for PassesOwn.never rfl (pi_range1 rfl T.range (pa_cons (pv 2) pa_nil)) (pg_name (i := 5) nd rfl (by first | exact Or.inl rfl | exact Or.inr rfl))
    (pss_cons (ps_set (i := 4) nd rfl (by first | exact Or.inl rfl | exact Or.inr rfl) (pe_op op_add (pv 4) (pe_ix (r := rIxL K) ix_list (pe_lst (pa_cons pe_int (pa_cons pe_int (pa_cons pe_int (pa_cons pe_int pa_nil))))) (pe_c C__law_draw hr (by first | exact Nat.le_refl _ | decide) rfl (pa_cons (pv 0) (pa_cons pe_int pa_nil))) (fun _ _ => rfl))))
    (pss_cons (ps_expr (pe_bm PySem.F.plainAttrs_list PySem.F.slot_list_append PySem.F.type_list_append mt_append (pv 3) (pa_cons (pv 4) pa_nil)))
    (pss_one (ps_set (i := 4) nd rfl (by first | exact Or.inl rfl | exact Or.inr rfl) (pe_op op_add (pv 4) pe_int))))))
    (pss_cons (ps_set (i := 6) nd rfl (by first | exact Or.inl rfl | exact Or.inr rfl) (pe_callTy (r := rTupZ K) call_tupleZ rfl T.tuple (by decide +kernel) (pa_cons (pe_lc (own := [("number", 7)]) rfl nd (show PI _ _ _ (iList K _) from pi_list (pv 3)) (blkOk_by (own := [("number", 7)]) (N := N__law_heap) (sc := defScope s__law_heap) (by decide +kernel)) (fun _ _ _ _ _ => (pg_name (i := 7) nd rfl (by first | exact Or.inl rfl | exact Or.inr rfl))) (fun _ _ _ _ _ => pts_nil) (fun _ _ _ _ _ => (pe_c C__law_object hr (by first | exact Nat.le_refl _ | decide) rfl (pa_cons (pv 0) (pa_cons (pv 7) (pa_cons (pv 3) pa_nil)))))) pa_nil)))
    (pss_cons (ps_set (i := 8) nd rfl (by first | exact Or.inl rfl | exact Or.inr rfl) (pe_callTy (r := rTupZ K) call_tupleZ rfl T.tuple (by decide +kernel) (pa_cons (pe_lc (own := [("k", 5)]) rfl nd (pi_range1 rfl T.range (pa_cons (pe_op op_add pe_int (pe_c C__law_draw hr (by first | exact Nat.le_refl _ | decide) rfl (pa_cons (pv 0) (pa_cons pe_int pa_nil)))) pa_nil)) (blkOk_by (own := [("k", 5)]) (N := N__law_heap) (sc := defScope s__law_heap) (by decide +kernel)) (fun _ _ _ _ _ => (pg_name (i := 5) nd rfl (by first | exact Or.inl rfl | exact Or.inr rfl))) (fun _ _ _ _ _ => pts_nil) (fun _ _ _ _ _ => (pe_c C__law_number hr (by first | exact Nat.le_refl _ | decide) rfl (pa_cons (pv 0) (pa_cons (pv 3) pa_nil))))) pa_nil)))
    (pss_cons (ps_set (i := 9) nd rfl (by first | exact Or.inl rfl | exact Or.inr rfl) (pe_callTy (r := rTupZ K) call_tupleZ rfl T.tuple (by decide +kernel) (pa_cons (pe_lc (own := [("number", 7)]) rfl nd (show PI _ _ _ (iList K _) from pi_list (pv 3)) (blkOk_by (own := [("number", 7)]) (N := N__law_heap) (sc := defScope s__law_heap) (by decide +kernel)) (fun _ _ _ _ _ => (pg_name (i := 7) nd rfl (by first | exact Or.inl rfl | exact Or.inr rfl))) (fun _ _ _ _ _ => (pts_one (pt_cmpR op_eq (pe_c C__law_draw hr (by first | exact Nat.le_refl _ | decide) rfl (pa_cons (pv 0) (pa_cons pe_int pa_nil))) pe_int (nomark _)))) (fun _ _ _ _ _ => (pv 7))) pa_nil)))
    (pss_cons (ps_set (i := 10) nd rfl (by first | exact Or.inl rfl | exact Or.inr rfl) (pe_lst pa_nil))
    (pss_cons (ps_for PassesOwn.never rfl (show PI _ _ _ (iList K _) from pi_list (pv 3)) (pg_name (i := 7) nd rfl (by first | exact Or.inl rfl | exact Or.inr rfl))
    (pss_one (ps_if (pt_cmpR op_eq (pe_c C__law_draw hr (by first | exact Nat.le_refl _ | decide) rfl (pa_cons (pv 0) (pa_cons pe_int pa_nil))) pe_int (nomark _)) (pss_one (ps_expr (pe_bm PySem.F.plainAttrs_list PySem.F.slot_list_append PySem.F.type_list_append mt_append (pv 10) (pa_cons (pe_tup (pa_cons (pv 7) (pa_cons (pe_op op_add pe_int (pe_c C__law_draw hr (by first | exact Nat.le_refl _ | decide) rfl (pa_cons (pv 0) (pa_cons pe_int pa_nil)))) pa_nil))) pa_nil)))) pss_nil)))
    (pss_one (ps_ret (pe_tup (pa_cons pe_str (pa_cons (pe_op op_add (pv 4) (pe_c C__law_draw hr (by first | exact Nat.le_refl _ | decide) rfl (pa_cons (pv 0) (pa_cons pe_int pa_nil)))) (pa_cons (pv 8) (pa_cons (pv 9) (pa_cons (pv 6) (pa_cons (pe_callTy (r := rTupZ K) call_tupleZ rfl T.tuple (by decide +kernel) (pa_cons (pv 10) pa_nil)) pa_nil)))))))))))))))))), ?_⟩
  obtain ⟨b, d, ds, m, rfl, rfl, m0, m49, hb, q⟩ := h
  refine ⟨_, rfl, _, rfl, _, _, rfl, rfl, _, _, rfl, b, d, ds, m + 1, rfl, rfl, by omega, hb, fun H1 many x1 b1 v0 v1 => ?_⟩
  refine ⟨Nat.zero_le _, fun l fl => ?_⟩
  have nl : l ∉ [b] := b1.ne fl
  refine ⟨_, rfl, many, rfl, by omega, by omega, ?_⟩
  refine for_range (lo := 0) (n := many.toNat) (fun t σ2 H2 => ∃ (at_ : Int) (u5 : Option V), σ2 = [some (.ref b), some (.int m), some (.int many), some (.ref l), some (.int at_), u5, none, none, none, none, none] ∧ ExM [b] H1 H2 ∧ Bx H2 b d ds ∧
      ∃ ns : List Int, H2 l = some (.lst (ns.map V.int)) ∧ ns.length = t ∧ ns.Pairwise (· < ·) ∧ (∀ n ∈ ns, 0 ≤ n ∧ n < at_) ∧ 0 ≤ at_ ∧ at_ ≤ 3 * t)
    ⟨0, none, rfl, ExM.new fl, b1.new fl, [], upd_same, rfl, .nil, by simp, Int.le_refl 0, by simp⟩ (fun t σ2 H2 ht p => ?_) (fun σ2 H2 p => ?_)
  · obtain ⟨at_, u5, rfl, e2, b2, ns, hl, hz, hup, hlow, a0, a3⟩ := p
    refine ⟨_, rfl, sz (by show 4 ≤ 100000; decide), fun p fp => ?_⟩
    refine ⟨_, rfl, _, _, rfl, b, d, ds, 4, rfl, rfl, by decide, b2.new fp, fun H3 v x3 b3 v0 v4 => ?_⟩
    have np : p ∉ [b] := b2.ne fp
    obtain ⟨w, hw, w0, w2⟩ : ∃ w : Int, atI [V.int 0, V.int 0, V.int 0, V.int 2] v = some (.int w) ∧ 0 ≤ w ∧ w ≤ 2 := by
      have c : v = 0 ∨ v = 1 ∨ v = 2 ∨ v = 3 := by omega
      rcases c with rfl | rfl | rfl | rfl
      · exact ⟨0, at0, by decide, by decide⟩
      · exact ⟨0, at1, by decide, by decide⟩
      · exact ⟨0, at2, by decide, by decide⟩
      · exact ⟨2, at3, by decide, by decide⟩
    refine ⟨p, _, _, _, rfl, rfl, SqL.of (x3 p _ np upd_same), hw, _, _, rfl, rfl, ?_⟩
    have hl3 : H3 l = some (.lst (ns.map V.int)) := x3 l _ nl (by rw [upd_ne (ne_of_none hl fp)]; exact hl)
    have e3 : ExM [b] H1 H3 := (e2.trans (ExM.new fp)).trans x3
    refine ⟨_, rfl, .inl ⟨rfl, _, SqL.of hl3⟩, _, rfl, l, _, _, rfl, rfl, hl3, szl (by rw [List.length_map]; omega), ?_⟩
    refine ⟨_, rfl, _, _, rfl, rfl, at_ + w + 1, _, rfl, e3.put fl, b3.put b1 fl, ns ++ [at_ + w], ?_, ?_, ?_, ?_, by omega, by omega⟩
    · rw [upd_same, List.map_append]; rfl
    · rw [List.length_append, List.length_singleton, hz]
    · refine List.pairwise_append.mpr ⟨hup, List.pairwise_singleton _ _, fun x hx y hy => ?_⟩
      have : y = at_ + w := by simpa using hy
      have := (hlow x hx).2
      omega
    · intro n hn
      rcases List.mem_append.mp hn with z | z
      · have := hlow n z; omega
      · have : n = at_ + w := by simpa using z
        omega
  obtain ⟨at_, u5, rfl, e2, b2, ns, hl, hz, hup, hlow, a0, a3⟩ := p
  have zn : ns.length ≤ 49 := by omega
  have N2 : Nm K H2 b l ns := ⟨SqL.of hl, nl⟩
  -- the objects
  refine ⟨_, rfl, l, rfl, ⟨_, SqL.of hl⟩, fun D fD => ?_⟩
  have nD : D ∉ [b] := b2.ne fD
  refine lcM [b] (walk_list (xs := ns.map V.int)) fD (fun i acc H' => Bx H' b d ds ∧ ∃ (os : List Addr) (obs : List Ob), acc = os.map V.ref ∧ Paired (ObAt K H') os obs ∧ obs.map Ob.num = ns.take i ∧ ∀ o ∈ obs, o.ok ns)
    ⟨b2.new fD, [], [], rfl, .nil, rfl, by simp⟩ (fun H' e => (N2.keep e).1) (fun i x H3 H4 acc hi e h1 h2 hacc y => ?_) (fun H3 acc e h1 h2 hacc => ?_)
  · obtain ⟨rfl, hx⟩ := y
    rw [List.length_map] at hi
    obtain ⟨n, hn⟩ : ∃ n, ns[i]? = some n := ⟨_, List.getElem?_eq_getElem hi⟩
    rw [List.getElem?_map, hn] at hx
    obtain rfl : V.int n = x := Option.some.inj hx
    obtain ⟨b3, os, obs, rfl, hp, hnum, hok⟩ := hacc
    refine ⟨rfl, tyes ⟨_, rfl, _, rfl, _, rfl, _, _, _, rfl, b, d, ds, n, l, ns, rfl, rfl, rfl, b3, N2.keep e, fun H5 p o x5 b5 ho hon hok5 => ?_⟩⟩
    refine LcP.yes fD nD (by omega) e h1 h2 x5 ⟨b5.put b2 fD, os ++ [p], obs ++ [o], by rw [List.map_append]; rfl, ?_, ?_, ?_⟩
    · have t5 : Tk K H4 (upd H5 D (.lst (os.map V.ref ++ [V.ref p]))) := Tk.trans (b3.tk x5) (Tk.lst (x5 D _ nD h1))
      have hq : Paired (ObAt K (upd H5 D (.lst (os.map V.ref ++ [V.ref p])))) os obs := pmp hp fun _ _ z => ObAt.mono t5 z
      have hr : ObAt K (upd H5 D (.lst (os.map V.ref ++ [V.ref p]))) p o := ObAt.mono (Tk.lst (x5 D _ nD h1)) ho
      exact psnoc hr hq
    · rw [List.map_append, hnum, take_snoc hn, ← hon]; rfl
    · intro o' ho'
      rcases List.mem_append.mp ho' with z | z
      · exact hok o' z
      · have : o' = o := by simpa using z
        rw [this]; exact hok5
  obtain ⟨b3, os, obs, rfl, hobs, hnum, hok⟩ := hacc
  rw [List.length_map, List.take_length] at hnum
  refine ⟨D, _, rfl, SqL.of h1, fun o zo fo no => ?_⟩
  have x4 : ExM [b] H2 (upd H3 o (.frz zo (.tup (os.map V.ref)))) := e.trans (ExM.new fo)
  have b4 : Bx (upd H3 o (.frz zo (.tup (os.map V.ref)))) b d ds := b3.new fo
  have ho4 : SqT K (upd H3 o (.frz zo (.tup (os.map V.ref)))) o (os.map V.ref) := (SqZ.of no upd_same).sq
  have hobs4 : Paired (ObAt K (upd H3 o (.frz zo (.tup (os.map V.ref))))) os obs := pmp hobs fun _ _ z => ObAt.mono (Tk.new fo) z
  generalize upd H3 o (.frz zo (.tup (os.map V.ref))) = H4 at x4 b4 ho4 hobs4 ⊢
  have N4 := N2.keep x4
  -- the registers
  refine ⟨_, rfl, _, _, rfl, b, d, ds, 3, rfl, rfl, by decide, b4, fun H5 k x5 b5 k0 k3 => ?_⟩
  have N5 := N4.keep x5
  refine ⟨_, _, rfl, rfl, 1 + k, rfl, by omega, by omega, fun D2 fD2 => ?_⟩
  have nD2 : D2 ∉ [b] := b5.ne fD2
  refine lcM [b] (walk_range (lo := 0) (n := (1 + k).toNat)) fD2 (fun i acc H' => Bx H' b d ds ∧ ∃ rs : List Rf, acc = rs.map rV ∧ rs.length = i ∧ ∀ r ∈ rs, Rf.ok ns r) ⟨b5.new fD2, [], rfl, rfl, by simp⟩ (fun _ _ => trivial) (fun i x H6 H7 acc hi e h1 h2 hacc y => ?_) (fun H6 acc e6 h1 h2 hacc => ?_)
  · obtain ⟨rfl, rfl⟩ := y
    obtain ⟨b6, rs, rfl, hrl, hrs⟩ := hacc
    refine ⟨rfl, tyes ⟨_, rfl, _, rfl, _, _, rfl, b, d, ds, l, ns, rfl, rfl, b6, N5.keep e, fun H8 r x8 b8 hr => ?_⟩⟩
    refine LcP.yes fD2 nD2 (by omega) e h1 h2 x8 ⟨b8.put b5 fD2, rs ++ [r], by rw [List.map_append]; rfl, by rw [List.length_append, List.length_singleton, hrl], fun r' hr' => ?_⟩
    rcases List.mem_append.mp hr' with z | z
    · exact hrs r' z
    · have : r' = r := by simpa using z
      rw [this]; exact hr
  obtain ⟨b6, rs, rfl, hrl, hrs⟩ := hacc
  refine ⟨D2, _, rfl, SqL.of h1, fun r zr fr nr => ?_⟩
  have x7 : ExM [b] H4 (upd H6 r (.frz zr (.tup (rs.map rV)))) := (x5.trans e6).trans (ExM.new fr)
  have b7 : Bx (upd H6 r (.frz zr (.tup (rs.map rV)))) b d ds := b6.new fr
  have hr7 : SqZ (upd H6 r (.frz zr (.tup (rs.map rV)))) r (rs.map rV) := SqZ.of nr upd_same
  generalize upd H6 r (.frz zr (.tup (rs.map rV))) = H7 at x7 b7 hr7 ⊢
  have N7 := N4.keep x7
  -- what is kept
  refine ⟨_, rfl, l, rfl, ⟨_, N7.1⟩, fun D3 fD3 => ?_⟩
  have nD3 : D3 ∉ [b] := b7.ne fD3
  refine lcM [b] (walk_list (xs := ns.map V.int)) fD3 (fun i acc H' => Bx H' b d ds ∧ ∃ ms : List Int, acc = ms.map V.int ∧ ms.Sublist (ns.take i)) ⟨b7.new fD3, [], rfl, by simp⟩ (fun H' e => (N7.keep e).1) (fun i x H8 H9 acc hi e h1 h2 hacc y => ?_) (fun H8 acc e8 h1 h2 hacc => ?_)
  · obtain ⟨rfl, hx⟩ := y
    rw [List.length_map] at hi
    obtain ⟨n, hn⟩ : ∃ n, ns[i]? = some n := ⟨_, List.getElem?_eq_getElem hi⟩
    rw [List.getElem?_map, hn] at hx
    obtain rfl : V.int n = x := Option.some.inj hx
    obtain ⟨b8, ms, rfl, hms⟩ := hacc
    refine ⟨rfl, _, rfl, _, _, rfl, b, d, ds, 6, rfl, rfl, by decide, b8, fun Ha v xa ba v0 v2 => ⟨rfl, _, rfl, ite2 (fun _ => ?_) (fun _ => ?_)⟩⟩
    · refine ⟨_, rfl, LcP.yes fD3 nD3 (by omega) e h1 h2 xa ⟨ba.put b7 fD3, ms ++ [n], by rw [List.map_append]; rfl, ?_⟩⟩
      rw [take_snoc hn]; exact hms.append (List.Sublist.refl _)
    · refine LcP.no nD3 e h1 h2 xa ⟨ba, ms, rfl, ?_⟩
      rw [take_snoc hn]; exact hms.trans (List.sublist_append_left _ _)
  obtain ⟨b8, ks, rfl, hks⟩ := hacc
  rw [List.length_map, List.take_length] at hks
  refine ⟨D3, _, rfl, SqL.of h1, fun kp zk fk nk => ?_⟩
  have x9 : ExM [b] H7 (upd H8 kp (.frz zk (.tup (ks.map V.int)))) := e8.trans (ExM.new fk)
  have b9 : Bx (upd H8 kp (.frz zk (.tup (ks.map V.int)))) b d ds := b8.new fk
  have hk9 : SqT K (upd H8 kp (.frz zk (.tup (ks.map V.int)))) kp (ks.map V.int) := (SqZ.of nk upd_same).sq
  generalize upd H8 kp (.frz zk (.tup (ks.map V.int))) = H9 at x9 b9 hk9 ⊢
  have N9 := N7.keep x9
  -- the watches
  refine ⟨Nat.zero_le _, fun lw flw => ?_⟩
  have nlw : lw ∉ [b] := b9.ne flw
  have N9' : Nm K (upd H9 lw (.lst [])) b l ns := N9.keep (ExM.new flw)
  refine ⟨_, rfl, l, rfl, ⟨_, N9'.1⟩, ?_⟩
  refine for_it (walk_list (xs := ns.map V.int)) (fun i σa Ha => ∃ u7 : Option V, σa = [some (.ref b), some (.int m), some (.int many), some (.ref l), some (.int at_), u5, some (.ref o), u7, some (.ref r), some (.ref kp), some (.ref lw)] ∧ ExM [b] H9 Ha ∧ Bx Ha b d ds ∧
      ∃ (rs : List Addr) (es : List (Int × Int)), Ha lw = some (.lst (rs.map V.ref)) ∧ Paired (PairAt K Ha) rs es ∧ es.length ≤ i ∧ ∀ e ∈ es, e.1 ∈ ns ∧ 0 ≤ e.2 ∧ e.2 ≤ 999)
    ⟨none, rfl, ExM.new flw, b9.new flw, [], [], upd_same, .nil, Nat.le_refl _, by simp⟩ (fun i σa Ha _ p => p.elim fun _ z => (N9.keep z.2.1).1) (fun i x σa Ha Hb hi p y => ?_) (fun σa Ha p => ?_)
  · obtain ⟨rfl, hx⟩ := y
    obtain ⟨u7, rfl, ea, ba, rs', es, hw, hp, hz, hin⟩ := p
    rw [List.length_map] at hi
    obtain ⟨n, hn⟩ : ∃ n, ns[i]? = some n := ⟨_, List.getElem?_eq_getElem hi⟩
    rw [List.getElem?_map, hn] at hx
    obtain rfl : V.int n = x := Option.some.inj hx
    refine ⟨_, rfl, _, _, rfl, b, d, ds, 3, rfl, rfl, by decide, ba, fun Hc v xc bc v0 v3 => ⟨rfl, _, rfl, ite2 (fun _ => ?_) (fun _ => ?_)⟩⟩
    · have hwc := xc lw _ nlw hw
      refine ⟨_, rfl, .inl ⟨rfl, _, SqL.of hwc⟩, _, rfl, _, rfl, _, _, rfl, b, d, ds, 2, rfl, rfl, by decide, bc, fun Hd v' xd bd v0' v2' => ?_⟩
      have hwd := xd lw _ nlw hwc
      refine ⟨_, _, rfl, rfl, sz (by show 2 ≤ 100000; decide), fun r2 fr2 => ?_⟩
      have nr : lw ≠ r2 := ne_of_none hwd fr2
      have hwe : (upd Hd r2 (.tup [V.int n, V.int (7 + v')])) lw = some (.lst (rs'.map V.ref)) := by rw [upd_ne nr]; exact hwd
      have tt : Tk K Hb (upd Hd r2 (.tup [V.int n, V.int (7 + v')])) := Tk.trans (ba.tk (xc.trans xd)) (Tk.new fr2)
      have hpe : Paired (PairAt K (upd Hd r2 (.tup [V.int n, V.int (7 + v')]))) rs' es := pmp hp fun _ _ z => PairAt.mono tt z
      have hre : PairAt K (upd Hd r2 (.tup [V.int n, V.int (7 + v')])) r2 (n, 7 + v') := SqT.of upd_same
      have hlen := plen hp
      refine ⟨lw, _, _, rfl, rfl, hwe, szl (by rw [List.length_map]; omega), _, rfl, (((ea.trans xc).trans xd).trans (ExM.new fr2)).put flw, (bd.new fr2).put b9 flw, rs' ++ [r2], es ++ [(n, 7 + v')], ?_, ?_, ?_, ?_⟩
      · rw [upd_same, List.map_append]; rfl
      · exact pmp (psnoc hre hpe) fun _ _ z => PairAt.mono (Tk.lst hwe) z
      · rw [List.length_append, List.length_singleton]; omega
      · intro e' he'
        rcases List.mem_append.mp he' with z | z
        · exact hin e' z
        · have : e' = (n, 7 + v') := by simpa using z
          rw [this]; exact ⟨List.mem_of_getElem? hn, by show 0 ≤ 7 + v'; omega, by show 7 + v' ≤ 999; omega⟩
    · exact ⟨_, rfl, ea.trans xc, bc, rs', es, xc lw _ nlw hw, pmp hp fun _ _ z => PairAt.mono (ba.tk xc) z, by omega, hin⟩
  obtain ⟨u7, rfl, ea, ba, ws, es, hw, hp, hz, hin⟩ := p
  rw [List.length_map] at hz
  refine ⟨_, rfl, _, rfl, _, _, rfl, b, d, ds, 2, rfl, rfl, by decide, ba, fun Hb v xb bb v0 v2 => ?_⟩
  have hwb := xb lw _ nlw hw
  refine ⟨_, _, rfl, rfl, _, rfl, _, rfl, _, rfl, _, rfl, lw, _, rfl, SqL.of hwb, fun t zt ft nt => ⟨sz (by show 6 ≤ 100000; decide), fun p fp => ?_⟩⟩
  have np : p ≠ t := fun z => by rw [z, upd_same] at fp; cases fp
  have xz : ExM [b] Hb (upd (upd Hb t (.frz zt (.tup (ws.map V.ref)))) p (.tup [.str "heap", .int (at_ + v), .ref r, .ref kp, .ref o, .ref t])) := (ExM.new ft).trans (ExM.new fp)
  have tz := Tk.trans (K := K) (ba.tk xb) (bb.tk xz)
  have t9 := Tk.trans (b9.tk ea) tz
  have t7 := Tk.trans (b7.tk x9) t9
  have t4 := Tk.trans (b4.tk x7) t7
  refine q _ p ⟨at_ + v, rs, ks, obs, es⟩ (((((((x1.trans e2).trans x4).trans x7).trans x9).trans ea).trans xb).trans xz) ((bb.new ft).new fp) ?_ ?_ ?_
  · refine ⟨r, kp, o, t, ws, SqT.of upd_same, hr7.mono t7, t9 _ _ hk9, ⟨os, t4 _ _ ho4, pmp hobs4 fun _ _ z => ObAt.mono t4 z⟩, (SqZ.of nt (by rw [upd_ne np.symm]; exact upd_same)).sq, pmp hp fun _ _ z => PairAt.mono tz z⟩
  · have hnn : (⟨at_ + v, rs, ks, obs, es⟩ : Wc.Hd).nums = ns := hnum
    have hol : obs.length = ns.length := by rw [← hnum, List.length_map]
    refine ⟨by rw [hnn]; exact hup, by show obs.length ≤ 50; omega, by show rs.length ≤ 1000; omega, by rw [hnn]; exact hrs, by rw [hnn]; exact hok, by rw [hnn]; exact fun i hi => hks.subset hi, by rw [hnn]; exact fun e he => (hin e he).1, ?_, ?_, ?_, fun e he => (hin e he).2, by show es.length ≤ 50; omega, ?_⟩
    · rw [hnn]; intro n hn; have := hlow n hn; show 0 ≤ n ∧ n < at_ + v; omega
    · show 0 ≤ at_ + v ∧ at_ + v ≤ 999; omega
    · exact hup.sublist hks
    · intro z
      have z' : rs = [] := z
      rw [z'] at hrl
      have : (0 : Nat) = (1 + k).toNat := hrl
      omega
  · have hol : obs.length = ns.length := by rw [← hnum, List.length_map]
    show ((obs.length : Nat) : Int) ≤ m
    omega
end
end Wc
namespace Wc
open PySem L2
section
variable (K : PySem.W.Frag)
def R__law_follows : V3 := fun x y z H Q => ∃ (a : Addr) (o : Ob) (g : Addr) (gs : List Int) (c : Addr) (cs : List Int), x = .ref a ∧ y = .ref g ∧ z = .ref c ∧ ObAt K H a o ∧ o.small ∧ SqL K H g (gs.map V.int) ∧
  (SqL K H c (cs.map V.int) ∨ SqT K H c (cs.map V.int)) ∧ NewL (ledTo o gs cs) H Q
abbrev sp__law_follows : Sp := sp3 (R__law_follows K)
def R__law_obtainable : V2 := fun x y H Q => ∃ (a : Addr) (h : Hd) (c : Addr) (cs : List Int), x = .ref a ∧ y = .ref c ∧ HeapAt K H a h ∧ h.Ok ∧ (SqL K H c (cs.map V.int) ∨ SqT K H c (cs.map V.int)) ∧
  ∀ ns, UpSet ns (Obt h cs) → NewL ns H Q
abbrev sp__law_obtainable : Sp := sp2 (R__law_obtainable K)
def R_same (n : Nat) : V2 := fun x y H Q => ∃ d : Dt, Is K H d x ∧ Is K H d y ∧ d.dep < n ∧ d.thin ∧ Q (.bl true) H
abbrev sp__law_same : Sp := sp2 (R_same K 9)
end
theorem ledTo_len {o : Ob} {gs cs : List Int} (sm : o.small) : (ledTo o gs cs).length ≤ 1000 := by
  cases o with
  | rcd n fs => exact Nat.le_trans (List.length_filterMap_le _ _) sm
  | weak n t =>
    cases t with
    | none => exact Nat.zero_le _
    | some i =>
      show (if i ∈ cs then [] else [i]).length ≤ 1000
      split <;> simp
  | tab n es =>
    show ((es.filter fun e => decide (e.1 ∈ gs)).map (·.2)).length ≤ 1000
    rw [List.length_map]
    exact Nat.le_trans (List.length_filter_le _ _) sm
/-! ### the law's own walk: closed behind as many turns as there are objects, and one more -/
def Shut (h : Hd) (cs G : List Int) : Prop := ∀ o ∈ h.obs, o.num ∈ G → ∀ n, o.fol cs (· ∈ G) n → n ∈ G
def cnt (h : Hd) (G : List Int) : Nat := (h.nums.filter fun n => decide (n ∈ G)).length
theorem filter_lt {l : List Int} {p q : Int → Bool} (s : ∀ n, p n = true → q n = true) {x : Int} (hx : x ∈ l) (h1 : p x = false) (h2 : q x = true) : (l.filter p).length < (l.filter q).length := by
  have le : ∀ l : List Int, (l.filter p).length ≤ (l.filter q).length := by
    intro l
    induction l with
    | nil => exact Nat.le_refl _
    | cons y r ih =>
      rw [List.filter_cons, List.filter_cons]
      cases hp : p y with
      | true =>
        rw [s y hp]
        simp only [if_true, List.length_cons]
        omega
      | false =>
        simp only [Bool.false_eq_true, if_false]
        split
        · rw [List.length_cons]; omega
        · exact ih
  induction l with
  | nil => cases hx
  | cons y r ih =>
    rw [List.filter_cons, List.filter_cons]
    rcases List.mem_cons.mp hx with rfl | hx
    · rw [h1, h2]
      simp only [Bool.false_eq_true, if_false, if_true, List.length_cons]
      have := le r
      omega
    · have := ih hx
      cases hp : p y with
      | true =>
        rw [s y hp]
        simp only [if_true, List.length_cons]
        omega
      | false =>
        simp only [Bool.false_eq_true, if_false]
        split
        · rw [List.length_cons]; omega
        · exact this
theorem cnt_lt {h : Hd} {G G' : List Int} (s : ∀ n ∈ G, n ∈ G') {n : Int} (hn : n ∈ h.nums) (h1 : n ∉ G) (h2 : n ∈ G') : cnt h G < cnt h G' :=
  filter_lt (fun m z => decide_eq_true (s m (of_decide_eq_true z))) hn (decide_eq_false h1) (decide_eq_true h2)
theorem cnt_le (h : Hd) (G : List Int) : cnt h G ≤ h.obs.length := by
  unfold cnt
  refine Nat.le_trans (List.length_filter_le _ _) ?_
  unfold Hd.nums
  rw [List.length_map]
  exact Nat.le_refl _
section
variable {P : Program} {w : World} {K : PySem.W.Frag} {mg : Str → Option Value} {base : Heap}
end
end Wc
namespace Wc
open PySem L2
section
variable {P : Program} {w : World} {K : PySem.W.Frag} {mg : Str → Option Value} {base : Heap}
theorem step__law_same {f : Addr} {fd : FuncData} {cd : Value} {n : Nat} (F : Df K "_law_same" s__law_same f fd cd) (T : Txt mg) (C__law_same : Cal P w K mg base n "_law_same" (sp2 (R_same K n)) []) :
    FnOk P w K mg base CX0 (n + 1) f fd ["actual", "expected"] (sp2 (R_same K (n + 1))) := by
  have nd := sc__law_same.nd
  refine F.ok sc__law_same (fun vs H Q E h => ?_) (fun A outer s H vs Q E hr h => ?_)
  · obtain ⟨_, _, rfl, _⟩ := h; rfl
  have hu := hu_of hr
  obtain ⟨x0, x1, rfl, h⟩ := h
  refine ⟨_, (pss_cons (ps_if (pt_val (pe_callB (r := rIsi K) call_isi rfl T.isinstance (by decide +kernel) (pa_cons (pv 1) (pa_cons (pe_bltn (v := .ty "tuple") rfl T.tuple (by decide +kernel) rfl) pa_nil)))) (pss_cons (ps_if (PW.pt (pw_or (pt_not (pt_val (pe_callB (r := rIsi K) call_isi rfl T.isinstance (by decide +kernel) (pa_cons (pv 0) (pa_cons (pe_bltn (v := .ty "tuple") rfl T.tuple (by decide +kernel) rfl) pa_nil))))) (pw_or1 (pt_cmpR op_ne (pe_callB (r := Evl.rLenS K) call_len_seq rfl T.len PySem.boot_len (pa_cons (pv 0) pa_nil)) (pe_callB (r := Evl.rLenS K) call_len_seq rfl T.len PySem.boot_len (pa_cons (pv 1) pa_nil)) (nomark _))))) (pss_one (ps_ret pe_bl)) pss_nil)
    (pss_cons (ps_for PassesOwn.never rfl (pi_range1 rfl T.range (pa_cons (pe_callB (r := Evl.rLenS K) call_len_seq rfl T.len PySem.boot_len (pa_cons (pv 1) pa_nil)) pa_nil)) (pg_name (i := 2) nd rfl (by first | exact Or.inl rfl | exact Or.inr rfl))
    (pss_one (ps_if (pt_not (pt_val (pe_c C__law_same hr (by first | exact Nat.le_refl _ | decide) rfl (pa_cons (pe_ix (r := rIxT K) ix_tup (pv 0) (pv 2) (fun _ _ => rfl)) (pa_cons (pe_ix (r := rIxT K) ix_tup (pv 1) (pv 2) (fun _ _ => rfl)) pa_nil))))) (pss_one (ps_ret pe_bl)) pss_nil)))
    (pss_one (ps_ret pe_bl)))) pss_nil)
    (pss_cons (ps_if (pt_cmpR op_isN (pv 1) pe_non (nomark _)) (pss_one (ps_ret (pe_cmpR op_isN (pv 0) pe_non (nomark _)))) pss_nil)
    (pss_cons (ps_if (pt_val (pe_callB (r := rIsi K) call_isi rfl T.isinstance (by decide +kernel) (pa_cons (pv 1) (pa_cons (pe_bltn (v := .ty "bool") rfl T.bool (by decide +kernel) rfl) pa_nil)))) (pss_one (ps_ret (pe_and (pe_callB (r := rIsi K) call_isi rfl T.isinstance (by decide +kernel) (pa_cons (pv 0) (pa_cons (pe_bltn (v := .ty "bool") rfl T.bool (by decide +kernel) rfl) pa_nil))) (pe_one (pe_cmpR op_eq (pv 0) (pv 1) (nomark _)))))) pss_nil)
    (pss_cons (ps_if (pt_val (pe_callB (r := rIsi K) call_isi rfl T.isinstance (by decide +kernel) (pa_cons (pv 1) (pa_cons (pe_bltn (v := .ty "int") rfl T.int (by decide +kernel) rfl) pa_nil)))) (pss_one (ps_ret (pe_and (pe_callB (r := rIsi K) call_isi rfl T.isinstance (by decide +kernel) (pa_cons (pv 0) (pa_cons (pe_bltn (v := .ty "int") rfl T.int (by decide +kernel) rfl) pa_nil))) (pe_and (pe_not (pe_callB (r := rIsi K) call_isi rfl T.isinstance (by decide +kernel) (pa_cons (pv 0) (pa_cons (pe_bltn (v := .ty "bool") rfl T.bool (by decide +kernel) rfl) pa_nil)))) (pe_one (pe_cmpR op_eq (pv 0) (pv 1) (nomark _))))))) pss_nil)
    (pss_one (ps_ret (pe_and (pe_callB (r := rIsi K) call_isi rfl T.isinstance (by decide +kernel) (pa_cons (pv 0) (pa_cons (pe_bltn (v := .ty "str") rfl T.str (by decide +kernel) rfl) pa_nil))) (pe_one (pe_cmpR op_eq (pv 0) (pv 1) (nomark _))))))))))
    , ?_⟩
  obtain ⟨d, hx, hy, hd, hth, q⟩ := h
  cases d with
  | tup ds =>
    obtain ⟨a, xs, rfl, ha, hxs⟩ := hx
    obtain ⟨b, ys, rfl, hb, hys⟩ := hy
    have lx := hxs.len
    have ly := hys.len
    have zl : ds.length ≤ 100000 := hth.1
    refine ⟨_, rfl, _, _, _, _, true, rfl, .ty "tuple", tyx_tup hb, kit_ty (by decide +kernel), _, rfl, iteT ?_⟩
    refine ⟨_, rfl, _, _, _, _, true, rfl, .ty "tuple", tyx_tup ha, kit_ty (by decide +kernel), _, rfl, iteF ?_⟩
    refine ⟨_, rfl, a, _, rfl, .inr ha, _, rfl, b, _, rfl, .inr hb, rfl, _, rfl, iteNS (by rw [lx, ly]) ?_⟩
    refine ⟨_, rfl, b, _, rfl, .inr hb, _, rfl, by omega, by omega, ?_⟩
    refine for_range (lo := 0) (n := ((ys.length : Nat) : Int).toNat) (fun i σ2 H2 => ∃ u, σ2 = [some (.ref a), some (.ref b), u] ∧ H2 = H) ⟨none, rfl, rfl⟩ (fun i σ2 H2 hi p => ?_) (fun σ2 H2 p => ?_)
    · obtain ⟨u, rfl, rfl⟩ := p
      have hi' : i < ds.length := by omega
      obtain ⟨d', hd'⟩ : ∃ d', ds[i]? = some d' := ⟨_, List.getElem?_eq_getElem hi'⟩
      obtain ⟨x, hx1, hx2⟩ := hxs.get hd'
      obtain ⟨y, hy1, hy2⟩ := hys.get hd'
      have e0 : (0 : Int) + (i : Int) = (i : Int) := Int.zero_add _
      have dd : d'.dep < n := by
        have z1 := dep_get hd'
        have z2 : 1 + Dt.depL ds < n + 1 := hd
        omega
      refine ⟨_, rfl, _, rfl, a, _, _, x, rfl, rfl, ha, by rw [e0]; exact atI_nat hx1, _, rfl, _, rfl, b, _, _, y, rfl, rfl, hb, by rw [e0]; exact atI_nat hy1, ?_⟩
      exact ⟨_, _, rfl, d', hx2, hy2, dd, thin_get hth.2 hd', _, rfl, iteF ⟨_, rfl, rfl⟩⟩
    · obtain ⟨u, rfl, rfl⟩ := p
      exact q
  | non =>
    have hx : x0 = .non := hx
    have hy : x1 = .non := hy
    subst hx hy
    refine ⟨_, rfl, _, _, _, _, false, rfl, .ty "tuple", .base .non, kit_ty (by decide +kernel), _, rfl, iteF ?_⟩
    exact ⟨_, rfl, rfl, _, rfl, iteT ⟨_, rfl, rfl, q⟩⟩
  | bl v =>
    have hx : x0 = .bl v := hx
    have hy : x1 = .bl v := hy
    subst hx hy
    refine ⟨_, rfl, _, _, _, _, false, rfl, .ty "tuple", .base (.bl v), kit_ty (by decide +kernel), _, rfl, iteF ?_⟩
    refine ⟨_, rfl, rfl, _, rfl, iteF ?_⟩
    refine ⟨_, rfl, _, _, _, _, true, rfl, .ty "bool", .base (.bl v), kit_ty (by decide +kernel), _, rfl, iteT ?_⟩
    refine ⟨_, rfl, _, _, _, _, true, rfl, .ty "bool", .base (.bl v), kit_ty (by decide +kernel), _, rfl, iteT ⟨_, rfl, _, rfl, rfl, ?_⟩⟩
    rw [decide_eq_true (rfl : V.bl v = V.bl v)]
    exact q
  | int v =>
    have hx : x0 = .int v := hx
    have hy : x1 = .int v := hy
    subst hx hy
    refine ⟨_, rfl, _, _, _, _, false, rfl, .ty "tuple", .base (.int v), kit_ty (by decide +kernel), _, rfl, iteF ?_⟩
    refine ⟨_, rfl, rfl, _, rfl, iteF ?_⟩
    refine ⟨_, rfl, _, _, _, _, false, rfl, .ty "bool", .base (.int v), kit_ty (by decide +kernel), _, rfl, iteF ?_⟩
    refine ⟨_, rfl, _, _, _, _, true, rfl, .ty "int", .base (.int v), kit_ty (by decide +kernel), _, rfl, iteT ?_⟩
    refine ⟨_, rfl, _, _, _, _, true, rfl, .ty "int", .base (.int v), kit_ty (by decide +kernel), _, rfl, iteT ?_⟩
    refine ⟨_, rfl, _, _, _, _, false, rfl, .ty "bool", .base (.int v), kit_ty (by decide +kernel), _, rfl, _, rfl, iteT ⟨_, rfl, _, rfl, rfl, ?_⟩⟩
    rw [decide_eq_true (rfl : V.int v = V.int v)]
    exact q
  | str v =>
    have hx : x0 = .str v := hx
    have hy : x1 = .str v := hy
    subst hx hy
    refine ⟨_, rfl, _, _, _, _, false, rfl, .ty "tuple", .base (.str v), kit_ty (by decide +kernel), _, rfl, iteF ?_⟩
    refine ⟨_, rfl, rfl, _, rfl, iteF ?_⟩
    refine ⟨_, rfl, _, _, _, _, false, rfl, .ty "bool", .base (.str v), kit_ty (by decide +kernel), _, rfl, iteF ?_⟩
    refine ⟨_, rfl, _, _, _, _, false, rfl, .ty "int", .base (.str v), kit_ty (by decide +kernel), _, rfl, iteF ?_⟩
    refine ⟨_, rfl, _, _, _, _, true, rfl, .ty "str", .base (.str v), kit_ty (by decide +kernel), _, rfl, iteT ⟨_, rfl, _, rfl, rfl, ?_⟩⟩
    rw [decide_eq_true (rfl : V.str v = V.str v)]
    exact q
theorem all__law_same {f : Addr} {fd : FuncData} {cd : Value} (F : Df K "_law_same" s__law_same f fd cd) (T : Txt mg) (b : Binds K fd ["actual", "expected"] []) (m : mg "_law_same" = some (.ref f)) (kp : PySem.W.keepIn K (.ref f) = true) :
    ∀ n, FnOk P w K mg base CX0 n f fd ["actual", "expected"] (sp2 (R_same K n))
  | 0 => by
    have no : ∀ vs H Q E, ¬ sp2 (R_same K 0) vs H Q E := fun vs H Q E h => by
      obtain ⟨_, _, _, d, _, _, hd, _⟩ := h
      omega
    exact ⟨fun vs H Q E h => absurd h (no vs H Q E), fun A outer s H args us vs Q E _ _ _ _ h => absurd h (no vs H Q E)⟩
  | n + 1 => step__law_same F T (Cal.mk0 (all__law_same F T b m kp n) m kp b)
theorem ok__law_same {f : Addr} {fd : FuncData} {cd : Value} (F : Df K "_law_same" s__law_same f fd cd) (T : Txt mg) (b : Binds K fd ["actual", "expected"] []) (m : mg "_law_same" = some (.ref f)) (kp : PySem.W.keepIn K (.ref f) = true) :
    Cal P w K mg base 9 "_law_same" (sp__law_same K) [] := Cal.mk0 (all__law_same F T b m kp 9) m kp b
end
end Wc
namespace Wc
open PySem L2
/-- a dict whose keys are these numbers, also where it is locked -/
def LowAt (H : Hp) (l : Addr) (ls : List Int) : Prop := ∃ kvs, Rd H l (.dK kvs) ∧ kvs.map (·.1) = ls.map Sum.inl
theorem LowAt.get {H : Hp} {l : Addr} {ls : List Int} (h : LowAt H l ls) (n : Int) : ∃ r, DGet H l (.int n) r ∧ r.isSome = decide (n ∈ ls) := by
  obtain ⟨kvs, h1, h2⟩ := h
  exact ⟨_, .inl ⟨kvs, Sum.inl n, h1, rfl, rfl⟩, key_has h2 n⟩
theorem RsAt.at0 {K : PySem.W.Frag} {H : Hp} {a : Addr} {r : Rs} (h : RsAt K H a r) : ∃ t, SqT K H a r.row ∧ atI r.row (0 : Int) = some (.str t) ∧ (t = "register" ∨ t = "field" ∨ t = "entry" ∨ t = "deref") := by
  cases r with
  | reg k => exact ⟨_, h, Wc.at0, .inl rfl⟩
  | fld n k => exact ⟨_, h, Wc.at0, .inr (.inl rfl)⟩
  | ent n k => exact ⟨_, h, Wc.at0, .inr (.inr (.inl rfl))⟩
  | drf n => exact ⟨_, h, Wc.at0, .inr (.inr (.inr rfl))⟩
theorem LowAt.all {H H' : Hp} {l : Addr} {ls : List Int} (h : LowAt H l ls) (e : ExA H H') : LowAt H' l ls := by
  obtain ⟨kvs, h1, h2⟩ := h
  rcases h1 with h1 | ⟨o, h1⟩
  · exact ⟨kvs, .inl (ExA.at e h1), h2⟩
  · exact ⟨kvs, .inr ⟨o, ExA.at e h1⟩, h2⟩
theorem int_eq (i n : Int) : decide (V.int i = V.int n) = decide (i = n) := decide_eq_decide.mpr ⟨V.int.inj, fun e => by rw [e]⟩
theorem rf_eq (t : Rf) (n : Int) : decide (rV t = V.int n) = decide (t = some n) := by
  cases t with
  | none => rfl
  | some i => exact decide_eq_decide.mpr ⟨fun e => by rw [V.int.inj e], fun e => by cases e; rfl⟩
/-- looked up in the dict of rounds -/
theorem RoundsOf.look {h : Hd} {cs : List Int} {G : List (Int × Int)} (r : RoundsOf h cs G) {n : Int} (x : Obt h cs n) : valV (dI G) (Sum.inl n) = some (.int (rnk h cs n : Nat)) := by
  have key : ∀ (L : List (Int × Int)), (∀ q ∈ L, q ∈ G) → n ∈ L.map (·.1) → valV (dI L) (Sum.inl n) = some (.int (rnk h cs n : Nat)) := by
    intro L
    induction L with
    | nil => intro _ z; cases z
    | cons q t ih =>
      intro hs hm
      by_cases e : q.1 = n
      · obtain ⟨k, hk, h1, h2⟩ := r.val q.1 q.2 (hs q List.mem_cons_self)
        show valV ((Sum.inl q.1, V.int q.2) :: dI t) (Sum.inl n) = _
        rw [valV_pos (by show (Sum.inl q.1 : Key) = _; rw [e]), hk]
        have a : Rnk h cs k n := by rw [← e]; exact ⟨h1, h2⟩
        rw [a.eq]
      · show valV ((Sum.inl q.1, V.int q.2) :: dI t) (Sum.inl n) = _
        rw [valV_neg (fun z => e (Sum.inl.inj z))]
        refine ih (fun q' h' => hs q' (List.mem_cons_of_mem _ h')) ?_
        rcases List.mem_cons.mp hm with z | z
        · exact absurd z.symm e
        · exact z
  exact key G (fun _ z => z) ((r.all n).mpr x)
/-- the objects of a rising row of numbers, in their order -/
theorem obs_of {h : Hd} (ok : h.Ok) {ls : List Int} (up : ls.Pairwise (· < ·)) (hin : ∀ m ∈ ls, m ∈ h.nums) : (h.obs.filter fun o => decide (o.num ∈ ls)).map Ob.num = ls := by
  refine up_same ?_ up fun m => ?_
  · have q := ok.up
    unfold Hd.nums at q
    rw [List.pairwise_map] at q ⊢
    exact q.sublist List.filter_sublist
  · rw [List.mem_map]
    constructor
    · rintro ⟨o, h1, rfl⟩
      exact of_decide_eq_true (List.mem_filter.mp h1).2
    · intro z
      obtain ⟨o, h1, h2⟩ := List.mem_map.mp (hin m z)
      exact ⟨o, List.mem_filter.mpr ⟨h1, decide_eq_true (by rw [h2]; exact z)⟩, h2⟩
section
variable (K : PySem.W.Frag)
def R_named : V1 := fun x H Q => ∃ (a : Addr), x = .ref a ∧ ((∃ r : Rs, RsAt K H a r ∧ NewT r.names H Q) ∨ ∃ i : Int, SqT K H a [.str "register", .int i] ∧ NewT [] H Q)
abbrev sp_named : Sp := sp1 (R_named K)
def R_reason_from : V4 := fun x y z u H Q => ∃ (a : Addr) (o : Ob) (l : Addr) (ls : List Int) (c : Addr) (cs : List Int) (n : Int), x = .ref a ∧ y = .ref l ∧ z = .ref c ∧ u = .int n ∧ ObAt K H a o ∧ o.small ∧ LowAt H l ls ∧ SqT K H c (cs.map V.int) ∧
  ∀ H' v, ExA H H' → RsV K H' (rsFrom ls cs n o) v → Q v H'
abbrev sp_reason_from : Sp := sp4 (R_reason_from K)
def R_best_reason : V5 := fun x y z u v H Q => ∃ (a : Addr) (h : Hd) (th : Addr) (os : List Addr) (d : Addr) (G : List (Int × Int)) (c : Addr) (cs : List Int) (n : Int), x = .ref a ∧ y = .ref th ∧ z = .ref d ∧ u = .ref c ∧ v = .int n ∧
  HeapAt K H a h ∧ h.Ok ∧ H th = some (.dK (dictOf os h.obs)) ∧ Paired (ObAt K H) os h.obs ∧ H d = some (.dK (dI G)) ∧ RoundsOf h cs G ∧ SqT K H c (cs.map V.int) ∧ Obt h cs n ∧
  ∀ H' p, ExA H H' → RsAt K H' p (bst h cs n) → Q (.ref p) H'
abbrev sp_best_reason : Sp := sp5 (R_best_reason K)
end
section
variable {P : Program} {w : World} {K : PySem.W.Frag} {mg : Str → Option Value} {base : PySem.Heap}
theorem ok_named {f : Addr} {fd : FuncData} {cd : Value} (F : Df K "named" s_named f fd cd) (T : Txt mg) : FnOk P w K mg base CX0 1 f fd ["reason"] (sp_named K) := by
  have nd := sc_named.nd
  refine F.ok sc_named (fun vs H Q E h => ?_) (fun A outer s H vs Q E hr h => ?_)
  · obtain ⟨_, rfl, _⟩ := h; rfl
  have hu := hu_of hr
  obtain ⟨x0, rfl, h⟩ := h
  refine ⟨_, (pss_cons (ps_if (pt_cmpR op_eq (pe_ix (r := rIxT K) ix_tup (pv 0) pe_int (fun _ _ => rfl)) pe_str (nomark _)) (pss_one (ps_ret (pe_tup pa_nil))) pss_nil)
    (pss_cons (ps_if (pt_cmpR op_eq (pe_ix (r := rIxT K) ix_tup (pv 0) pe_int (fun _ _ => rfl)) pe_str (nomark _)) (pss_one (ps_ret (pe_tup (pa_cons (pe_ix (r := rIxT K) ix_tup (pv 0) pe_int (fun _ _ => rfl)) (pa_cons (pe_ix (r := rIxT K) ix_tup (pv 0) pe_int (fun _ _ => rfl)) pa_nil))))) pss_nil)
    (pss_one (ps_ret (pe_tup (pa_cons (pe_ix (r := rIxT K) ix_tup (pv 0) pe_int (fun _ _ => rfl)) pa_nil)))))), ?_⟩
  obtain ⟨a, rfl, h⟩ := h
  rcases h with ⟨r, hA, q⟩ | ⟨i, h1, q⟩
  rotate_left 1
  · refine ⟨_, rfl, a, _, _, _, rfl, rfl, h1, at0, rfl, _, rfl, iteT ?_⟩
    exact ⟨Nat.zero_le _, fun p hp => q p _ hp (ExM.new hp) upd_same⟩
  cases r with
  | reg k =>
    have h1 : SqT K H a [.str "register", .int (k : Nat)] := hA
    refine ⟨_, rfl, a, _, _, _, rfl, rfl, h1, at0, rfl, _, rfl, iteT ?_⟩
    exact ⟨Nat.zero_le _, fun p hp => q p _ hp (ExM.new hp) upd_same⟩
  | fld n k =>
    have h1 : SqT K H a [.str "field", .int n, .int (k : Nat)] := hA
    refine ⟨_, rfl, a, _, _, _, rfl, rfl, h1, at0, rfl, _, rfl, iteF ?_⟩
    refine ⟨_, rfl, a, _, _, _, rfl, rfl, h1, at0, rfl, _, rfl, iteF ?_⟩
    exact ⟨_, rfl, a, _, _, _, rfl, rfl, h1, at1, sz (by show 1 ≤ 100000; decide), fun p hp => q p _ hp (ExM.new hp) upd_same⟩
  | ent n k =>
    have h1 : SqT K H a [.str "entry", .int n, .int k] := hA
    refine ⟨_, rfl, a, _, _, _, rfl, rfl, h1, at0, rfl, _, rfl, iteF ?_⟩
    refine ⟨_, rfl, a, _, _, _, rfl, rfl, h1, at0, rfl, _, rfl, iteT ?_⟩
    exact ⟨_, rfl, a, _, _, _, rfl, rfl, h1, at1, _, rfl, a, _, _, _, rfl, rfl, h1, at2, sz (by show 2 ≤ 100000; decide), fun p hp => q p _ hp (ExM.new hp) upd_same⟩
  | drf n =>
    have h1 : SqT K H a [.str "deref", .int n] := hA
    refine ⟨_, rfl, a, _, _, _, rfl, rfl, h1, at0, rfl, _, rfl, iteF ?_⟩
    refine ⟨_, rfl, a, _, _, _, rfl, rfl, h1, at0, rfl, _, rfl, iteF ?_⟩
    exact ⟨_, rfl, a, _, _, _, rfl, rfl, h1, at1, sz (by show 1 ≤ 100000; decide), fun p hp => q p _ hp (ExM.new hp) upd_same⟩
theorem ok_reason_from {f : Addr} {fd : FuncData} {cd : Value} (F : Df K "reason_from" s_reason_from f fd cd) (T : Txt mg) : FnOk P w K mg base CX0 1 f fd ["thing", "lower", "condemned", "number"] (sp_reason_from K) := by
  have nd := sc_reason_from.nd
  refine F.ok sc_reason_from (fun vs H Q E h => ?_) (fun A outer s H vs Q E hr h => ?_)
  · obtain ⟨_, _, _, _, rfl, _⟩ := h; rfl
  have hu := hu_of hr
  obtain ⟨x0, x1, x2, x3, rfl, h⟩ := h
  refine ⟨_, (pss_cons (ps_if (pt_cmpR op_eq (pe_ix (r := rIxT K) ix_tup (pv 0) pe_int (fun _ _ => rfl)) pe_str (nomark _)) (pss_one (ps_ret (pe_ifExp (pt_cmpR (r := rIn K false) op_in_seq (pv 3) (pe_ix (r := rIxT K) ix_tup (pv 0) pe_int (fun _ _ => rfl)) (by first | exact nomark _ | rfl)) (pe_tup (pa_cons pe_str (pa_cons (pe_ix (r := rIxT K) ix_tup (pv 0) pe_int (fun _ _ => rfl)) (pa_cons (pe_bmZ PySem.F.plainAttrs_tuple PySem.F.slot_tuple_index PySem.F.type_tuple_index (r := rIndexT K) mt_indexT (pe_ix (r := rIxT K) ix_tup (pv 0) pe_int (fun _ _ => rfl)) (pa_cons (pv 3) pa_nil)) pa_nil)))) pe_non))) pss_nil)
    (pss_cons (ps_if (pt_cmpR op_eq (pe_ix (r := rIxT K) ix_tup (pv 0) pe_int (fun _ _ => rfl)) pe_str (nomark _)) (pss_cons (ps_setLc (i := 4) (own := [("key", 5), ("value", 6)]) rfl nd rfl rfl (sw_true rfl rfl rfl (by decide +kernel)) (show PI _ _ _ (iTup K _) from pi_tup (pe_ix (r := rIxT K) ix_tup (pv 0) pe_int (fun _ _ => rfl))) (blkOk_by (own := [("key", 5), ("value", 6)]) (N := N_reason_from) (sc := defScope s_reason_from) (by decide +kernel)) (fun _ _ _ _ _ => (show PG _ _ (gTup K 2 _) from pg_tup rfl (pgs_cons (pg_name (i := 5) nd rfl (by first | exact Or.inl rfl | exact Or.inr rfl)) (pgs_cons (pg_name (i := 6) nd rfl (by first | exact Or.inl rfl | exact Or.inr rfl)) pgs_nil)))) (fun _ _ _ _ _ => (pts_one (PW.pt (pw_and (pt_cmpR op_eq (pv 6) (pv 3) (nomark _)) (pw_and1 (pt_cmp (pc_din hu (pv 5) (pv 1)) rfl)))))) (fun _ _ _ _ _ => (pv 5)))
    (pss_one (ps_ret (pe_ifExp (pt_truth (pv 4) (by intro _; rfl)) (pe_tup (pa_cons pe_str (pa_cons (pe_ix (r := rIxT K) ix_tup (pv 0) pe_int (fun _ _ => rfl)) (pa_cons (pe_ix (r := rIxL K) ix_list (pv 4) pe_int (fun _ _ => rfl)) pa_nil)))) pe_non)))) pss_nil)
    (pss_cons (ps_if (PW.pt (pw_and (pt_cmpR op_eq (pe_ix (r := rIxT K) ix_tup (pv 0) pe_int (fun _ _ => rfl)) (pv 3) (nomark _)) (pw_and1 (pt_cmpR (r := rIn K true) op_notIn_seq (pv 3) (pv 2) (by first | exact nomark _ | rfl))))) (pss_one (ps_ret (pe_tup (pa_cons pe_str (pa_cons (pe_ix (r := rIxT K) ix_tup (pv 0) pe_int (fun _ _ => rfl)) pa_nil))))) pss_nil)
    (pss_one (ps_ret pe_non))))), ?_⟩
  obtain ⟨a, o, l, ls, c, cs, n, rfl, rfl, rfl, rfl, hO, sm, hL, hC, q⟩ := h
  cases o with
  | rcd m fs =>
    obtain ⟨t, h1, h2⟩ := hO
    refine ⟨_, rfl, a, _, _, _, rfl, rfl, h1, at0, rfl, _, rfl, iteT ?_⟩
    refine ⟨_, rfl, _, rfl, a, _, _, _, rfl, rfl, h1, at2, t, _, rfl, .inr h2.sq, rfl, flat_rfs fs, _, rfl, ?_⟩
    show if inV (V.int n) (fs.map rV) = true then _ else _
    rw [inV_rf]
    have q : ∀ H' v, ExA H H' → RsV K H' (if some n ∈ fs then some (.fld m (ixR fs n)) else none) v → Q v H' := q
    by_cases c1 : some n ∈ fs
    · rw [decide_eq_true c1]
      rw [if_pos c1] at q
      refine iteT ⟨_, rfl, a, _, _, _, rfl, rfl, h1, at1, _, rfl, a, _, _, _, rfl, rfl, h1, at2, ⟨_, _, rfl, h2⟩, _, rfl, ?_⟩
      dsimp only [tNil]
      refine indexT_ok h2.sq c1 ?_
      refine ⟨sz (by show 3 ≤ 100000; decide), fun p hp => ?_⟩
      exact q _ _ (ExM.new hp) ⟨p, rfl, SqT.of upd_same⟩
    · rw [decide_eq_false c1]
      rw [if_neg c1] at q
      exact iteF (q _ _ (ExM.refl _ _) rfl)
  | weak m t =>
    have h1 : SqT K H a [.str "weak", .int m, rV t] := hO
    have q : ∀ H' v, ExA H H' → RsV K H' (if t = some n ∧ n ∉ cs then some (.drf m) else none) v → Q v H' := q
    refine ⟨_, rfl, a, _, _, _, rfl, rfl, h1, at0, rfl, _, rfl, iteF ?_⟩
    refine ⟨_, rfl, a, _, _, _, rfl, rfl, h1, at0, rfl, _, rfl, iteF ?_⟩
    unfold tNext
    dsimp only
    show tSeq (tIfS (tAnd _ _) _ _) _ _ _ _
    refine and_join (decide (t = some n)) (decide (n ∉ cs)) (fun Q' z => ⟨_, rfl, a, _, _, _, rfl, rfl, h1, at2, _, rfl, ?_⟩) (fun _ Q' z => ⟨_, rfl, _, rfl, c, _, rfl, .inr hC, rfl, flat_ints _, _, rfl, ?_⟩) ?_
    · exact ⟨by cases t <;> rfl, _, rfl, rf_eq t n ▸ z⟩
    · rw [if_pos rfl, inV_int, ← decide_not]; exact z
    by_cases c1 : t = some n ∧ n ∉ cs
    · rw [if_pos c1] at q
      rw [decide_eq_true c1.1, decide_eq_true c1.2]
      exact iteT ⟨_, rfl, a, _, _, _, rfl, rfl, h1, at1, sz (by show 2 ≤ 100000; decide), fun p hp => q _ _ (ExM.new hp) ⟨p, rfl, SqT.of upd_same⟩⟩
    · rw [if_neg c1] at q
      have e : (decide (t = some n) && decide (n ∉ cs)) = false := by
        rw [Bool.and_eq_false_iff]
        by_cases c2 : t = some n
        · exact .inr (decide_eq_false fun z => c1 ⟨c2, z⟩)
        · exact .inl (decide_eq_false c2)
      rw [e]
      exact iteF (q _ _ (ExM.refl _ _) rfl)
  | tab m es =>
    obtain ⟨t, ps, h1, hz2, h3⟩ := hO; have h2 := hz2.sq (K := K)
    have q : ∀ H' v, ExA H H' → RsV K H' (((es.filter fun e => decide (e.2 = n) && decide (e.1 ∈ ls)).head?).map fun e => .ent m e.1) v → Q v H' := q
    refine ⟨_, rfl, a, _, _, _, rfl, rfl, h1, at0, rfl, _, rfl, iteF ?_⟩
    refine ⟨_, rfl, a, _, _, _, rfl, rfl, h1, at0, rfl, _, rfl, iteT ?_⟩
    refine ⟨_, rfl, a, _, _, _, rfl, rfl, h1, at2, t, rfl, ⟨_, h2⟩, fun D hD => ?_⟩
    have hl := plen h3
    have sm' : es.length ≤ 1000 := sm
    refine lcM [] (walk_tup (xs := ps.map V.ref)) hD (fun i acc _ => acc = (((es.take i).filter fun e => decide (e.2 = n) && decide (e.1 ∈ ls)).map (·.1)).map V.int) rfl (fun H' e => Tk.all e _ _ h2) (fun i x H1 H2 acc hi e k1 k2 hacc y => ?_) (fun H' acc e k1 k2 hacc => ?_)
    · obtain ⟨rfl, hx⟩ := y
      rw [List.length_map] at hi
      obtain ⟨p, hp⟩ : ∃ p, ps[i]? = some p := ⟨ps[i], List.getElem?_eq_getElem hi⟩
      obtain ⟨e1, he1, hpa⟩ := pget h3 hp
      rw [List.getElem?_map, hp] at hx
      obtain rfl : V.ref p = x := Option.some.inj hx
      refine ⟨p, _, rfl, Tk.all e _ _ hpa, rfl, _, _, rfl, _, _, rfl, ⟨rfl, rfl, ?_⟩⟩
      refine and_join (decide (e1.2 = n)) (decide (e1.1 ∈ ls)) (fun Q' z => ⟨_, rfl, _, rfl, rfl, _, rfl, int_eq e1.2 n ▸ z⟩) (fun _ Q' z => ?_) ?_
      · obtain ⟨r, g1, g2⟩ := (hL.all e).get e1.1
        exact ⟨_, rfl, _, rfl, l, _, rfl, g1, _, rfl, g2 ▸ z⟩
      have ht := take_snoc he1
      by_cases m : (decide (e1.2 = n) && decide (e1.1 ∈ ls)) = true
      · rw [m]
        refine iteT ⟨_, rfl, LcP.yes hD (by simp) (by omega) e k1 k2 (ExM.refl _ _) ?_⟩
        rw [hacc, ht, List.filter_append, List.map_append, List.map_append]
        simp only [List.filter_cons, m, if_true, List.filter_nil, List.map_cons, List.map_nil]
      · rw [Bool.eq_false_iff.mpr m]
        refine iteF (LcP.no (by simp) e k1 k2 (ExM.refl _ _) ?_)
        rw [hacc, ht, List.filter_append, List.map_append, List.map_append]
        simp only [List.filter_cons, m, Bool.false_eq_true, if_false, List.filter_nil, List.map_nil, List.append_nil]
    · rw [List.length_map, hl, List.take_length] at hacc
      have h1' := Tk.all (K := K) e _ _ h1
      cases ef : es.filter (fun e => decide (e.2 = n) && decide (e.1 ∈ ls)) with
      | nil =>
        rw [ef] at hacc q
        subst hacc
        refine ⟨_, rfl, false, .inl ⟨_, SqL.of k1, rfl⟩, iteF (q _ _ e rfl)⟩
      | cons e1 er =>
        rw [ef] at hacc q
        subst hacc
        refine ⟨_, rfl, true, .inl ⟨_, SqL.of k1, rfl⟩, iteT ?_⟩
        refine ⟨_, rfl, a, _, _, _, rfl, rfl, h1', at1, _, rfl, D, _, _, _, rfl, rfl, SqL.of k1, at0, sz (by show 3 ≤ 100000; decide), fun p hp => ?_⟩
        exact q _ _ (ExM.trans e (ExM.new hp)) ⟨p, rfl, SqT.of upd_same⟩
theorem ok_best_reason {f : Addr} {fd : FuncData} {cd : Value} (F : Df K "best_reason" s_best_reason f fd cd) (T : Txt mg) (C_registers_of : Cal P w K mg base 1 "registers_of" (sp_registers_of K) []) (C_reason_from : Cal P w K mg base 1 "reason_from" (sp_reason_from K) []) : FnOk P w K mg base CX0 2 f fd ["heap", "things", "depths", "condemned", "number"] (sp_best_reason K) := by
  have nd := sc_best_reason.nd
  refine F.ok sc_best_reason (fun vs H Q E h => ?_) (fun A outer s H vs Q E hr h => ?_)
  · obtain ⟨_, _, _, _, _, rfl, _⟩ := h; rfl
  have hu := hu_of hr
  obtain ⟨x0, x1, x2, x3, x4, rfl, h⟩ := h
  refine ⟨_, (pss_cons (ps_if (pt_cmpR op_eq (pe_dget hu (pv 2) (pv 4) (fun _ _ => rfl)) pe_int (nomark _)) (pss_one (ps_ret (pe_tup (pa_cons pe_str (pa_cons (pe_bmZ PySem.F.plainAttrs_tuple PySem.F.slot_tuple_index PySem.F.type_tuple_index (r := rIndexT K) mt_indexT (pe_c C_registers_of hr (by first | exact Nat.le_refl _ | decide) rfl (pa_cons (pv 0) pa_nil)) (pa_cons (pv 4) pa_nil)) pa_nil))))) pss_nil)
    (pss_cons (ps_set (i := 5) nd rfl (by first | exact Or.inl rfl | exact Or.inr rfl) (pe_dc (own := [("other", 6)]) rfl nd (show PI _ _ _ (iList K _) from pi_list (pe_callB (call_sortedDI rfl) rfl T.sorted (by decide +kernel) (pa_cons (pv 2) pa_nil))) (blkOk_by (own := [("other", 6)]) (N := N_best_reason) (sc := defScope s_best_reason) (by decide +kernel)) (fun _ _ _ _ _ => (pg_name (i := 6) nd rfl (by first | exact Or.inl rfl | exact Or.inr rfl))) (fun _ _ _ _ _ => (pts_one (pt_cmpR op_lt (pe_dget hu (pv 2) (pv 6) (fun _ _ => rfl)) (pe_dget hu (pv 2) (pv 4) (fun _ _ => rfl)) (nomark _)))) (fun _ _ _ _ _ => (pv 6)) (fun _ _ _ _ _ => pe_bl)))
    (pss_cons (ps_lock (ps_setLc (i := 7) (own := [("other", 6)]) rfl nd rfl rfl (sw_true rfl rfl rfl (by decide +kernel)) (pi_keys (pv 5)) (blkOk_by (own := [("other", 6)]) (N := N_best_reason) (sc := defScope s_best_reason) (by decide +kernel)) (fun _ _ _ _ _ => (pg_name (i := 6) nd rfl (by first | exact Or.inl rfl | exact Or.inr rfl))) (fun _ _ _ _ _ => pts_nil) (fun _ _ _ _ _ => (pe_c C_reason_from hr (by first | exact Nat.le_refl _ | decide) rfl (pa_cons (pe_dget hu (pv 1) (pv 6) (fun _ _ => rfl)) (pa_cons (pv 5) (pa_cons (pv 3) (pa_cons (pv 4) pa_nil))))))))
    (pss_one (ps_ret (pe_ix (r := rIxL K) ix_list (pe_lc (own := [("reason", 8)]) rfl nd (show PI _ _ _ (iList K _) from pi_list (pv 7)) (blkOk_by (own := [("reason", 8)]) (N := N_best_reason) (sc := defScope s_best_reason) (by decide +kernel)) (fun _ _ _ _ _ => (pg_name (i := 8) nd rfl (by first | exact Or.inl rfl | exact Or.inr rfl))) (fun _ _ _ _ _ => (pts_one (pt_cmpR op_notN (pv 8) pe_non (nomark _)))) (fun _ _ _ _ _ => (pv 8))) pe_int (fun _ _ => rfl))))))), ?_⟩
  obtain ⟨a, h, th, os, d, G, c, cs, n, rfl, rfl, rfl, rfl, rfl, hA, ok, hth, hos, hd, rG, hC, hx, q⟩ := h
  have hl := plen hos
  refine ⟨_, rfl, _, rfl, d, _, rfl, DGet.k (k := Sum.inl n) hd |> fun z => by rw [rG.look hx] at z; exact z, rfl, _, rfl, ite2 (fun c1 => ?_) (fun c1 => ?_)⟩
  · have e0 : rnk h cs n = 0 := by
      have z := of_decide_eq_true c1
      have z := V.int.inj z
      omega
    rw [bst_zero e0] at q
    have hreg : some n ∈ h.regs := by
      have z := (Obt.rnk hx).1
      rw [e0] at z
      exact z
    refine ⟨_, rfl, _, rfl, a, h, rfl, hA, fun r hr => ⟨⟨_, _, rfl, hr⟩, _, rfl, ?_⟩⟩
    dsimp only [tNil]
    refine indexT_ok hr.sq hreg ?_
    refine ⟨sz (by show 2 ≤ 100000; decide), fun p hp => q _ p (ExM.new hp) (SqT.of upd_same)⟩
  have ne0 : rnk h cs n ≠ 0 := fun e => by
    have z := of_decide_eq_false (Bool.eq_false_iff.mpr c1)
    exact z (by rw [e]; rfl)
  obtain ⟨k, ek⟩ : ∃ k, rnk h cs n = k + 1 := ⟨rnk h cs n - 1, by omega⟩
  have zG : (G.map (·.1)).length < 64 := by
    have z1 := nd_sub rG.nd fun n hn => Obt.num ok ((rG.all n).mp hn)
    have z3 : h.nums.length ≤ 50 := by unfold Hd.nums; rw [List.length_map]; exact ok.size
    omega
  refine ⟨_, rfl, d, _, G.map (·.1), rfl, .inl hd, dI_keys G, zG, fun ys ly hperm hle fly => ?_⟩
  have ndy : ys.Nodup := (hperm.nodup_iff).mpr rG.nd
  have hys : ∀ m, m ∈ ys ↔ Obt h cs m := fun m => (hperm.mem_iff).trans (rG.all m)
  have e1 : ExA H (upd H ly (.lst (ys.map V.int))) := ExM.new fly
  have hly : (upd H ly (.lst (ys.map V.int))) ly = some (.lst (ys.map V.int)) := upd_same
  generalize upd H ly (.lst (ys.map V.int)) = H1 at e1 hly ⊢
  refine ⟨ly, rfl, ⟨_, SqL.of hly⟩, fun lo flo => ?_⟩
  let lt : Int → Bool := fun m => decide (rnk h cs m < rnk h cs n)
  have zys : ys.length < 64 := by rw [hperm.length_eq]; exact zG
  refine dcM [] (walk_list (xs := ys.map V.int)) flo (fun i acc _ => acc = dB ((ys.take i).filter lt)) rfl (fun H' e => SqL.of (ExA.at e hly)) (fun i x H2 H3 acc hi e k1 k2 hacc y => ?_) (fun H2 acc e2 k1 k2 hacc => ?_)
  · obtain ⟨rfl, hx'⟩ := y
    rw [List.length_map] at hi
    obtain ⟨m, hm⟩ : ∃ m, ys[i]? = some m := ⟨_, List.getElem?_eq_getElem hi⟩
    rw [List.getElem?_map, hm] at hx'
    obtain rfl : V.int m = x := Option.some.inj hx'
    have hmO := (hys m).mp (List.mem_of_getElem? hm)
    have hd3 := ExA.at (e1.trans e) hd
    refine ⟨rfl, _, rfl, _, rfl, d, _, rfl, DGet.k (k := Sum.inl m) hd3 |> fun z => by rw [rG.look hmO] at z; exact z, _, rfl, _, rfl, d, _, rfl, DGet.k (k := Sum.inl n) hd3 |> fun z => by rw [rG.look hx] at z; exact z, _, _, rfl, rfl, _, rfl, ?_⟩
    have ht := take_snoc hm
    have dd : decide (((rnk h cs m : Nat) : Int) < ((rnk h cs n : Nat) : Int)) = lt m := decide_eq_decide.mpr (by omega)
    rw [dd]
    by_cases c : lt m = true
    · rw [c]
      refine iteT ⟨_, rfl, DcP.yes (k := Sum.inl m) flo (by simp) (by omega) e k1 k2 rfl (ExM.refl _ _) ?_⟩
      rw [hacc, dB_put, ht, List.filter_append]
      have nm : m ∉ (ys.take i).filter lt := fun z => by
        have z1 := (List.mem_filter.mp z).1
        obtain ⟨j, hj⟩ := List.getElem?_of_mem z1
        have hlt : j < i := by
          have := (List.getElem?_eq_some_iff.mp hj).1
          rw [List.length_take] at this; omega
        rw [List.getElem?_take_of_lt hlt] at hj
        exact absurd (nd_ix ndy hj hm) (Nat.ne_of_lt hlt)
      unfold addK
      rw [if_neg nm]
      simp only [List.filter_cons, c, if_true, List.filter_nil]
    · rw [Bool.eq_false_iff.mpr c]
      refine iteF ⟨e, acc, k1, by omega, ?_⟩
      show acc = dB ((ys.take (i + 1)).filter lt)
      rw [hacc, ht, List.filter_append]
      simp only [List.filter_cons, c, Bool.false_eq_true, if_false, List.filter_nil, List.append_nil]
  rw [List.length_map, List.take_length] at hacc
  subst hacc
  obtain ⟨ls, els⟩ : ∃ ls, ls = ys.filter lt := ⟨_, rfl⟩
  rw [← els] at k1
  have hls : ∀ m, m ∈ ls ↔ In h cs k m := fun m => by
    rw [els, List.mem_filter, hys m]
    constructor
    · rintro ⟨z1, z2⟩
      have z2 : rnk h cs m < rnk h cs n := of_decide_eq_true z2
      exact (in_iff z1).mpr (by omega)
    · intro z
      have z1 : Obt h cs m := ⟨k, z⟩
      exact ⟨z1, decide_eq_true (by have := rnk_le z; omega)⟩
  have upls : ls.Pairwise (· < ·) := by rw [els]; exact (up_of hle ndy).sublist List.filter_sublist
  have hobs := obs_of ok upls fun m hm => In.num ok ((hls m).mp hm)
  obtain ⟨obs, eobs⟩ : ∃ obs, obs = h.obs.filter fun o => decide (o.num ∈ ls) := ⟨_, rfl⟩
  rw [← eobs] at hobs
  have obsIn : ∀ o ∈ obs, o ∈ h.obs := fun o ho => by rw [eobs] at ho; exact (List.mem_filter.mp ho).1
  have lobs : ls.length = obs.length := by rw [← hobs, List.length_map]
  have zobs : obs.length ≤ 50 := by
    have := ok.size
    have z : obs.length ≤ h.obs.length := by rw [eobs]; exact List.length_filter_le _ _
    omega
  -- the reasons, one for each lower object
  have e02 : ExA H H2 := ExM.trans e1 e2
  have nth : th ≠ lo := ne_of_none (ExA.at e1 hth) flo
  refine ⟨lo, _, k1, trivial, fun od => ?_⟩
  refine ⟨_, rfl, lo, od, rfl, .inl ⟨_, upd_same, fun D hD => ?_⟩⟩
  have T4 : Tk K H (upd H2 lo (.frz od (.dK (dB ls)))) := Tk.trans (Tk.all e02) (Tk.dic k1)
  have hth4 : (upd H2 lo (.frz od (.dK (dB ls)))) th = some (.dK (dictOf os h.obs)) := by rw [upd_ne nth]; exact ExA.at e02 hth
  have hlo4 : (upd H2 lo (.frz od (.dK (dB ls)))) lo = some (.frz od (.dK (dB ls))) := upd_same
  have back : ∀ H5, ExA (upd H2 lo (.frz od (.dK (dB ls)))) H5 → ExA H (upd H5 lo (.dK (dB ls))) := fun H5 e b u _ eb => by
    have nb : b ≠ lo := ne_of_none (ExA.at e1 eb) flo
    rw [upd_ne nb]
    refine ExA.at e ?_
    rw [upd_ne nb]
    exact ExA.at e02 eb
  generalize upd H2 lo (.frz od (.dK (dB ls))) = H4 at hD T4 hth4 hlo4 back ⊢
  refine lcM [] (walk_keys (d := lo) (o := od) (kvs := dB ls)) hD (fun i acc H' => Paired (fun v o => RsV K H' (rsFrom ls cs n o) v) acc (obs.take i)) .nil (fun H' e => ExA.at e hlo4) (fun i x H5 H6 acc hi e p1 p2 hacc y => ?_) (fun H5 acc e5 p1 p2 hacc => ?_)
  · obtain ⟨rfl, kk, v, hk, rfl⟩ := y
    rw [dB_len] at hi
    obtain ⟨o, ho⟩ : ∃ o, obs[i]? = some o := ⟨_, List.getElem?_eq_getElem (by omega)⟩
    have hm : ls[i]? = some o.num := by rw [← hobs, List.getElem?_map, ho]; rfl
    have hk' : ((dB ls).map (·.1))[i]? = some (Sum.inl o.num) := by rw [dB_keys, List.getElem?_map, hm]; rfl
    rw [List.getElem?_map, hk] at hk'
    obtain rfl : kk = Sum.inl o.num := Option.some.inj hk'
    have hoh := obsIn o (List.mem_of_getElem? ho)
    have t5 := Tk.trans T4 (Tk.all (K := K) e)
    have hos5 : Paired (ObAt K H6) os h.obs := pmp hos fun _ _ z => ObAt.mono t5 z
    obtain ⟨oa, o', g1, g2, g3, g4⟩ := dictOf_get (n := o.num) hos5 (List.mem_map_of_mem (f := Ob.num) hoh)
    obtain rfl : o' = o := ob_uniq ok g2 hoh g3
    refine ⟨rfl, tyes ?_⟩
    refine ⟨_, rfl, _, rfl, th, _, rfl, DGet.k (k := Sum.inl o'.num) (ExA.at e hth4) |> fun z => by rw [g1] at z; exact z, _, rfl, _, rfl, _, rfl, ?_⟩
    refine ⟨_, _, _, _, rfl, oa, o', lo, ls, c, cs, n, rfl, rfl, rfl, rfl, g4, (ok.obs o' g2).small, ⟨_, .inr ⟨od, ExA.at e hlo4⟩, dB_keys ls⟩, t5 _ _ hC, fun H7 w7 e7 hv => ?_⟩
    refine LcP.yes hD (by simp) (by omega) e p1 p2 e7 ?_
    have h7 := e7 D _ (by simp) p1
    rw [take_snoc ho]
    have acc7 : Paired (fun v o => RsV K (upd H7 D (.lst (acc ++ [w7]))) (rsFrom ls cs n o) v) acc (obs.take i) := pmp (F := fun v o => RsV K H6 (rsFrom ls cs n o) v) hacc fun _ _ z => RsV.mono (Tk.trans (Tk.all e7) (Tk.lst h7)) z
    exact psnoc (F := fun v o => RsV K (upd H7 D (.lst (acc ++ [w7]))) (rsFrom ls cs n o) v) (RsV.mono (Tk.lst h7) hv) acc7
  rw [dB_len] at p2
  rw [dB_len, lobs, List.take_length] at hacc
  refine ⟨ExA.at e5 hlo4, ?_⟩
  have T6 : Tk K H5 (upd H5 lo (.dK (dB ls))) := Tk.frz (ExA.at e5 hlo4)
  have nDlo : D ≠ lo := (ne_of_none hlo4 hD).symm
  have hD6 : (upd H5 lo (.dK (dB ls))) D = some (.lst acc) := by rw [upd_ne nDlo]; exact p1
  have e06 := back H5 e5
  have hr6 : Paired (fun v o => RsV K (upd H5 lo (.dK (dB ls))) (rsFrom ls cs n o) v) acc obs := pmp (F := fun v o => RsV K H5 (rsFrom ls cs n o) v) hacc fun _ _ z => RsV.mono T6 z
  generalize upd H5 lo (.dK (dB ls)) = H6 at hD6 e06 hr6 ⊢
  -- those that are there
  refine ⟨_, rfl, D, rfl, ⟨_, SqL.of hD6⟩, fun D2 fD2 => ?_⟩
  refine lcM [] (walk_list (xs := acc)) fD2 (fun i a2 H' => Paired (fun v r => ∃ ra, v = V.ref ra ∧ RsAt K H' ra r) a2 ((obs.take i).filterMap (rsFrom ls cs n))) .nil (fun H' e => SqL.of (ExA.at e hD6)) (fun i x H7 H8 a2 hi e r1 r2 ha2 y => ?_) (fun H7 a2 e7 r1 r2 ha2 => ?_)
  · obtain ⟨rfl, hx'⟩ := y
    obtain ⟨o, ho, hv⟩ := pget hr6 hx'
    have hv7 := RsV.mono (Tk.all e) hv
    have ht : (obs.take (i + 1)).filterMap (rsFrom ls cs n) = (obs.take i).filterMap (rsFrom ls cs n) ++ (rsFrom ls cs n o).toList := by
      rw [take_snoc ho, List.filterMap_append]
      cases er : rsFrom ls cs n o <;> simp [er]
    have zi : i ≤ 40000 := by have := plen hr6; omega
    cases er : rsFrom ls cs n o with
    | none =>
      rw [er] at hv7 ht
      have hv7 : x = .non := hv7
      subst hv7
      refine ⟨rfl, _, rfl, rfl, _, rfl, iteF (LcP.no (by simp) e r1 r2 (ExM.refl _ _) ?_)⟩
      rw [ht]; simpa using ha2
    | some r =>
      rw [er] at hv7 ht
      obtain ⟨ra, rfl, hra⟩ := hv7
      refine ⟨rfl, _, rfl, rfl, _, rfl, iteT ⟨_, rfl, LcP.yes fD2 (by simp) zi e r1 r2 (ExM.refl _ _) ?_⟩⟩
      rw [ht]
      exact psnoc ⟨ra, rfl, RsAt.mono (Tk.lst r1) hra⟩ (pmp ha2 fun _ _ z => let ⟨ra, z1, z2⟩ := z; ⟨ra, z1, RsAt.mono (Tk.lst r1) z2⟩)
  have lacc := plen hr6
  rw [lacc, List.take_length] at ha2
  obtain ⟨r, t, hrs⟩ := rs_some hx ek hls
  have hb : bst h cs n = r := bst_succ ok ek hls (by rw [hrs]; rfl)
  have e3 : obs.filterMap (rsFrom ls cs n) = r :: t := by rw [eobs]; exact hrs
  rw [e3] at ha2
  cases ha2 with
  | cons hv htl =>
    obtain ⟨ra, rfl, hra⟩ := hv
    refine ⟨D2, _, _, _, rfl, rfl, SqL.of r1, at0, q _ ra (ExM.trans e06 e7) (by rw [hb]; exact hra)⟩
end
end Wc
namespace Wc
open PySem L2
abbrev LT_derive (K : PySem.W.Frag) : List (Addr × Str) := [((He.cT K ("derive", none)).2, ("derive" : Str) ++ ".<locals>." ++ "<lambda>")]
/-! ### data, under a memory that has grown -/
theorem Tk.ext {K : PySem.W.Frag} {H H' : Hp} (h : LamX.ExtN H H') : Tk K H H' := ⟨fun a xs e => by
  rcases e with (e | ⟨v, e⟩) | e
  · exact .inl (.inl (h _ _ e (fun _ z => nomatch z)))
  · exact .inl (.inr ⟨v, h _ _ e (fun _ z => nomatch z)⟩)
  · exact .inr e, fun a v xs e => h _ _ e (fun _ z => nomatch z)⟩
mutual
theorem Is.mono {K : PySem.W.Frag} {H H' : Hp} (t : Tk K H H') : ∀ (d : Dt) (v : V), Is K H d v → Is K H' d v
  | .non, v, h => h
  | .bl b, v, h => h
  | .int i, v, h => h
  | .str s, v, h => h
  | .tup ds, v, h => let ⟨a, xs, e, h1, h2⟩ := h; ⟨a, xs, e, t.sq _ _ h1, IsL.mono t ds xs h2⟩
theorem IsL.mono {K : PySem.W.Frag} {H H' : Hp} (t : Tk K H H') : ∀ (ds : List Dt) (xs : List V), IsL K H ds xs → IsL K H' ds xs
  | [], xs, h => h
  | d :: ds, xs, h => let ⟨x, r, e, h1, h2⟩ := h; ⟨x, r, e, Is.mono t d x h1, IsL.mono t ds r h2⟩
end
theorem IsL.of {α : Type} {K : PySem.W.Frag} {H : Hp} {f : α → Dt} : ∀ {xs : List V} {ms : List α}, Paired (fun v m => Is K H (f m) v) xs ms → IsL K H (ms.map f) xs
  | _, _, .nil => rfl
  | _, _, .cons r t => ⟨_, _, rfl, r, IsL.of t⟩
/-! ### keys of a dict that is written -/
theorem putK_keys {kvs : List (Key × V)} {ks : List Int} (h : kvs.map (·.1) = ks.map Sum.inl) (n : Int) (v : V) : (putK kvs (Sum.inl n) v).map (·.1) = (addK ks n).map Sum.inl := by
  have q := key_has h n
  unfold addK
  by_cases m : n ∈ ks
  · rw [if_pos m, ← h]
    rw [decide_eq_true m] at q
    unfold putK
    rw [valV_any, q, if_pos rfl, List.map_map]
    refine List.map_congr_left fun k _ => ?_
    show (if k.1 = Sum.inl n then (k.1, v) else k).1 = k.1
    split <;> rfl
  · rw [if_neg m]
    rw [decide_eq_false m] at q
    rw [putK_new _ (by cases e : valV kvs (Sum.inl n) with | none => rfl | some v => rw [e] at q; cases q), List.map_append, h, List.map_append]
    rfl
/-! ### who waits, who has a reason -/
structure Wk (h : Hd) (cs : List Int) (n : Int) (ws ks : List Int) : Prop where
  wN : ∀ m ∈ ws, Need h cs n m
  kN : ∀ m ∈ ks, Need h cs n m
  nd : ks.Nodup
  me : n ∈ ks ∨ n ∈ ws
  nx : ∀ m ∈ ks, ∀ k ∈ (bst h cs m).names, k ∈ ks ∨ k ∈ ws
  hi : ∀ j m, ws[j]? = some m → j + 1 + rnk h cs m ≤ h.obs.length + 1
noncomputable def msr (h : Hd) (cs : List Int) (ws : List Int) : Nat := (ws.map fun m => 3 ^ rnk h cs m).sum
theorem msr_lt {h : Hd} {cs : List Int} {r : Nat} : ∀ {l : List Int}, l.length ≤ 2 → (∀ m ∈ l, rnk h cs m < r) → msr h cs l < 3 ^ r
  | [], _, _ => Nat.pow_pos (by decide)
  | [a], _, h2 => by
    have := Nat.pow_lt_pow_right (a := 3) (by decide) (h2 a (by simp))
    simpa [msr] using this
  | [a, b], _, h2 => by
    have ha := h2 a (by simp)
    have hb := h2 b (by simp)
    obtain ⟨s, rfl⟩ : ∃ s, r = s + 1 := ⟨r - 1, by omega⟩
    have h3 := Nat.pow_le_pow_right (n := 3) (by decide) (show rnk h cs a ≤ s by omega)
    have h4 := Nat.pow_le_pow_right (n := 3) (by decide) (show rnk h cs b ≤ s by omega)
    have h5 : 0 < 3 ^ s := Nat.pow_pos (by decide)
    have e : msr h cs [a, b] = 3 ^ rnk h cs a + 3 ^ rnk h cs b := by simp [msr]
    rw [e, Nat.pow_succ]
    omega
  | _ :: _ :: _ :: _, h1, _ => by simp at h1
section
variable {h : Hd} {cs : List Int} {n x : Int} {ws ks : List Int}
theorem msr_app (ws vs : List Int) : msr h cs (ws ++ vs) = msr h cs ws + msr h cs vs := by unfold msr; rw [List.map_append, List.sum_append]
/-- what is put behind the others for x -/
noncomputable def nxt (h : Hd) (cs : List Int) (ks : List Int) (x : Int) : List Int := (bst h cs x).names.filter fun k => decide (k ∉ addK ks x)
theorem nxt_len : (nxt h cs ks x).length ≤ 2 := Nat.le_trans (List.length_filter_le _ _) (Rs.names_len _)
theorem Wk.step (ok : h.Ok) (hn : Obt h cs n) (q : Wk h cs n (ws ++ [x]) ks) : Wk h cs n (ws ++ nxt h cs ks x) (addK ks x) := by
  have hx : Need h cs n x := q.wN x (by simp)
  have ox := Need.obt ok hn hx
  refine ⟨fun m hm => ?_, fun m hm => ?_, addK_nd q.nd, ?_, fun m hm k hk => ?_, fun j m hj => ?_⟩
  · rcases List.mem_append.mp hm with z | z
    · exact q.wN m (List.mem_append_left _ z)
    · exact .step hx (List.mem_filter.mp z).1
  · rcases mem_addK.mp hm with z | rfl
    · exact q.kN m z
    · exact hx
  · rcases q.me with z | z
    · exact .inl (mem_addK.mpr (.inl z))
    · rcases List.mem_append.mp z with z | z
      · exact .inr (List.mem_append_left _ z)
      · have z : n = x := by simpa using z
        exact .inl (mem_addK.mpr (.inr z))
  · have key : m ≠ x → k ∈ ks ∨ k ∈ ws ++ [x] := fun ne => by
      rcases mem_addK.mp hm with z | z
      · exact q.nx m z k hk
      · exact absurd z ne
    by_cases e : m = x
    · subst e
      by_cases c : k ∈ addK ks m
      · exact .inl c
      · exact .inr (List.mem_append_right _ (List.mem_filter.mpr ⟨hk, decide_eq_true c⟩))
    · rcases key e with z | z
      · exact .inl (mem_addK.mpr (.inl z))
      · rcases List.mem_append.mp z with z | z
        · exact .inr (List.mem_append_left _ z)
        · have z : k = x := by simpa using z
          exact .inl (mem_addK.mpr (.inr z))
  · by_cases c : j < ws.length
    · rw [List.getElem?_append_left c] at hj
      exact q.hi j m (by rw [List.getElem?_append_left c]; exact hj)
    · rw [List.getElem?_append_right (by omega)] at hj
      have h1 := q.hi ws.length x (by rw [List.getElem?_append_right (Nat.le_refl _), Nat.sub_self]; rfl)
      have h2 : m ∈ nxt h cs ks x := List.mem_of_getElem? hj
      have h3 := (bst_names ok ox m (List.mem_filter.mp h2).1).2
      have h4 := (List.getElem?_eq_some_iff.mp hj).1
      have h5 : (nxt h cs ks x).length ≤ 2 := nxt_len
      omega
theorem Wk.less (ok : h.Ok) (hn : Obt h cs n) (q : Wk h cs n (ws ++ [x]) ks) : msr h cs (ws ++ nxt h cs ks x) < msr h cs (ws ++ [x]) := by
  rw [msr_app, msr_app]
  have e : msr h cs [x] = 3 ^ rnk h cs x := by simp [msr]
  rw [e]
  have ox := Need.obt ok hn (q.wN x (by simp))
  have := msr_lt (h := h) (cs := cs) (r := rnk h cs x) (l := nxt h cs ks x) nxt_len fun m hm => (bst_names ok ox m (List.mem_filter.mp hm).1).2
  omega
theorem Wk.len (q : Wk h cs n ws ks) : ws.length ≤ h.obs.length + 1 := by
  cases e : ws.length with
  | zero => omega
  | succ k =>
    have hk : k < ws.length := by omega
    have := q.hi k ws[k] (List.getElem?_eq_getElem hk)
    omega
theorem Wk.size (ok : h.Ok) (hn : Obt h cs n) (q : Wk h cs n ws ks) : ks.length ≤ h.obs.length := by
  have := nd_sub q.nd fun m hm => Obt.num ok (Need.obt ok hn (q.kN m hm))
  unfold Hd.nums at this
  rwa [List.length_map] at this
theorem Wk.done (q : Wk h cs n [] ks) (m : Int) : m ∈ ks ↔ Need h cs n m := by
  refine ⟨q.kN m, fun z => ?_⟩
  induction z with
  | base => exact q.me.elim id fun z => nomatch z
  | step _ hk ih => exact (q.nx _ ih _ hk).elim id fun z => nomatch z
theorem Wk.first (ok : h.Ok) (hn : Obt h cs n) : Wk h cs n [n] [] := by
  refine ⟨fun m hm => ?_, fun m hm => (nomatch hm), List.nodup_nil, .inr (by simp), fun m hm => (nomatch hm), fun j m hj => ?_⟩
  · have e : m = n := by simpa using hm
    subst e; exact .base
  · cases j with
    | zero =>
      have e : n = m := by simpa using hj
      subst e
      have := rank_lt ok hn
      omega
    | succ j => simp at hj
/-- sorted by rank and number: the steps -/
theorem Wk.drv (q : Wk h cs n [] ks) : Drv h cs n (ks.mergeSort (rkLe fun m => ((rnk h cs m : Nat) : Int))) := by
  have p := List.mergeSort_perm ks (rkLe fun m => ((rnk h cs m : Nat) : Int))
  refine ⟨rk_of ?_ ((p.nodup_iff).mpr q.nd), fun m => (p.mem_iff).trans (q.done m)⟩
  have s := List.pairwise_mergeSort (le := rkLe fun m => ((rnk h cs m : Nat) : Int)) (fun a b c h1 h2 => ?_) (fun a b => ?_) ks
  · refine s.imp fun {a b} z => ?_
    have z := of_decide_eq_true z
    dsimp only at z
    omega
  · have z1 := of_decide_eq_true h1
    have z2 := of_decide_eq_true h2
    refine decide_eq_true ?_
    dsimp only at z1 z2 ⊢
    omega
  · show (decide _ || decide _) = true
    rw [Bool.or_eq_true, decide_eq_true_iff, decide_eq_true_iff]
    dsimp only
    omega
end
end Wc
namespace Wc
open PySem L2
section
variable (K : PySem.W.Frag)
def R_derive : V3 := fun x y z H Q => ∃ (a : Addr) (h : Hd) (c : Addr) (cs : List Int) (n : Int), x = .ref a ∧ y = .ref c ∧ z = .int n ∧ HeapAt K H a h ∧ h.Ok ∧ SqT K H c (cs.map V.int) ∧ cs.length ≤ 1000 ∧ LamX.Tabs (LT_derive K) H ∧
  (¬ Obt h cs n → ∀ H', ExA H H' → Q .non H') ∧ (Obt h cs n → ∀ L v H', Drv h cs n L → LamX.ExtN H H' → LamX.Tabs (LT_derive K) H' → Is K H' (drvDt h cs L) v → Q v H')
abbrev sp_derive : Sp := sp3 (R_derive K)
end
/-- what stands in memory while derive's loop runs -/
structure Dv (K : PySem.W.Frag) (H0 H : Hp) (h : Hd) (cs : List Int) (G : List (Int × Int)) (os : List Addr) (th d rs wt : Addr) (ws ks : List Int) (kvs : List (Key × V)) : Prop where
  ex : ExA H0 H
  fr : H0 rs = none
  fw : H0 wt = none
  aT : H th = some (.dK (dictOf os h.obs))
  aO : Paired (ObAt K H) os h.obs
  aD : H d = some (.dK (dI G))
  aW : H wt = some (.lst (ws.map V.int))
  aR : H rs = some (.dK kvs)
  keys : kvs.map (·.1) = ks.map Sum.inl
  val : ∀ m ∈ ks, ∃ ra, valV kvs (Sum.inl m) = some (.ref ra) ∧ RsAt K H ra (bst h cs m)
  n1 : th ≠ rs
  n2 : th ≠ wt
  n3 : d ≠ rs
  n4 : d ≠ wt
  n5 : rs ≠ wt
section
variable {K : PySem.W.Frag} {H0 H H' : Hp} {h : Hd} {cs : List Int} {G : List (Int × Int)} {os : List Addr} {th d rs wt : Addr} {ws ks : List Int} {kvs : List (Key × V)}
theorem Dv.keep (r : Dv K H0 H h cs G os th d rs wt ws ks kvs) (e : ExA H H') : Dv K H0 H' h cs G os th d rs wt ws ks kvs :=
  ⟨r.ex.trans e, r.fr, r.fw, ExA.at e r.aT, pmp r.aO fun _ _ z => ObAt.mono (Tk.all e) z, ExA.at e r.aD, ExA.at e r.aW, ExA.at e r.aR, r.keys, fun m hm => let ⟨ra, z1, z2⟩ := r.val m hm; ⟨ra, z1, RsAt.mono (Tk.all e) z2⟩, r.n1, r.n2, r.n3, r.n4, r.n5⟩
theorem Dv.setW (r : Dv K H0 H h cs G os th d rs wt ws ks kvs) (vs : List Int) : Dv K H0 (upd H wt (.lst (vs.map V.int))) h cs G os th d rs wt vs ks kvs :=
  have t : Tk K H (upd H wt (.lst (vs.map V.int))) := Tk.lst r.aW
  ⟨r.ex.put r.fw, r.fr, r.fw, by rw [upd_ne r.n2]; exact r.aT, pmp r.aO fun _ _ z => ObAt.mono t z, by rw [upd_ne r.n4]; exact r.aD, upd_same, by rw [upd_ne r.n5]; exact r.aR, r.keys, fun m hm => let ⟨ra, z1, z2⟩ := r.val m hm; ⟨ra, z1, RsAt.mono t z2⟩, r.n1, r.n2, r.n3, r.n4, r.n5⟩
theorem Dv.setR (r : Dv K H0 H h cs G os th d rs wt ws ks kvs) {x : Int} {ra : Addr} (hx : RsAt K H ra (bst h cs x)) : Dv K H0 (upd H rs (.dK (putK kvs (Sum.inl x) (.ref ra)))) h cs G os th d rs wt ws (addK ks x) (putK kvs (Sum.inl x) (.ref ra)) := by
  have t : Tk K H (upd H rs (.dK (putK kvs (Sum.inl x) (.ref ra)))) := Tk.dic r.aR
  refine ⟨r.ex.put r.fr, r.fr, r.fw, by rw [upd_ne r.n1]; exact r.aT, pmp r.aO fun _ _ z => ObAt.mono t z, by rw [upd_ne r.n3]; exact r.aD, by rw [upd_ne r.n5.symm]; exact r.aW, upd_same, putK_keys r.keys _ _, fun m hm => ?_, r.n1, r.n2, r.n3, r.n4, r.n5⟩
  rw [valV_put]
  by_cases e : m = x
  · subst e
    exact ⟨ra, if_pos rfl, RsAt.mono t hx⟩
  · have e' : ¬ (Sum.inl m : Key) = Sum.inl x := fun z => e (Sum.inl.inj z)
    rw [if_neg e']
    obtain ⟨rb, z1, z2⟩ := r.val m ((mem_addK.mp hm).resolve_right e)
    exact ⟨rb, z1, RsAt.mono t z2⟩
end
section
variable {P : Program} {w : World} {K : PySem.W.Frag} {mg : Str → Option Value} {base : PySem.Heap}
theorem ok_derive {f : Addr} {fd : FuncData} {cd : Value} (F : Df K "derive" s_derive f fd cd) (T : Txt mg) (L : LamAt K base mg "derive" cd) (C_by_number : Cal P w K mg base 2 "by_number" (sp_by_number K) []) (C_rounds : Cal P w K mg base 3 "rounds" (sp_rounds K) []) (C_named : Cal P w K mg base 1 "named" (sp_named K) []) (C_best_reason : Cal P w K mg base 2 "best_reason" (sp_best_reason K) []) : FnOk P w K mg base CX0 5 f fd ["heap", "condemned", "number"] (sp_derive K) := by
  have nd := sc_derive.nd
  refine F.ok sc_derive (fun vs H Q E h => ?_) (fun A outer s H vs Q E hr h => ?_)
  · obtain ⟨_, _, _, rfl, _⟩ := h; rfl
  have hu := hu_of hr
  obtain ⟨x0, x1, x2, rfl, h⟩ := h
  refine ⟨_, (pss_cons (ps_set (i := 3) nd rfl (by first | exact Or.inl rfl | exact Or.inr rfl) (pe_c C_rounds hr (by first | exact Nat.le_refl _ | decide) rfl (pa_cons (pv 0) (pa_cons (pv 1) pa_nil))))
    (pss_cons (ps_if (pt_cmp (pc_dnotin hu (pv 2) (pv 3)) rfl) (pss_one (ps_ret pe_non)) pss_nil)
    (pss_cons (ps_set (i := 4) nd rfl (by first | exact Or.inl rfl | exact Or.inr rfl) (pe_c C_by_number hr (by first | exact Nat.le_refl _ | decide) rfl (pa_cons (pv 0) pa_nil)))
    (pss_cons (ps_set (i := 5) nd rfl (by first | exact Or.inl rfl | exact Or.inr rfl) pe_dnewK)
    (pss_cons (ps_set (i := 6) nd rfl (by first | exact Or.inl rfl | exact Or.inr rfl) (pe_lst (pa_cons (pv 2) pa_nil)))
    (pss_cons (ps_while PassesOwn.never (pt_truth (pv 6) (by intro _; rfl)) (pss_cons (ps_set (i := 7) nd rfl (by first | exact Or.inl rfl | exact Or.inr rfl) (pe_bm0 PySem.F.plainAttrs_list PySem.F.slot_list_pop PySem.F.type_list_pop mt_pop (pv 6)))
    (pss_cons (ps_dput hu (pv 5) (pv 7) (pe_c C_best_reason hr (by first | exact Nat.le_refl _ | decide) rfl (pa_cons (pv 0) (pa_cons (pv 4) (pa_cons (pv 3) (pa_cons (pv 1) (pa_cons (pv 7) pa_nil)))))) rfl)
    (pss_one (ps_expr (pe_bm PySem.F.plainAttrs_list PySem.F.slot_list_extend PySem.F.type_list_extend mt_extend (pv 6) (pa_cons (pe_lc (own := [("other", 8)]) rfl nd (show PI _ _ _ (iTup K _) from pi_tup (pe_c C_named hr (by first | exact Nat.le_refl _ | decide) rfl (pa_cons (pe_dget hu (pv 5) (pv 7) (fun _ _ => rfl)) pa_nil))) (blkOk_by (own := [("other", 8)]) (N := N_derive) (sc := defScope s_derive) (by decide +kernel)) (fun _ _ _ _ _ => (pg_name (i := 8) nd rfl (by first | exact Or.inl rfl | exact Or.inr rfl))) (fun _ _ _ _ _ => (pts_one (pt_cmp (pc_dnotin hu (pv 8) (pv 5)) rfl))) (fun _ _ _ _ _ => (pv 8))) pa_nil)))))))
    (pss_cons (ps_set (i := 9) nd rfl (by first | exact Or.inl rfl | exact Or.inr rfl) (pe_sortLam (T := LT_derive K) (jd := 3) rfl (hr.mono (by decide)) L.tb L.code (List.mem_singleton.mpr rfl) (fun p hp _ => by have e := List.mem_singleton.mp hp; subst e; rfl) rfl rfl rfl rfl (by decide +kernel) (by decide +kernel) (by decide +kernel) (show ∀ y ∈ [(("step" : Str), NameKind.local), ("depths", NameKind.free)], y.2 = NameKind.free → (defScope s_derive).names.lookup y.1 = some NameKind.cell from by decide +kernel) rfl rfl rfl rfl (fun _ _ _ _ _ => rfl) rfl T.sorted (pv 5)))
    (pss_one (ps_ret (pe_callTy (r := rTupS K) call_tuple_of rfl T.tuple (by decide +kernel) (pa_cons (pe_lc (own := [("step", 10)]) rfl nd (show PI _ _ _ (iList K _) from pi_list (pv 9)) (blkOk_by (own := [("step", 10)]) (N := N_derive) (sc := defScope s_derive) (by decide +kernel)) (fun _ _ _ _ _ => (pg_name (i := 10) nd rfl (by first | exact Or.inl rfl | exact Or.inr rfl))) (fun _ _ _ _ _ => pts_nil) (fun _ _ _ _ _ => (pe_tup (pa_cons (pv 10) (pa_cons (pe_dget hu (pv 5) (pv 10) (fun _ _ => rfl)) pa_nil))))) pa_nil))))))))))), ?_⟩
  obtain ⟨a, h, c, cs, n, rfl, rfl, rfl, hA, ok, hC, hz, hT, q0, q1⟩ := h
  refine ⟨_, rfl, _, rfl, _, _, rfl, a, h, c, cs, rfl, rfl, hA, ok, .inr hC, hz, fun d H1 G rG fd1 e1 hd => ?_⟩
  refine ⟨_, rfl, _, rfl, d, _, rfl, DGet.k (k := Sum.inl n) hd, _, rfl, ?_⟩
  rw [key_has (dI_keys G) n]
  by_cases hx : Obt h cs n
  case neg =>
    rw [decide_eq_false fun z => hx ((rG.all n).mp z)]
    exact iteT (q0 hx _ e1)
  rw [decide_eq_true ((rG.all n).mpr hx)]
  refine iteF ?_
  have q := q1 hx
  refine ⟨_, rfl, _, rfl, a, h, rfl, HeapAt.mono (Tk.all e1) hA, ok, fun th H2 os f2 e2 hos hth => ?_⟩
  intro rs frs
  refine ⟨_, rfl, sz (by show 1 ≤ 100000; decide), fun wt fwt => ?_⟩
  have e02 : ExA H H2 := ExM.trans e1 e2
  have hd2 := ExA.at e2 hd
  have nrw : rs ≠ wt := ne_of_none (upd_same (H := H2)) fwt
  have fwt2 : H2 wt = none := by
    rw [upd_ne nrw.symm] at fwt
    exact fwt
  have R0 : Dv K H (upd (upd H2 rs (.dK [])) wt (.lst [V.int n])) h cs G os th d rs wt [n] [] [] := by
    have t : Tk K H2 (upd (upd H2 rs (.dK [])) wt (.lst [V.int n])) := Tk.trans (Tk.new frs) (Tk.new fwt)
    have n1 : th ≠ rs := ne_of_none hth frs
    have n2 : th ≠ wt := ne_of_none hth fwt2
    have n3 : d ≠ rs := ne_of_none hd2 frs
    have n4 : d ≠ wt := ne_of_none hd2 fwt2
    refine ⟨(e02.put (ExA.free e02 frs)).put (ExA.free e02 fwt2), ExA.free e02 frs, ExA.free e02 fwt2, ?_, pmp hos fun _ _ z => ObAt.mono t z, ?_, upd_same, ?_, rfl, fun m hm => (nomatch hm), n1, n2, n3, n4, nrw⟩
    · rw [upd_ne n2, upd_ne n1]; exact hth
    · rw [upd_ne n4, upd_ne n3]; exact hd2
    · rw [upd_ne nrw, upd_same]
  generalize upd (upd H2 rs (.dK [])) wt (.lst [V.int n]) = H3 at R0 ⊢
  refine ⟨fun m σ' H' => ∃ (ws ks : List Int) (kvs : List (Key × V)) (u7 : Option V), m = msr h cs ws ∧ σ' = [some (.ref a), some (.ref c), some (.int n), some (.ref d), some (.ref th), some (.ref rs), some (.ref wt), u7, none, none, none] ∧ Wk h cs n ws ks ∧ Dv K H H' h cs G os th d rs wt ws ks kvs,
    ⟨_, [n], [], [], none, rfl, rfl, Wk.first ok hx, R0⟩, ?_⟩
  rintro m σ' H' ⟨ws, ks, kvs, u7, rfl, rfl, wk, R⟩
  refine ⟨_, rfl, !(ws.map V.int).isEmpty, .inl ⟨_, SqL.of R.aW, rfl⟩, ?_⟩
  rcases List.eq_nil_or_concat ws with rfl | ⟨ws', x, ews⟩
  · -- all have their reasons
    refine iteF ?_
    have zk : ks.length ≤ 50 := Nat.le_trans (wk.size ok hx) ok.size
    have T' : LamX.Tabs (LT_derive K) H' := hT.ext fun b o e => ExA.at R.ex e
    refine ⟨_, rfl, T', rs, d, kvs, dI G, ks, (fun m => ((rnk h cs m : Nat) : Int)), rfl, R.aR, R.keys, by omega, rfl, R.aD, fun m hm => rG.look (Need.obt ok hx ((wk.done m).mp hm)), fun H4 lo x4 T4 flo => ?_⟩
    have hdrv := wk.drv
    have pm := List.mergeSort_perm ks (rkLe fun m => ((rnk h cs m : Nat) : Int))
    generalize ks.mergeSort (rkLe fun m => ((rnk h cs m : Nat) : Int)) = L at hdrv pm ⊢
    have x5 : LamX.ExtN H (upd H4 lo (.lst (L.map V.int))) := ((LamX.ExtN.of fun b o e => ExA.at R.ex e).trans x4).trans (LamX.ExtN.of fun b o e => ExA.at (ExM.new flo) e)
    have aR5 : (upd H4 lo (.lst (L.map V.int))) rs = some (.dK kvs) := ExA.at (ExM.new flo) (x4 _ _ R.aR fun _ z => nomatch z)
    have T5 : LamX.Tabs (LT_derive K) (upd H4 lo (.lst (L.map V.int))) := T4.ext fun b o e => ExA.at (ExM.new flo) e
    have v5 : ∀ m ∈ ks, ∃ ra, valV kvs (Sum.inl m) = some (.ref ra) ∧ RsAt K (upd H4 lo (.lst (L.map V.int))) ra (bst h cs m) := fun m hm => by
      obtain ⟨ra, z1, z2⟩ := R.val m hm
      exact ⟨ra, z1, RsAt.mono (Tk.trans (Tk.ext x4) (Tk.all (ExM.new flo))) z2⟩
    have hlo5 : (upd H4 lo (.lst (L.map V.int))) lo = some (.lst (L.map V.int)) := upd_same
    generalize upd H4 lo (.lst (L.map V.int)) = H5 at x5 aR5 T5 v5 hlo5 ⊢
    have zL : L.length ≤ 50 := by rw [pm.length_eq]; exact zk
    refine ⟨_, rfl, lo, rfl, ⟨_, SqL.of hlo5⟩, fun D hD => ?_⟩
    refine lcM [] (walk_list (xs := L.map V.int)) hD (fun i acc H' => Paired (fun v m => Is K H' (.tup [.int m, (bst h cs m).dt]) v) acc (L.take i)) .nil (fun H' e => SqL.of (ExA.at e hlo5)) (fun i x H6 H7 acc hi e k1 k2 hacc y => ?_) (fun H6 acc e6 k1 k2 hacc => ?_)
    · obtain ⟨rfl, hx'⟩ := y
      rw [List.length_map] at hi
      obtain ⟨m, hm⟩ : ∃ m, L[i]? = some m := ⟨_, List.getElem?_eq_getElem hi⟩
      rw [List.getElem?_map, hm] at hx'
      obtain rfl : V.int m = x := Option.some.inj hx'
      have mk : m ∈ ks := (pm.mem_iff).mp (List.mem_of_getElem? hm)
      obtain ⟨ra, z1, z2⟩ := v5 m mk
      have z3 := RsAt.mono (Tk.all e) z2
      refine ⟨rfl, tyes ⟨_, rfl, _, rfl, _, rfl, rs, _, rfl, DGet.k (k := Sum.inl m) (ExA.at e aR5) |> fun z => by rw [z1] at z; exact z, sz (by show 2 ≤ 100000; decide), fun t ft => ?_⟩⟩
      refine LcP.yes hD (by simp) (by omega) e k1 k2 (ExM.new ft) ?_
      have nDt : D ≠ t := ne_of_none k1 ft
      have hDt : (upd H7 t (.tup [V.int m, V.ref ra])) D = some (.lst acc) := by rw [upd_ne nDt]; exact k1
      have tt : Tk K H7 (upd (upd H7 t (.tup [V.int m, V.ref ra])) D (.lst (acc ++ [V.ref t]))) := Tk.trans (Tk.new ft) (Tk.lst hDt)
      rw [take_snoc hm]
      refine psnoc (F := fun v m => Is K _ (.tup [.int m, (bst h cs m).dt]) v) ?_ (pmp (F := fun v m => Is K H7 (.tup [.int m, (bst h cs m).dt]) v) hacc fun _ _ z => Is.mono tt _ _ z)
      refine ⟨t, _, rfl, SqT.of (by rw [upd_ne nDt.symm]; exact upd_same), _, _, rfl, rfl, _, _, rfl, RsAt.is (RsAt.mono tt z3), rfl⟩
    rw [List.length_map, List.take_length] at hacc
    refine ⟨D, _, rfl, .inl ⟨SqL.of k1, fun t ft => ?_⟩⟩
    have x7 : ExA H5 (upd H6 t (.tup acc)) := ExM.trans e6 (ExM.new ft)
    refine q L _ _ hdrv (x5.trans (LamX.ExtN.of fun b o e => ExA.at x7 e)) (T5.ext fun b o e => ExA.at x7 e) ⟨t, acc, rfl, SqT.of upd_same, IsL.of (pmp (F := fun v m => Is K H6 (.tup [.int m, (bst h cs m).dt]) v) hacc fun _ _ z => Is.mono (Tk.new ft) _ _ z)⟩
  -- one that waits
  rw [List.concat_eq_append] at ews
  subst ews
  have hne : (!((ws' ++ [x]).map V.int).isEmpty) = true := by simp
  rw [hne]
  have ox := Need.obt ok hx (wk.wN x (by simp))
  have wk' := wk.step ok hx
  have ls := wk.less ok hx
  have zk : ks.length ≤ 50 := Nat.le_trans (wk.size ok hx) ok.size
  have zk' : (addK ks x).length ≤ 50 := Nat.le_trans (wk'.size ok hx) ok.size
  have zw' := wk'.len
  have zob := ok.size
  refine iteT ⟨fun σ2 H2 => ∃ (kvs' : List (Key × V)) (u7 : Option V), σ2 = [some (.ref a), some (.ref c), some (.int n), some (.ref d), some (.ref th), some (.ref rs), some (.ref wt), u7, none, none, none] ∧ Dv K H H2 h cs G os th d rs wt (ws' ++ nxt h cs ks x) (addK ks x) kvs', ?_, ?_⟩
  · rintro σ2 H2 ⟨kvs', u7, rfl, R'⟩
    exact ⟨_, ls, _, _, kvs', u7, rfl, rfl, wk', R'⟩
  refine ⟨_, rfl, .inl ⟨rfl, _, SqL.of R.aW⟩, wt, _, V.int x, rfl, rfl, R.aW, by simp, ?_⟩
  have ed : ((ws' ++ [x]).map V.int).dropLast = ws'.map V.int := by simp
  rw [ed]
  have R1 := R.setW ws'
  generalize upd H' wt (.lst (ws'.map V.int)) = H4 at R1 ⊢
  refine ⟨_, rfl, _, rfl, _, rfl, _, rfl, _, rfl, _, _, _, _, _, rfl, a, h, th, os, d, G, c, cs, x, rfl, rfl, rfl, rfl, rfl, HeapAt.mono (Tk.all R1.ex) hA, ok, R1.aT, R1.aO, R1.aD, rG, Tk.all R1.ex _ _ hC, ox, fun H5 ra e5 hra => ?_⟩
  have R2 := R1.keep e5
  have zkv : kvs.length < sizeLine := szl (by
    have z := congrArg List.length R.keys
    rw [List.length_map, List.length_map] at z
    omega)
  refine ⟨_, rfl, _, rfl, rs, _, rfl, DPut.k (k := Sum.inl x) R2.aR zkv, ?_⟩
  have R3 := R2.setR (x := x) hra
  have hra3 : RsAt K (upd H5 rs (.dK (putK kvs (Sum.inl x) (.ref ra)))) ra (bst h cs x) := RsAt.mono (Tk.dic R2.aR) hra
  generalize upd H5 rs (.dK (putK kvs (Sum.inl x) (.ref ra))) = H6 at R3 hra3 ⊢
  have hget : valV (putK kvs (Sum.inl x) (.ref ra)) (Sum.inl x) = some (.ref ra) := by rw [valV_put, if_pos rfl]
  refine ⟨_, rfl, .inl ⟨rfl, _, SqL.of R3.aW⟩, ?_⟩
  refine ⟨_, rfl, _, rfl, rs, _, rfl, DGet.k (k := Sum.inl x) R3.aR |> fun z => by rw [hget] at z; exact z, ?_⟩
  refine ⟨_, rfl, ra, rfl, .inl ⟨bst h cs x, hra3, fun t H7 ft e7 ht => ?_⟩⟩
  have R4 := R3.keep e7
  refine ⟨t, rfl, ⟨_, SqT.of ht⟩, fun D hD => ?_⟩
  have znm := Rs.names_len (bst h cs x)
  refine lcM [] (walk_tup (xs := (bst h cs x).names.map V.int)) hD (fun i acc _ => acc = (((bst h cs x).names.take i).filter fun k => decide (k ∉ addK ks x)).map V.int) rfl (fun H' e => Tk.all e _ _ (SqT.of ht)) (fun i y H8 H9 acc hi e k1 k2 hacc yy => ?_) (fun H8 acc e8 k1 k2 hacc => ?_)
  · obtain ⟨rfl, hx'⟩ := yy
    rw [List.length_map] at hi
    obtain ⟨m, hm⟩ : ∃ m, (bst h cs x).names[i]? = some m := ⟨_, List.getElem?_eq_getElem hi⟩
    rw [List.getElem?_map, hm] at hx'
    obtain rfl : V.int m = y := Option.some.inj hx'
    refine ⟨rfl, _, rfl, _, rfl, rs, _, rfl, DGet.k (k := Sum.inl m) (ExA.at e R4.aR), _, rfl, ?_⟩
    rw [key_has R4.keys m]
    have htk := take_snoc hm
    by_cases c1 : m ∈ addK ks x
    · rw [decide_eq_true c1]
      refine iteF (LcP.no (by simp) e k1 k2 (ExM.refl _ _) ?_)
      rw [hacc, htk, List.filter_append]
      simp [c1]
    · rw [decide_eq_false c1]
      refine iteT ⟨_, rfl, LcP.yes hD (by simp) (by omega) e k1 k2 (ExM.refl _ _) ?_⟩
      rw [hacc, htk, List.filter_append, List.map_append]
      simp [c1]
  rw [List.length_map, List.take_length] at hacc
  have R5 := R4.keep e8
  refine ⟨wt, D, _, _, rfl, rfl, R5.aW, k1, ?_, ?_⟩
  · rw [hacc, List.length_map, List.length_map]
    have z : ((bst h cs x).names.filter fun k => decide (k ∉ addK ks x)).length ≤ 2 := nxt_len
    rw [List.length_append] at zw'
    exact sz (by omega)
  · have R6 := R5.setW (ws' ++ nxt h cs ks x)
    rw [hacc]
    rw [List.map_append] at R6
    exact ⟨_, _, rfl, R6⟩
end
end Wc
namespace Wc
open PySem L2
theorem ps_never {X : Cx} {st : Stmt} : PS X st (fun _ _ _ => False) := ⟨fun _ _ _ _ _ _ h => h.elim⟩
/-! ### a heap whose registers may be any tuple -/
def HpAt (K : PySem.W.Frag) (H : Hp) (a : Addr) (h : Hd) : Prop := ∃ r k o w ws, SqT K H a [.str "heap", .int h.nx, .ref r, .ref k, .ref o, .ref w] ∧ SqT K H r (h.regs.map rV) ∧ SqT K H k (h.kept.map .int) ∧
  ObsAt K H o h ∧ SqT K H w (ws.map .ref) ∧ Paired (PairAt K H) ws h.wat
theorem HeapAt.hp {K : PySem.W.Frag} {H : Hp} {a : Addr} {h : Hd} (x : HeapAt K H a h) : HpAt K H a h := by
  obtain ⟨r, k, o, w, ws, h1, h2, h3, h4, h5, h6⟩ := x
  exact ⟨r, k, o, w, ws, h1, h2.sq, h3, h4, h5, h6⟩
theorem HpAt.mono {K : PySem.W.Frag} {H H' : Hp} {a : Addr} {h : Hd} (t : Tk K H H') (x : HpAt K H a h) : HpAt K H' a h := by
  obtain ⟨r, k, o, w, ws, h1, h2, h3, h4, h5, h6⟩ := x
  exact ⟨r, k, o, w, ws, t _ _ h1, t _ _ h2, t _ _ h3, h4.mono t, t _ _ h5, pmp h6 fun _ _ z => PairAt.mono t z⟩
/-! ### steps, commands -/
def StAt (K : PySem.W.Frag) (H : Hp) (s : Addr) (p : Int × Rs) : Prop := ∃ ra, SqT K H s [.int p.1, .ref ra] ∧ RsAt K H ra p.2
theorem StAt.mono {K : PySem.W.Frag} {H H' : Hp} {s : Addr} {p : Int × Rs} (t : Tk K H H') (x : StAt K H s p) : StAt K H' s p := let ⟨ra, h1, h2⟩ := x; ⟨ra, t _ _ h1, RsAt.mono t h2⟩
def StepsAt (K : PySem.W.Frag) (H : Hp) (a : Addr) (S : List (Int × Rs)) : Prop := ∃ ss, SqT K H a (ss.map V.ref) ∧ Paired (StAt K H) ss S
theorem StepsAt.mono {K : PySem.W.Frag} {H H' : Hp} {a : Addr} {S : List (Int × Rs)} (t : Tk K H H') (x : StepsAt K H a S) : StepsAt K H' a S := let ⟨ss, h1, h2⟩ := x; ⟨ss, t _ _ h1, pmp h2 fun _ _ z => StAt.mono t z⟩
/-- the command that loads by this reason; pl: the registers of the objects that it names -/
def cmRow (to : Int) (pl : Int → Int) : Rs → List V
  | .reg k => [.str "copy", .int to, .int (k : Nat)]
  | .fld n k => [.str "read", .int to, .int (pl n), .int (k : Nat)]
  | .ent n q => [.str "lookup", .int to, .int (pl n), .int (pl q)]
  | .drf n => [.str "deref", .int to, .int (pl n)]
def cmDt (to : Int) (pl : Int → Int) : Rs → Dt
  | .reg k => .tup [.str "copy", .int to, .int (k : Nat)]
  | .fld n k => .tup [.str "read", .int to, .int (pl n), .int (k : Nat)]
  | .ent n q => .tup [.str "lookup", .int to, .int (pl n), .int (pl q)]
  | .drf n => .tup [.str "deref", .int to, .int (pl n)]
theorem cm_is {K : PySem.W.Frag} {H : Hp} {a : Addr} {to : Int} {pl : Int → Int} {r : Rs} (h : SqT K H a (cmRow to pl r)) : Is K H (cmDt to pl r) (.ref a) := by
  cases r with
  | reg k => exact ⟨a, _, rfl, h, _, _, rfl, rfl, _, _, rfl, rfl, _, _, rfl, rfl, rfl⟩
  | fld n k => exact ⟨a, _, rfl, h, _, _, rfl, rfl, _, _, rfl, rfl, _, _, rfl, rfl, _, _, rfl, rfl, rfl⟩
  | ent n k => exact ⟨a, _, rfl, h, _, _, rfl, rfl, _, _, rfl, rfl, _, _, rfl, rfl, _, _, rfl, rfl, rfl⟩
  | drf n => exact ⟨a, _, rfl, h, _, _, rfl, rfl, _, _, rfl, rfl, _, _, rfl, rfl, rfl⟩
theorem cmRow_congr {to : Int} {pl pl' : Int → Int} {r : Rs} (e : ∀ n ∈ r.names, pl n = pl' n) : cmRow to pl r = cmRow to pl' r := by
  cases r with
  | reg k => rfl
  | fld n k => show [V.str "read", .int to, .int (pl n), .int (k : Nat)] = _; rw [e n (by simp [Rs.names])]; rfl
  | ent n k => show [V.str "lookup", .int to, .int (pl n), .int (pl k)] = _; rw [e n (by simp [Rs.names]), e k (by simp [Rs.names])]; rfl
  | drf n => show [V.str "deref", .int to, .int (pl n)] = _; rw [e n (by simp [Rs.names])]; rfl
/-- the register of the first step for n -/
def fp (S : List (Int × Rs)) (base n : Int) : Int := base + (((S.map (·.1)).findIdx (· == n) : Nat) : Int)
/-- each step names what an earlier one is for -/
def Earlier (S : List (Int × Rs)) : Prop := ∀ (j : Nat) (p : Int × Rs), S[j]? = some p → ∀ k ∈ p.2.names, k ∈ (S.take j).map (·.1)
/-- a dict of places -/
def PlAt (H : Hp) (d : Addr) (S : List (Int × Rs)) (base : Int) (j : Nat) : Prop := ∃ (kvs : List (Key × V)) (ks : List Int), H d = some (.dK kvs) ∧ kvs.map (·.1) = ks.map Sum.inl ∧ ks.length ≤ j ∧ (∀ n, n ∈ ks ↔ n ∈ (S.take j).map (·.1)) ∧ ∀ n ∈ ks, valV kvs (Sum.inl n) = some (.int (fp S base n))
section
variable (K : PySem.W.Frag)
def R_with_registers : V2 := fun x y H Q => ∃ (a : Addr) (h : Hd) (k : Nat), x = .ref a ∧ y = .int (k : Nat) ∧ HpAt K H a h ∧ h.regs ≠ [] ∧ h.regs.length ≤ 1000 ∧ k ≤ 1000 ∧
  ∀ H' p, ExA H H' → HpAt K H' p { h with regs := h.regs ++ List.replicate k none } → Q (.ref p) H'
abbrev sp_with_registers : Sp := sp2 (R_with_registers K)
def R_loading : V3 := fun x y z H Q => ∃ (to : Int) (ra : Addr) (r : Rs) (d : Addr) (kvs : List (Key × V)) (pl : Int → Int), x = .int to ∧ y = .ref ra ∧ z = .ref d ∧ RsAt K H ra r ∧ H d = some (.dK kvs) ∧ (∀ n ∈ r.names, valV kvs (Sum.inl n) = some (.int (pl n))) ∧
  ∀ p H', H p = none → ExA H H' → H' p = some (.tup (cmRow to pl r)) → Q (.ref p) H'
abbrev sp_loading : Sp := sp3 (R_loading K)
def R_compile_derivation : V2 := fun x y H Q => ∃ (a : Addr) (h : Hd) (st : Addr) (S : List (Int × Rs)), x = .ref a ∧ y = .ref st ∧ HeapAt K H a h ∧ h.regs.length ≤ 1000 ∧ StepsAt K H st S ∧ S.length ≤ 10000 ∧ Earlier S ∧
  ∀ (H' : Hp) (p : Addr) (cs : List Addr), ExA H H' → SqT K H' p (cs.map V.ref) → cs.length = S.length → (∀ (j : Nat) (c : Addr) (q : Int × Rs), cs[j]? = some c → S[j]? = some q → SqT K H' c (cmRow ((h.regs.length : Int) + (j : Int)) (fp S (h.regs.length : Int)) q.2)) → Q (.ref p) H'
abbrev sp_compile_derivation : Sp := sp2 (R_compile_derivation K)
end
section
variable {P : Program} {w : World} {K : PySem.W.Frag} {mg : Str → Option Value} {base : PySem.Heap}
theorem ok_loading {f : Addr} {fd : FuncData} {cd : Value} (F : Df K "loading" s_loading f fd cd) (T : Txt mg) : FnOk P w K mg base CX0 1 f fd ["place", "reason", "places"] (sp_loading K) := by
  have nd := sc_loading.nd
  refine F.ok sc_loading (fun vs H Q E h => ?_) (fun A outer s H vs Q E hr h => ?_)
  · obtain ⟨_, _, _, rfl, _⟩ := h; rfl
  have hu := hu_of hr
  obtain ⟨x0, x1, x2, rfl, h⟩ := h
  refine ⟨_, (pss_cons (ps_if (pt_cmpR op_eq (pe_ix (r := rIxT K) ix_tup (pv 1) pe_int (fun _ _ => rfl)) pe_str (nomark _)) (pss_one (ps_ret (pe_tup (pa_cons pe_str (pa_cons (pv 0) (pa_cons (pe_ix (r := rIxT K) ix_tup (pv 1) pe_int (fun _ _ => rfl)) pa_nil)))))) pss_nil)
    (pss_cons (ps_if (pt_cmpR op_eq (pe_ix (r := rIxT K) ix_tup (pv 1) pe_int (fun _ _ => rfl)) pe_str (nomark _)) (pss_one (ps_ret (pe_tup (pa_cons pe_str (pa_cons (pv 0) (pa_cons (pe_dget hu (pv 2) (pe_ix (r := rIxT K) ix_tup (pv 1) pe_int (fun _ _ => rfl)) (fun _ _ => rfl)) (pa_cons (pe_ix (r := rIxT K) ix_tup (pv 1) pe_int (fun _ _ => rfl)) pa_nil))))))) pss_nil)
    (pss_cons (ps_if (pt_cmpR op_eq (pe_ix (r := rIxT K) ix_tup (pv 1) pe_int (fun _ _ => rfl)) pe_str (nomark _)) (pss_one (ps_ret (pe_tup (pa_cons pe_str (pa_cons (pv 0) (pa_cons (pe_dget hu (pv 2) (pe_ix (r := rIxT K) ix_tup (pv 1) pe_int (fun _ _ => rfl)) (fun _ _ => rfl)) (pa_cons (pe_dget hu (pv 2) (pe_ix (r := rIxT K) ix_tup (pv 1) pe_int (fun _ _ => rfl)) (fun _ _ => rfl)) pa_nil))))))) pss_nil)
    (pss_one (ps_ret (pe_tup (pa_cons pe_str (pa_cons (pv 0) (pa_cons (pe_dget hu (pv 2) (pe_ix (r := rIxT K) ix_tup (pv 1) pe_int (fun _ _ => rfl)) (fun _ _ => rfl)) pa_nil))))))))), ?_⟩
  obtain ⟨to, ra, r, d, kvs, pl, rfl, rfl, rfl, hA, hd, hpl, q⟩ := h
  have get : ∀ n ∈ r.names, DGet H d (.int n) (some (.int (pl n))) := fun n hn => DGet.k (k := Sum.inl n) hd |> fun z => by rw [hpl n hn] at z; exact z
  cases r with
  | reg k =>
    have h1 : SqT K H ra [.str "register", .int (k : Nat)] := hA
    refine ⟨_, rfl, ra, _, _, _, rfl, rfl, h1, at0, rfl, _, rfl, iteT ?_⟩
    exact ⟨_, rfl, _, rfl, ra, _, _, _, rfl, rfl, h1, at1, sz (by show 3 ≤ 100000; decide), fun p hp => q p _ hp (ExM.new hp) upd_same⟩
  | fld n k =>
    have h1 : SqT K H ra [.str "field", .int n, .int (k : Nat)] := hA
    have g1 := get n (by simp [Rs.names])
    refine ⟨_, rfl, ra, _, _, _, rfl, rfl, h1, at0, rfl, _, rfl, iteF ?_⟩
    refine ⟨_, rfl, ra, _, _, _, rfl, rfl, h1, at0, rfl, _, rfl, iteT ?_⟩
    exact ⟨_, rfl, _, rfl, _, rfl, ra, _, _, _, rfl, rfl, h1, at1, d, _, rfl, g1, _, rfl, ra, _, _, _, rfl, rfl, h1, at2, sz (by show 4 ≤ 100000; decide), fun p hp => q p _ hp (ExM.new hp) upd_same⟩
  | ent n k =>
    have h1 : SqT K H ra [.str "entry", .int n, .int k] := hA
    have g1 := get n (by simp [Rs.names])
    have g2 := get k (by simp [Rs.names])
    refine ⟨_, rfl, ra, _, _, _, rfl, rfl, h1, at0, rfl, _, rfl, iteF ?_⟩
    refine ⟨_, rfl, ra, _, _, _, rfl, rfl, h1, at0, rfl, _, rfl, iteF ?_⟩
    refine ⟨_, rfl, ra, _, _, _, rfl, rfl, h1, at0, rfl, _, rfl, iteT ?_⟩
    exact ⟨_, rfl, _, rfl, _, rfl, ra, _, _, _, rfl, rfl, h1, at1, d, _, rfl, g1, _, rfl, _, rfl, ra, _, _, _, rfl, rfl, h1, at2, d, _, rfl, g2, sz (by show 4 ≤ 100000; decide), fun p hp => q p _ hp (ExM.new hp) upd_same⟩
  | drf n =>
    have h1 : SqT K H ra [.str "deref", .int n] := hA
    have g1 := get n (by simp [Rs.names])
    refine ⟨_, rfl, ra, _, _, _, rfl, rfl, h1, at0, rfl, _, rfl, iteF ?_⟩
    refine ⟨_, rfl, ra, _, _, _, rfl, rfl, h1, at0, rfl, _, rfl, iteF ?_⟩
    refine ⟨_, rfl, ra, _, _, _, rfl, rfl, h1, at0, rfl, _, rfl, iteF ?_⟩
    exact ⟨_, rfl, _, rfl, _, rfl, ra, _, _, _, rfl, rfl, h1, at1, d, _, rfl, g1, sz (by show 3 ≤ 100000; decide), fun p hp => q p _ hp (ExM.new hp) upd_same⟩
theorem ok_with_registers {f : Addr} {fd : FuncData} {cd : Value} (F : Df K "with_registers" s_with_registers f fd cd) (T : Txt mg) : FnOk P w K mg base CX0 1 f fd ["heap", "many"] (sp_with_registers K) := by
  have nd := sc_with_registers.nd
  refine F.ok sc_with_registers (fun vs H Q E h => ?_) (fun A outer s H vs Q E hr h => ?_)
  · obtain ⟨_, _, rfl, _⟩ := h; rfl
  have hu := hu_of hr
  obtain ⟨x0, x1, rfl, h⟩ := h
  refine ⟨_, (pss_cons (ps_asg (pv 0) (show PG _ _ (gTup K 6 _) from pg_tup rfl (pgs_cons (pg_name (i := 2) nd rfl (by first | exact Or.inl rfl | exact Or.inr rfl)) (pgs_cons (pg_name (i := 3) nd rfl (by first | exact Or.inl rfl | exact Or.inr rfl)) (pgs_cons (pg_name (i := 4) nd rfl (by first | exact Or.inl rfl | exact Or.inr rfl)) (pgs_cons (pg_name (i := 5) nd rfl (by first | exact Or.inl rfl | exact Or.inr rfl)) (pgs_cons (pg_name (i := 6) nd rfl (by first | exact Or.inl rfl | exact Or.inr rfl)) (pgs_cons (pg_name (i := 7) nd rfl (by first | exact Or.inl rfl | exact Or.inr rfl)) pgs_nil))))))))
    (pss_one (ps_ret (pe_tup (pa_cons (pv 2) (pa_cons (pv 3) (pa_cons (pe_op (r := rCatA K) op_catA (pv 4) (pe_op op_repZ (pe_tup (pa_cons pe_non pa_nil)) (pv 1))) (pa_cons (pv 5) (pa_cons (pv 6) (pa_cons (pv 7) pa_nil)))))))))), ?_⟩
  obtain ⟨a, h, k, rfl, rfl, hA, hne, hz, hk, q⟩ := h
  obtain ⟨r, kp, o, w, ws, h1, h2, h3, h4, h5, h6⟩ := id hA
  refine ⟨_, rfl, a, _, rfl, h1, rfl, _, _, rfl, _, _, rfl, _, _, rfl, _, _, rfl, _, _, rfl, _, _, rfl, rfl, ?_⟩
  refine ⟨_, rfl, _, rfl, _, rfl, sz (by show 1 ≤ 100000; decide), fun t ft => ?_⟩
  have ex1 : ExA H (upd H t (.tup [.non])) := ExM.new ft
  have ht : (upd H t (.tup [V.non])) t = some (.tup [.non]) := upd_same
  generalize upd H t (.tup [V.non]) = H1 at ex1 ht ⊢
  refine ⟨_, rfl, t, _, [.non], rfl, rfl, SqT.of ht, by simp, by omega, by omega, by simp, fun e1 => ?_, fun ne1 p0 fp0 => ?_⟩
  · have ek : k = 1 := by omega
    have sb : SqT K H1 t (List.replicate k V.non) := by rw [ek]; exact SqT.of ht
    have h2b := Tk.all (K := K) ex1 _ _ h2
    have hnr : h.regs.map rV ≠ [] := fun z => hne (by simpa using z)
    refine ⟨r, t, _, _, rfl, rfl, h2b, sb, sz (by rw [List.length_map, List.length_replicate]; omega), fun z => absurd z hnr, fun _ z => ?_, fun _ z p fp => ?_⟩
    · have k0 : k = 0 := by
        have := congrArg List.length z
        rwa [List.length_replicate] at this
      subst k0
      refine ⟨_, rfl, _, rfl, _, rfl, sz (by show 6 ≤ 100000; decide), fun p fp => ?_⟩
      have tp := Tk.trans (Tk.all ex1) (Tk.new (K := K) (o := .tup [.str "heap", .int h.nx, .ref r, .ref kp, .ref o, .ref w]) fp)
      refine q _ p (ExM.trans ex1 (ExM.new fp)) ⟨r, kp, o, w, ws, SqT.of upd_same, by rw [List.replicate_zero, List.append_nil]; exact tp _ _ h2, tp _ _ h3, h4.mono tp, tp _ _ h5, pmp h6 fun _ _ z => PairAt.mono tp z⟩
    · refine ⟨_, rfl, _, rfl, _, rfl, sz (by show 6 ≤ 100000; decide), fun p2 fp2 => ?_⟩
      have ex2 := ExM.trans ex1 (ExM.trans (ExM.new fp) (ExM.new (o := .tup [.str "heap", .int h.nx, .ref p, .ref kp, .ref o, .ref w]) fp2))
      have tp := Tk.all (K := K) ex2
      refine q _ p2 ex2 ⟨p, kp, o, w, ws, SqT.of upd_same, ?_, tp _ _ h3, h4.mono tp, tp _ _ h5, pmp h6 fun _ _ z => PairAt.mono tp z⟩
      have e : (h.regs ++ List.replicate k none).map rV = h.regs.map rV ++ List.replicate k V.non := by rw [List.map_append, List.map_replicate]; rfl
      rw [e]
      exact SqT.of (by rw [upd_ne (ne_of_none (upd_same) fp2)]; exact upd_same)
  · have ex3 : ExA H (upd H1 p0 (.tup (List.replicate ((k : Nat) : Int).toNat [V.non]).flatten)) := ExM.trans ex1 (ExM.new fp0)
    have sb : SqT K (upd H1 p0 (.tup (List.replicate ((k : Nat) : Int).toNat [V.non]).flatten)) p0 (List.replicate k V.non) := by
      have e : (List.replicate ((k : Nat) : Int).toNat [V.non]).flatten = List.replicate k V.non := by
        rw [Int.toNat_natCast]
        exact List.flatten_replicate_singleton
      rw [e]
      exact SqT.of upd_same
    generalize upd H1 p0 (.tup (List.replicate ((k : Nat) : Int).toNat [V.non]).flatten) = H2 at ex3 sb ⊢
    have h2b := Tk.all (K := K) ex3 _ _ h2
    have hnr : h.regs.map rV ≠ [] := fun z => hne (by simpa using z)
    refine ⟨r, p0, _, _, rfl, rfl, h2b, sb, sz (by rw [List.length_map, List.length_replicate]; omega), fun z => absurd z hnr, fun _ z => ?_, fun _ z p fp => ?_⟩
    · have k0 : k = 0 := by
        have := congrArg List.length z
        rwa [List.length_replicate] at this
      subst k0
      refine ⟨_, rfl, _, rfl, _, rfl, sz (by show 6 ≤ 100000; decide), fun p fp => ?_⟩
      have tp := Tk.trans (Tk.all ex3) (Tk.new (K := K) (o := .tup [.str "heap", .int h.nx, .ref r, .ref kp, .ref o, .ref w]) fp)
      refine q _ p (ExM.trans ex3 (ExM.new fp)) ⟨r, kp, o, w, ws, SqT.of upd_same, by rw [List.replicate_zero, List.append_nil]; exact tp _ _ h2, tp _ _ h3, h4.mono tp, tp _ _ h5, pmp h6 fun _ _ z => PairAt.mono tp z⟩
    · refine ⟨_, rfl, _, rfl, _, rfl, sz (by show 6 ≤ 100000; decide), fun p2 fp2 => ?_⟩
      have ex2 := ExM.trans ex3 (ExM.trans (ExM.new fp) (ExM.new (o := .tup [.str "heap", .int h.nx, .ref p, .ref kp, .ref o, .ref w]) fp2))
      have tp := Tk.all (K := K) ex2
      refine q _ p2 ex2 ⟨p, kp, o, w, ws, SqT.of upd_same, ?_, tp _ _ h3, h4.mono tp, tp _ _ h5, pmp h6 fun _ _ z => PairAt.mono tp z⟩
      have e : (h.regs ++ List.replicate k none).map rV = h.regs.map rV ++ List.replicate k V.non := by rw [List.map_append, List.map_replicate]; rfl
      rw [e]
      exact SqT.of (by rw [upd_ne (ne_of_none (upd_same) fp2)]; exact upd_same)
end
end Wc
namespace Wc
open PySem L2
theorem fp_first {S : List (Int × Rs)} {base : Int} {j : Nat} {p : Int × Rs} (h : S[j]? = some p) (no : p.1 ∉ (S.take j).map (·.1)) : fp S base p.1 = base + (j : Int) := by
  have hj : (S.map (·.1))[j]? = some p.1 := by rw [List.getElem?_map, h]; rfl
  have hl : j < (S.map (·.1)).length := (List.getElem?_eq_some_iff.mp hj).1
  have he : (S.map (·.1))[j] = p.1 := (List.getElem?_eq_some_iff.mp hj).2
  unfold fp
  have e : (S.map (·.1)).findIdx (· == p.1) = j := by
    refine (List.findIdx_eq hl).mpr ⟨by rw [he]; simp, fun i hi => ?_⟩
    rw [beq_eq_false_iff_ne]
    intro z
    refine no ?_
    rw [List.map_take]
    refine List.mem_of_getElem? (i := i) ?_
    rw [List.getElem?_take_of_lt hi, List.getElem?_eq_getElem (by omega), z]
  rw [e]
/-- one more step is looked at -/
theorem pl_step {S : List (Int × Rs)} {base : Int} {j : Nat} {p : Int × Rs} {kvs : List (Key × V)} {ks : List Int} (h : S[j]? = some p) (hk : kvs.map (·.1) = ks.map Sum.inl) (hl : ks.length ≤ j) (hm : ∀ n, n ∈ ks ↔ n ∈ (S.take j).map (·.1))
    (hv : ∀ n ∈ ks, valV kvs (Sum.inl n) = some (.int (fp S base n))) :
    (p.1 ∈ ks → (∀ n, n ∈ ks ↔ n ∈ (S.take (j + 1)).map (·.1))) ∧ (p.1 ∉ ks → (putK kvs (Sum.inl p.1) (.int (base + (j : Int)))).map (·.1) = (addK ks p.1).map Sum.inl ∧ (addK ks p.1).length ≤ j + 1 ∧ (∀ n, n ∈ addK ks p.1 ↔ n ∈ (S.take (j + 1)).map (·.1)) ∧
      ∀ n ∈ addK ks p.1, valV (putK kvs (Sum.inl p.1) (.int (base + (j : Int)))) (Sum.inl n) = some (.int (fp S base n))) := by
  have ht := take_snoc h
  refine ⟨fun hin n => ?_, fun no => ⟨putK_keys hk _ _, ?_, fun n => ?_, fun n hn => ?_⟩⟩
  · rw [ht, List.map_append, List.mem_append, hm n]
    refine ⟨.inl, fun z => z.elim id fun z => ?_⟩
    have z : n = p.1 := by simpa using z
    subst z; exact (hm _).mp hin
  · unfold addK; rw [if_neg no, List.length_append, List.length_singleton]; omega
  · rw [mem_addK, ht, List.map_append, List.mem_append, hm n]; simp
  · rw [valV_put]
    by_cases e : n = p.1
    · subst e
      rw [if_pos rfl, fp_first h fun z => no ((hm _).mpr z)]
    · rw [if_neg fun z => e (Sum.inl.inj z)]
      exact hv n ((mem_addK.mp hn).resolve_right e)
section
variable {P : Program} {w : World} {K : PySem.W.Frag} {mg : Str → Option Value} {base : PySem.Heap}
theorem ok_compile_derivation {f : Addr} {fd : FuncData} {cd : Value} (F : Df K "compile_derivation" s_compile_derivation f fd cd) (T : Txt mg) (C_registers_of : Cal P w K mg base 1 "registers_of" (sp_registers_of K) []) (C_loading : Cal P w K mg base 1 "loading" (sp_loading K) []) : FnOk P w K mg base CX0 2 f fd ["heap", "steps"] (sp_compile_derivation K) := by
  have nd := sc_compile_derivation.nd
  refine F.ok sc_compile_derivation (fun vs H Q E h => ?_) (fun A outer s H vs Q E hr h => ?_)
  · obtain ⟨_, _, rfl, _⟩ := h; rfl
  have hu := hu_of hr
  obtain ⟨x0, x1, rfl, h⟩ := h
  refine ⟨_, (pss_cons (ps_set (i := 2) nd rfl (by first | exact Or.inl rfl | exact Or.inr rfl) (pe_lst pa_nil))
    (pss_cons (ps_set (i := 3) nd rfl (by first | exact Or.inl rfl | exact Or.inr rfl) pe_dnewK)
    (pss_cons (ps_for PassesOwn.never rfl (pi_enumS rfl T.enumerate (pa_cons (pv 1) pa_nil) (pk_cons (pe_callB (r := Evl.rLenS K) call_len_seq rfl T.len PySem.boot_len (pa_cons (pe_c C_registers_of hr (by first | exact Nat.le_refl _ | decide) rfl (pa_cons (pv 0) pa_nil)) pa_nil)) pk_nil)) (show PG _ _ (gTup K 2 _) from pg_tup rfl (pgs_cons (pg_name (i := 4) nd rfl (by first | exact Or.inl rfl | exact Or.inr rfl)) (pgs_cons (show PG _ _ (gTup K 2 _) from pg_tup rfl (pgs_cons (pg_name (i := 5) nd rfl (by first | exact Or.inl rfl | exact Or.inr rfl)) (pgs_cons (pg_name (i := 6) nd rfl (by first | exact Or.inl rfl | exact Or.inr rfl)) pgs_nil))) pgs_nil)))
    (pss_cons (ps_expr (pe_bm PySem.F.plainAttrs_list PySem.F.slot_list_append PySem.F.type_list_append mt_append (pv 2) (pa_cons (pe_c C_loading hr (by first | exact Nat.le_refl _ | decide) rfl (pa_cons (pv 4) (pa_cons (pv 6) (pa_cons (pv 3) pa_nil)))) pa_nil)))
    (pss_one (ps_expr (pe_dsetd (pv 3) (pv 5) (pv 4) ⟨rfl, rfl, rfl, rfl⟩)))))
    (pss_one (ps_ret (pe_callTy (r := rTupS K) call_tuple_of rfl T.tuple (by decide +kernel) (pa_cons (pv 2) pa_nil))))))), ?_⟩
  obtain ⟨a, h, st, S, rfl, rfl, hA, hz, hS, zS, er, q⟩ := h
  obtain ⟨ss, hs1, hs2⟩ := id hS
  have hl := plen hs2
  refine ⟨Nat.zero_le _, fun l fl => ?_⟩
  intro d fd
  have e1 : ExA H (upd H l (.lst [])) := ExM.new fl
  have e2 : ExA H (upd (upd H l (.lst [])) d (.dK [])) := ExM.trans e1 (ExM.new fd)
  have nld : l ≠ d := ne_of_none (upd_same) fd
  have hl2 : (upd (upd H l (.lst [])) d (.dK [])) l = some (.lst []) := by rw [upd_ne nld]; exact upd_same
  have hd2 : (upd (upd H l (.lst [])) d (.dK [])) d = some (.dK []) := upd_same
  have fd0 : H d = none := ExA.free e1 fd
  generalize upd (upd H l (.lst [])) d (.dK []) = H2 at e2 hl2 hd2 ⊢
  have T2 : Tk K H H2 := Tk.all e2
  refine ⟨_, rfl, _, rfl, _, rfl, a, h, rfl, HeapAt.mono T2 hA, fun r hr => ⟨r, _, rfl, .inr hr.sq, ?_⟩⟩
  refine ⟨st, _, _, rfl, rfl, T2 _ _ hs1, by omega, by rw [List.length_map]; omega, ?_⟩
  refine for_it (walk_enumS (xs := ss.map V.ref)) (fun j σ3 H3 => ∃ u4 u5 u6, σ3 = [some (.ref a), some (.ref st), some (.ref l), some (.ref d), u4, u5, u6] ∧ ExA H H3 ∧ PlAt H3 d S (h.regs.length : Int) j ∧ ∃ cs : List Addr, H3 l = some (.lst (cs.map V.ref)) ∧ cs.length = j ∧
      ∀ (i : Nat) (c : Addr) (p : Int × Rs), cs[i]? = some c → S[i]? = some p → SqT K H3 c (cmRow ((h.regs.length : Int) + (i : Int)) (fp S (h.regs.length : Int)) p.2))
    ⟨none, none, none, rfl, e2, ⟨[], [], hd2, rfl, Nat.le_refl _, by simp, fun n hn => (nomatch hn)⟩, [], hl2, rfl, by simp⟩ (fun j σ3 H3 _ p => ?_) (fun j x σ3 H3 H4 hj p y => ?_) (fun σ3 H3 p => ?_)
  · obtain ⟨_, _, _, _, e, _⟩ := p
    exact Tk.all e _ _ hs1
  · obtain ⟨u4, u5, u6, rfl, e, ⟨kvs, ks, hkv, hks, zks, hm, hv⟩, cs, hc, lc, hcs⟩ := p
    obtain ⟨T, x', rfl, fT, rfl, hx⟩ := y
    rw [List.length_map] at hj
    obtain ⟨s1, hsj⟩ : ∃ s1, ss[j]? = some s1 := ⟨_, List.getElem?_eq_getElem hj⟩
    rw [List.getElem?_map, hsj] at hx
    obtain rfl : V.ref s1 = x' := Option.some.inj hx
    obtain ⟨⟨n, r⟩, hSj, ra, hs3, hra⟩ := pget hs2 hsj
    have eT : ExA H3 (upd H3 T (.tup [.int ((((h.regs.map rV).length : Nat) : Int) + (j : Int)), .ref s1])) := ExM.new fT
    have hT : (upd H3 T (.tup [.int ((((h.regs.map rV).length : Nat) : Int) + (j : Int)), .ref s1])) T = some (.tup [.int ((h.regs.length : Int) + (j : Int)), .ref s1]) := by rw [upd_same, List.length_map]
    generalize upd H3 T (.tup [.int ((((h.regs.map rV).length : Nat) : Int) + (j : Int)), .ref s1]) = H4 at eT hT ⊢
    have e4 := ExM.trans e eT
    have zj : j < S.length := by omega
    have hkv4 := ExA.at eT hkv
    have hc4 := ExA.at eT hc
    refine ⟨T, _, rfl, SqT.of hT, rfl, _, _, rfl, _, _, rfl, s1, _, rfl, Tk.all e4 _ _ hs3, rfl, _, _, rfl, _, _, rfl, rfl, rfl, ?_⟩
    have hpl : ∀ m ∈ r.names, valV kvs (Sum.inl m) = some (.int (fp S (h.regs.length : Int) m)) := fun m hm' => hv m ((hm m).mpr (er j (n, r) hSj m hm'))
    refine ⟨_, rfl, .inl ⟨rfl, _, SqL.of hc4⟩, ?_⟩
    refine ⟨_, rfl, _, rfl, _, rfl, _, _, _, rfl, (h.regs.length : Int) + (j : Int), ra, r, d, kvs, fp S (h.regs.length : Int), rfl, rfl, rfl, RsAt.mono (Tk.all e4) hra, hkv4, hpl, fun p H5 fp5 e5 hp => ?_⟩
    have hc5 := ExA.at e5 hc4
    refine ⟨l, _, _, rfl, rfl, hc5, szl (by rw [List.length_map]; omega), ?_⟩
    have ndl : d ≠ l := fun z => by rw [z, hc] at hkv; cases hkv
    have e6 : ExA H (upd H5 l (.lst (cs.map V.ref ++ [V.ref p]))) := (ExM.trans e4 e5).put fl
    have hkv6 : (upd H5 l (.lst (cs.map V.ref ++ [V.ref p]))) d = some (.dK kvs) := by rw [upd_ne ndl]; exact ExA.at e5 hkv4
    have hl6 : (upd H5 l (.lst (cs.map V.ref ++ [V.ref p]))) l = some (.lst ((cs ++ [p]).map V.ref)) := by rw [upd_same, List.map_append]; rfl
    have t36 : Tk K H3 (upd H5 l (.lst (cs.map V.ref ++ [V.ref p]))) := Tk.trans (Tk.all (ExM.trans eT e5)) (Tk.lst hc5)
    have hcs6 : ∀ (i : Nat) (c : Addr) (q : Int × Rs), (cs ++ [p])[i]? = some c → S[i]? = some q → SqT K (upd H5 l (.lst (cs.map V.ref ++ [V.ref p]))) c (cmRow ((h.regs.length : Int) + (i : Int)) (fp S (h.regs.length : Int)) q.2) := fun i c q hi hq => by
      by_cases c1 : i < cs.length
      · rw [List.getElem?_append_left c1] at hi
        exact t36 _ _ (hcs i c q hi hq)
      · rw [List.getElem?_append_right (by omega)] at hi
        have e0 : i = j := by
          have := (List.getElem?_eq_some_iff.mp hi).1
          rw [List.length_singleton] at this
          omega
        subst e0
        rw [lc, Nat.sub_self] at hi
        obtain rfl : p = c := by simpa using hi
        rw [hSj] at hq
        cases hq
        exact Tk.lst hc5 _ _ (SqT.of hp)
    have lc6 : (cs ++ [p]).length = j + 1 := by rw [List.length_append, List.length_singleton, lc]
    generalize upd H5 l (.lst (cs.map V.ref ++ [V.ref p])) = H6 at e6 hkv6 hl6 hcs6 ⊢
    obtain ⟨st1, st2⟩ := pl_step (base := (h.regs.length : Int)) hSj hks zks hm hv
    have zkv : kvs.length < sizeLine := szl (by
      have z := congrArg List.length hks
      rw [List.length_map, List.length_map] at z
      omega)
    refine ⟨_, rfl, d, rfl, .inl ⟨_, .inl hkv6⟩, _, rfl, _, rfl, kvs, Sum.inl n, hkv6, rfl, zkv, fun v hv' => ?_, fun hn => ?_⟩
    · have hin : n ∈ ks := by
        have z := key_has hks n
        rw [hv'] at z
        exact of_decide_eq_true z.symm
      exact ⟨_, _, _, rfl, e6, ⟨kvs, ks, hkv6, hks, by omega, st1 hin, hv⟩, cs ++ [p], hl6, lc6, hcs6⟩
    · have hin : n ∉ ks := fun z => by
        have y := key_has hks n
        rw [hn, decide_eq_true z] at y
        cases y
      obtain ⟨g1, g2, g3, g4⟩ := st2 hin
      have t7 : Tk K H6 (upd H6 d (.dK (putK kvs (Sum.inl n) (.int ((h.regs.length : Int) + (j : Int)))))) := Tk.dic hkv6
      exact ⟨_, _, _, rfl, e6.put fd0, ⟨_, _, upd_same, g1, g2, g3, g4⟩, cs ++ [p], by rw [upd_ne nld]; exact hl6, lc6, fun i c q hi hq => t7 _ _ (hcs6 i c q hi hq)⟩
  · obtain ⟨u4, u5, u6, rfl, e, _, cs, hc, lc, hcs⟩ := p
    rw [List.length_map] at lc
    refine ⟨_, rfl, l, _, rfl, .inl ⟨SqL.of hc, fun t ft => ?_⟩⟩
    exact q _ t cs (ExM.trans e (ExM.new ft)) (SqT.of upd_same) (by omega) fun j c p hj hp => Tk.new ft _ _ (hcs j c p hj hp)
end
end Wc
namespace Wc
open PySem L2
/-- what a command by this reason finds, for m -/
def Ready (h : Hd) (pl : Int → Int) (m : Int) : Rs → Prop
  | .reg k => h.regs[k]? = some (some m)
  | .fld n k => (∃ i : Nat, pl n = (i : Int) ∧ h.regs[i]? = some (some n)) ∧ ∃ fs, .rcd n fs ∈ h.obs ∧ fs[k]? = some (some m)
  | .ent n q => (∃ i : Nat, pl n = (i : Int) ∧ h.regs[i]? = some (some n)) ∧ (∃ i : Nat, pl q = (i : Int) ∧ h.regs[i]? = some (some q)) ∧ ∃ es, .tab n es ∈ h.obs ∧ (q, m) ∈ es ∧ (es.map (·.1)).Nodup ∧ es.length ≤ 1000
  | .drf n => (∃ i : Nat, pl n = (i : Int) ∧ h.regs[i]? = some (some n)) ∧ .weak n (some m) ∈ h.obs
/-- sizes that the law's walk wants -/
structure Fit (h : Hd) : Prop where
  up : h.nums.Pairwise (· < ·)
  obs : h.obs.length ≤ 1000
  regs : h.regs.length ≤ 20000
  kept : h.kept.length ≤ 20000
section
variable (K : PySem.W.Frag)
def R__law_of : V2 := fun x y H Q => ∃ (a : Addr) (h : Hd) (n : Int), x = .ref a ∧ y = .int n ∧ HpAt K H a h ∧ n ∈ h.nums ∧ ∀ oa o, o ∈ h.obs → o.num = n → ObAt K H oa o → Q (.ref oa) H
abbrev sp__law_of : Sp := sp2 (R__law_of K)
def R__law_needed : V1 := fun x H Q => ∃ (c : Addr) (to : Int) (pl : Int → Int) (r : Rs), x = .ref c ∧ SqT K H c (cmRow to pl r) ∧ NewL (r.names.map pl) H Q
abbrev sp__law_needed : Sp := sp1 (R__law_needed K)
def R__law_load : V3 := fun x y z H Q => ∃ (a : Addr) (h : Hd) (to : Nat) (v : Rf), x = .ref a ∧ y = .int (to : Nat) ∧ z = rV v ∧ HpAt K H a h ∧ to < h.regs.length ∧ h.regs.length ≤ 20000 ∧ ∀ H' p, ExA H H' → HpAt K H' p { h with regs := h.regs.set to v } → Q (.ref p) H'
abbrev sp__law_load : Sp := sp3 (R__law_load K)
def R__law_keep : V2 := fun x y H Q => ∃ (a : Addr) (h : Hd) (n : Int), x = .ref a ∧ y = .int n ∧ HpAt K H a h ∧ h.kept.length ≤ 20000 ∧ ∀ (H' : Hp) (p : Addr) (k' : List Int), ExA H H' → k'.length ≤ h.kept.length + 1 → HpAt K H' p { h with kept := k' } → Q (.ref p) H'
abbrev sp__law_keep : Sp := sp2 (R__law_keep K)
/-- a list of the heap with m in the register, and m -/
def Lod (K : PySem.W.Frag) (h : Hd) (to : Nat) (m : Int) (H : Hp) (Q : VK) : Prop := ∀ (H' : Hp) (p wa : Addr) (h' : Hd), ExA H H' → H' p = some (.lst [.ref wa, .int m]) → HpAt K H' wa h' → h'.obs = h.obs → h'.regs = h.regs.set to (some m) → h'.kept.length ≤ h.kept.length + 1 → Q (.ref p) H'
def R__law_table : V2 := fun x y H Q => ∃ (a : Addr) (h : Hd) (c : Addr) (to : Nat) (pl : Int → Int) (n k m : Int), x = .ref a ∧ y = .ref c ∧ HpAt K H a h ∧ SqT K H c (cmRow (to : Int) pl (.ent n k)) ∧ Fit h ∧ to < h.regs.length ∧ Ready h pl m (.ent n k) ∧ Lod K h to m H Q
abbrev sp__law_table : Sp := sp2 (R__law_table K)
def R__law_do : V2 := fun x y H Q => ∃ (a : Addr) (h : Hd) (c : Addr) (to : Nat) (pl : Int → Int) (r : Rs) (m : Int), x = .ref a ∧ y = .ref c ∧ HpAt K H a h ∧ SqT K H c (cmRow (to : Int) pl r) ∧ Fit h ∧ to < h.regs.length ∧ Ready h pl m r ∧ Lod K h to m H Q
abbrev sp__law_do : Sp := sp2 (R__law_do K)
def R__law_fault : V2 := fun x y H Q => ∃ (a : Addr) (h : Hd) (c : Addr) (to : Nat) (pl : Int → Int) (r : Rs) (m : Int), x = .ref a ∧ y = .ref c ∧ HpAt K H a h ∧ SqT K H c (cmRow (to : Int) pl r) ∧ Fit h ∧ Ready h pl m r ∧ ∀ H', ExA H H' → Q .non H'
abbrev sp__law_fault : Sp := sp2 (R__law_fault K)
def R__law_loading : V3 := fun x y z H Q => ∃ (a : Addr) (h : Hd) (st : Addr) (S : List (Int × Rs)) (k : Nat) (p : Int × Rs), x = .ref a ∧ y = .ref st ∧ z = .int (k : Nat) ∧ HpAt K H a h ∧ h.regs.length ≤ 20000 ∧ StepsAt K H st S ∧ S.length ≤ 10000 ∧ S[k]? = some p ∧ (∀ n ∈ p.2.names, n ∈ (S.take k).map (·.1)) ∧
  ∀ H' t, ExA H H' → SqT K H' t (cmRow ((h.regs.length : Int) + (k : Int)) (fp S (h.regs.length : Int)) p.2) → Q (.ref t) H'
abbrev sp__law_loading : Sp := sp3 (R__law_loading K)
end
theorem num_uniq {h : Hd} (up : h.nums.Pairwise (· < ·)) {o p : Ob} (ho : o ∈ h.obs) (hp : p ∈ h.obs) (e : o.num = p.num) : o = p := by
  obtain ⟨i, hi⟩ := List.getElem?_of_mem ho
  obtain ⟨j, hj⟩ := List.getElem?_of_mem hp
  have h1 : h.nums[i]? = some o.num := by unfold Hd.nums; rw [List.getElem?_map, hi]; rfl
  have h2 : h.nums[j]? = some o.num := by unfold Hd.nums; rw [List.getElem?_map, hj, e]; rfl
  have := nd_ix (nodup_of_up up) h1 h2
  subst this
  rw [hi] at hj
  exact Option.some.inj hj
section
variable {P : Program} {w : World} {K : PySem.W.Frag} {mg : Str → Option Value} {base : PySem.Heap}
theorem ok__law_of {f : Addr} {fd : FuncData} {cd : Value} (F : Df K "_law_of" s__law_of f fd cd) (T : Txt mg) : FnOk P w K mg base CX0 1 f fd ["heap", "number"] (sp__law_of K) := by
  have nd := sc__law_of.nd
  refine F.ok sc__law_of (fun vs H Q E h => ?_) (fun A outer s H vs Q E hr h => ?_)
  · obtain ⟨_, _, rfl, _⟩ := h; rfl
  have hu := hu_of hr
  obtain ⟨x0, x1, rfl, h⟩ := h
  refine ⟨_, (pss_cons (ps_for PassesOwn.never rfl (show PI _ _ _ (iTup K _) from pi_tup (pe_ix (r := rIxT K) ix_tup (pv 0) pe_int (fun _ _ => rfl))) (pg_name (i := 2) nd rfl (by first | exact Or.inl rfl | exact Or.inr rfl))
    (pss_one (ps_if (pt_cmpR op_eq (pe_ix (r := rIxT K) ix_tup (pv 2) pe_int (fun _ _ => rfl)) (pv 1) (nomark _)) (pss_one (ps_ret (pv 2))) pss_nil)))
    (pss_one (ps_ret pe_non))), ?_⟩
  obtain ⟨a, h, n, rfl, rfl, ⟨r, k, oo, w, ws, h1, h2, h3, ⟨os, ho, hobs⟩, _⟩, hn, q⟩ := h
  have hl := plen hobs
  refine ⟨_, rfl, a, _, _, _, rfl, rfl, h1, at4, oo, rfl, ⟨_, ho⟩, ?_⟩
  refine for_it (walk_tup (xs := os.map V.ref)) (fun i σ2 H2 => ∃ u2 : Option V, σ2 = [some (.ref a), some (.int n), u2] ∧ H2 = H ∧ n ∉ h.nums.take i)
    ⟨none, rfl, rfl, by simp⟩ (fun i σ2 H2 _ p => ?_) (fun i x σ2 H2 H3 hi p y => ?_) (fun σ2 H2 p => ?_)
  · obtain ⟨_, _, rfl, _⟩ := p
    exact ho
  · obtain ⟨rfl, hx⟩ := y
    obtain ⟨u2, rfl, rfl, hno⟩ := p
    rw [List.length_map] at hi
    obtain ⟨a1, hos⟩ : ∃ a1, os[i]? = some a1 := ⟨_, List.getElem?_eq_getElem hi⟩
    rw [List.getElem?_map, hos] at hx
    obtain rfl : V.ref a1 = x := Option.some.inj hx
    obtain ⟨o, hoi, hob⟩ := pget hobs hos
    obtain ⟨kn, vn, hnum⟩ := hob.num
    have hni : h.nums[i]? = some o.num := by unfold Hd.nums; rw [List.getElem?_map, hoi]; rfl
    refine ⟨_, rfl, a1, _, _, _, rfl, rfl, hnum, at1, _, rfl, rfl, _, rfl, ?_⟩
    rw [int_eq]
    refine ite2 (fun c => ?_) (fun c => ?_)
    · exact ⟨_, rfl, q a1 o (List.mem_of_getElem? hoi) (of_decide_eq_true c) hob⟩
    · have c' := of_decide_eq_false (Bool.eq_false_iff.mpr c)
      refine ⟨_, rfl, rfl, fun z => ?_⟩
      rcases (mem_take_snoc hni).mp z with z | z
      · exact hno z
      · exact c' z.symm
  · obtain ⟨u2, rfl, rfl, hno⟩ := p
    rw [List.length_map, hl] at hno
    have e : h.nums.take h.obs.length = h.nums := by
      refine List.take_of_length_le ?_
      unfold Hd.nums
      rw [List.length_map]
      exact Nat.le_refl _
    rw [e] at hno
    exact absurd hn hno
end
end Wc
namespace Wc
open PySem L2
section
variable {P : Program} {w : World} {K : PySem.W.Frag} {mg : Str → Option Value} {base : PySem.Heap}
theorem ok__law_needed {f : Addr} {fd : FuncData} {cd : Value} (F : Df K "_law_needed" s__law_needed f fd cd) (T : Txt mg) : FnOk P w K mg base CX0 1 f fd ["command"] (sp__law_needed K) := by
  have nd := sc__law_needed.nd
  refine F.ok sc__law_needed (fun vs H Q E h => ?_) (fun A outer s H vs Q E hr h => ?_)
  · obtain ⟨_, rfl, _⟩ := h; rfl
  have hu := hu_of hr
  obtain ⟨x0, rfl, h⟩ := h
  refine ⟨_, (pss_cons (ps_set (i := 1) nd rfl (by first | exact Or.inl rfl | exact Or.inr rfl) (pe_ix (r := rIxT K) ix_tup (pv 0) pe_int (fun _ _ => rfl)))
    (pss_cons (ps_if (pt_cmpR (r := rIn K false) op_in_seq (pv 1) (pe_lst (pa_cons pe_str (pa_cons pe_str (pa_cons pe_str pa_nil)))) (by first | exact nomark _ | rfl)) (pss_one (ps_ret (pe_lst (pa_cons (pe_ix (r := rIxT K) ix_tup (pv 0) pe_int (fun _ _ => rfl)) pa_nil)))) pss_nil)
    (pss_cons (ps_if (pt_cmpR op_eq (pv 1) pe_str (nomark _)) (pss_one ps_never) pss_nil)
    (pss_cons (ps_if (pt_cmpR op_eq (pv 1) pe_str (nomark _)) (pss_one ps_never) pss_nil)
    (pss_cons (ps_if (pt_cmpR op_eq (pv 1) pe_str (nomark _)) (pss_one ps_never) pss_nil)
    (pss_cons (ps_if (pt_cmpR op_eq (pv 1) pe_str (nomark _)) (pss_one (ps_ret (pe_lst (pa_cons (pe_ix (r := rIxT K) ix_tup (pv 0) pe_int (fun _ _ => rfl)) (pa_cons (pe_ix (r := rIxT K) ix_tup (pv 0) pe_int (fun _ _ => rfl)) pa_nil))))) pss_nil)
    (pss_cons (ps_if (pt_cmpR op_eq (pv 1) pe_str (nomark _)) (pss_one ps_never) pss_nil)
    (pss_one (ps_ret (pe_lst pa_nil)))))))))), ?_⟩
  obtain ⟨c, to, pl, r, rfl, hC, q⟩ := h
  have fin : ∀ (H' : Hp), ExA H H' → ∀ (ns : List Int), ns = r.names.map pl → ∀ p, H' p = none → Q (.ref p) (upd H' p (.lst (ns.map V.int))) := fun H' e ns en p fp => by
    subst en
    exact q p _ (ExA.free e fp) (ExM.trans e (ExM.new fp)) upd_same
  have one : ∀ (xs : List V) (H' : Hp), ExA H H' → ∀ l, H' l = none → ExA H (upd H' l (.lst xs)) := fun xs H' e l fl => ExM.trans e (ExM.new fl)
  cases r with
  | reg k =>
    have h1 : SqT K H c [.str "copy", .int to, .int (k : Nat)] := hC
    refine ⟨_, rfl, c, _, _, _, rfl, rfl, h1, at0, ?_⟩
    refine ⟨_, rfl, sz (by show 3 ≤ 100000; decide), fun l fl => ⟨l, _, rfl, .inl (SqL.of upd_same), rfl, rfl, _, rfl, iteF ?_⟩⟩
    refine ⟨_, rfl, rfl, _, rfl, iteF ⟨_, rfl, rfl, _, rfl, iteF ⟨_, rfl, rfl, _, rfl, iteF ⟨_, rfl, rfl, _, rfl, iteF ⟨_, rfl, rfl, _, rfl, iteF ?_⟩⟩⟩⟩⟩
    exact ⟨Nat.zero_le _, fun p fp => fin _ (ExM.new fl) [] rfl p fp⟩
  | fld n k =>
    have h1 : SqT K H c [.str "read", .int to, .int (pl n), .int (k : Nat)] := hC
    refine ⟨_, rfl, c, _, _, _, rfl, rfl, h1, at0, ?_⟩
    refine ⟨_, rfl, sz (by show 3 ≤ 100000; decide), fun l fl => ⟨l, _, rfl, .inl (SqL.of upd_same), rfl, rfl, _, rfl, iteT ?_⟩⟩
    exact ⟨_, rfl, c, _, _, _, rfl, rfl, Tk.new fl _ _ h1, at2, sz (by show 1 ≤ 100000; decide), fun p fp => fin _ (ExM.new fl) [pl n] rfl p fp⟩
  | ent n k =>
    have h1 : SqT K H c [.str "lookup", .int to, .int (pl n), .int (pl k)] := hC
    refine ⟨_, rfl, c, _, _, _, rfl, rfl, h1, at0, ?_⟩
    refine ⟨_, rfl, sz (by show 3 ≤ 100000; decide), fun l fl => ⟨l, _, rfl, .inl (SqL.of upd_same), rfl, rfl, _, rfl, iteF ?_⟩⟩
    refine ⟨_, rfl, rfl, _, rfl, iteF ⟨_, rfl, rfl, _, rfl, iteF ⟨_, rfl, rfl, _, rfl, iteF ⟨_, rfl, rfl, _, rfl, iteT ?_⟩⟩⟩⟩
    exact ⟨_, rfl, c, _, _, _, rfl, rfl, Tk.new fl _ _ h1, at2, _, rfl, c, _, _, _, rfl, rfl, Tk.new fl _ _ h1, at3, sz (by show 2 ≤ 100000; decide), fun p fp => fin _ (ExM.new fl) [pl n, pl k] rfl p fp⟩
  | drf n =>
    have h1 : SqT K H c [.str "deref", .int to, .int (pl n)] := hC
    refine ⟨_, rfl, c, _, _, _, rfl, rfl, h1, at0, ?_⟩
    refine ⟨_, rfl, sz (by show 3 ≤ 100000; decide), fun l fl => ⟨l, _, rfl, .inl (SqL.of upd_same), rfl, rfl, _, rfl, iteT ?_⟩⟩
    exact ⟨_, rfl, c, _, _, _, rfl, rfl, Tk.new fl _ _ h1, at2, sz (by show 1 ≤ 100000; decide), fun p fp => fin _ (ExM.new fl) [pl n] rfl p fp⟩
theorem ok__law_load {f : Addr} {fd : FuncData} {cd : Value} (F : Df K "_law_load" s__law_load f fd cd) (T : Txt mg) : FnOk P w K mg base CX0 1 f fd ["heap", "to", "number"] (sp__law_load K) := by
  have nd := sc__law_load.nd
  refine F.ok sc__law_load (fun vs H Q E h => ?_) (fun A outer s H vs Q E hr h => ?_)
  · obtain ⟨_, _, _, rfl, _⟩ := h; rfl
  have hu := hu_of hr
  obtain ⟨x0, x1, x2, rfl, h⟩ := h
  refine ⟨_, (pss_one (ps_ret (pe_op (r := rCatA K) op_catA (pe_op (r := rCatA K) op_catA (pe_slice sl_tup (pv 0) po_none (po_some pe_int)) (pe_tup (pa_cons (pe_op (r := rCatA K) op_catA (pe_op (r := rCatA K) op_catA (pe_slice sl_tup (pe_ix (r := rIxT K) ix_tup (pv 0) pe_int (fun _ _ => rfl)) po_none (po_some (pv 1))) (pe_tup (pa_cons (pv 2) pa_nil))) (pe_slice sl_tup (pe_ix (r := rIxT K) ix_tup (pv 0) pe_int (fun _ _ => rfl)) (po_some (pe_op op_add (pv 1) pe_int)) po_none)) pa_nil))) (pe_slice sl_tup (pv 0) (po_some pe_int) po_none)))), ?_⟩
  obtain ⟨a, h, to, v, rfl, rfl, rfl, ⟨r, kp, o, w, ws, h1, h2, h3, h4, h5, h6⟩, hto, hz, q⟩ := h
  have lr : (h.regs.map rV).length = h.regs.length := List.length_map _
  -- heap[:2]
  refine ⟨_, rfl, 2, rfl, ?_⟩
  refine sl_to (i := 2) h1 (by simp) fun p1 H1 e1 hp1 => ?_
  -- the registers ahead
  refine ⟨_, rfl, a, _, _, _, rfl, rfl, Tk.all e1 _ _ h1, at2, _, rfl, _, rfl, ?_⟩
  refine sl_to (i := to) (Tk.all e1 _ _ h2) (by omega) fun p2 H2 e2 hp2 => ?_
  refine ⟨_, rfl, sz (by show 1 ≤ 100000; decide), fun t ft => ?_⟩
  refine cat_any (Tk.new ft _ _ hp2) (SqT.of upd_same) (by rw [List.length_take, lr]; simp only [List.length_cons, List.length_nil]; omega) fun p3 H3 e3 hp3 => ?_
  have e03 : ExA H H3 := ExM.trans e1 (ExM.trans e2 (ExM.trans (ExM.new ft) e3))
  have T3 := Tk.all (K := K) e03
  -- .. and behind
  refine ⟨_, rfl, a, _, _, _, rfl, rfl, T3 _ _ h1, at2, _, rfl, _, _, rfl, rfl, _, rfl, ?_⟩
  have eto : (to : Int) + 1 = ((to + 1 : Nat) : Int) := by omega
  rw [eto]
  dsimp only [tNoPart]
  refine sl_from (i := to + 1) (T3 _ _ h2) (by omega) (by omega) fun p4 H4 e4 hp4 => ?_
  refine cat_any (Tk.all e4 _ _ hp3) hp4 (by simp only [List.length_append, List.length_take, List.length_drop, lr, List.length_cons, List.length_nil]; omega) fun p5 H5 e5 hp5 => ?_
  have er : (h.regs.map rV).take to ++ [rV v] ++ (h.regs.map rV).drop (to + 1) = (h.regs.set to v).map rV := by
    rw [List.set_eq_take_append_cons_drop, if_pos hto, List.map_append, List.map_cons, List.map_take, List.map_drop, List.append_assoc]; rfl
  rw [er] at hp5
  refine ⟨sz (by show 1 ≤ 100000; decide), fun t2 ft2 => ?_⟩
  have e25 : ExA H1 (upd H5 t2 (.tup [.ref p5])) := ExM.trans e2 (ExM.trans (ExM.new ft) (ExM.trans e3 (ExM.trans e4 (ExM.trans e5 (ExM.new ft2)))))
  refine cat_any (Tk.all e25 _ _ hp1) (SqT.of upd_same) (by simp) fun p6 H6 e6 hp6 => ?_
  have e06 : ExA H H6 := ExM.trans e1 (ExM.trans e25 e6)
  refine ⟨_, rfl, 3, rfl, ?_⟩
  dsimp only [tNoPart]
  refine sl_from (i := 3) (Tk.all e06 _ _ h1) (by decide) (by simp) fun p7 H7 e7 hp7 => ?_
  refine cat_any (Tk.all e7 _ _ hp6) hp7 (by simp) fun p8 H8 e8 hp8 => ?_
  have e08 : ExA H H8 := ExM.trans e06 (ExM.trans e7 e8)
  have e58 : ExA H5 H8 := ExM.trans (ExM.new ft2) (ExM.trans e6 (ExM.trans e7 e8))
  have T8 := Tk.all (K := K) e08
  exact q H8 p8 e08 ⟨p5, kp, o, w, ws, hp8, Tk.all e58 _ _ hp5, T8 _ _ h3, h4.mono T8, T8 _ _ h5, pmp h6 fun _ _ z => PairAt.mono T8 z⟩
theorem ok__law_keep {f : Addr} {fd : FuncData} {cd : Value} (F : Df K "_law_keep" s__law_keep f fd cd) (T : Txt mg) : FnOk P w K mg base CX0 1 f fd ["heap", "number"] (sp__law_keep K) := by
  have nd := sc__law_keep.nd
  refine F.ok sc__law_keep (fun vs H Q E h => ?_) (fun A outer s H vs Q E hr h => ?_)
  · obtain ⟨_, _, rfl, _⟩ := h; rfl
  have hu := hu_of hr
  obtain ⟨x0, x1, rfl, h⟩ := h
  refine ⟨_, (pss_cons (ps_if (PW.pt (pw_or (pt_cmpR op_isN (pv 1) pe_non (nomark _)) (pw_or1 (pt_cmpR (r := rIn K false) op_in_seq (pv 1) (pe_ix (r := rIxT K) ix_tup (pv 0) pe_int (fun _ _ => rfl)) (by first | exact nomark _ | rfl))))) (pss_one (ps_ret (pv 0))) pss_nil)
    (pss_one (ps_ret (pe_op (r := rCatA K) op_catA (pe_op (r := rCatA K) op_catA (pe_slice sl_tup (pv 0) po_none (po_some pe_int)) (pe_tup (pa_cons (pe_callTy (r := rTupS K) call_tuple_of rfl T.tuple (by decide +kernel) (pa_cons (pe_callB (r := rSortedI K) cr_sortedI rfl T.sorted (by decide +kernel) (pa_cons (pe_op op_cat (pe_callTy call_list_of rfl T.list (by decide +kernel) (pa_cons (pe_ix (r := rIxT K) ix_tup (pv 0) pe_int (fun _ _ => rfl)) pa_nil)) (pe_lst (pa_cons (pv 1) pa_nil))) pa_nil)) pa_nil)) pa_nil))) (pe_slice sl_tup (pv 0) (po_some pe_int) po_none))))), ?_⟩
  obtain ⟨a, h, n, rfl, rfl, hA, hz, q⟩ := h
  obtain ⟨r, kp, o, w, ws, h1, h2, h3, h4, h5, h6⟩ := id hA
  refine or_join false (decide (n ∈ h.kept)) (fun Q' z => ⟨_, rfl, rfl, _, rfl, z⟩) (fun _ Q' z => ⟨_, rfl, _, rfl, a, _, _, _, rfl, rfl, h1, at3, kp, _, rfl, .inr h3, rfl, flat_ints _, _, rfl, ?_⟩) ?_
  · show Q' (inV (V.int n) (h.kept.map V.int)) H
    rw [inV_int]; exact z
  rw [Bool.false_or]
  by_cases c1 : n ∈ h.kept
  · rw [decide_eq_true c1]
    exact iteT ⟨_, rfl, q H a h.kept (ExM.refl _ _) (by omega) hA⟩
  rw [decide_eq_false c1]
  refine iteF ?_
  -- heap[:3]
  refine ⟨_, rfl, 3, rfl, ?_⟩
  refine sl_to (i := 3) h1 (by simp) fun p1 H1 e1 hp1 => ?_
  refine ⟨_, rfl, a, _, _, _, rfl, rfl, Tk.all e1 _ _ h1, at3, kp, _, rfl, .inr (Tk.all e1 _ _ h3), fun l fl => ?_⟩
  refine ⟨_, rfl, sz (by show 1 ≤ 100000; decide), fun l2 fl2 => ?_⟩
  have hl : (upd (upd H1 l (.lst (h.kept.map V.int))) l2 (.lst [V.int n])) l = some (.lst (h.kept.map V.int)) := ExA.at (ExM.new fl2) upd_same
  refine ⟨l, l2, _, _, rfl, rfl, hl, upd_same, sz (by simp only [List.length_map, List.length_cons, List.length_nil]; omega), fun l3 fl3 => ?_⟩
  have hl3 : ∀ {H' : Hp}, (upd H' l3 (.lst (h.kept.map V.int ++ [V.int n]))) l3 = some (.lst ((h.kept ++ [n]).map V.int)) := by
    intro H'
    rw [upd_same, List.map_append]; rfl
  refine ⟨l3, h.kept ++ [n], rfl, SqL.of hl3, fun ns p hperm hle fp => ?_⟩
  refine ⟨p, _, rfl, .inl ⟨SqL.of upd_same, fun t ft => ?_⟩⟩
  have e3 : ExA H1 (upd (upd (upd (upd (upd H1 l (.lst (h.kept.map V.int))) l2 (.lst [V.int n])) l3 (.lst (h.kept.map V.int ++ [V.int n]))) p (.lst (ns.map V.int))) t (.tup (ns.map V.int))) :=
    ExM.trans (ExM.new fl) (ExM.trans (ExM.new fl2) (ExM.trans (ExM.new fl3) (ExM.trans (ExM.new fp) (ExM.new ft))))
  have ht : (upd (upd (upd (upd (upd H1 l (.lst (h.kept.map V.int))) l2 (.lst [V.int n])) l3 (.lst (h.kept.map V.int ++ [V.int n]))) p (.lst (ns.map V.int))) t (.tup (ns.map V.int))) t = some (.tup (ns.map V.int)) := upd_same
  generalize upd (upd (upd (upd (upd H1 l (.lst (h.kept.map V.int))) l2 (.lst [V.int n])) l3 (.lst (h.kept.map V.int ++ [V.int n]))) p (.lst (ns.map V.int))) t (.tup (ns.map V.int)) = H2 at e3 ht ⊢
  refine ⟨sz (by show 1 ≤ 100000; decide), fun t2 ft2 => ?_⟩
  have e25 : ExA H1 (upd H2 t2 (.tup [.ref t])) := ExM.trans e3 (ExM.new ft2)
  refine cat_any (Tk.all e25 _ _ hp1) (SqT.of upd_same) (by simp) fun p6 H6 e6 hp6 => ?_
  have e06 : ExA H H6 := ExM.trans e1 (ExM.trans e25 e6)
  refine ⟨_, rfl, 4, rfl, ?_⟩
  dsimp only [tNoPart]
  refine sl_from (i := 4) (Tk.all e06 _ _ h1) (by decide) (by simp) fun p7 H7 e7 hp7 => ?_
  refine cat_any (Tk.all e7 _ _ hp6) hp7 (by simp) fun p8 H8 e8 hp8 => ?_
  have e08 : ExA H H8 := ExM.trans e06 (ExM.trans e7 e8)
  have e28 : ExA H2 H8 := ExM.trans (ExM.new ft2) (ExM.trans e6 (ExM.trans e7 e8))
  have T8 := Tk.all (K := K) e08
  refine q H8 p8 ns e08 ?_ ⟨r, t, o, w, ws, hp8, T8 _ _ h2, Tk.all e28 _ _ (SqT.of ht), h4.mono T8, T8 _ _ h5, pmp h6 fun _ _ z => PairAt.mono T8 z⟩
  rw [hperm.length_eq, List.length_append, List.length_singleton]
  exact Nat.le_refl _
theorem ok__law_loading {f : Addr} {fd : FuncData} {cd : Value} (F : Df K "_law_loading" s__law_loading f fd cd) (T : Txt mg) : FnOk P w K mg base CX0 1 f fd ["heap", "steps", "k"] (sp__law_loading K) := by
  have nd := sc__law_loading.nd
  refine F.ok sc__law_loading (fun vs H Q E h => ?_) (fun A outer s H vs Q E hr h => ?_)
  · obtain ⟨_, _, _, rfl, _⟩ := h; rfl
  have hu := hu_of hr
  obtain ⟨x0, x1, x2, rfl, h⟩ := h
  refine ⟨_, (pss_cons (ps_set (i := 3) nd rfl (by first | exact Or.inl rfl | exact Or.inr rfl) pe_dnewK)
    (pss_cons (ps_for PassesOwn.never rfl (pi_range1 rfl T.range (pa_cons (pv 2) pa_nil)) (pg_name (i := 4) nd rfl (by first | exact Or.inl rfl | exact Or.inr rfl))
    (pss_one (ps_if (pt_cmp (pc_dnotin hu (pe_ix (r := rIxT K) ix_tup (pe_ix (r := rIxT K) ix_tup (pv 1) (pv 4) (fun _ _ => rfl)) pe_int (fun _ _ => rfl)) (pv 3)) rfl) (pss_one (ps_dput hu (pv 3) (pe_ix (r := rIxT K) ix_tup (pe_ix (r := rIxT K) ix_tup (pv 1) (pv 4) (fun _ _ => rfl)) pe_int (fun _ _ => rfl)) (pe_op op_add (pe_callB (r := Evl.rLenS K) call_len_seq rfl T.len PySem.boot_len (pa_cons (pe_ix (r := rIxT K) ix_tup (pv 0) pe_int (fun _ _ => rfl)) pa_nil)) (pv 4)) rfl)) pss_nil)))
    (pss_cons (ps_set (i := 5) nd rfl (by first | exact Or.inl rfl | exact Or.inr rfl) (pe_ix (r := rIxT K) ix_tup (pe_ix (r := rIxT K) ix_tup (pv 1) (pv 2) (fun _ _ => rfl)) pe_int (fun _ _ => rfl)))
    (pss_cons (ps_set (i := 6) nd rfl (by first | exact Or.inl rfl | exact Or.inr rfl) (pe_op op_add (pe_callB (r := Evl.rLenS K) call_len_seq rfl T.len PySem.boot_len (pa_cons (pe_ix (r := rIxT K) ix_tup (pv 0) pe_int (fun _ _ => rfl)) pa_nil)) (pv 2)))
    (pss_cons (ps_if (pt_cmpR op_eq (pe_ix (r := rIxT K) ix_tup (pv 5) pe_int (fun _ _ => rfl)) pe_str (nomark _)) (pss_one (ps_ret (pe_tup (pa_cons pe_str (pa_cons (pv 6) (pa_cons (pe_ix (r := rIxT K) ix_tup (pv 5) pe_int (fun _ _ => rfl)) pa_nil)))))) pss_nil)
    (pss_cons (ps_if (pt_cmpR op_eq (pe_ix (r := rIxT K) ix_tup (pv 5) pe_int (fun _ _ => rfl)) pe_str (nomark _)) (pss_one (ps_ret (pe_tup (pa_cons pe_str (pa_cons (pv 6) (pa_cons (pe_dget hu (pv 3) (pe_ix (r := rIxT K) ix_tup (pv 5) pe_int (fun _ _ => rfl)) (fun _ _ => rfl)) (pa_cons (pe_ix (r := rIxT K) ix_tup (pv 5) pe_int (fun _ _ => rfl)) pa_nil))))))) pss_nil)
    (pss_cons (ps_if (pt_cmpR op_eq (pe_ix (r := rIxT K) ix_tup (pv 5) pe_int (fun _ _ => rfl)) pe_str (nomark _)) (pss_one (ps_ret (pe_tup (pa_cons pe_str (pa_cons (pv 6) (pa_cons (pe_dget hu (pv 3) (pe_ix (r := rIxT K) ix_tup (pv 5) pe_int (fun _ _ => rfl)) (fun _ _ => rfl)) (pa_cons (pe_dget hu (pv 3) (pe_ix (r := rIxT K) ix_tup (pv 5) pe_int (fun _ _ => rfl)) (fun _ _ => rfl)) pa_nil))))))) pss_nil)
    (pss_one (ps_ret (pe_tup (pa_cons pe_str (pa_cons (pv 6) (pa_cons (pe_dget hu (pv 3) (pe_ix (r := rIxT K) ix_tup (pv 5) pe_int (fun _ _ => rfl)) (fun _ _ => rfl)) pa_nil))))))))))))), ?_⟩
  obtain ⟨a, h, st, S, k, p, rfl, rfl, rfl, hA, hz, hS, zS, hp, hn, q⟩ := h
  obtain ⟨r, kp, o, w, ws, h1, h2, h3, h4, h5, h6⟩ := id hA
  obtain ⟨ss, hs1, hs2⟩ := id hS
  have lss := plen hs2
  have hk : k < S.length := (List.getElem?_eq_some_iff.mp hp).1
  have lr : (h.regs.map rV).length = h.regs.length := List.length_map _
  intro d fd
  have e1 : ExA H (upd H d (.dK [])) := ExM.new fd
  have hd1 : (upd H d (.dK [])) d = some (.dK []) := upd_same
  generalize upd H d (.dK []) = H1 at e1 hd1 ⊢
  refine ⟨_, rfl, _, rfl, by omega, by omega, ?_⟩
  refine for_range (lo := 0) (n := ((k : Nat) : Int).toNat) (fun j σ2 H2 => ∃ u4, σ2 = [some (.ref a), some (.ref st), some (.int (k : Nat)), some (.ref d), u4, none, none] ∧ ExA H H2 ∧ PlAt H2 d S (h.regs.length : Int) j)
    ⟨none, rfl, e1, [], [], hd1, rfl, Nat.le_refl _, by simp, fun n hn => (nomatch hn)⟩ (fun j σ2 H2 hj p' => ?_) (fun σ2 H2 p' => ?_)
  · obtain ⟨u4, rfl, e2, kvs, ks, hkv, hks, zks, hm, hv⟩ := p'
    have hjS : j < S.length := by omega
    obtain ⟨q', hq'⟩ : ∃ q', S[j]? = some q' := ⟨_, List.getElem?_eq_getElem hjS⟩
    obtain ⟨s1, hsj, ra, hs3, hra⟩ := pget' hs2 hq'
    have T2 := Tk.all (K := K) e2
    have e0 : (0 : Int) + (j : Int) = (j : Int) := Int.zero_add _
    rw [e0]
    have hat : atI (ss.map V.ref) (j : Int) = some (.ref s1) := atI_nat (by rw [List.getElem?_map, hsj]; rfl)
    obtain ⟨st1, st2⟩ := pl_step (base := (h.regs.length : Int)) hq' hks zks hm hv
    refine ⟨_, rfl, _, rfl, st, _, _, _, rfl, rfl, T2 _ _ hs1, hat, s1, _, _, _, rfl, rfl, T2 _ _ hs3, at0, _, rfl, d, _, rfl, DGet.k (k := Sum.inl q'.1) hkv, _, rfl, ?_⟩
    rw [key_has hks q'.1]
    by_cases c1 : q'.1 ∈ ks
    · rw [decide_eq_true c1]
      exact iteF ⟨_, rfl, e2, kvs, ks, hkv, hks, by omega, st1 c1, hv⟩
    · rw [decide_eq_false c1]
      obtain ⟨g1, g2, g3, g4⟩ := st2 c1
      have zkv : kvs.length < sizeLine := szl (by
        have z := congrArg List.length hks
        rw [List.length_map, List.length_map] at z
        omega)
      refine iteT ⟨_, rfl, a, _, _, _, rfl, rfl, T2 _ _ h1, at2, r, _, rfl, .inr (T2 _ _ h2), _, rfl, _, _, rfl, rfl, ?_⟩
      rw [lr]
      refine ⟨_, rfl, _, rfl, _, rfl, st, _, _, _, rfl, rfl, T2 _ _ hs1, hat, s1, _, _, _, rfl, rfl, T2 _ _ hs3, at0, d, _, rfl, DPut.k (k := Sum.inl q'.1) hkv zkv, ?_⟩
      exact ⟨_, rfl, e2.put fd, _, _, upd_same, g1, g2, g3, g4⟩
  · obtain ⟨u4, rfl, e2, kvs, ks, hkv, hks, zks, hm, hv⟩ := p'
    have T2 := Tk.all (K := K) e2
    have ekk : ((k : Nat) : Int).toNat = k := Int.toNat_natCast k
    rw [ekk] at hm
    obtain ⟨s1, hsj, ra, hs3, hra⟩ := pget' hs2 hp
    have hat : atI (ss.map V.ref) (k : Int) = some (.ref s1) := atI_nat (by rw [List.getElem?_map, hsj]; rfl)
    obtain ⟨n, rs⟩ := p
    have hra2 := RsAt.mono T2 hra
    refine ⟨_, rfl, _, rfl, st, _, _, _, rfl, rfl, T2 _ _ hs1, hat, s1, _, _, _, rfl, rfl, T2 _ _ hs3, at1, ?_⟩
    refine ⟨_, rfl, a, _, _, _, rfl, rfl, T2 _ _ h1, at2, r, _, rfl, .inr (T2 _ _ h2), _, rfl, _, _, rfl, rfl, ?_⟩
    rw [lr]
    have get : ∀ m ∈ rs.names, DGet H2 d (.int m) (some (.int (fp S (h.regs.length : Int) m))) := fun m hm' => DGet.k (k := Sum.inl m) hkv |> fun z => by rw [hv m ((hm m).mpr (hn m hm'))] at z; exact z
    have fin : ∀ t, H2 t = none → Q (.ref t) (upd H2 t (.tup (cmRow ((h.regs.length : Int) + (k : Int)) (fp S (h.regs.length : Int)) rs))) := fun t ft => q _ t (ExM.trans e2 (ExM.new ft)) (SqT.of upd_same)
    cases rs with
    | reg j =>
      have g1 : SqT K H2 ra [.str "register", .int (j : Nat)] := hra2
      refine ⟨_, rfl, ra, _, _, _, rfl, rfl, g1, at0, rfl, _, rfl, iteT ?_⟩
      exact ⟨_, rfl, _, rfl, ra, _, _, _, rfl, rfl, g1, at1, sz (by show 3 ≤ 100000; decide), fin⟩
    | fld m j =>
      have g1 : SqT K H2 ra [.str "field", .int m, .int (j : Nat)] := hra2
      have d1 := get m (by simp [Rs.names])
      refine ⟨_, rfl, ra, _, _, _, rfl, rfl, g1, at0, rfl, _, rfl, iteF ?_⟩
      refine ⟨_, rfl, ra, _, _, _, rfl, rfl, g1, at0, rfl, _, rfl, iteT ?_⟩
      exact ⟨_, rfl, _, rfl, _, rfl, ra, _, _, _, rfl, rfl, g1, at1, d, _, rfl, d1, _, rfl, ra, _, _, _, rfl, rfl, g1, at2, sz (by show 4 ≤ 100000; decide), fin⟩
    | ent m j =>
      have g1 : SqT K H2 ra [.str "entry", .int m, .int j] := hra2
      have d1 := get m (by simp [Rs.names])
      have d2 := get j (by simp [Rs.names])
      refine ⟨_, rfl, ra, _, _, _, rfl, rfl, g1, at0, rfl, _, rfl, iteF ?_⟩
      refine ⟨_, rfl, ra, _, _, _, rfl, rfl, g1, at0, rfl, _, rfl, iteF ?_⟩
      refine ⟨_, rfl, ra, _, _, _, rfl, rfl, g1, at0, rfl, _, rfl, iteT ?_⟩
      exact ⟨_, rfl, _, rfl, _, rfl, ra, _, _, _, rfl, rfl, g1, at1, d, _, rfl, d1, _, rfl, _, rfl, ra, _, _, _, rfl, rfl, g1, at2, d, _, rfl, d2, sz (by show 4 ≤ 100000; decide), fin⟩
    | drf m =>
      have g1 : SqT K H2 ra [.str "deref", .int m] := hra2
      have d1 := get m (by simp [Rs.names])
      refine ⟨_, rfl, ra, _, _, _, rfl, rfl, g1, at0, rfl, _, rfl, iteF ?_⟩
      refine ⟨_, rfl, ra, _, _, _, rfl, rfl, g1, at0, rfl, _, rfl, iteF ?_⟩
      refine ⟨_, rfl, ra, _, _, _, rfl, rfl, g1, at0, rfl, _, rfl, iteF ?_⟩
      exact ⟨_, rfl, _, rfl, _, rfl, ra, _, _, _, rfl, rfl, g1, at1, d, _, rfl, d1, sz (by show 3 ≤ 100000; decide), fin⟩
end
end Wc
namespace Wc
open PySem L2
theorem ent_one {es : List (Int × Int)} {q m : Int} (nd : (es.map (·.1)).Nodup) (h : (q, m) ∈ es) : es.filter (fun e => decide (e.1 = q)) = [(q, m)] := by
  induction es with
  | nil => cases h
  | cons e r ih =>
    obtain ⟨n1, n2⟩ := List.nodup_cons.mp nd
    rcases List.mem_cons.mp h with z | z
    · subst z
      rw [List.filter_cons, if_pos (by simp)]
      congr 1
      rw [List.filter_eq_nil_iff]
      intro e he c
      have c : e.1 = q := of_decide_eq_true c
      have z1 : e.1 ∈ r.map (·.1) := List.mem_map_of_mem (f := fun e : Int × Int => e.1) he
      exact n1 (by rw [c] at z1; exact z1)
    · have z1 : q ∈ r.map (·.1) := List.mem_map_of_mem (f := fun e : Int × Int => e.1) z
      have ne : ¬ e.1 = q := fun c => n1 (show e.1 ∈ r.map (·.1) by rw [c]; exact z1)
      rw [List.filter_cons, if_neg (by simp [ne])]
      exact ih n2 z
section
variable {P : Program} {w : World} {K : PySem.W.Frag} {mg : Str → Option Value} {base : PySem.Heap}
theorem ok__law_table {f : Addr} {fd : FuncData} {cd : Value} (F : Df K "_law_table" s__law_table f fd cd) (T : Txt mg) (C__law_of : Cal P w K mg base 1 "_law_of" (sp__law_of K) []) (C__law_load : Cal P w K mg base 1 "_law_load" (sp__law_load K) []) : FnOk P w K mg base CX0 2 f fd ["heap", "command"] (sp__law_table K) := by
  have nd := sc__law_table.nd
  refine F.ok sc__law_table (fun vs H Q E h => ?_) (fun A outer s H vs Q E hr h => ?_)
  · obtain ⟨_, _, rfl, _⟩ := h; rfl
  have hu := hu_of hr
  obtain ⟨x0, x1, rfl, h⟩ := h
  refine ⟨_, (pss_cons (ps_if (pt_cmpR op_eq (pe_ix (r := rIxT K) ix_tup (pv 1) pe_int (fun _ _ => rfl)) pe_str (nomark _)) (pss_cons (ps_set (i := 2) nd rfl (by first | exact Or.inl rfl | exact Or.inr rfl) (pe_c C__law_of hr (by first | exact Nat.le_refl _ | decide) rfl (pa_cons (pv 0) (pa_cons (pe_ix (r := rIxT K) ix_tup (pe_ix (r := rIxT K) ix_tup (pv 0) pe_int (fun _ _ => rfl)) (pe_ix (r := rIxT K) ix_tup (pv 1) pe_int (fun _ _ => rfl)) (fun _ _ => rfl)) pa_nil))))
    (pss_cons (ps_set (i := 3) nd rfl (by first | exact Or.inl rfl | exact Or.inr rfl) (pe_op op_cat (pe_lc (own := [("entry", 4)]) rfl nd (show PI _ _ _ (iTup K _) from pi_tup (pe_ix (r := rIxT K) ix_tup (pv 2) pe_int (fun _ _ => rfl))) (blkOk_by (own := [("entry", 4)]) (N := N__law_table) (sc := defScope s__law_table) (by decide +kernel)) (fun _ _ _ _ _ => (pg_name (i := 4) nd rfl (by first | exact Or.inl rfl | exact Or.inr rfl))) (fun _ _ _ _ _ => (pts_one (pt_cmpR op_eq (pe_ix (r := rIxT K) ix_tup (pv 4) pe_int (fun _ _ => rfl)) (pe_ix (r := rIxT K) ix_tup (pe_ix (r := rIxT K) ix_tup (pv 0) pe_int (fun _ _ => rfl)) (pe_ix (r := rIxT K) ix_tup (pv 1) pe_int (fun _ _ => rfl)) (fun _ _ => rfl)) (nomark _)))) (fun _ _ _ _ _ => (pe_ix (r := rIxT K) ix_tup (pv 4) pe_int (fun _ _ => rfl)))) (pe_lst (pa_cons pe_non pa_nil))))
    (pss_one (ps_ret (pe_lst (pa_cons (pe_c C__law_load hr (by first | exact Nat.le_refl _ | decide) rfl (pa_cons (pv 0) (pa_cons (pe_ix (r := rIxT K) ix_tup (pv 1) pe_int (fun _ _ => rfl)) (pa_cons (pe_ix (r := rIxL K) ix_list (pv 3) pe_int (fun _ _ => rfl)) pa_nil)))) (pa_cons (pe_ix (r := rIxL K) ix_list (pv 3) pe_int (fun _ _ => rfl)) pa_nil))))))) pss_nil)
    (pss_cons ps_never
    (pss_cons ps_never
    (pss_cons ps_never
    (pss_cons ps_never
    (pss_cons ps_never
    (pss_cons ps_never
    (Evl.pss_cut ps_never
    (pss_one ps_never))))))))), ?_⟩
  obtain ⟨a, h, c, to, pl, n, k, m, rfl, rfl, hA, hC, fit, hto, ⟨⟨i, ei, hi⟩, ⟨j, ej, hj⟩, es, hes, hkm, nde, zes⟩, q⟩ := h
  obtain ⟨r, kp, o, w, ws, h1, h2, h3, h4, h5, h6⟩ := id hA
  have hC : SqT K H c [.str "lookup", .int to, .int (pl n), .int (pl k)] := hC
  have hii : atI (h.regs.map rV) (pl n) = some (.int n) := by rw [ei]; exact atI_nat (by rw [List.getElem?_map, hi]; rfl)
  have hjj : atI (h.regs.map rV) (pl k) = some (.int k) := by rw [ej]; exact atI_nat (by rw [List.getElem?_map, hj]; rfl)
  refine ⟨_, rfl, c, _, _, _, rfl, rfl, hC, at0, rfl, _, rfl, iteT ?_⟩
  have hin : n ∈ h.nums := List.mem_map_of_mem (f := Ob.num) hes
  refine ⟨_, rfl, _, rfl, a, _, _, _, rfl, rfl, h1, at2, _, rfl, c, _, _, _, rfl, rfl, hC, at2, r, _, _, _, rfl, rfl, h2, hii, ?_⟩
  refine ⟨_, _, rfl, a, h, n, rfl, rfl, hA, hin, fun oa ob hob1 hob2 hob => ?_⟩
  have eo : ob = .tab n es := num_uniq fit.up hob1 hes hob2
  subst eo
  obtain ⟨t, ps, g1, gz2, g3⟩ := hob; have g2 := gz2.sq (K := K)
  refine ⟨_, rfl, oa, _, _, _, rfl, rfl, g1, at2, t, rfl, ⟨_, g2⟩, fun D hD => ?_⟩
  have hl := plen g3
  refine lcM [] (walk_tup (xs := ps.map V.ref)) hD (fun i acc _ => acc = (((es.take i).filter fun e => decide (e.1 = k)).map (·.2)).map V.int) rfl (fun H' e => Tk.all e _ _ g2) (fun i x H1 H2 acc hi' e k1 k2 hacc y => ?_) (fun H1 acc e1 k1 k2 hacc => ?_)
  · obtain ⟨rfl, hx⟩ := y
    rw [List.length_map] at hi'
    obtain ⟨p, hp⟩ : ∃ p, ps[i]? = some p := ⟨ps[i], List.getElem?_eq_getElem hi'⟩
    obtain ⟨e1, he1, hpa0⟩ := pget g3 hp
    have hpa := PairAt.mono (Tk.all e) hpa0
    rw [List.getElem?_map, hp] at hx
    obtain rfl : V.ref p = x := Option.some.inj hx
    have te := Tk.all (K := K) e
    refine ⟨rfl, _, rfl, p, _, _, _, rfl, rfl, hpa, at0, _, rfl, a, _, _, _, rfl, rfl, te _ _ h1, at2, _, rfl, c, _, _, _, rfl, rfl, te _ _ hC, at3, r, _, _, _, rfl, rfl, te _ _ h2, hjj, rfl, _, rfl, ?_⟩
    rw [int_eq]
    have ht := take_snoc he1
    by_cases m' : e1.1 = k
    · rw [decide_eq_true m']
      refine iteT ⟨_, rfl, p, _, _, _, rfl, rfl, hpa, at1, LcP.yes hD (by simp) (by omega) e k1 k2 (ExM.refl _ _) ?_⟩
      rw [hacc, ht, List.filter_append, List.map_append, List.map_append]
      simp [m']
    · rw [decide_eq_false m']
      refine iteF (LcP.no (by simp) e k1 k2 (ExM.refl _ _) ?_)
      rw [hacc, ht, List.filter_append, List.map_append, List.map_append]
      simp [m']
  rw [List.length_map, hl, List.take_length, ent_one nde hkm] at hacc
  have hacc : acc = [V.int m] := hacc
  subst hacc
  refine ⟨sz (by show 1 ≤ 100000; decide), fun l2 fl2 => ?_⟩
  refine ⟨D, l2, _, _, rfl, rfl, ExA.at (ExM.new fl2) k1, upd_same, sz (by simp), fun l3 fl3 => ?_⟩
  have e3 : ExA H (upd (upd H1 l2 (.lst [V.non])) l3 (.lst ([V.int m] ++ [V.non]))) := ExM.trans e1 (ExM.trans (ExM.new fl2) (ExM.new fl3))
  have hl3 : (upd (upd H1 l2 (.lst [V.non])) l3 (.lst ([V.int m] ++ [V.non]))) l3 = some (.lst [V.int m, V.non]) := upd_same
  generalize upd (upd H1 l2 (.lst [V.non])) l3 (.lst ([V.int m] ++ [V.non])) = H3 at e3 hl3 ⊢
  have T3 := Tk.all (K := K) e3
  refine ⟨_, rfl, _, rfl, c, _, _, _, rfl, rfl, T3 _ _ hC, at1, _, rfl, l3, _, _, _, rfl, rfl, SqL.of hl3, at0, ?_⟩
  refine ⟨_, _, _, rfl, a, h, to, some m, rfl, rfl, rfl, HpAt.mono T3 hA, hto, fit.regs, fun H4 wa e4 hw => ?_⟩
  refine ⟨_, rfl, l3, _, _, _, rfl, rfl, SqL.of (ExA.at e4 hl3), at0, sz (by show 2 ≤ 100000; decide), fun p fp => ?_⟩
  exact q _ p wa { h with regs := h.regs.set to (some m) } (ExM.trans e3 (ExM.trans e4 (ExM.new fp))) upd_same (HpAt.mono (Tk.new fp) hw) rfl rfl (Nat.le_succ _)
theorem ok__law_do {f : Addr} {fd : FuncData} {cd : Value} (F : Df K "_law_do" s__law_do f fd cd) (T : Txt mg) (C__law_of : Cal P w K mg base 1 "_law_of" (sp__law_of K) []) (C__law_load : Cal P w K mg base 1 "_law_load" (sp__law_load K) []) (C__law_keep : Cal P w K mg base 1 "_law_keep" (sp__law_keep K) []) (C__law_table : Cal P w K mg base 2 "_law_table" (sp__law_table K) []) : FnOk P w K mg base CX0 3 f fd ["heap", "command"] (sp__law_do K) := by
  have nd := sc__law_do.nd
  refine F.ok sc__law_do (fun vs H Q E h => ?_) (fun A outer s H vs Q E hr h => ?_)
  · obtain ⟨_, _, rfl, _⟩ := h; rfl
  have hu := hu_of hr
  obtain ⟨x0, x1, rfl, h⟩ := h
  refine ⟨_, (pss_cons (ps_set (i := 2) nd rfl (by first | exact Or.inl rfl | exact Or.inr rfl) (pe_ix (r := rIxT K) ix_tup (pv 1) pe_int (fun _ _ => rfl)))
    (pss_cons (ps_set (i := 3) nd rfl (by first | exact Or.inl rfl | exact Or.inr rfl) (pe_ix (r := rIxT K) ix_tup (pv 0) pe_int (fun _ _ => rfl)))
    (pss_cons (ps_if (pt_cmpR op_eq (pv 2) pe_str (nomark _)) (pss_one ps_never) pss_nil)
    (pss_cons (ps_if (pt_cmpR op_eq (pv 2) pe_str (nomark _)) (pss_one ps_never) pss_nil)
    (pss_cons (ps_if (pt_cmpR op_eq (pv 2) pe_str (nomark _)) (pss_one ps_never) pss_nil)
    (pss_cons (ps_if (pt_cmpR op_eq (pv 2) pe_str (nomark _)) (pss_one (ps_ret (pe_lst (pa_cons (pe_c C__law_load hr (by first | exact Nat.le_refl _ | decide) rfl (pa_cons (pv 0) (pa_cons (pe_ix (r := rIxT K) ix_tup (pv 1) pe_int (fun _ _ => rfl)) (pa_cons (pe_ix (r := rIxT K) ix_tup (pv 3) (pe_ix (r := rIxT K) ix_tup (pv 1) pe_int (fun _ _ => rfl)) (fun _ _ => rfl)) pa_nil)))) (pa_cons (pe_ix (r := rIxT K) ix_tup (pv 3) (pe_ix (r := rIxT K) ix_tup (pv 1) pe_int (fun _ _ => rfl)) (fun _ _ => rfl)) pa_nil))))) pss_nil)
    (pss_cons (ps_if (pt_cmpR op_eq (pv 2) pe_str (nomark _)) (pss_one ps_never) pss_nil)
    (pss_cons (ps_if (pt_cmpR op_eq (pv 2) pe_str (nomark _)) (pss_cons (ps_set (i := 4) nd rfl (by first | exact Or.inl rfl | exact Or.inr rfl) (pe_ix (r := rIxT K) ix_tup (pe_ix (r := rIxT K) ix_tup (pe_c C__law_of hr (by first | exact Nat.le_refl _ | decide) rfl (pa_cons (pv 0) (pa_cons (pe_ix (r := rIxT K) ix_tup (pv 3) (pe_ix (r := rIxT K) ix_tup (pv 1) pe_int (fun _ _ => rfl)) (fun _ _ => rfl)) pa_nil))) pe_int (fun _ _ => rfl)) (pe_ix (r := rIxT K) ix_tup (pv 1) pe_int (fun _ _ => rfl)) (fun _ _ => rfl)))
    (pss_one (ps_ret (pe_lst (pa_cons (pe_c C__law_load hr (by first | exact Nat.le_refl _ | decide) rfl (pa_cons (pv 0) (pa_cons (pe_ix (r := rIxT K) ix_tup (pv 1) pe_int (fun _ _ => rfl)) (pa_cons (pv 4) pa_nil)))) (pa_cons (pv 4) pa_nil)))))) pss_nil)
    (pss_cons (ps_if (pt_cmpR op_eq (pv 2) pe_str (nomark _)) (pss_cons ps_never
    (pss_cons ps_never
    (pss_one ps_never))) pss_nil)
    (pss_cons (ps_if (pt_cmpR op_eq (pv 2) pe_str (nomark _)) (pss_cons (ps_set (i := 4) nd rfl (by first | exact Or.inl rfl | exact Or.inr rfl) (pe_ix (r := rIxT K) ix_tup (pe_c C__law_of hr (by first | exact Nat.le_refl _ | decide) rfl (pa_cons (pv 0) (pa_cons (pe_ix (r := rIxT K) ix_tup (pv 3) (pe_ix (r := rIxT K) ix_tup (pv 1) pe_int (fun _ _ => rfl)) (fun _ _ => rfl)) pa_nil))) pe_int (fun _ _ => rfl)))
    (pss_one (ps_ret (pe_lst (pa_cons (pe_c C__law_load hr (by first | exact Nat.le_refl _ | decide) rfl (pa_cons (pe_c C__law_keep hr (by first | exact Nat.le_refl _ | decide) rfl (pa_cons (pv 0) (pa_cons (pv 4) pa_nil))) (pa_cons (pe_ix (r := rIxT K) ix_tup (pv 1) pe_int (fun _ _ => rfl)) (pa_cons (pv 4) pa_nil)))) (pa_cons (pv 4) pa_nil)))))) pss_nil)
    (pss_cons (ps_if (pt_cmpR op_eq (pv 2) pe_str (nomark _)) (pss_one ps_never) pss_nil)
    (pss_cons (ps_if (pt_cmpR op_eq (pv 2) pe_str (nomark _)) (pss_one ps_never) pss_nil)
    (pss_one (ps_ret (pe_c C__law_table hr (by first | exact Nat.le_refl _ | decide) rfl (pa_cons (pv 0) (pa_cons (pv 1) pa_nil))))))))))))))))), ?_⟩
  obtain ⟨a, h, c, to, pl, r, m, rfl, rfl, hA, hC, fit, hto, rd, q⟩ := h
  obtain ⟨rg, kp, o, w, ws, h1, h2, h3, h4, h5, h6⟩ := id hA
  cases r with
  | reg k =>
    have hC : SqT K H c [.str "copy", .int to, .int (k : Nat)] := hC
    have hk : atI (h.regs.map rV) (k : Int) = some (.int m) := atI_nat (by rw [List.getElem?_map, rd]; rfl)
    refine ⟨_, rfl, c, _, _, _, rfl, rfl, hC, at0, ?_⟩
    refine ⟨_, rfl, a, _, _, _, rfl, rfl, h1, at2, ?_⟩
    refine ⟨_, rfl, rfl, _, rfl, iteF ⟨_, rfl, rfl, _, rfl, iteF ⟨_, rfl, rfl, _, rfl, iteF ⟨_, rfl, rfl, _, rfl, iteT ?_⟩⟩⟩⟩
    refine ⟨_, rfl, _, rfl, c, _, _, _, rfl, rfl, hC, at1, _, rfl, _, rfl, c, _, _, _, rfl, rfl, hC, at2, rg, _, _, _, rfl, rfl, h2, hk, ?_⟩
    refine ⟨_, _, _, rfl, a, h, to, some m, rfl, rfl, rfl, hA, hto, fit.regs, fun H4 wa e4 hw => ?_⟩
    have T4 := Tk.all (K := K) e4
    refine ⟨_, rfl, _, rfl, c, _, _, _, rfl, rfl, T4 _ _ hC, at2, rg, _, _, _, rfl, rfl, T4 _ _ h2, hk, sz (by show 2 ≤ 100000; decide), fun p fp => ?_⟩
    exact q _ p wa { h with regs := h.regs.set to (some m) } (ExM.trans e4 (ExM.new fp)) upd_same (HpAt.mono (Tk.new fp) hw) rfl rfl (Nat.le_succ _)
  | fld n k =>
    obtain ⟨⟨i, ei, hi⟩, fs, hfs, hk⟩ := rd
    have hC : SqT K H c [.str "read", .int to, .int (pl n), .int (k : Nat)] := hC
    have hii : atI (h.regs.map rV) (pl n) = some (.int n) := by rw [ei]; exact atI_nat (by rw [List.getElem?_map, hi]; rfl)
    have hkk : atI (fs.map rV) (k : Int) = some (.int m) := atI_nat (by rw [List.getElem?_map, hk]; rfl)
    have hin : n ∈ h.nums := List.mem_map_of_mem (f := Ob.num) hfs
    refine ⟨_, rfl, c, _, _, _, rfl, rfl, hC, at0, ?_⟩
    refine ⟨_, rfl, a, _, _, _, rfl, rfl, h1, at2, ?_⟩
    refine ⟨_, rfl, rfl, _, rfl, iteF ⟨_, rfl, rfl, _, rfl, iteF ⟨_, rfl, rfl, _, rfl, iteF ⟨_, rfl, rfl, _, rfl, iteF ⟨_, rfl, rfl, _, rfl, iteF ⟨_, rfl, rfl, _, rfl, iteT ?_⟩⟩⟩⟩⟩⟩
    refine ⟨_, rfl, _, rfl, _, rfl, c, _, _, _, rfl, rfl, hC, at2, rg, _, _, _, rfl, rfl, h2, hii, ?_⟩
    refine ⟨_, _, rfl, a, h, n, rfl, rfl, hA, hin, fun oa ob hob1 hob2 hob => ?_⟩
    have eo : ob = .rcd n fs := num_uniq fit.up hob1 hfs hob2
    subst eo
    obtain ⟨t, g1, g2⟩ := hob
    refine ⟨oa, _, _, _, rfl, rfl, g1, at2, _, rfl, c, _, _, _, rfl, rfl, hC, at3, t, _, _, _, rfl, rfl, g2.sq, hkk, ?_⟩
    refine ⟨_, rfl, _, rfl, c, _, _, _, rfl, rfl, hC, at1, _, rfl, ?_⟩
    refine ⟨_, _, _, rfl, a, h, to, some m, rfl, rfl, rfl, hA, hto, fit.regs, fun H4 wa e4 hw => ?_⟩
    refine ⟨_, rfl, sz (by show 2 ≤ 100000; decide), fun p fp => ?_⟩
    exact q _ p wa { h with regs := h.regs.set to (some m) } (ExM.trans e4 (ExM.new fp)) upd_same (HpAt.mono (Tk.new fp) hw) rfl rfl (Nat.le_succ _)
  | ent n k =>
    have hC' : SqT K H c [.str "lookup", .int to, .int (pl n), .int (pl k)] := hC
    refine ⟨_, rfl, c, _, _, _, rfl, rfl, hC', at0, ?_⟩
    refine ⟨_, rfl, a, _, _, _, rfl, rfl, h1, at2, ?_⟩
    refine ⟨_, rfl, rfl, _, rfl, iteF ⟨_, rfl, rfl, _, rfl, iteF ⟨_, rfl, rfl, _, rfl, iteF ⟨_, rfl, rfl, _, rfl, iteF ⟨_, rfl, rfl, _, rfl, iteF ⟨_, rfl, rfl, _, rfl, iteF ⟨_, rfl, rfl, _, rfl, iteF ⟨_, rfl, rfl, _, rfl, iteF ⟨_, rfl, rfl, _, rfl, iteF ⟨_, rfl, rfl, _, rfl, iteF ?_⟩⟩⟩⟩⟩⟩⟩⟩⟩⟩
    exact ⟨_, rfl, _, rfl, _, _, rfl, a, h, c, to, pl, n, k, m, rfl, rfl, hA, hC, fit, hto, rd, q⟩
  | drf n =>
    obtain ⟨⟨i, ei, hi⟩, hwk⟩ := rd
    have hC : SqT K H c [.str "deref", .int to, .int (pl n)] := hC
    have hii : atI (h.regs.map rV) (pl n) = some (.int n) := by rw [ei]; exact atI_nat (by rw [List.getElem?_map, hi]; rfl)
    have hin : n ∈ h.nums := List.mem_map_of_mem (f := Ob.num) hwk
    refine ⟨_, rfl, c, _, _, _, rfl, rfl, hC, at0, ?_⟩
    refine ⟨_, rfl, a, _, _, _, rfl, rfl, h1, at2, ?_⟩
    refine ⟨_, rfl, rfl, _, rfl, iteF ⟨_, rfl, rfl, _, rfl, iteF ⟨_, rfl, rfl, _, rfl, iteF ⟨_, rfl, rfl, _, rfl, iteF ⟨_, rfl, rfl, _, rfl, iteF ⟨_, rfl, rfl, _, rfl, iteF ⟨_, rfl, rfl, _, rfl, iteF ⟨_, rfl, rfl, _, rfl, iteT ?_⟩⟩⟩⟩⟩⟩⟩⟩
    refine ⟨_, rfl, _, rfl, _, rfl, c, _, _, _, rfl, rfl, hC, at2, rg, _, _, _, rfl, rfl, h2, hii, ?_⟩
    refine ⟨_, _, rfl, a, h, n, rfl, rfl, hA, hin, fun oa ob hob1 hob2 hob => ?_⟩
    have eo : ob = .weak n (some m) := num_uniq fit.up hob1 hwk hob2
    subst eo
    have g1 : SqT K H oa [.str "weak", .int n, .int m] := hob
    refine ⟨oa, _, _, _, rfl, rfl, g1, at2, ?_⟩
    refine ⟨_, rfl, _, rfl, _, _, rfl, a, h, m, rfl, rfl, hA, fit.kept, fun H4 p k' e4 zk hw => ?_⟩
    have T4 := Tk.all (K := K) e4
    refine ⟨_, rfl, c, _, _, _, rfl, rfl, T4 _ _ hC, at1, _, rfl, ?_⟩
    refine ⟨_, _, _, rfl, p, { h with kept := k' }, to, some m, rfl, rfl, rfl, hw, hto, fit.regs, fun H5 wa e5 hw5 => ?_⟩
    refine ⟨_, rfl, sz (by show 2 ≤ 100000; decide), fun p2 fp => ?_⟩
    exact q _ p2 wa { h with kept := k', regs := h.regs.set to (some m) } (ExM.trans e4 (ExM.trans e5 (ExM.new fp))) upd_same (HpAt.mono (Tk.new fp) hw5) rfl rfl zk
theorem ok__law_fault {f : Addr} {fd : FuncData} {cd : Value} (F : Df K "_law_fault" s__law_fault f fd cd) (T : Txt mg) (C__law_needed : Cal P w K mg base 1 "_law_needed" (sp__law_needed K) []) (C__law_of : Cal P w K mg base 1 "_law_of" (sp__law_of K) []) : FnOk P w K mg base CX0 2 f fd ["heap", "command"] (sp__law_fault K) := by
  have nd := sc__law_fault.nd
  refine F.ok sc__law_fault (fun vs H Q E h => ?_) (fun A outer s H vs Q E hr h => ?_)
  · obtain ⟨_, _, rfl, _⟩ := h; rfl
  have hu := hu_of hr
  obtain ⟨x0, x1, rfl, h⟩ := h
  refine ⟨_, (pss_cons (ps_for PassesOwn.never rfl (show PI _ _ _ (iList K _) from pi_list (pe_c C__law_needed hr (by first | exact Nat.le_refl _ | decide) rfl (pa_cons (pv 1) pa_nil))) (pg_name (i := 2) nd rfl (by first | exact Or.inl rfl | exact Or.inr rfl))
    (pss_one (ps_if (pt_cmpR op_isN (pe_ix (r := rIxT K) ix_tup (pe_ix (r := rIxT K) ix_tup (pv 0) pe_int (fun _ _ => rfl)) (pv 2) (fun _ _ => rfl)) pe_non (nomark _)) (pss_one ps_never) pss_nil)))
    (pss_cons (ps_set (i := 3) nd rfl (by first | exact Or.inl rfl | exact Or.inr rfl) (pe_ix (r := rIxT K) ix_tup (pv 1) pe_int (fun _ _ => rfl)))
    (pss_cons (ps_set (i := 4) nd rfl (by first | exact Or.inl rfl | exact Or.inr rfl) (pe_disp (pps_cons pe_str (pe_lst (pa_cons pe_str (pa_cons pe_int pa_nil))) (pps_cons pe_str (pe_lst (pa_cons pe_str (pa_cons pe_int pa_nil))) (pps_cons pe_str (pe_lst (pa_cons pe_str (pa_cons pe_int pa_nil))) (pps_cons pe_str (pe_lst (pa_cons pe_str (pa_cons pe_int pa_nil))) (pps_cons pe_str (pe_lst (pa_cons pe_str (pa_cons pe_int pa_nil))) (pps_cons pe_str (pe_lst (pa_cons pe_str (pa_cons pe_int pa_nil))) pps_nil)))))) rfl rfl (by simp) (by decide)))
    (Evl.pss_cut (ps_if (pt_cmp (pc_din hu (pv 3) (pv 4)) rfl) (pss_cons (ps_set (i := 5) nd rfl (by first | exact Or.inl rfl | exact Or.inr rfl) (pe_c C__law_of hr (by first | exact Nat.le_refl _ | decide) rfl (pa_cons (pv 0) (pa_cons (pe_ix (r := rIxT K) ix_tup (pe_ix (r := rIxT K) ix_tup (pv 0) pe_int (fun _ _ => rfl)) (pe_ix (r := rIxT K) ix_tup (pv 1) (pe_ix (r := rIxL K) ix_list (pe_dget hu (pv 4) (pv 3) (fun _ _ => rfl)) pe_int (fun _ _ => rfl)) (fun _ _ => rfl)) (fun _ _ => rfl)) pa_nil))))
    (pss_cons (ps_if (pt_cmpR op_ne (pe_ix (r := rIxT K) ix_tup (pv 5) pe_int (fun _ _ => rfl)) (pe_ix (r := rIxL K) ix_list (pe_dget hu (pv 4) (pv 3) (fun _ _ => rfl)) pe_int (fun _ _ => rfl)) (nomark _)) (pss_one ps_never) pss_nil)
    (pss_cons (ps_if (PW.pt (pw_and (pt_cmpR op_eq (pv 3) pe_str (nomark _)) (pw_and1 (pt_cmpR op_ge (pe_ix (r := rIxT K) ix_tup (pv 1) pe_int (fun _ _ => rfl)) (pe_callB (r := Evl.rLenS K) call_len_seq rfl T.len PySem.boot_len (pa_cons (pe_ix (r := rIxT K) ix_tup (pv 5) pe_int (fun _ _ => rfl)) pa_nil)) (nomark _))))) (pss_one ps_never) pss_nil)
    (pss_one (ps_if (PW.pt (pw_and (pt_cmpR op_eq (pv 3) pe_str (nomark _)) (pw_and1 (pt_cmpR op_ge (pe_ix (r := rIxT K) ix_tup (pv 1) pe_int (fun _ _ => rfl)) (pe_callB (r := Evl.rLenS K) call_len_seq rfl T.len PySem.boot_len (pa_cons (pe_ix (r := rIxT K) ix_tup (pv 5) pe_int (fun _ _ => rfl)) pa_nil)) (nomark _))))) (pss_one ps_never) pss_nil))))) pss_nil)
    (pss_one (ps_ret pe_non)))))), ?_⟩
  obtain ⟨a, h, c, to, pl, r, m, rfl, rfl, hA, hC, fit, rd, q⟩ := h
  obtain ⟨rg, kp, o, w, ws, h1, h2, h3, h4, h5, h6⟩ := id hA
  have hall : ∀ n ∈ r.names, atI (h.regs.map rV) (pl n) = some (.int n) := fun n hn => by
    have key : ∃ i : Nat, pl n = (i : Int) ∧ h.regs[i]? = some (some n) := by
      cases r with
      | reg k => simp [Rs.names] at hn
      | fld n' k => obtain rfl : n = n' := by simpa [Rs.names] using hn
                    exact rd.1
      | ent n' k =>
        rcases List.mem_cons.mp (show n ∈ [n', k] from hn) with z | z
        · subst z; exact rd.1
        · obtain rfl : n = k := by simpa using z
          exact rd.2.1
      | drf n' => obtain rfl : n = n' := by simpa [Rs.names] using hn
                  exact rd.1
    obtain ⟨i, ei, hi⟩ := key
    rw [ei]; exact atI_nat (by rw [List.getElem?_map, hi]; rfl)
  refine ⟨_, rfl, _, rfl, c, to, pl, r, rfl, hC, fun ln H1 fl e1 hln => ⟨ln, rfl, ⟨_, SqL.of hln⟩, ?_⟩⟩
  have T1 := Tk.all (K := K) e1
  refine for_it (walk_list (xs := (r.names.map pl).map V.int)) (fun i σ2 H2 => ∃ u2 : Option V, σ2 = [some (.ref a), some (.ref c), u2, none, none, none] ∧ H2 = H1)
    ⟨none, rfl, rfl⟩ (fun i σ2 H2 _ p => ?_) (fun i x σ2 H2 H3 hi p y => ?_) (fun σ2 H2 p => ?_)
  · obtain ⟨_, _, rfl⟩ := p
    exact SqL.of hln
  · obtain ⟨rfl, hx⟩ := y
    obtain ⟨u2, rfl, rfl⟩ := p
    rw [List.length_map, List.length_map] at hi
    obtain ⟨n, hn⟩ : ∃ n, r.names[i]? = some n := ⟨_, List.getElem?_eq_getElem hi⟩
    rw [List.getElem?_map, List.getElem?_map, hn] at hx
    obtain rfl : V.int (pl n) = x := Option.some.inj hx
    exact ⟨_, rfl, a, _, _, _, rfl, rfl, T1 _ _ h1, at2, _, rfl, rg, _, _, _, rfl, rfl, T1 _ _ h2, hall n (List.mem_of_getElem? hn), rfl, _, rfl, iteF ⟨_, rfl, rfl⟩⟩
  obtain ⟨u2, rfl, rfl⟩ := p
  have mt : ∃ kd rest, cmRow (to : Int) pl r = .str kd :: rest := by cases r <;> exact ⟨_, _, rfl⟩
  obtain ⟨kd, rest, ekd⟩ := mt
  refine ⟨_, rfl, c, _, _, _, rfl, rfl, T1 _ _ hC, by rw [ekd]; exact at0, ?_⟩
  intro wd fwd
  have x0 : ExA H2 (upd H2 wd (.dK [])) := ExM.new fwd
  have hw : (upd H2 wd (.dK [])) wd = some (.dK []) := upd_same
  generalize upd H2 wd (.dK []) = A0 at x0 hw ⊢
  refine ⟨sz (by show 2 ≤ 100000; decide), fun l1 f1 => ?_⟩
  have x1 : ExA A0 (upd A0 l1 (.lst [.str "record", .int 2])) := ExM.new f1
  have y1 : (upd A0 l1 (.lst [.str "record", .int 2])) l1 = some (.lst [.str "record", .int 2]) := upd_same
  generalize upd A0 l1 (.lst [.str "record", .int 2]) = A1 at x1 y1 ⊢
  refine ⟨sz (by show 2 ≤ 100000; decide), fun l2 f2 => ?_⟩
  have x2 : ExA A1 (upd A1 l2 (.lst [.str "record", .int 1])) := ExM.new f2
  have y2 : (upd A1 l2 (.lst [.str "record", .int 1])) l2 = some (.lst [.str "record", .int 1]) := upd_same
  generalize upd A1 l2 (.lst [.str "record", .int 1]) = A2 at x2 y2 ⊢
  have x02 : ExA A0 A2 := ExM.trans x1 x2
  refine ⟨sz (by show 2 ≤ 100000; decide), fun l3 f3 => ?_⟩
  have x3 : ExA A2 (upd A2 l3 (.lst [.str "weak", .int 2])) := ExM.new f3
  have y3 : (upd A2 l3 (.lst [.str "weak", .int 2])) l3 = some (.lst [.str "weak", .int 2]) := upd_same
  generalize upd A2 l3 (.lst [.str "weak", .int 2]) = A3 at x3 y3 ⊢
  have x03 : ExA A0 A3 := ExM.trans x02 x3
  refine ⟨sz (by show 2 ≤ 100000; decide), fun l4 f4 => ?_⟩
  have x4 : ExA A3 (upd A3 l4 (.lst [.str "table", .int 1])) := ExM.new f4
  have y4 : (upd A3 l4 (.lst [.str "table", .int 1])) l4 = some (.lst [.str "table", .int 1]) := upd_same
  generalize upd A3 l4 (.lst [.str "table", .int 1]) = A4 at x4 y4 ⊢
  have x04 : ExA A0 A4 := ExM.trans x03 x4
  refine ⟨sz (by show 2 ≤ 100000; decide), fun l5 f5 => ?_⟩
  have x5 : ExA A4 (upd A4 l5 (.lst [.str "table", .int 1])) := ExM.new f5
  have y5 : (upd A4 l5 (.lst [.str "table", .int 1])) l5 = some (.lst [.str "table", .int 1]) := upd_same
  generalize upd A4 l5 (.lst [.str "table", .int 1]) = A5 at x5 y5 ⊢
  have x05 : ExA A0 A5 := ExM.trans x04 x5
  refine ⟨sz (by show 2 ≤ 100000; decide), fun l6 f6 => ?_⟩
  have x6 : ExA A5 (upd A5 l6 (.lst [.str "table", .int 2])) := ExM.new f6
  have y6 : (upd A5 l6 (.lst [.str "table", .int 2])) l6 = some (.lst [.str "table", .int 2]) := upd_same
  generalize upd A5 l6 (.lst [.str "table", .int 2]) = A6 at x6 y6 ⊢
  have x06 : ExA A0 A6 := ExM.trans x05 x6
  have hw6 := ExA.at x06 hw
  obtain ⟨kvs, ekv⟩ : ∃ kvs : List (Key × V), kvs = ([((Sum.inr "read" : Key), V.ref l1), ((Sum.inr "write" : Key), V.ref l2), ((Sum.inr "deref" : Key), V.ref l3), ((Sum.inr "put" : Key), V.ref l4), ((Sum.inr "remove" : Key), V.ref l5), ((Sum.inr "lookup" : Key), V.ref l6)] : List (Key × V)) := ⟨_, rfl⟩
  refine ⟨hw6, kvs, by rw [ekv]; rfl, by rw [ekv]; simp, ?_⟩
  have hwd : (upd A6 wd (.dK (mergeK [] kvs))) wd = some (.dK (mergeK [] kvs)) := upd_same
  have g1 : (upd A6 wd (.dK (mergeK [] kvs))) l1 = some (.lst [.str "record", .int 2]) := by
    rw [upd_ne (ne_of_none hw f1).symm]; exact ExA.at x6 (ExA.at x5 (ExA.at x4 (ExA.at x3 (ExA.at x2 y1))))
  have g3 : (upd A6 wd (.dK (mergeK [] kvs))) l3 = some (.lst [.str "weak", .int 2]) := by
    rw [upd_ne (ne_of_none (ExA.at x02 hw) f3).symm]; exact ExA.at x6 (ExA.at x5 (ExA.at x4 y3))
  have g6 : (upd A6 wd (.dK (mergeK [] kvs))) l6 = some (.lst [.str "table", .int 2]) := by
    rw [upd_ne (ne_of_none (ExA.at x05 hw) f6).symm]; exact y6
  have e7 : ExA H (upd A6 wd (.dK (mergeK [] kvs))) := (ExM.trans e1 (ExM.trans x0 x06)).put (ExA.free e1 fwd)
  have T7 := Tk.all (K := K) e7
  have hC7 := T7 _ _ hC
  have hA7 := HpAt.mono T7 hA
  have h17 := T7 _ _ h1
  have h27 := T7 _ _ h2
  generalize upd A6 wd (.dK (mergeK [] kvs)) = A7 at hwd g1 g3 g6 e7 T7 hC7 hA7 h17 h27 ⊢
  refine ⟨fun _ H' => ExA H H', ?_, fun _ H' e => q H' e⟩
  cases r with
  | reg k =>
    have ek : kd = "copy" := (V.str.inj (List.cons.inj ekd).1).symm
    subst ek
    have look : valV (mergeK [] kvs) (Sum.inr "copy") = none := by rw [ekv]; rfl
    refine ⟨_, rfl, _, rfl, wd, _, rfl, DGet.k (k := Sum.inr "copy") hwd, _, rfl, ?_⟩
    rw [look]
    exact iteF e7
  | fld n k =>
    have ek : kd = "read" := (V.str.inj (List.cons.inj ekd).1).symm
    subst ek
    have look : valV (mergeK [] kvs) (Sum.inr "read") = some (.ref l1) := by rw [ekv]; rfl
    have dg : DGet A7 wd (.str "read") (some (.ref l1)) := DGet.k (k := Sum.inr "read") hwd |> fun z => by rw [look] at z; exact z
    obtain ⟨_, fs, hfs, hk⟩ := rd
    have hin : n ∈ h.nums := List.mem_map_of_mem (f := Ob.num) hfs
    have hC8 : SqT K A7 c [.str "read", .int to, .int (pl n), .int (k : Nat)] := hC7
    refine ⟨_, rfl, _, rfl, wd, _, rfl, dg, _, rfl, iteT ?_⟩
    refine ⟨_, rfl, _, rfl, a, _, _, _, rfl, rfl, h17, at2, _, rfl, _, rfl, _, rfl, wd, _, rfl, dg, l1, _, _, _, rfl, rfl, SqL.of g1, at1, c, _, _, _, rfl, rfl, hC8, at2, rg, _, _, _, rfl, rfl, h27, hall n (by simp [Rs.names]), ?_⟩
    refine ⟨_, _, rfl, a, h, n, rfl, rfl, hA7, hin, fun oa ob hob1 hob2 hob => ?_⟩
    have eo : ob = .rcd n fs := num_uniq fit.up hob1 hfs hob2
    subst eo
    obtain ⟨t, o1, o2⟩ := hob
    refine ⟨_, rfl, oa, _, _, _, rfl, rfl, o1, at0, _, rfl, _, rfl, wd, _, rfl, dg, l1, _, _, _, rfl, rfl, SqL.of g1, at0, rfl, _, rfl, iteF ?_⟩
    have hk' : k < fs.length := (List.getElem?_eq_some_iff.mp hk).1
    unfold tNext
    dsimp only
    show tSeq (tIfS (tAnd _ _) _ _) _ _ _ _
    refine and_join true false (fun Q' z => ⟨_, rfl, rfl, _, rfl, z⟩) (fun _ Q' z => ⟨_, rfl, c, _, _, _, rfl, rfl, hC8, at3, _, rfl, oa, _, _, _, rfl, rfl, o1, at2, t, _, rfl, .inr o2.sq, _, _, rfl, rfl, _, rfl, ?_⟩) ?_
    · rw [decide_eq_false (by rw [List.length_map]; omega)]; exact z
    refine iteF ?_
    dsimp only
    show tIfS (tAnd _ _) _ _ _ _ _
    refine and_join false false (fun Q' z => ⟨_, rfl, rfl, _, rfl, z⟩) (fun z => nomatch z) ?_
    refine iteF ?_
    exact e7
  | ent n k =>
    have ek : kd = "lookup" := (V.str.inj (List.cons.inj ekd).1).symm
    subst ek
    have look : valV (mergeK [] kvs) (Sum.inr "lookup") = some (.ref l6) := by rw [ekv]; rfl
    have dg : DGet A7 wd (.str "lookup") (some (.ref l6)) := DGet.k (k := Sum.inr "lookup") hwd |> fun z => by rw [look] at z; exact z
    obtain ⟨_, _, es, hes, _⟩ := rd
    have hin : n ∈ h.nums := List.mem_map_of_mem (f := Ob.num) hes
    have hC8 : SqT K A7 c [.str "lookup", .int to, .int (pl n), .int (pl k)] := hC7
    refine ⟨_, rfl, _, rfl, wd, _, rfl, dg, _, rfl, iteT ?_⟩
    refine ⟨_, rfl, _, rfl, a, _, _, _, rfl, rfl, h17, at2, _, rfl, _, rfl, _, rfl, wd, _, rfl, dg, l6, _, _, _, rfl, rfl, SqL.of g6, at1, c, _, _, _, rfl, rfl, hC8, at2, rg, _, _, _, rfl, rfl, h27, hall n (by simp [Rs.names]), ?_⟩
    refine ⟨_, _, rfl, a, h, n, rfl, rfl, hA7, hin, fun oa ob hob1 hob2 hob => ?_⟩
    have eo : ob = .tab n es := num_uniq fit.up hob1 hes hob2
    subst eo
    obtain ⟨t, ps, o1, oz2, o3⟩ := hob; have o2 := oz2.sq (K := K)
    refine ⟨_, rfl, oa, _, _, _, rfl, rfl, o1, at0, _, rfl, _, rfl, wd, _, rfl, dg, l6, _, _, _, rfl, rfl, SqL.of g6, at0, rfl, _, rfl, iteF ?_⟩
    unfold tNext
    dsimp only
    show tSeq (tIfS (tAnd _ _) _ _) _ _ _ _
    refine and_join false false (fun Q' z => ⟨_, rfl, rfl, _, rfl, z⟩) (fun z => nomatch z) ?_
    refine iteF ?_
    dsimp only
    show tIfS (tAnd _ _) _ _ _ _ _
    refine and_join false false (fun Q' z => ⟨_, rfl, rfl, _, rfl, z⟩) (fun z => nomatch z) ?_
    refine iteF ?_
    exact e7
  | drf n =>
    have ek : kd = "deref" := (V.str.inj (List.cons.inj ekd).1).symm
    subst ek
    have look : valV (mergeK [] kvs) (Sum.inr "deref") = some (.ref l3) := by rw [ekv]; rfl
    have dg : DGet A7 wd (.str "deref") (some (.ref l3)) := DGet.k (k := Sum.inr "deref") hwd |> fun z => by rw [look] at z; exact z
    obtain ⟨_, hwk⟩ := rd
    have hin : n ∈ h.nums := List.mem_map_of_mem (f := Ob.num) hwk
    have hC8 : SqT K A7 c [.str "deref", .int to, .int (pl n)] := hC7
    refine ⟨_, rfl, _, rfl, wd, _, rfl, dg, _, rfl, iteT ?_⟩
    refine ⟨_, rfl, _, rfl, a, _, _, _, rfl, rfl, h17, at2, _, rfl, _, rfl, _, rfl, wd, _, rfl, dg, l3, _, _, _, rfl, rfl, SqL.of g3, at1, c, _, _, _, rfl, rfl, hC8, at2, rg, _, _, _, rfl, rfl, h27, hall n (by simp [Rs.names]), ?_⟩
    refine ⟨_, _, rfl, a, h, n, rfl, rfl, hA7, hin, fun oa ob hob1 hob2 hob => ?_⟩
    have eo : ob = .weak n (some m) := num_uniq fit.up hob1 hwk hob2
    subst eo
    have o1 : SqT K A7 oa [.str "weak", .int n, .int m] := hob
    refine ⟨_, rfl, oa, _, _, _, rfl, rfl, o1, at0, _, rfl, _, rfl, wd, _, rfl, dg, l3, _, _, _, rfl, rfl, SqL.of g3, at0, rfl, _, rfl, iteF ?_⟩
    unfold tNext
    dsimp only
    show tSeq (tIfS (tAnd _ _) _ _) _ _ _ _
    refine and_join false false (fun Q' z => ⟨_, rfl, rfl, _, rfl, z⟩) (fun z => nomatch z) ?_
    refine iteF ?_
    dsimp only
    show tIfS (tAnd _ _) _ _ _ _ _
    refine and_join false false (fun Q' z => ⟨_, rfl, rfl, _, rfl, z⟩) (fun z => nomatch z) ?_
    refine iteF ?_
    exact e7
end
end Wc
namespace Wc
open PySem L2
/-! ### a heap as data -/
def rfDt : Rf → Dt
  | none => .non
  | some i => .int i
def prDt (e : Int × Int) : Dt := .tup [.int e.1, .int e.2]
def obDt : Ob → Dt
  | .rcd n fs => .tup [.str "record", .int n, .tup (fs.map rfDt)]
  | .weak n t => .tup [.str "weak", .int n, rfDt t]
  | .tab n es => .tup [.str "table", .int n, .tup (es.map prDt)]
def hdDt (h : Hd) : Dt := .tup [.str "heap", .int h.nx, .tup (h.regs.map rfDt), .tup (h.kept.map Dt.int), .tup (h.obs.map obDt), .tup (h.wat.map prDt)]
theorem rf_is {K : PySem.W.Frag} {H : Hp} (r : Rf) : Is K H (rfDt r) (rV r) := by cases r <;> rfl
theorem isL_rfs {K : PySem.W.Frag} {H : Hp} : ∀ rs : List Rf, IsL K H (rs.map rfDt) (rs.map rV)
  | [] => rfl
  | r :: rs => ⟨_, _, rfl, rf_is r, isL_rfs rs⟩
theorem isL_refs {α : Type} {K : PySem.W.Frag} {H : Hp} {f : α → Dt} : ∀ {as : List Addr} {ms : List α}, Paired (fun a m => Is K H (f m) (.ref a)) as ms → IsL K H (ms.map f) (as.map V.ref)
  | _, _, .nil => rfl
  | _, _, .cons r t => ⟨_, _, rfl, r, isL_refs t⟩
theorem pr_is {K : PySem.W.Frag} {H : Hp} {a : Addr} {e : Int × Int} (h : PairAt K H a e) : Is K H (prDt e) (.ref a) := ⟨a, _, rfl, h, _, _, rfl, rfl, _, _, rfl, rfl, rfl⟩
theorem ob_is {K : PySem.W.Frag} {H : Hp} {a : Addr} {o : Ob} (h : ObAt K H a o) : Is K H (obDt o) (.ref a) := by
  cases o with
  | rcd n fs =>
    obtain ⟨t, h1, h2⟩ := h
    exact ⟨a, _, rfl, h1, _, _, rfl, rfl, _, _, rfl, rfl, _, _, rfl, ⟨t, _, rfl, h2.sq, isL_rfs fs⟩, rfl⟩
  | weak n r => exact ⟨a, _, rfl, h, _, _, rfl, rfl, _, _, rfl, rfl, _, _, rfl, rf_is r, rfl⟩
  | tab n es =>
    obtain ⟨t, ps, h1, hz2, h3⟩ := h; have h2 := hz2.sq (K := K)
    exact ⟨a, _, rfl, h1, _, _, rfl, rfl, _, _, rfl, rfl, _, _, rfl, ⟨t, _, rfl, h2, isL_refs (pmp h3 fun _ _ z => pr_is z)⟩, rfl⟩
theorem hp_is {K : PySem.W.Frag} {H : Hp} {a : Addr} {h : Hd} (x : HpAt K H a h) : Is K H (hdDt h) (.ref a) := by
  obtain ⟨r, k, o, w, ws, h1, h2, h3, ⟨os, h4, h4'⟩, h5, h6⟩ := x
  exact ⟨a, _, rfl, h1, _, _, rfl, rfl, _, _, rfl, rfl, _, _, rfl, ⟨r, _, rfl, h2, isL_rfs _⟩, _, _, rfl, ⟨k, _, rfl, h3, IsL.ints _⟩, _, _, rfl, ⟨o, _, rfl, h4, isL_refs (pmp h4' fun _ _ z => ob_is z)⟩, _, _, rfl, ⟨w, _, rfl, h5, isL_refs (pmp h6 fun _ _ z => pr_is z)⟩, rfl⟩
theorem depL_map {α : Type} {f : α → Dt} {n : Nat} (hf : ∀ x, (f x).dep ≤ n) : ∀ l : List α, Dt.depL (l.map f) ≤ n
  | [] => Nat.zero_le _
  | x :: l => by
    show max (f x).dep (Dt.depL (l.map f)) ≤ n
    have := hf x
    have := depL_map hf l
    omega
theorem rf_dep (r : Rf) : (rfDt r).dep ≤ 0 := by cases r <;> exact Nat.le_refl _
theorem pr_dep (e : Int × Int) : (prDt e).dep ≤ 1 := Nat.le_refl _
theorem ob_dep (o : Ob) : (obDt o).dep ≤ 3 := by
  cases o with
  | rcd n fs =>
    show 1 + max 0 (max 0 (max (1 + Dt.depL (fs.map rfDt)) 0)) ≤ 3
    have := depL_map rf_dep fs
    omega
  | weak n r =>
    show 1 + max 0 (max 0 (max (rfDt r).dep 0)) ≤ 3
    have := rf_dep r
    omega
  | tab n es =>
    show 1 + max 0 (max 0 (max (1 + Dt.depL (es.map prDt)) 0)) ≤ 3
    have := depL_map pr_dep es
    omega
theorem hd_dep (h : Hd) : (hdDt h).dep < 9 := by
  show 1 + max 0 (max 0 (max (1 + Dt.depL (h.regs.map rfDt)) (max (1 + Dt.depL (h.kept.map Dt.int)) (max (1 + Dt.depL (h.obs.map obDt)) (max (1 + Dt.depL (h.wat.map prDt)) 0))))) < 9
  have a := depL_map rf_dep h.regs
  have b := depL_ints h.kept
  have c := depL_map ob_dep h.obs
  have d := depL_map pr_dep h.wat
  omega
theorem thinL_map {α : Type} {f : α → Dt} : ∀ {l : List α}, (∀ x ∈ l, (f x).thin) → Dt.thinL (l.map f)
  | [], _ => trivial
  | x :: l, hf => ⟨hf x List.mem_cons_self, thinL_map fun y hy => hf y (List.mem_cons_of_mem _ hy)⟩
theorem rf_thin (r : Rf) : (rfDt r).thin := by cases r <;> exact trivial
theorem pr_thin (e : Int × Int) : (prDt e).thin := ⟨by show 2 ≤ 100000; decide, trivial, trivial, trivial⟩
theorem ob_thin {o : Ob} (s : o.small) : (obDt o).thin := by
  cases o with
  | rcd n fs => exact ⟨by show 3 ≤ 100000; decide, trivial, trivial, ⟨by rw [List.length_map]; exact Nat.le_trans s (by decide), thinL_map fun x _ => rf_thin x⟩, trivial⟩
  | weak n r => exact ⟨by show 3 ≤ 100000; decide, trivial, trivial, rf_thin r, trivial⟩
  | tab n es => exact ⟨by show 3 ≤ 100000; decide, trivial, trivial, ⟨by rw [List.length_map]; exact Nat.le_trans s (by decide), thinL_map fun x _ => pr_thin x⟩, trivial⟩
theorem hd_thin {h : Hd} (z1 : h.regs.length ≤ 100000) (z2 : h.kept.length ≤ 100000) (z3 : h.obs.length ≤ 100000) (z4 : h.wat.length ≤ 100000) (so : ∀ o ∈ h.obs, o.small) : (hdDt h).thin :=
  ⟨by show 6 ≤ 100000; decide, trivial, trivial, ⟨by rw [List.length_map]; exact z1, thinL_map fun x _ => rf_thin x⟩, ⟨by rw [List.length_map]; exact z2, thinL_map fun x _ => trivial⟩, ⟨by rw [List.length_map]; exact z3, thinL_map fun x hx => ob_thin (so x hx)⟩,
    ⟨by rw [List.length_map]; exact z4, thinL_map fun x _ => pr_thin x⟩, trivial⟩
theorem cm_dep (to : Int) (pl : Int → Int) (r : Rs) : (cmDt to pl r).dep < 9 := by cases r <;> (show 1 < 9; decide)
theorem cm_thin (to : Int) (pl : Int → Int) (r : Rs) : (cmDt to pl r).thin := by
  cases r <;> exact ⟨by simp, by simp [Dt.thinL, Dt.thin]⟩
/-! ### reasons are true, and name what is earlier -/
def Tru (h : Hd) (m : Int) : Rs → Prop
  | .reg k => h.regs[k]? = some (some m)
  | .fld n k => ∃ fs, .rcd n fs ∈ h.obs ∧ fs[k]? = some (some m)
  | .ent n q => ∃ es, .tab n es ∈ h.obs ∧ (q, m) ∈ es ∧ (es.map (·.1)).Nodup ∧ es.length ≤ 1000
  | .drf n => .weak n (some m) ∈ h.obs
theorem ixR_at {rs : List Rf} {n : Int} (h : some n ∈ rs) : rs[ixR rs n]? = some (some n) := by
  have hl : ixR rs n < rs.length := List.findIdx_lt_length_of_exists ⟨_, h, by simp⟩
  rw [List.getElem?_eq_getElem hl]
  have := List.findIdx_getElem (p := (· == some n)) (w := hl)
  have e : rs[ixR rs n] = some n := beq_iff_eq.mp this
  rw [e]
theorem bst_tru {h : Hd} {cs : List Int} {n : Int} (ok : h.Ok) (x : Obt h cs n) : Tru h n (bst h cs n) := by
  cases e : rnk h cs n with
  | zero =>
    rw [bst_zero e]
    refine ixR_at ?_
    have z := (Obt.rnk x).1
    rw [e] at z
    exact z
  | succ k =>
    obtain ⟨r, t, hr⟩ := rs_some x e (ls := low h cs k) fun m => mem_low ok
    rw [bst_succ ok e (ls := low h cs k) (fun m => mem_low ok) (by rw [hr]; rfl)]
    obtain ⟨o, h1, h2, h3⟩ := rsAll_mem.mp (show r ∈ rsAll h (low h cs k) cs n by rw [hr]; exact List.mem_cons_self)
    cases o with
    | rcd m fs =>
      have h3 : (if some n ∈ fs then some (Rs.fld m (ixR fs n)) else none) = some r := h3
      by_cases c : some n ∈ fs
      · rw [if_pos c] at h3
        cases h3
        exact ⟨fs, h1, ixR_at c⟩
      · rw [if_neg c] at h3; cases h3
    | weak m t =>
      have h3 : (if t = some n ∧ n ∉ cs then some (Rs.drf m) else none) = some r := h3
      by_cases c : t = some n ∧ n ∉ cs
      · rw [if_pos c] at h3
        cases h3
        show Ob.weak m (some n) ∈ h.obs
        rw [← c.1]; exact h1
      · rw [if_neg c] at h3; cases h3
    | tab m es =>
      have h3 : ((es.filter fun e => decide (e.2 = n) && decide (e.1 ∈ low h cs k)).head?).map (fun e => Rs.ent m e.1) = some r := h3
      obtain ⟨q, hq, rfl⟩ := Option.map_eq_some_iff.mp h3
      obtain ⟨q1, q2⟩ := List.mem_filter.mp (List.mem_of_head? hq)
      have q3 : q.2 = n := of_decide_eq_true (Bool.and_eq_true_iff.mp q2).1
      have ot := ok.obs _ h1
      exact ⟨es, h1, by rw [← q3]; exact q1, ot.2.1, ot.1⟩
noncomputable def stepsOf (h : Hd) (cs L : List Int) : List (Int × Rs) := L.map fun m => (m, bst h cs m)
theorem steps_fst (h : Hd) (cs L : List Int) : (stepsOf h cs L).map (·.1) = L := by
  unfold stepsOf; rw [List.map_map]; exact List.map_id' L
theorem drv_earlier {h : Hd} {cs : List Int} {n : Int} {L : List Int} (ok : h.Ok) (x : Obt h cs n) (d : Drv h cs n L) : Earlier (stepsOf h cs L) := by
  intro j p hp k hk
  unfold stepsOf at hp
  rw [List.getElem?_map] at hp
  obtain ⟨m, hm, rfl⟩ := Option.map_eq_some_iff.mp hp
  have hmL := List.mem_of_getElem? hm
  have hn := (d.mem m).mp hmL
  have hkL : k ∈ L := (d.mem k).mpr (.step hn hk)
  have hr := (bst_names ok (Need.obt ok x hn) k hk).2
  rw [List.map_take, steps_fst]
  have hj := (List.getElem?_eq_some_iff.mp hm).1
  have e : L = L.take j ++ L.drop j := (List.take_append_drop j L).symm
  rw [e] at hkL
  rcases List.mem_append.mp hkL with z | z
  · exact z
  · exfalso
    rw [List.drop_eq_getElem_cons hj] at z
    have em : L[j] = m := (List.getElem?_eq_some_iff.mp hm).2
    have up := d.up
    rw [e, List.drop_eq_getElem_cons hj] at up
    have up2 := (List.pairwise_append.mp up).2.1
    rcases List.mem_cons.mp z with z | z
    · rw [z, em] at hr; omega
    · have := (List.pairwise_cons.mp up2).1 k z
      rw [em] at this
      rcases this with q | ⟨q, _⟩ <;> omega
theorem Earlier.app {S S' : List (Int × Rs)} (a : Earlier S) (b : Earlier S') : Earlier (S ++ S') := by
  intro j p hp k hk
  rw [List.map_take, List.map_append]
  by_cases c : j < S.length
  · rw [List.getElem?_append_left c] at hp
    have := a j p hp k hk
    rw [List.map_take] at this
    rw [List.take_append_of_le_length (by rw [List.length_map]; omega)]
    exact this
  · rw [List.getElem?_append_right (by omega)] at hp
    have := b _ p hp k hk
    rw [List.map_take] at this
    rw [List.take_append, List.length_map]
    exact List.mem_append_right _ this
theorem papp {α β : Type} {F : α → β → Prop} {l2 : List α} {m2 : List β} (q : Paired F l2 m2) : ∀ {l : List α} {m : List β}, Paired F l m → Paired F (l ++ l2) (m ++ m2)
  | _, _, .nil => q
  | _, _, .cons r t => .cons r (papp q t)
theorem steps_of_is {K : PySem.W.Frag} {H : Hp} {h : Hd} {cs L : List Int} {v : V} (x : Is K H (drvDt h cs L) v) : ∃ dv ss, v = .ref dv ∧ SqT K H dv (ss.map V.ref) ∧ Paired (StAt K H) ss (stepsOf h cs L) := by
  obtain ⟨dv, xs, rfl, h1, h2⟩ := x
  have key : ∀ (l : List Int) (xs : List V), IsL K H (l.map fun m => .tup [.int m, (bst h cs m).dt]) xs → ∃ ss : List Addr, xs = ss.map V.ref ∧ Paired (StAt K H) ss (stepsOf h cs l) := by
    intro l
    induction l with
    | nil => intro xs hx; exact ⟨[], hx, .nil⟩
    | cons m r ih =>
      intro xs hx
      obtain ⟨x, rest, rfl, hx1, hx2⟩ := hx
      obtain ⟨ss, rfl, hp⟩ := ih rest hx2
      obtain ⟨a, ys, rfl, ha, y1, r1, rfl, e1, y2, r2, rfl, e2, e3⟩ := hx1
      have e1 : y1 = .int m := e1
      have e3 : r2 = [] := e3
      subst e1 e3
      obtain ⟨ra, zs, rfl, hz, hz2⟩ : ∃ ra zs, y2 = .ref ra ∧ SqT K H ra zs ∧ zs = (bst h cs m).row := by
        generalize bst h cs m = rs at e2 ⊢
        cases rs with
        | reg k =>
          obtain ⟨ra, zs, rfl, hz, a1, b1, rfl, c1, a2, b2, rfl, c2, c3⟩ := e2
          have c1 : a1 = .str "register" := c1
          have c2 : a2 = .int (k : Nat) := c2
          have c3 : b2 = [] := c3
          subst c1 c2 c3
          exact ⟨ra, _, rfl, hz, rfl⟩
        | fld n k =>
          obtain ⟨ra, zs, rfl, hz, a1, b1, rfl, c1, a2, b2, rfl, c2, a3, b3, rfl, c3, c4⟩ := e2
          have c1 : a1 = .str "field" := c1
          have c2 : a2 = .int n := c2
          have c3 : a3 = .int (k : Nat) := c3
          have c4 : b3 = [] := c4
          subst c1 c2 c3 c4
          exact ⟨ra, _, rfl, hz, rfl⟩
        | ent n k =>
          obtain ⟨ra, zs, rfl, hz, a1, b1, rfl, c1, a2, b2, rfl, c2, a3, b3, rfl, c3, c4⟩ := e2
          have c1 : a1 = .str "entry" := c1
          have c2 : a2 = .int n := c2
          have c3 : a3 = .int k := c3
          have c4 : b3 = [] := c4
          subst c1 c2 c3 c4
          exact ⟨ra, _, rfl, hz, rfl⟩
        | drf n =>
          obtain ⟨ra, zs, rfl, hz, a1, b1, rfl, c1, a2, b2, rfl, c2, c3⟩ := e2
          have c1 : a1 = .str "deref" := c1
          have c2 : a2 = .int n := c2
          have c3 : b2 = [] := c3
          subst c1 c2 c3
          exact ⟨ra, _, rfl, hz, rfl⟩
      subst hz2
      exact ⟨a :: ss, rfl, .cons ⟨ra, ha, hz⟩ hp⟩
  obtain ⟨ss, rfl, hp⟩ := key L xs h2
  exact ⟨dv, ss, rfl, h1, hp⟩
/-! ### tables, where the law's source moves on -/
theorem tabs_exm {T : List (Addr × Str)} {b : Addr} {H H' : Hp} {xs : List V} (h : ExM [b] H H') (hb : H b = some (.lst xs)) (t : LamX.Tabs T H) : LamX.Tabs T H' := by
  have ne : ∀ a o, H a = some o → o ≠ .lst xs → a ∉ [b] := fun a o q z m => by
    have e : a = b := by simpa using m
    rw [e, hb] at q
    exact z (Option.some.inj q).symm
  intro p hp
  obtain ⟨ps, h1, h2, h3⟩ := t p hp
  refine ⟨ps, h _ _ (ne _ _ h1 (fun z => nomatch z)) h1, h2, fun pos cv hc => ?_⟩
  obtain ⟨c, e1, e2⟩ := h3 pos cv hc
  exact ⟨c, e1, h _ _ (ne _ _ e2 (fun z => nomatch z)) e2⟩
theorem Bx.ext {H H' : Hp} {b d : Addr} {ds : List Int} (e : LamX.ExtN H H') (x : Bx H b d ds) : Bx H' b d ds := by
  obtain ⟨⟨n, e1⟩, e2, e3⟩ := x
  exact ⟨⟨n, e _ _ e1 fun _ z => nomatch z⟩, e _ _ e2 (fun _ z => nomatch z), e3⟩
end Wc
namespace Wc
open PySem L2
section
variable (K : PySem.W.Frag)
def R_law : V1 := fun x H Q => ∃ (a : Addr) (ns : List Int), x = .ref a ∧ SqL K H a (ns.map V.int) ∧ ns.length ≤ 63 ∧ (∀ p ∈ [(("derive" : Str), (none : Option Str))], H (He.cT K p).2 = some (.tbl #[])) ∧ ∀ H', Q (.bl true) H'
abbrev sp_law : Sp := sp1 (R_law K)
end
section
variable {P : Program} {w : World} {K : PySem.W.Frag} {mg : Str → Option Value} {base : PySem.Heap}
theorem ok_law {f : Addr} {fd : FuncData} {cd : Value} (F : Df K "law" s_law f fd cd) (T : Txt mg) (C_derive : Cal P w K mg base 5 "derive" (sp_derive K) []) (C_compile_derivation : Cal P w K mg base 2 "compile_derivation" (sp_compile_derivation K) []) (C_with_registers : Cal P w K mg base 1 "with_registers" (sp_with_registers K) []) (C__law_box : Cal P w K mg base 3 "_law_box" (sp__law_box K) []) (C__law_draw : Cal P w K mg base 1 "_law_draw" (sp__law_draw K) []) (C__law_heap : Cal P w K mg base 4 "_law_heap" (sp__law_heap K) []) (C__law_numbers : Cal P w K mg base 1 "_law_numbers" (sp__law_numbers K) []) (C__law_same : Cal P w K mg base 9 "_law_same" (sp__law_same K) []) (C__law_fault : Cal P w K mg base 2 "_law_fault" (sp__law_fault K) []) (C__law_do : Cal P w K mg base 3 "_law_do" (sp__law_do K) []) (C__law_loading : Cal P w K mg base 1 "_law_loading" (sp__law_loading K) []) : FnOk P w K mg base CX0 10 f fd ["script"] (sp_law K) := by
  have nd := sc_law.nd
  refine F.ok sc_law (fun vs H Q E h => ?_) (fun A outer s H vs Q E hr h => ?_)
  · obtain ⟨_, rfl, _⟩ := h; rfl
  have hu := hu_of hr
  obtain ⟨x0, rfl, h⟩ := h
  refine ⟨_, (pss_cons (ps_set (i := 1) nd rfl (by first | exact Or.inl rfl | exact Or.inr rfl) (pe_c C__law_box hr (by first | exact Nat.le_refl _ | decide) rfl (pa_cons (pv 0) (pa_cons pe_int (pa_cons pe_int pa_nil)))))
    (pss_cons (ps_set (i := 2) nd rfl (by first | exact Or.inl rfl | exact Or.inr rfl) (pe_c C__law_heap hr (by first | exact Nat.le_refl _ | decide) rfl (pa_cons (pv 1) (pa_cons pe_int pa_nil))))
    (pss_cons (ps_set (i := 3) nd rfl (by first | exact Or.inl rfl | exact Or.inr rfl) (pe_tup pa_nil))
    (pss_cons (ps_for PassesOwn.never rfl (show PI _ _ _ (iList K _) from pi_list (pe_c C__law_numbers hr (by first | exact Nat.le_refl _ | decide) rfl (pa_cons (pv 2) pa_nil))) (pg_name (i := 4) nd rfl (by first | exact Or.inl rfl | exact Or.inr rfl))
    (pss_one (ps_if (pt_cmpR op_eq (pe_c C__law_draw hr (by first | exact Nat.le_refl _ | decide) rfl (pa_cons (pv 1) (pa_cons pe_int pa_nil))) pe_int (nomark _)) (pss_one (ps_set (i := 3) nd rfl (by first | exact Or.inl rfl | exact Or.inr rfl) (pe_op (r := rCatA K) op_catA (pv 3) (pe_orT (pe_c C_derive hr (by first | exact Nat.le_refl _ | decide) rfl (pa_cons (pv 2) (pa_cons (pe_tup pa_nil) (pa_cons (pv 4) pa_nil)))) (pe_one (pe_tup pa_nil)))))) pss_nil)))
    (pss_cons (ps_set (i := 5) nd rfl (by first | exact Or.inl rfl | exact Or.inr rfl) (pe_op (r := rCatA K) op_catA (pe_op (r := rCatA K) op_catA (pe_slice sl_tup (pv 2) po_none (po_some pe_int)) (pe_tup (pa_cons (pe_op (r := rCatA K) op_catA (pe_ix (r := rIxT K) ix_tup (pv 2) pe_int (fun _ _ => rfl)) (pe_callTy (r := rTupS K) call_tuple_of rfl T.tuple (by decide +kernel) (pa_cons (pe_op op_rep (pe_lst (pa_cons pe_non pa_nil)) (pe_callB (r := Evl.rLenS K) call_len_seq rfl T.len PySem.boot_len (pa_cons (pv 3) pa_nil))) pa_nil))) pa_nil))) (pe_slice sl_tup (pv 2) (po_some pe_int) po_none)))
    (pss_cons (ps_if (pt_not (pt_val (pe_c C__law_same hr (by first | exact Nat.le_refl _ | decide) rfl (pa_cons (pe_c C_with_registers hr (by first | exact Nat.le_refl _ | decide) rfl (pa_cons (pv 2) (pa_cons (pe_callB (r := Evl.rLenS K) call_len_seq rfl T.len PySem.boot_len (pa_cons (pv 3) pa_nil)) pa_nil))) (pa_cons (pv 5) pa_nil))))) (pss_one (ps_ret pe_bl)) pss_nil)
    (pss_cons (ps_if (pt_cmpR op_eq (pe_callB (r := Evl.rLenS K) call_len_seq rfl T.len PySem.boot_len (pa_cons (pv 3) pa_nil)) pe_int (nomark _)) (pss_one (ps_ret pe_bl)) pss_nil)
    (pss_cons (ps_set (i := 6) nd rfl (by first | exact Or.inl rfl | exact Or.inr rfl) (pe_c C_compile_derivation hr (by first | exact Nat.le_refl _ | decide) rfl (pa_cons (pv 2) (pa_cons (pv 3) pa_nil))))
    (pss_cons (ps_if (PW.pt (pw_or (pt_not (pt_val (pe_callB (r := rIsi K) call_isi rfl T.isinstance (by decide +kernel) (pa_cons (pv 6) (pa_cons (pe_bltn (v := .ty "tuple") rfl T.tuple (by decide +kernel) rfl) pa_nil))))) (pw_or1 (pt_cmpR op_ne (pe_callB (r := Evl.rLenS K) call_len_seq rfl T.len PySem.boot_len (pa_cons (pv 6) pa_nil)) (pe_callB (r := Evl.rLenS K) call_len_seq rfl T.len PySem.boot_len (pa_cons (pv 3) pa_nil)) (nomark _))))) (pss_one (ps_ret pe_bl)) pss_nil)
    (pss_cons (ps_for PassesOwn.never rfl (pi_range1 rfl T.range (pa_cons (pe_callB (r := Evl.rLenS K) call_len_seq rfl T.len PySem.boot_len (pa_cons (pv 3) pa_nil)) pa_nil)) (pg_name (i := 7) nd rfl (by first | exact Or.inl rfl | exact Or.inr rfl))
    (pss_cons (ps_set (i := 8) nd rfl (by first | exact Or.inl rfl | exact Or.inr rfl) (pe_ix (r := rIxT K) ix_tup (pv 6) (pv 7) (fun _ _ => rfl)))
    (pss_cons (ps_if (pt_not (pt_val (pe_c C__law_same hr (by first | exact Nat.le_refl _ | decide) rfl (pa_cons (pv 8) (pa_cons (pe_c C__law_loading hr (by first | exact Nat.le_refl _ | decide) rfl (pa_cons (pv 2) (pa_cons (pv 3) (pa_cons (pv 7) pa_nil)))) pa_nil))))) (pss_one (ps_ret pe_bl)) pss_nil)
    (pss_cons (ps_if (pt_cmpR op_notN (pe_c C__law_fault hr (by first | exact Nat.le_refl _ | decide) rfl (pa_cons (pv 5) (pa_cons (pv 8) pa_nil))) pe_non (nomark _)) (pss_one (ps_ret pe_bl)) pss_nil)
    (pss_cons (ps_set (i := 9) nd rfl (by first | exact Or.inl rfl | exact Or.inr rfl) (pe_c C__law_do hr (by first | exact Nat.le_refl _ | decide) rfl (pa_cons (pv 5) (pa_cons (pv 8) pa_nil))))
    (pss_cons (ps_set (i := 5) nd rfl (by first | exact Or.inl rfl | exact Or.inr rfl) (pe_ix (r := rIxL K) ix_list (pv 9) pe_int (fun _ _ => rfl)))
    (pss_one (ps_if (pt_not (pt_val (pe_c C__law_same hr (by first | exact Nat.le_refl _ | decide) rfl (pa_cons (pe_ix (r := rIxL K) ix_list (pv 9) pe_int (fun _ _ => rfl)) (pa_cons (pe_ix (r := rIxT K) ix_tup (pe_ix (r := rIxT K) ix_tup (pv 3) (pv 7) (fun _ _ => rfl)) pe_int (fun _ _ => rfl)) pa_nil))))) (pss_one (ps_ret pe_bl)) pss_nil))))))))
    (pss_one (ps_ret pe_bl)))))))))))), ?_⟩
  obtain ⟨sa, sn, rfl, hS, h63, hP, q⟩ := h
  refine ⟨_, rfl, _, _, _, rfl, sa, sn, 0, 63, rfl, rfl, rfl, hS, by decide, by decide, by decide, fun b d ds H1 f1 e1 b1 => ?_⟩
  have hP0 := hP _ (List.mem_singleton.mpr rfl)
  have nPb : (He.cT K (("derive" : Str), (none : Option Str))).2 ∉ [b] := fun z => by
    have z : (He.cT K (("derive" : Str), (none : Option Str))).2 = b := List.mem_singleton.mp z
    rw [z, f1] at hP0; cases hP0
  refine ⟨_, rfl, _, _, rfl, b, d, ds, 9, rfl, rfl, by decide, by decide, b1, fun H2 a h x2 b2 hA ok h9 => ?_⟩
  have hP2 := x2 _ _ nPb (ExA.at e1 hP0)
  -- steps = ()
  refine ⟨Nat.zero_le _, fun st0 fst0 => ?_⟩
  have e3 : ExA H2 (upd H2 st0 (.tup [])) := ExM.new fst0
  have hst3 : SqT K (upd H2 st0 (.tup [])) st0 (([] : List Addr).map V.ref) := SqT.of upd_same
  generalize upd H2 st0 (.tup []) = H3 at e3 hst3 ⊢
  have hA3 := HeapAt.mono (Tk.all e3) hA
  refine ⟨_, rfl, _, rfl, a, h, rfl, hA3, ok, fun l H4 fl e4 hl => ?_⟩
  have b4 := (b2.keep e3).keep e4
  have nl : l ∉ [b] := (b2.keep e3).ne fl
  have T4 : LamX.Tabs (LT_derive K) H4 := fun p hp => by
    have e := List.mem_singleton.mp hp
    subst e
    exact LamX.TabS.nil (ExA.at (e3.trans e4) hP2)
  have zn : h.nums.length ≤ 9 := by unfold Hd.nums; rw [List.length_map]; omega
  refine ⟨l, rfl, ⟨_, SqL.of hl⟩, ?_⟩
  refine for_it (walk_list (xs := h.nums.map V.int)) (fun i σ5 H5 => ∃ (st : Addr) (S : List (Int × Rs)) (u4 : Option V), σ5 = [some (.ref sa), some (.ref b), some (.ref a), some (.ref st), u4, none, none, none, none, none] ∧
      HeapAt K H5 a h ∧ Bx H5 b d ds ∧ LamX.Tabs (LT_derive K) H5 ∧ H5 l = some (.lst (h.nums.map V.int)) ∧ StepsAt K H5 st S ∧ S.length ≤ 9 * i ∧ Earlier S ∧ ∀ p ∈ S, Tru h p.1 p.2)
    ⟨st0, [], none, rfl, HeapAt.mono (Tk.all e4) hA3, b4, T4, hl, ⟨[], Tk.all e4 _ _ hst3, .nil⟩, Nat.zero_le _, fun j p hp => by simp at hp, by simp⟩ (fun i σ5 H5 _ p => ?_) (fun i x σ5 H5 H6 hi p y => ?_) (fun σ5 H5 p => ?_)
  · obtain ⟨_, _, _, _, _, _, _, z, _⟩ := p
    exact SqL.of z
  · obtain ⟨rfl, hx⟩ := y
    obtain ⟨st, S, u4, rfl, hA5, b5, T5, hl5, ⟨ss, hs5, hp5⟩, zS, er, tr⟩ := p
    rw [List.length_map] at hi
    obtain ⟨m, hm⟩ : ∃ m, h.nums[i]? = some m := ⟨_, List.getElem?_eq_getElem hi⟩
    rw [List.getElem?_map, hm] at hx
    obtain rfl : V.int m = x := Option.some.inj hx
    refine ⟨_, rfl, _, _, rfl, b, d, ds, 3, rfl, rfl, by decide, b5, fun H7 v x7 b7 v0 v3 => ⟨rfl, _, rfl, ite2 (fun _ => ?_) (fun _ => ?_)⟩⟩
    · have t7 := b5.tk (K := K) x7
      have T7 := let ⟨⟨_, z⟩, _⟩ := b5; tabs_exm x7 z T5
      have hl7 := x7 l _ nl hl5
      have hA7 := HeapAt.mono t7 hA5
      refine ⟨_, rfl, _, rfl, Nat.zero_le _, fun c fc => ?_⟩
      have ec : ExA H7 (upd H7 c (.tup [])) := ExM.new fc
      have hc : SqT K (upd H7 c (.tup [])) c (([] : List Int).map V.int) := SqT.of upd_same
      generalize upd H7 c (.tup []) = H8 at ec hc ⊢
      have t8 := Tk.trans t7 (Tk.all (K := K) ec)
      have hs8 := t8 _ _ hs5
      have hp8 : Paired (StAt K H8) ss S := pmp hp5 fun _ _ z => StAt.mono t8 z
      have T8 : LamX.Tabs (LT_derive K) H8 := T7.ext fun b o z => ExA.at ec z
      have b8 := b7.keep ec
      have hl8 := ExA.at ec hl7
      have hA8 := HeapAt.mono (Tk.all ec) hA7
      have lss := plen hp8
      refine ⟨_, rfl, _, _, _, rfl, a, h, c, [], m, rfl, rfl, rfl, hA8, ok, hc, by simp, T8, fun hx H9 e9 => ?_, fun hx L v H9 hdrv x9 T9 hv => ?_⟩
      · refine ⟨false, rfl, iteF ⟨Nat.zero_le _, fun c2 fc2 => ?_⟩⟩
        have e9' := ExM.trans e9 (ExM.new (o := .tup []) fc2)
        refine cat_any (Tk.all e9' _ _ hs8) (ys := []) (SqT.of upd_same) (by rw [List.length_map, List.length_nil]; omega) fun p Ha ea hp => ?_
        have e8a := ExM.trans e9' ea
        rw [List.append_nil] at hp
        exact ⟨p, S, _, rfl, HeapAt.mono (Tk.all e8a) hA8, b8.keep e8a, T8.ext fun b o z => ExA.at e8a z, ExA.at e8a hl8, ⟨ss, hp, pmp hp8 fun _ _ z => StAt.mono (Tk.all e8a) z⟩, by omega, er, tr⟩
      · obtain ⟨dv, ss2, rfl, g1, g2⟩ := steps_of_is hv
        have zL : L.length ≤ 9 := Nat.le_trans (hdrv.len ok hx) zn
        have hne : ss2 ≠ [] := fun z => by
          have z1 := plen g2
          have z2 : m ∈ L := (hdrv.mem m).mpr .base
          rw [z] at z1
          unfold stepsOf at z1
          rw [List.length_map] at z1
          have : L = [] := List.eq_nil_of_length_eq_zero z1.symm
          rw [this] at z2; cases z2
        have lss2 : ss2.length = L.length := by
          have z1 := plen g2
          unfold stepsOf at z1
          rwa [List.length_map] at z1
        refine ⟨true, .inr (.inl ⟨_, g1, ?_⟩), iteT ?_⟩
        · cases ss2 with
          | nil => exact absurd rfl hne
          | cons _ _ => rfl
        have t9 := Tk.ext (K := K) x9
        refine cat_any (t9 _ _ hs8) g1 (by rw [List.length_map, List.length_map]; omega) fun p Ha ea hp => ?_
        have xa : LamX.ExtN H8 Ha := x9.trans (LamX.ExtN.of fun b o z => ExA.at ea z)
        have ta := Tk.ext (K := K) xa
        rw [← List.map_append] at hp
        refine ⟨p, S ++ stepsOf h [] L, _, rfl, HeapAt.mono ta hA8, b8.ext xa, T9.ext fun b o z => ExA.at ea z, xa _ _ hl8 (fun _ z => nomatch z), ⟨ss ++ ss2, hp, ?_⟩, ?_, er.app (drv_earlier ok hx hdrv), fun p hp' => ?_⟩
        · exact papp (pmp g2 fun _ _ z => StAt.mono (Tk.all ea) z) (pmp hp8 fun _ _ z => StAt.mono ta z)
        · rw [List.length_append]
          unfold stepsOf
          rw [List.length_map]
          omega
        · rcases List.mem_append.mp hp' with z | z
          · exact tr p z
          · unfold stepsOf at z
            obtain ⟨k, hk, rfl⟩ := List.mem_map.mp z
            exact bst_tru ok (Need.obt ok hx ((hdrv.mem k).mp hk))
    · have t7 := b5.tk (K := K) x7
      exact ⟨st, S, _, rfl, HeapAt.mono t7 hA5, b7, (let ⟨⟨_, z⟩, _⟩ := b5; tabs_exm x7 z T5), x7 l _ nl hl5, ⟨ss, t7 _ _ hs5, pmp hp5 fun _ _ z => StAt.mono t7 z⟩, by omega, er, tr⟩
  obtain ⟨st, S, u4, rfl, hA5, b5, T5, hl5, hS5, zS, er, tr⟩ := p
  rw [List.length_map] at zS
  have zS81 : S.length ≤ 81 := by omega
  clear hl5 T5 b5 hP0 hP2
  obtain ⟨ss, hs5, hp5⟩ := id hS5
  have lss := plen hp5
  obtain ⟨r, kp, o, w, ws, h1, h2, h3, h4, h5, h6⟩ := (HeapAt.hp hA5)
  have lr : (h.regs.map rV).length = h.regs.length := List.length_map _
  have nreg := ok.nreg
  -- wide
  refine ⟨_, rfl, 2, rfl, ?_⟩
  refine sl_to (i := 2) h1 (by simp) fun p1 Ha ea hp1 => ?_
  have ta := Tk.all (K := K) ea
  refine ⟨_, rfl, a, _, _, _, rfl, rfl, ta _ _ h1, at2, sz (by show 1 ≤ 100000; decide), fun l1 fl1 => ?_⟩
  refine ⟨_, rfl, st, _, rfl, .inr (Tk.new fl1 _ _ (ta _ _ hs5)), ?_⟩
  refine ⟨l1, _, [.non], rfl, rfl, upd_same, by omega, by rw [List.length_map]; omega, sz (by simp only [List.length_cons, List.length_nil, List.length_map, Int.toNat_natCast]; omega), fun l2 fl2 => ?_⟩
  have er2 : (List.replicate (((ss.map V.ref).length : Nat) : Int).toNat [V.non]).flatten = List.replicate S.length V.non := by
    rw [Int.toNat_natCast, List.length_map, lss]
    exact List.flatten_replicate_singleton
  rw [er2]
  refine ⟨l2, _, rfl, .inl ⟨SqL.of upd_same, fun t ft => ?_⟩⟩
  have eb : ExA Ha (upd (upd (upd Ha l1 (.lst [V.non])) l2 (.lst (List.replicate S.length V.non))) t (.tup (List.replicate S.length V.non))) := ExM.trans (ExM.new fl1) (ExM.trans (ExM.new fl2) (ExM.new ft))
  have ht : SqT K (upd (upd (upd Ha l1 (.lst [V.non])) l2 (.lst (List.replicate S.length V.non))) t (.tup (List.replicate S.length V.non))) t (List.replicate S.length V.non) := SqT.of upd_same
  generalize upd (upd (upd Ha l1 (.lst [V.non])) l2 (.lst (List.replicate S.length V.non))) t (.tup (List.replicate S.length V.non)) = Hb at eb ht ⊢
  refine cat_any (Tk.all (ExM.trans ea eb) _ _ h2) ht (by rw [lr, List.length_replicate]; omega) fun p5 Hc ec hp5' => ?_
  have er3 : h.regs.map rV ++ List.replicate S.length V.non = (h.regs ++ List.replicate S.length none).map rV := by rw [List.map_append, List.map_replicate]; rfl
  rw [er3] at hp5'
  refine ⟨sz (by show 1 ≤ 100000; decide), fun t2 ft2 => ?_⟩
  have ed : ExA Ha (upd Hc t2 (.tup [.ref p5])) := ExM.trans eb (ExM.trans ec (ExM.new ft2))
  refine cat_any (Tk.all ed _ _ hp1) (SqT.of upd_same) (by simp) fun p6 Hd' ee hp6 => ?_
  have e5d : ExA H5 Hd' := ExM.trans ea (ExM.trans ed ee)
  refine ⟨_, rfl, 3, rfl, ?_⟩
  dsimp only [tNoPart]
  refine sl_from (i := 3) (Tk.all e5d _ _ h1) (by decide) (by simp) fun p7 He' ef hp7 => ?_
  refine cat_any (Tk.all ef _ _ hp6) hp7 (by simp) fun wa Hf eg hwa => ?_
  have e5f : ExA H5 Hf := ExM.trans e5d (ExM.trans ef eg)
  have ecf : ExA Hc Hf := ExM.trans (ExM.new ft2) (ExM.trans ee (ExM.trans ef eg))
  have tf := Tk.all (K := K) e5f
  have hW : HpAt K Hf wa { h with regs := h.regs ++ List.replicate S.length none } := ⟨p5, kp, o, w, ws, hwa, Tk.all ecf _ _ hp5', tf _ _ h3, h4.mono tf, tf _ _ h5, pmp h6 fun _ _ z => PairAt.mono tf z⟩
  have hAf := HeapAt.mono tf hA5
  have hSf := hS5.mono tf
  have hsf := tf _ _ hs5
  clear hp1 hp5' hp6 hp7 hwa ht
  -- with_registers
  refine ⟨_, rfl, _, rfl, st, _, rfl, .inr hsf, _, _, rfl, a, h, S.length, rfl, by rw [List.length_map, lss], HeapAt.hp hAf, ok.rpos, nreg, by omega, fun Hg p ei hp => ?_⟩
  have so : ∀ o ∈ h.obs, o.small := fun o ho => (ok.obs o ho).small
  have zk : h.kept.length ≤ 50 := by
    have z1 := nd_sub (nodup_of_up ok.kup) ok.kept
    unfold Hd.nums at z1
    rw [List.length_map] at z1
    have := ok.size
    omega
  have nwat := ok.nwat
  have nobs := ok.size
  refine ⟨_, rfl, _, _, rfl, hdDt { h with regs := h.regs ++ List.replicate S.length none }, hp_is hp, hp_is (HpAt.mono (Tk.all ei) hW), hd_dep _, hd_thin (by show (h.regs ++ List.replicate S.length none).length ≤ 100000; rw [List.length_append, List.length_replicate]; omega) (by show h.kept.length ≤ 100000; omega) (by show h.obs.length ≤ 100000; omega) (by show h.wat.length ≤ 100000; omega) so, _, rfl, iteF ?_⟩
  have hWg := HpAt.mono (Tk.all ei) hW
  have hAg := HeapAt.mono (Tk.all ei) hAf
  have hSg := hSf.mono (Tk.all ei)
  have hsg := Tk.all (K := K) ei _ _ hsf
  -- none at all
  refine ⟨_, rfl, st, _, rfl, .inr hsg, rfl, _, rfl, ite2 (fun _ => ?_) (fun _ => ?_)⟩
  · exact q _
  -- the commands
  refine ⟨_, rfl, _, rfl, _, _, rfl, a, h, st, S, rfl, rfl, hAg, nreg, hSg, by omega, er, fun Hh ca cs ej hca lcs hcs => ?_⟩
  have hWh := HpAt.mono (Tk.all ej) hWg
  have hAh := HeapAt.mono (Tk.all ej) hAg
  have hSh := hSg.mono (Tk.all ej)
  have hsh := Tk.all (K := K) ej _ _ hsg
  refine ⟨_, rfl, _, _, _, _, true, rfl, .ty "tuple", tyx_tup hca, kit_ty (by decide +kernel), _, rfl, iteF ?_⟩
  refine ⟨_, rfl, ca, _, rfl, .inr hca, _, rfl, st, _, rfl, .inr hsh, rfl, _, rfl, iteNS (by rw [List.length_map, List.length_map, lcs, lss]) ?_⟩
  refine ⟨_, rfl, st, _, rfl, .inr hsh, _, rfl, by rw [List.length_map]; omega, by rw [List.length_map]; omega, ?_⟩
  refine for_range (lo := 0) (n := (((ss.map V.ref).length : Nat) : Int).toNat) (fun k σ' H' => ∃ (wa : Addr) (h' : Hd) (u7 u8 u9 : Option V), σ' = [some (.ref sa), some (.ref b), some (.ref a), some (.ref st), u4, some (.ref wa), some (.ref ca), u7, u8, u9] ∧ ExA Hh H' ∧
      HpAt K H' wa h' ∧ h'.obs = h.obs ∧ h'.regs.length = h.regs.length + S.length ∧ h'.kept.length ≤ 50 + k ∧ (∀ i, i < h.regs.length → h'.regs[i]? = h.regs[i]?) ∧ ∀ (j : Nat) (p : Int × Rs), j < k → S[j]? = some p → h'.regs[h.regs.length + j]? = some (some p.1))
    ⟨wa, { h with regs := h.regs ++ List.replicate S.length none }, none, none, none, rfl, ExM.refl _ _, hWh, rfl, by show (h.regs ++ List.replicate S.length none).length = _; rw [List.length_append, List.length_replicate], by show h.kept.length ≤ 50 + 0; omega,
      fun i hi => by show (h.regs ++ List.replicate S.length none)[i]? = _; rw [List.getElem?_append_left hi], fun j p hj => absurd hj (by omega)⟩ (fun k σ' H' hk p => ?_) (fun σ' H' p => ?_)
  · obtain ⟨wa', h', u7, u8, u9, rfl, ek, hWk, ho, hr, hkp, hlow, hgot⟩ := p
    have e0 : (0 : Int) + (k : Int) = (k : Int) := Int.zero_add _
    rw [e0]
    have hkS : k < S.length := by rw [List.length_map] at hk; omega
    obtain ⟨⟨m, rs⟩, hp⟩ : ∃ p, S[k]? = some p := ⟨_, List.getElem?_eq_getElem hkS⟩
    obtain ⟨c, hck⟩ : ∃ c, cs[k]? = some c := ⟨_, List.getElem?_eq_getElem (by omega)⟩
    have tk := Tk.all (K := K) ek
    have hcat : atI (cs.map V.ref) (k : Int) = some (.ref c) := atI_nat (by rw [List.getElem?_map, hck]; rfl)
    have hcm := tk _ _ (hcs k c (m, rs) hck hp)
    have hnm := er k (m, rs) hp
    refine ⟨_, rfl, _, rfl, ca, _, _, _, rfl, rfl, tk _ _ hca, hcat, ?_⟩
    -- as the law compiles it
    refine ⟨_, rfl, _, rfl, _, rfl, _, rfl, _, _, _, rfl, a, h, st, S, k, (m, rs), rfl, rfl, rfl, HpAt.mono tk (HeapAt.hp hAh), by omega, hSh.mono tk, by omega, hp, hnm, fun H6 t e6 ht => ?_⟩
    refine ⟨_, _, rfl, cmDt ((h.regs.length : Int) + (k : Int)) (fp S (h.regs.length : Int)) rs, cm_is (Tk.all e6 _ _ hcm), cm_is ht, cm_dep _ _ _, cm_thin _ _ _, _, rfl, iteF ?_⟩
    -- it is in order
    have eto : (h.regs.length : Int) + (k : Int) = ((h.regs.length + k : Nat) : Int) := by omega
    have hcm6 := Tk.all (K := K) e6 _ _ hcm
    rw [eto] at hcm6
    have fit : Fit h' := ⟨by unfold Hd.nums; rw [ho]; exact ok.up, by rw [ho]; omega, by omega, by omega⟩
    have reg : ∀ n ∈ rs.names, ∃ i : Nat, fp S (h.regs.length : Int) n = (i : Int) ∧ h'.regs[i]? = some (some n) := fun n hn => by
      have z := hnm n hn
      obtain ⟨i, hi⟩ := List.getElem?_of_mem z
      have hf : ((S.map (·.1)).findIdx (· == n)) < k := by
        have z2 : ∃ j, j < k ∧ (S.map (·.1))[j]? = some n := by
          rw [List.map_take] at hi
          have hik : i < k := by
            have := (List.getElem?_eq_some_iff.mp hi).1
            rw [List.length_take] at this; omega
          rw [List.getElem?_take_of_lt hik] at hi
          exact ⟨i, hik, hi⟩
        obtain ⟨j, hj, hj2⟩ := z2
        rcases Nat.lt_or_ge ((S.map (·.1)).findIdx (· == n)) k with y | y
        · exact y
        · have hjl := (List.getElem?_eq_some_iff.mp hj2).1
          have := List.not_of_lt_findIdx (p := (· == n)) (xs := S.map (·.1)) (i := j) (by omega)
          have e : (S.map (·.1))[j] = n := (List.getElem?_eq_some_iff.mp hj2).2
          rw [e] at this
          simp at this
      have hl : ((S.map (·.1)).findIdx (· == n)) < (S.map (·.1)).length := by rw [List.length_map]; omega
      have he : (S.map (·.1))[(S.map (·.1)).findIdx (· == n)] = n := by
        have := List.findIdx_getElem (p := (· == n)) (w := hl)
        exact beq_iff_eq.mp this
      have hS' : (S.map (·.1))[(S.map (·.1)).findIdx (· == n)]? = some n := by rw [List.getElem?_eq_getElem hl, he]
      rw [List.getElem?_map] at hS'
      obtain ⟨q', hq1, hq2⟩ := Option.map_eq_some_iff.mp hS'
      refine ⟨h.regs.length + (S.map (·.1)).findIdx (· == n), by unfold fp; omega, ?_⟩
      rw [hgot _ q' hf hq1, hq2]
    have rd : Ready h' (fp S (h.regs.length : Int)) m rs := by
      have tru := tr (m, rs) (List.mem_of_getElem? hp)
      cases rs with
      | reg j =>
        have tru : h.regs[j]? = some (some m) := tru
        show h'.regs[j]? = some (some m)
        rw [hlow j (List.getElem?_eq_some_iff.mp tru).1]; exact tru
      | fld n j =>
        obtain ⟨fs, z1, z2⟩ := tru
        exact ⟨reg n (by simp [Rs.names]), fs, by rw [ho]; exact z1, z2⟩
      | ent n j =>
        obtain ⟨es, z1, z2, z3, z4⟩ := tru
        exact ⟨reg n (by simp [Rs.names]), reg j (by simp [Rs.names]), es, by rw [ho]; exact z1, z2, z3, z4⟩
      | drf n =>
        exact ⟨reg n (by simp [Rs.names]), by rw [ho]; exact tru⟩
    have hWk6 := HpAt.mono (Tk.all e6) hWk
    refine ⟨_, rfl, _, rfl, _, _, rfl, wa', h', c, h.regs.length + k, fp S (h.regs.length : Int), rs, m, rfl, rfl, hWk6, hcm6, fit, rd, fun H7 e7 => ⟨rfl, _, rfl, iteF ?_⟩⟩
    refine ⟨_, rfl, _, rfl, _, _, rfl, wa', h', c, h.regs.length + k, fp S (h.regs.length : Int), rs, m, rfl, rfl, HpAt.mono (Tk.all e7) hWk6, Tk.all e7 _ _ hcm6, fit, by omega, rd, fun H8 tp wb h'' e8 htp hwb ho2 hr2 hk2 => ?_⟩
    have ek8 : ExA Hh H8 := ExM.trans ek (ExM.trans e6 (ExM.trans e7 e8))
    have t8 := Tk.all (K := K) ek8
    obtain ⟨s1, hs1, ra, hs2, hs3⟩ := pget' (pmp hp5 fun _ _ z => z) hp
    have hst : SqT K H8 s1 [.int m, .ref ra] := t8 _ _ (Tk.all (ExM.trans e5f (ExM.trans ei ej)) _ _ hs2)
    have hsat : atI (ss.map V.ref) (k : Int) = some (.ref s1) := atI_nat (by rw [List.getElem?_map, hs1]; rfl)
    refine ⟨_, rfl, tp, _, _, _, rfl, rfl, SqL.of htp, at0, ?_⟩
    refine ⟨_, rfl, tp, _, _, _, rfl, rfl, SqL.of htp, at1, _, rfl, _, rfl, st, _, _, _, rfl, rfl, t8 _ _ hsh, hsat, s1, _, _, _, rfl, rfl, hst, at0, ?_⟩
    refine ⟨_, _, rfl, .int m, rfl, rfl, (show 0 < 9 by decide), trivial, _, rfl, iteF ?_⟩
    refine ⟨wb, h'', _, _, _, rfl, ek8, hwb, by rw [ho2, ho], by rw [hr2, List.length_set, hr], by omega, fun i hi => ?_, fun j p' hj hj2 => ?_⟩
    · rw [hr2, List.getElem?_set_ne (by omega)]; exact hlow i hi
    · rw [hr2]
      by_cases cj : j = k
      · subst cj
        rw [hp] at hj2
        cases hj2
        rw [List.getElem?_set_self (by omega)]
      · rw [List.getElem?_set_ne (by omega)]
        exact hgot j p' (by omega) hj2
  · exact q _
end
end Wc
namespace Wc
open PySem L2
abbrev RW : PySem.W.OpenRow := PySem.W.OpenLaw.row PySem.Challenge.rw_weakcourt_k13_derivations_as_commands
def dd_registers_of : He.DefD := ⟨("registers_of", none), "registers_of", "registers_of", defArgs s_registers_of, defBody s_registers_of, defScope s_registers_of, [], []⟩
def dd_objects_of : He.DefD := ⟨("objects_of", none), "objects_of", "objects_of", defArgs s_objects_of, defBody s_objects_of, defScope s_objects_of, [], []⟩
def dd_by_number : He.DefD := ⟨("by_number", none), "by_number", "by_number", defArgs s_by_number, defBody s_by_number, defScope s_by_number, [], []⟩
def dd_objects_among : He.DefD := ⟨("objects_among", none), "objects_among", "objects_among", defArgs s_objects_among, defBody s_objects_among, defScope s_objects_among, [], []⟩
def dd_led_to : He.DefD := ⟨("led_to", none), "led_to", "led_to", defArgs s_led_to, defBody s_led_to, defScope s_led_to, [], []⟩
def dd_rounds : He.DefD := ⟨("rounds", none), "rounds", "rounds", defArgs s_rounds, defBody s_rounds, defScope s_rounds, [], []⟩
def dd_named : He.DefD := ⟨("named", none), "named", "named", defArgs s_named, defBody s_named, defScope s_named, [], []⟩
def dd_derive : He.DefD := ⟨("derive", none), "derive", "derive", defArgs s_derive, defBody s_derive, defScope s_derive, [], []⟩
def dd_best_reason : He.DefD := ⟨("best_reason", none), "best_reason", "best_reason", defArgs s_best_reason, defBody s_best_reason, defScope s_best_reason, [], []⟩
def dd_reason_from : He.DefD := ⟨("reason_from", none), "reason_from", "reason_from", defArgs s_reason_from, defBody s_reason_from, defScope s_reason_from, [], []⟩
def dd_compile_derivation : He.DefD := ⟨("compile_derivation", none), "compile_derivation", "compile_derivation", defArgs s_compile_derivation, defBody s_compile_derivation, defScope s_compile_derivation, [], []⟩
def dd_loading : He.DefD := ⟨("loading", none), "loading", "loading", defArgs s_loading, defBody s_loading, defScope s_loading, [], []⟩
def dd_with_registers : He.DefD := ⟨("with_registers", none), "with_registers", "with_registers", defArgs s_with_registers, defBody s_with_registers, defScope s_with_registers, [], []⟩
def dd__law_cell : He.DefD := ⟨("_law_cell", none), "_law_cell", "_law_cell", defArgs s__law_cell, defBody s__law_cell, defScope s__law_cell, [], []⟩
def dd__law_digits : He.DefD := ⟨("_law_digits", none), "_law_digits", "_law_digits", defArgs s__law_digits, defBody s__law_digits, defScope s__law_digits, [], []⟩
def dd__law_box : He.DefD := ⟨("_law_box", none), "_law_box", "_law_box", defArgs s__law_box, defBody s__law_box, defScope s__law_box, [], []⟩
def dd__law_draw : He.DefD := ⟨("_law_draw", none), "_law_draw", "_law_draw", defArgs s__law_draw, defBody s__law_draw, defScope s__law_draw, [], []⟩
def dd__law_number : He.DefD := ⟨("_law_number", none), "_law_number", "_law_number", defArgs s__law_number, defBody s__law_number, defScope s__law_number, [], []⟩
def dd__law_object : He.DefD := ⟨("_law_object", none), "_law_object", "_law_object", defArgs s__law_object, defBody s__law_object, defScope s__law_object, [], []⟩
def dd__law_heap : He.DefD := ⟨("_law_heap", none), "_law_heap", "_law_heap", defArgs s__law_heap, defBody s__law_heap, defScope s__law_heap, [], []⟩
def dd__law_numbers : He.DefD := ⟨("_law_numbers", none), "_law_numbers", "_law_numbers", defArgs s__law_numbers, defBody s__law_numbers, defScope s__law_numbers, [], []⟩
def dd__law_same : He.DefD := ⟨("_law_same", none), "_law_same", "_law_same", defArgs s__law_same, defBody s__law_same, defScope s__law_same, [], []⟩
def dd__law_needed : He.DefD := ⟨("_law_needed", none), "_law_needed", "_law_needed", defArgs s__law_needed, defBody s__law_needed, defScope s__law_needed, [], []⟩
def dd__law_of : He.DefD := ⟨("_law_of", none), "_law_of", "_law_of", defArgs s__law_of, defBody s__law_of, defScope s__law_of, [], []⟩
def dd__law_fault : He.DefD := ⟨("_law_fault", none), "_law_fault", "_law_fault", defArgs s__law_fault, defBody s__law_fault, defScope s__law_fault, [], []⟩
def dd__law_load : He.DefD := ⟨("_law_load", none), "_law_load", "_law_load", defArgs s__law_load, defBody s__law_load, defScope s__law_load, [], []⟩
def dd__law_made : He.DefD := ⟨("_law_made", none), "_law_made", "_law_made", defArgs s__law_made, defBody s__law_made, defScope s__law_made, [], []⟩
def dd__law_keep : He.DefD := ⟨("_law_keep", none), "_law_keep", "_law_keep", defArgs s__law_keep, defBody s__law_keep, defScope s__law_keep, [], []⟩
def dd__law_with : He.DefD := ⟨("_law_with", none), "_law_with", "_law_with", defArgs s__law_with, defBody s__law_with, defScope s__law_with, [], []⟩
def dd__law_table : He.DefD := ⟨("_law_table", none), "_law_table", "_law_table", defArgs s__law_table, defBody s__law_table, defScope s__law_table, [], []⟩
def dd__law_do : He.DefD := ⟨("_law_do", none), "_law_do", "_law_do", defArgs s__law_do, defBody s__law_do, defScope s__law_do, [], []⟩
def dd__law_loading : He.DefD := ⟨("_law_loading", none), "_law_loading", "_law_loading", defArgs s__law_loading, defBody s__law_loading, defScope s__law_loading, [], []⟩
def dd_law : He.DefD := ⟨("law", none), "law", "law", defArgs s_law, defBody s_law, defScope s_law, [], []⟩
def fnl : List He.DefD := [dd_registers_of, dd_objects_of, dd_by_number, dd_objects_among, dd_led_to, dd_rounds, dd_named, dd_derive, dd_best_reason, dd_reason_from, dd_compile_derivation, dd_loading, dd_with_registers, dd__law_cell, dd__law_digits, dd__law_box, dd__law_draw, dd__law_number, dd__law_object, dd__law_heap, dd__law_numbers, dd__law_same, dd__law_needed, dd__law_of, dd__law_fault, dd__law_load, dd__law_made, dd__law_keep, dd__law_with, dd__law_table, dd__law_do, dd__law_loading, dd_law]
def fal : List He.Fa := [.glo "registers_of", .glo "objects_of", .glo "by_number", .glo "objects_among", .glo "led_to", .glo "rounds", .glo "named", .glo "derive", .glo "best_reason", .glo "reason_from", .glo "compile_derivation", .glo "loading", .glo "with_registers", .glo "_law_cell", .glo "_law_digits", .glo "_law_box", .glo "_law_draw", .glo "_law_number", .glo "_law_object", .glo "_law_heap", .glo "_law_numbers", .glo "_law_same", .glo "_law_needed", .glo "_law_of", .glo "_law_fault", .glo "_law_load", .glo "_law_made", .glo "_law_keep", .glo "_law_with", .glo "_law_table", .glo "_law_do", .glo "_law_loading", .glo "law", .free "bool", .free "enumerate", .free "int", .free "isinstance", .free "len", .free "list", .free "range", .free "sorted", .free "str", .free "tuple"]
def tfl : List He.Defn := [("derive", none)]
def tsl : List He.Tab := []
abbrev exl : PySem.W.Frag → Bool := fun _ => true
abbrev hk : PySem.W.Hook := He.hookX 4 fal fnl tsl tfl exl
def ob (s : PySem.W.SharedT) : He.AlX := He.obsX 4 fal fnl tsl tfl exl (HandSHeadRun.getT s)
theorem ob_eq (s : PySem.W.SharedT) : ob s = hk.obs s.abs := He.obsX_eq (HandSHeadRun.getT_eq s)
def otherNames : List Str := ["registers_of", "objects_of", "by_number", "objects_among", "led_to", "rounds", "named", "derive", "best_reason", "reason_from", "compile_derivation", "loading", "with_registers", "_law_cell", "_law_digits", "_law_box", "_law_draw", "_law_number", "_law_object", "_law_heap", "_law_numbers", "_law_same", "_law_needed", "_law_of", "_law_fault", "_law_load", "_law_made", "_law_keep", "_law_with", "_law_table", "_law_do", "_law_loading"]
set_option maxHeartbeats 0 in
theorem run (w : World) : HandSHeadRun.RunEq RW (PySem.W.view RW.prog [36]) hk ob 4000 otherNames w := by
  intro os
  kernel_rfl
theorem all_x {l : PySem.W.OpenLaw} {w : World} {K : PySem.W.Frag} {h : Heap} {mg : Str → Option Value} {fa : Addr} (X : K.In h) (G : h.Ns mainGlobals mg) (hfa : mg "law" = some (.ref fa)) (S : He.SaysX fal fnl tsl tfl exl w h K) : LamX.LawAtS l w K CX0 10 63 "script" mg fa h := by
  have c := S.t.d
  obtain ⟨fd0, G0⟩ := c.def_ 0 (d := dd_registers_of) rfl
  have F0 : FunD K "registers_of" "registers_of" (defArgs s_registers_of) (defBody s_registers_of) (defScope s_registers_of) [] [] (He.fAd K ("registers_of", none)) fd0 := G0
  obtain ⟨cd0, D0, e0⟩ := FunD.df F0
  have a0 : mg "registers_of" = some (.ref (He.fAd K ("registers_of", none))) := He.glo_ok X G (c.fact 0 (f := .glo "registers_of") rfl)
  obtain ⟨fd1, G1⟩ := c.def_ 1 (d := dd_objects_of) rfl
  have F1 : FunD K "objects_of" "objects_of" (defArgs s_objects_of) (defBody s_objects_of) (defScope s_objects_of) [] [] (He.fAd K ("objects_of", none)) fd1 := G1
  obtain ⟨cd1, D1, e1⟩ := FunD.df F1
  have a1 : mg "objects_of" = some (.ref (He.fAd K ("objects_of", none))) := He.glo_ok X G (c.fact 1 (f := .glo "objects_of") rfl)
  obtain ⟨fd2, G2⟩ := c.def_ 2 (d := dd_by_number) rfl
  have F2 : FunD K "by_number" "by_number" (defArgs s_by_number) (defBody s_by_number) (defScope s_by_number) [] [] (He.fAd K ("by_number", none)) fd2 := G2
  obtain ⟨cd2, D2, e2⟩ := FunD.df F2
  have a2 : mg "by_number" = some (.ref (He.fAd K ("by_number", none))) := He.glo_ok X G (c.fact 2 (f := .glo "by_number") rfl)
  obtain ⟨fd3, G3⟩ := c.def_ 3 (d := dd_objects_among) rfl
  have F3 : FunD K "objects_among" "objects_among" (defArgs s_objects_among) (defBody s_objects_among) (defScope s_objects_among) [] [] (He.fAd K ("objects_among", none)) fd3 := G3
  obtain ⟨cd3, D3, e3⟩ := FunD.df F3
  have a3 : mg "objects_among" = some (.ref (He.fAd K ("objects_among", none))) := He.glo_ok X G (c.fact 3 (f := .glo "objects_among") rfl)
  obtain ⟨fd4, G4⟩ := c.def_ 4 (d := dd_led_to) rfl
  have F4 : FunD K "led_to" "led_to" (defArgs s_led_to) (defBody s_led_to) (defScope s_led_to) [] [] (He.fAd K ("led_to", none)) fd4 := G4
  obtain ⟨cd4, D4, e4⟩ := FunD.df F4
  have a4 : mg "led_to" = some (.ref (He.fAd K ("led_to", none))) := He.glo_ok X G (c.fact 4 (f := .glo "led_to") rfl)
  obtain ⟨fd5, G5⟩ := c.def_ 5 (d := dd_rounds) rfl
  have F5 : FunD K "rounds" "rounds" (defArgs s_rounds) (defBody s_rounds) (defScope s_rounds) [] [] (He.fAd K ("rounds", none)) fd5 := G5
  obtain ⟨cd5, D5, e5⟩ := FunD.df F5
  have a5 : mg "rounds" = some (.ref (He.fAd K ("rounds", none))) := He.glo_ok X G (c.fact 5 (f := .glo "rounds") rfl)
  obtain ⟨fd6, G6⟩ := c.def_ 6 (d := dd_named) rfl
  have F6 : FunD K "named" "named" (defArgs s_named) (defBody s_named) (defScope s_named) [] [] (He.fAd K ("named", none)) fd6 := G6
  obtain ⟨cd6, D6, e6⟩ := FunD.df F6
  have a6 : mg "named" = some (.ref (He.fAd K ("named", none))) := He.glo_ok X G (c.fact 6 (f := .glo "named") rfl)
  obtain ⟨fd7, G7⟩ := c.def_ 7 (d := dd_derive) rfl
  have F7 : FunD K "derive" "derive" (defArgs s_derive) (defBody s_derive) (defScope s_derive) [] [] (He.fAd K ("derive", none)) fd7 := G7
  obtain ⟨cd7, D7, e7⟩ := FunD.df F7
  have a7 : mg "derive" = some (.ref (He.fAd K ("derive", none))) := He.glo_ok X G (c.fact 7 (f := .glo "derive") rfl)
  obtain ⟨fd8, G8⟩ := c.def_ 8 (d := dd_best_reason) rfl
  have F8 : FunD K "best_reason" "best_reason" (defArgs s_best_reason) (defBody s_best_reason) (defScope s_best_reason) [] [] (He.fAd K ("best_reason", none)) fd8 := G8
  obtain ⟨cd8, D8, e8⟩ := FunD.df F8
  have a8 : mg "best_reason" = some (.ref (He.fAd K ("best_reason", none))) := He.glo_ok X G (c.fact 8 (f := .glo "best_reason") rfl)
  obtain ⟨fd9, G9⟩ := c.def_ 9 (d := dd_reason_from) rfl
  have F9 : FunD K "reason_from" "reason_from" (defArgs s_reason_from) (defBody s_reason_from) (defScope s_reason_from) [] [] (He.fAd K ("reason_from", none)) fd9 := G9
  obtain ⟨cd9, D9, e9⟩ := FunD.df F9
  have a9 : mg "reason_from" = some (.ref (He.fAd K ("reason_from", none))) := He.glo_ok X G (c.fact 9 (f := .glo "reason_from") rfl)
  obtain ⟨fd10, G10⟩ := c.def_ 10 (d := dd_compile_derivation) rfl
  have F10 : FunD K "compile_derivation" "compile_derivation" (defArgs s_compile_derivation) (defBody s_compile_derivation) (defScope s_compile_derivation) [] [] (He.fAd K ("compile_derivation", none)) fd10 := G10
  obtain ⟨cd10, D10, e10⟩ := FunD.df F10
  have a10 : mg "compile_derivation" = some (.ref (He.fAd K ("compile_derivation", none))) := He.glo_ok X G (c.fact 10 (f := .glo "compile_derivation") rfl)
  obtain ⟨fd11, G11⟩ := c.def_ 11 (d := dd_loading) rfl
  have F11 : FunD K "loading" "loading" (defArgs s_loading) (defBody s_loading) (defScope s_loading) [] [] (He.fAd K ("loading", none)) fd11 := G11
  obtain ⟨cd11, D11, e11⟩ := FunD.df F11
  have a11 : mg "loading" = some (.ref (He.fAd K ("loading", none))) := He.glo_ok X G (c.fact 11 (f := .glo "loading") rfl)
  obtain ⟨fd12, G12⟩ := c.def_ 12 (d := dd_with_registers) rfl
  have F12 : FunD K "with_registers" "with_registers" (defArgs s_with_registers) (defBody s_with_registers) (defScope s_with_registers) [] [] (He.fAd K ("with_registers", none)) fd12 := G12
  obtain ⟨cd12, D12, e12⟩ := FunD.df F12
  have a12 : mg "with_registers" = some (.ref (He.fAd K ("with_registers", none))) := He.glo_ok X G (c.fact 12 (f := .glo "with_registers") rfl)
  obtain ⟨fd13, G13⟩ := c.def_ 13 (d := dd__law_cell) rfl
  have F13 : FunD K "_law_cell" "_law_cell" (defArgs s__law_cell) (defBody s__law_cell) (defScope s__law_cell) [] [] (He.fAd K ("_law_cell", none)) fd13 := G13
  obtain ⟨cd13, D13, e13⟩ := FunD.df F13
  have a13 : mg "_law_cell" = some (.ref (He.fAd K ("_law_cell", none))) := He.glo_ok X G (c.fact 13 (f := .glo "_law_cell") rfl)
  obtain ⟨fd14, G14⟩ := c.def_ 14 (d := dd__law_digits) rfl
  have F14 : FunD K "_law_digits" "_law_digits" (defArgs s__law_digits) (defBody s__law_digits) (defScope s__law_digits) [] [] (He.fAd K ("_law_digits", none)) fd14 := G14
  obtain ⟨cd14, D14, e14⟩ := FunD.df F14
  have a14 : mg "_law_digits" = some (.ref (He.fAd K ("_law_digits", none))) := He.glo_ok X G (c.fact 14 (f := .glo "_law_digits") rfl)
  obtain ⟨fd15, G15⟩ := c.def_ 15 (d := dd__law_box) rfl
  have F15 : FunD K "_law_box" "_law_box" (defArgs s__law_box) (defBody s__law_box) (defScope s__law_box) [] [] (He.fAd K ("_law_box", none)) fd15 := G15
  obtain ⟨cd15, D15, e15⟩ := FunD.df F15
  have a15 : mg "_law_box" = some (.ref (He.fAd K ("_law_box", none))) := He.glo_ok X G (c.fact 15 (f := .glo "_law_box") rfl)
  obtain ⟨fd16, G16⟩ := c.def_ 16 (d := dd__law_draw) rfl
  have F16 : FunD K "_law_draw" "_law_draw" (defArgs s__law_draw) (defBody s__law_draw) (defScope s__law_draw) [] [] (He.fAd K ("_law_draw", none)) fd16 := G16
  obtain ⟨cd16, D16, e16⟩ := FunD.df F16
  have a16 : mg "_law_draw" = some (.ref (He.fAd K ("_law_draw", none))) := He.glo_ok X G (c.fact 16 (f := .glo "_law_draw") rfl)
  obtain ⟨fd17, G17⟩ := c.def_ 17 (d := dd__law_number) rfl
  have F17 : FunD K "_law_number" "_law_number" (defArgs s__law_number) (defBody s__law_number) (defScope s__law_number) [] [] (He.fAd K ("_law_number", none)) fd17 := G17
  obtain ⟨cd17, D17, e17⟩ := FunD.df F17
  have a17 : mg "_law_number" = some (.ref (He.fAd K ("_law_number", none))) := He.glo_ok X G (c.fact 17 (f := .glo "_law_number") rfl)
  obtain ⟨fd18, G18⟩ := c.def_ 18 (d := dd__law_object) rfl
  have F18 : FunD K "_law_object" "_law_object" (defArgs s__law_object) (defBody s__law_object) (defScope s__law_object) [] [] (He.fAd K ("_law_object", none)) fd18 := G18
  obtain ⟨cd18, D18, e18⟩ := FunD.df F18
  have a18 : mg "_law_object" = some (.ref (He.fAd K ("_law_object", none))) := He.glo_ok X G (c.fact 18 (f := .glo "_law_object") rfl)
  obtain ⟨fd19, G19⟩ := c.def_ 19 (d := dd__law_heap) rfl
  have F19 : FunD K "_law_heap" "_law_heap" (defArgs s__law_heap) (defBody s__law_heap) (defScope s__law_heap) [] [] (He.fAd K ("_law_heap", none)) fd19 := G19
  obtain ⟨cd19, D19, e19⟩ := FunD.df F19
  have a19 : mg "_law_heap" = some (.ref (He.fAd K ("_law_heap", none))) := He.glo_ok X G (c.fact 19 (f := .glo "_law_heap") rfl)
  obtain ⟨fd20, G20⟩ := c.def_ 20 (d := dd__law_numbers) rfl
  have F20 : FunD K "_law_numbers" "_law_numbers" (defArgs s__law_numbers) (defBody s__law_numbers) (defScope s__law_numbers) [] [] (He.fAd K ("_law_numbers", none)) fd20 := G20
  obtain ⟨cd20, D20, e20⟩ := FunD.df F20
  have a20 : mg "_law_numbers" = some (.ref (He.fAd K ("_law_numbers", none))) := He.glo_ok X G (c.fact 20 (f := .glo "_law_numbers") rfl)
  obtain ⟨fd21, G21⟩ := c.def_ 21 (d := dd__law_same) rfl
  have F21 : FunD K "_law_same" "_law_same" (defArgs s__law_same) (defBody s__law_same) (defScope s__law_same) [] [] (He.fAd K ("_law_same", none)) fd21 := G21
  obtain ⟨cd21, D21, e21⟩ := FunD.df F21
  have a21 : mg "_law_same" = some (.ref (He.fAd K ("_law_same", none))) := He.glo_ok X G (c.fact 21 (f := .glo "_law_same") rfl)
  obtain ⟨fd22, G22⟩ := c.def_ 22 (d := dd__law_needed) rfl
  have F22 : FunD K "_law_needed" "_law_needed" (defArgs s__law_needed) (defBody s__law_needed) (defScope s__law_needed) [] [] (He.fAd K ("_law_needed", none)) fd22 := G22
  obtain ⟨cd22, D22, e22⟩ := FunD.df F22
  have a22 : mg "_law_needed" = some (.ref (He.fAd K ("_law_needed", none))) := He.glo_ok X G (c.fact 22 (f := .glo "_law_needed") rfl)
  obtain ⟨fd23, G23⟩ := c.def_ 23 (d := dd__law_of) rfl
  have F23 : FunD K "_law_of" "_law_of" (defArgs s__law_of) (defBody s__law_of) (defScope s__law_of) [] [] (He.fAd K ("_law_of", none)) fd23 := G23
  obtain ⟨cd23, D23, e23⟩ := FunD.df F23
  have a23 : mg "_law_of" = some (.ref (He.fAd K ("_law_of", none))) := He.glo_ok X G (c.fact 23 (f := .glo "_law_of") rfl)
  obtain ⟨fd24, G24⟩ := c.def_ 24 (d := dd__law_fault) rfl
  have F24 : FunD K "_law_fault" "_law_fault" (defArgs s__law_fault) (defBody s__law_fault) (defScope s__law_fault) [] [] (He.fAd K ("_law_fault", none)) fd24 := G24
  obtain ⟨cd24, D24, e24⟩ := FunD.df F24
  have a24 : mg "_law_fault" = some (.ref (He.fAd K ("_law_fault", none))) := He.glo_ok X G (c.fact 24 (f := .glo "_law_fault") rfl)
  obtain ⟨fd25, G25⟩ := c.def_ 25 (d := dd__law_load) rfl
  have F25 : FunD K "_law_load" "_law_load" (defArgs s__law_load) (defBody s__law_load) (defScope s__law_load) [] [] (He.fAd K ("_law_load", none)) fd25 := G25
  obtain ⟨cd25, D25, e25⟩ := FunD.df F25
  have a25 : mg "_law_load" = some (.ref (He.fAd K ("_law_load", none))) := He.glo_ok X G (c.fact 25 (f := .glo "_law_load") rfl)
  obtain ⟨fd26, G26⟩ := c.def_ 26 (d := dd__law_made) rfl
  have F26 : FunD K "_law_made" "_law_made" (defArgs s__law_made) (defBody s__law_made) (defScope s__law_made) [] [] (He.fAd K ("_law_made", none)) fd26 := G26
  obtain ⟨cd26, D26, e26⟩ := FunD.df F26
  have a26 : mg "_law_made" = some (.ref (He.fAd K ("_law_made", none))) := He.glo_ok X G (c.fact 26 (f := .glo "_law_made") rfl)
  obtain ⟨fd27, G27⟩ := c.def_ 27 (d := dd__law_keep) rfl
  have F27 : FunD K "_law_keep" "_law_keep" (defArgs s__law_keep) (defBody s__law_keep) (defScope s__law_keep) [] [] (He.fAd K ("_law_keep", none)) fd27 := G27
  obtain ⟨cd27, D27, e27⟩ := FunD.df F27
  have a27 : mg "_law_keep" = some (.ref (He.fAd K ("_law_keep", none))) := He.glo_ok X G (c.fact 27 (f := .glo "_law_keep") rfl)
  obtain ⟨fd28, G28⟩ := c.def_ 28 (d := dd__law_with) rfl
  have F28 : FunD K "_law_with" "_law_with" (defArgs s__law_with) (defBody s__law_with) (defScope s__law_with) [] [] (He.fAd K ("_law_with", none)) fd28 := G28
  obtain ⟨cd28, D28, e28⟩ := FunD.df F28
  have a28 : mg "_law_with" = some (.ref (He.fAd K ("_law_with", none))) := He.glo_ok X G (c.fact 28 (f := .glo "_law_with") rfl)
  obtain ⟨fd29, G29⟩ := c.def_ 29 (d := dd__law_table) rfl
  have F29 : FunD K "_law_table" "_law_table" (defArgs s__law_table) (defBody s__law_table) (defScope s__law_table) [] [] (He.fAd K ("_law_table", none)) fd29 := G29
  obtain ⟨cd29, D29, e29⟩ := FunD.df F29
  have a29 : mg "_law_table" = some (.ref (He.fAd K ("_law_table", none))) := He.glo_ok X G (c.fact 29 (f := .glo "_law_table") rfl)
  obtain ⟨fd30, G30⟩ := c.def_ 30 (d := dd__law_do) rfl
  have F30 : FunD K "_law_do" "_law_do" (defArgs s__law_do) (defBody s__law_do) (defScope s__law_do) [] [] (He.fAd K ("_law_do", none)) fd30 := G30
  obtain ⟨cd30, D30, e30⟩ := FunD.df F30
  have a30 : mg "_law_do" = some (.ref (He.fAd K ("_law_do", none))) := He.glo_ok X G (c.fact 30 (f := .glo "_law_do") rfl)
  obtain ⟨fd31, G31⟩ := c.def_ 31 (d := dd__law_loading) rfl
  have F31 : FunD K "_law_loading" "_law_loading" (defArgs s__law_loading) (defBody s__law_loading) (defScope s__law_loading) [] [] (He.fAd K ("_law_loading", none)) fd31 := G31
  obtain ⟨cd31, D31, e31⟩ := FunD.df F31
  have a31 : mg "_law_loading" = some (.ref (He.fAd K ("_law_loading", none))) := He.glo_ok X G (c.fact 31 (f := .glo "_law_loading") rfl)
  obtain ⟨fd32, G32⟩ := c.def_ 32 (d := dd_law) rfl
  have F32 : FunD K "law" "law" (defArgs s_law) (defBody s_law) (defScope s_law) [] [] (He.fAd K ("law", none)) fd32 := G32
  obtain ⟨cd32, D32, e32⟩ := FunD.df F32
  have a32 : mg "law" = some (.ref (He.fAd K ("law", none))) := He.glo_ok X G (c.fact 32 (f := .glo "law") rfl)
  have e := hfa.symm.trans a32
  cases e
  have T : Txt mg := ⟨He.free_ok X G (c.fact 33 (f := .free "bool") rfl), He.free_ok X G (c.fact 34 (f := .free "enumerate") rfl), He.free_ok X G (c.fact 35 (f := .free "int") rfl), He.free_ok X G (c.fact 36 (f := .free "isinstance") rfl), He.free_ok X G (c.fact 37 (f := .free "len") rfl), He.free_ok X G (c.fact 38 (f := .free "list") rfl), He.free_ok X G (c.fact 39 (f := .free "range") rfl), He.free_ok X G (c.fact 40 (f := .free "sorted") rfl), He.free_ok X G (c.fact 41 (f := .free "str") rfl), He.free_ok X G (c.fact 42 (f := .free "tuple") rfl)⟩
  have bl := FunD.bindsA (ps := ["script"]) F32 fun _ _ _ _ _ _ us hl => match us, hl with | [_], _ => rfl
  refine ⟨fd32, tfl.map (He.cT K), sp_law K, ?_, ?_, ?_, fun s v => bl s [v] rfl, fun H a ns hl _ hT hS => ⟨_, rfl, a, ns, rfl, hS, hl, fun p hp => hT (He.cT K p) (List.mem_map.mpr ⟨p, hp, rfl⟩), fun _ => rfl⟩, fun base KB GB TBs => ?_⟩
  · intro p hp
    obtain ⟨q, hq, rfl⟩ := List.mem_map.mp hp
    exact S.empty q hq
  · intro p hp
    obtain ⟨q, hq, rfl⟩ := List.mem_map.mp hp
    exact S.out q hq
  · intro p hp
    obtain ⟨q, hq, rfl⟩ := List.mem_map.mp hp
    exact PySem.W.codeHd_of_K X (S.hd q hq)
  have b0 := F0.bindsN (ps := ["heap"]) fun _ _ _ _ _ _ us hl => match us, hl with | [_], _ => rfl
  have C_registers_of : Cal l.prog w K mg base 1 "registers_of" (sp_registers_of K) [] := Cal.mk0 (ok_registers_of D0 T) a0 F0.kp b0
  have b1 := F1.bindsN (ps := ["heap"]) fun _ _ _ _ _ _ us hl => match us, hl with | [_], _ => rfl
  have C_objects_of : Cal l.prog w K mg base 1 "objects_of" (sp_objects_of K) [] := Cal.mk0 (ok_objects_of D1 T) a1 F1.kp b1
  have b3 := F3.bindsN (ps := ["references"]) fun _ _ _ _ _ _ us hl => match us, hl with | [_], _ => rfl
  have C_objects_among : Cal l.prog w K mg base 1 "objects_among" (sp_objects_among K) [] := Cal.mk0 (ok_objects_among D3 T) a3 F3.kp b3
  have b6 := F6.bindsN (ps := ["reason"]) fun _ _ _ _ _ _ us hl => match us, hl with | [_], _ => rfl
  have C_named : Cal l.prog w K mg base 1 "named" (sp_named K) [] := Cal.mk0 (ok_named D6 T) a6 F6.kp b6
  have b9 := F9.bindsN (ps := ["thing", "lower", "condemned", "number"]) fun _ _ _ _ _ _ us hl => match us, hl with | [_, _, _, _], _ => rfl
  have C_reason_from : Cal l.prog w K mg base 1 "reason_from" (sp_reason_from K) [] := Cal.mk0 (ok_reason_from D9 T) a9 F9.kp b9
  have b11 := F11.bindsN (ps := ["place", "reason", "places"]) fun _ _ _ _ _ _ us hl => match us, hl with | [_, _, _], _ => rfl
  have C_loading : Cal l.prog w K mg base 1 "loading" (sp_loading K) [] := Cal.mk0 (ok_loading D11 T) a11 F11.kp b11
  have b12 := F12.bindsN (ps := ["heap", "many"]) fun _ _ _ _ _ _ us hl => match us, hl with | [_, _], _ => rfl
  have C_with_registers : Cal l.prog w K mg base 1 "with_registers" (sp_with_registers K) [] := Cal.mk0 (ok_with_registers D12 T) a12 F12.kp b12
  have b13 := F13.bindsN (ps := ["script", "k"]) fun _ _ _ _ _ _ us hl => match us, hl with | [_, _], _ => rfl
  have C__law_cell : Cal l.prog w K mg base 1 "_law_cell" (sp__law_cell K) [] := Cal.mk0 (ok__law_cell D13 T) a13 F13.kp b13
  have b16 := F16.bindsN (ps := ["box", "many"]) fun _ _ _ _ _ _ us hl => match us, hl with | [_, _], _ => rfl
  have C__law_draw : Cal l.prog w K mg base 1 "_law_draw" (sp__law_draw K) [] := Cal.mk0 (ok__law_draw D16 T) a16 F16.kp b16
  have b20 := F20.bindsN (ps := ["heap"]) fun _ _ _ _ _ _ us hl => match us, hl with | [_], _ => rfl
  have C__law_numbers : Cal l.prog w K mg base 1 "_law_numbers" (sp__law_numbers K) [] := Cal.mk0 (ok__law_numbers D20 T) a20 F20.kp b20
  have b22 := F22.bindsN (ps := ["command"]) fun _ _ _ _ _ _ us hl => match us, hl with | [_], _ => rfl
  have C__law_needed : Cal l.prog w K mg base 1 "_law_needed" (sp__law_needed K) [] := Cal.mk0 (ok__law_needed D22 T) a22 F22.kp b22
  have b23 := F23.bindsN (ps := ["heap", "number"]) fun _ _ _ _ _ _ us hl => match us, hl with | [_, _], _ => rfl
  have C__law_of : Cal l.prog w K mg base 1 "_law_of" (sp__law_of K) [] := Cal.mk0 (ok__law_of D23 T) a23 F23.kp b23
  have b25 := F25.bindsN (ps := ["heap", "to", "number"]) fun _ _ _ _ _ _ us hl => match us, hl with | [_, _, _], _ => rfl
  have C__law_load : Cal l.prog w K mg base 1 "_law_load" (sp__law_load K) [] := Cal.mk0 (ok__law_load D25 T) a25 F25.kp b25
  have b27 := F27.bindsN (ps := ["heap", "number"]) fun _ _ _ _ _ _ us hl => match us, hl with | [_, _], _ => rfl
  have C__law_keep : Cal l.prog w K mg base 1 "_law_keep" (sp__law_keep K) [] := Cal.mk0 (ok__law_keep D27 T) a27 F27.kp b27
  have b31 := F31.bindsN (ps := ["heap", "steps", "k"]) fun _ _ _ _ _ _ us hl => match us, hl with | [_, _, _], _ => rfl
  have C__law_loading : Cal l.prog w K mg base 1 "_law_loading" (sp__law_loading K) [] := Cal.mk0 (ok__law_loading D31 T) a31 F31.kp b31
  have b2 := F2.bindsN (ps := ["heap"]) fun _ _ _ _ _ _ us hl => match us, hl with | [_], _ => rfl
  have C_by_number : Cal l.prog w K mg base 2 "by_number" (sp_by_number K) [] := Cal.mk0 (ok_by_number D2 T C_objects_of) a2 F2.kp b2
  have b4 := F4.bindsN (ps := ["thing", "got", "condemned"]) fun _ _ _ _ _ _ us hl => match us, hl with | [_, _, _], _ => rfl
  have C_led_to : Cal l.prog w K mg base 2 "led_to" (sp_led_to K) [] := Cal.mk0 (ok_led_to D4 T C_objects_among) a4 F4.kp b4
  have b8 := F8.bindsN (ps := ["heap", "things", "depths", "condemned", "number"]) fun _ _ _ _ _ _ us hl => match us, hl with | [_, _, _, _, _], _ => rfl
  have C_best_reason : Cal l.prog w K mg base 2 "best_reason" (sp_best_reason K) [] := Cal.mk0 (ok_best_reason D8 T C_registers_of C_reason_from) a8 F8.kp b8
  have b10 := F10.bindsN (ps := ["heap", "steps"]) fun _ _ _ _ _ _ us hl => match us, hl with | [_, _], _ => rfl
  have C_compile_derivation : Cal l.prog w K mg base 2 "compile_derivation" (sp_compile_derivation K) [] := Cal.mk0 (ok_compile_derivation D10 T C_registers_of C_loading) a10 F10.kp b10
  have b14 := F14.bindsN (ps := ["script", "first", "last"]) fun _ _ _ _ _ _ us hl => match us, hl with | [_, _, _], _ => rfl
  have C__law_digits : Cal l.prog w K mg base 2 "_law_digits" (sp__law_digits K) [] := Cal.mk0 (ok__law_digits D14 T C__law_cell) a14 F14.kp b14
  have b17 := F17.bindsN (ps := ["box", "numbers"]) fun _ _ _ _ _ _ us hl => match us, hl with | [_, _], _ => rfl
  have C__law_number : Cal l.prog w K mg base 2 "_law_number" (sp__law_number K) [] := Cal.mk0 (ok__law_number D17 T C__law_draw) a17 F17.kp b17
  have b24 := F24.bindsN (ps := ["heap", "command"]) fun _ _ _ _ _ _ us hl => match us, hl with | [_, _], _ => rfl
  have C__law_fault : Cal l.prog w K mg base 2 "_law_fault" (sp__law_fault K) [] := Cal.mk0 (ok__law_fault D24 T C__law_needed C__law_of) a24 F24.kp b24
  have b29 := F29.bindsN (ps := ["heap", "command"]) fun _ _ _ _ _ _ us hl => match us, hl with | [_, _], _ => rfl
  have C__law_table : Cal l.prog w K mg base 2 "_law_table" (sp__law_table K) [] := Cal.mk0 (ok__law_table D29 T C__law_of C__law_load) a29 F29.kp b29
  have b5 := F5.bindsN (ps := ["heap", "condemned"]) fun _ _ _ _ _ _ us hl => match us, hl with | [_, _], _ => rfl
  have C_rounds : Cal l.prog w K mg base 3 "rounds" (sp_rounds K) [] := Cal.mk0 (ok_rounds D5 T C_registers_of C_by_number C_objects_among C_led_to) a5 F5.kp b5
  have b15 := F15.bindsN (ps := ["script", "first", "last"]) fun _ _ _ _ _ _ us hl => match us, hl with | [_, _, _], _ => rfl
  have C__law_box : Cal l.prog w K mg base 3 "_law_box" (sp__law_box K) [] := Cal.mk0 (ok__law_box D15 T C__law_digits) a15 F15.kp b15
  have b18 := F18.bindsN (ps := ["box", "number", "numbers"]) fun _ _ _ _ _ _ us hl => match us, hl with | [_, _, _], _ => rfl
  have C__law_object : Cal l.prog w K mg base 3 "_law_object" (sp__law_object K) [] := Cal.mk0 (ok__law_object D18 T C__law_draw C__law_number) a18 F18.kp b18
  have b30 := F30.bindsN (ps := ["heap", "command"]) fun _ _ _ _ _ _ us hl => match us, hl with | [_, _], _ => rfl
  have C__law_do : Cal l.prog w K mg base 3 "_law_do" (sp__law_do K) [] := Cal.mk0 (ok__law_do D30 T C__law_of C__law_load C__law_keep C__law_table) a30 F30.kp b30
  have b19 := F19.bindsN (ps := ["box", "most"]) fun _ _ _ _ _ _ us hl => match us, hl with | [_, _], _ => rfl
  have C__law_heap : Cal l.prog w K mg base 4 "_law_heap" (sp__law_heap K) [] := Cal.mk0 (ok__law_heap D19 T C__law_draw C__law_number C__law_object) a19 F19.kp b19
  have L7 : LamAt K base mg "derive" cd7 := ⟨e7, TBs (He.cT K ("derive", none)) (List.mem_map.mpr ⟨("derive", none), by simp [tfl], rfl⟩)⟩
  have b7 := F7.bindsN (ps := ["heap", "condemned", "number"]) fun _ _ _ _ _ _ us hl => match us, hl with | [_, _, _], _ => rfl
  have C_derive : Cal l.prog w K mg base 5 "derive" (sp_derive K) [] := Cal.mk0 (ok_derive D7 T L7 C_by_number C_rounds C_named C_best_reason) a7 F7.kp b7
  have b21 := F21.bindsN (ps := ["actual", "expected"]) fun _ _ _ _ _ _ us hl => match us, hl with | [_, _], _ => rfl
  have C__law_same : Cal l.prog w K mg base 9 "_law_same" (sp__law_same K) [] := ok__law_same D21 T b21 a21 F21.kp
  exact ok_law D32 T C_derive C_compile_derivation C_with_registers C__law_box C__law_draw C__law_heap C__law_numbers C__law_same C__law_fault C__law_do C__law_loading
end Wc
open PySem PySem.W PySem.Calls PyProof.Rows
set_option maxRecDepth 100000 in
set_option maxHeartbeats 0 in
theorem PySem.Challenge.cw_weakcourt_k13_derivations_as_commands_holds : PySem.Challenge.rw_weakcourt_k13_derivations_as_commands.Holds := by
  w_on; o_law
  refine HandSHeadRun.head_any (r := OpenLaw.row PySem.Challenge.rw_weakcourt_k13_derivations_as_commands) (q := view (OpenLaw.row PySem.Challenge.rw_weakcourt_k13_derivations_as_commands).prog [36]) (H := Wc.hk) (ob := Wc.ob) (M := 4000) (loose := Wc.otherNames) (d := HandSHeadRun.topDef (OpenLaw.row PySem.Challenge.rw_weakcourt_k13_derivations_as_commands).prog 36) (kwd := []) Wc.ob_eq
    (by kernel_rfl) (fun s => by kernel_rfl) Wc.run (by kernel_rfl) (by kernel_rfl) (by kernel_rfl) (by rfl) (by first | assumption | decide +kernel) (by decide +kernel) ⟨rfl, rfl, rfl, rfl, rfl, by decide +kernel⟩ ?hw ?hc
  case hw => w_witness2
  case hc =>
    refine LamX.walk_ofTsE (l := PySem.Challenge.rw_weakcourt_k13_derivations_as_commands) (n := 63) (k := 10) (x := "script") (CX := fun _ => L2.CX0) rfl (by decide) (by kernel_rfl) ⟨rfl, by decide, by decide⟩ ?F (fun _ _ _ _ _ z => z)
    intro w mg fa h Y G hmg0
    obtain ⟨K, KX, c⟩ := Y
    have hmg : mg ("law" : PySem.Str) = some (.ref fa) := by
      have e : (HandSHeadRun.topDef (OpenLaw.row PySem.Challenge.rw_weakcourt_k13_derivations_as_commands).prog 36).name = ("law" : PySem.Str) := by kernel_rfl
      rw [← e]
      exact hmg0
    exact ⟨K, KX, Wc.all_x KX G hmg c⟩
#print axioms PySem.Challenge.cw_weakcourt_k13_derivations_as_commands_holds
