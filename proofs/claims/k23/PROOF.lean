import PyProof.Rows.All
import Wide.All
import OpenK.AllK
import Wide.FinOn
import HandS.ForMost
import HandS.Codes
import HandS.Evl
import HandS.Walk
import HandS.DictComp
import HandS.SortInts
import HandS.IsInst
import HandS.TupAny
import HandS.Conv
import HandS.Strs
import HandS.NoneIn
import PySem.Challenge.RW_weakcourt_k23_what_objects_retain
set_option Elab.async false
set_option linter.all false
set_option maxRecDepth 100000
set_option maxHeartbeats 4000000
/-! Weakcourt's proofs, the common part: the data of a heap as it stands in the model's memory, relations between memories, readings of comprehensions. -/
namespace Wc
open PySem L2
theorem u20 {k : Nat} {A : Around} (r : Room k A) : A.units + 20 < cLine := by have := r.un; omega
/-! ### promises by their number of arguments -/
abbrev V1 := V → Hp → VK → Prop
abbrev V2 := V → V → Hp → VK → Prop
abbrev V3 := V → V → V → Hp → VK → Prop
abbrev V4 := V → V → V → V → Hp → VK → Prop
abbrev V5 := V → V → V → V → V → Hp → VK → Prop
abbrev sp1 (R : V1) : Sp := fun vs H Q _ => ∃ x, vs = [x] ∧ R x H Q
abbrev sp2 (R : V2) : Sp := fun vs H Q _ => ∃ x y, vs = [x, y] ∧ R x y H Q
abbrev sp3 (R : V3) : Sp := fun vs H Q _ => ∃ x y z, vs = [x, y, z] ∧ R x y z H Q
abbrev sp4 (R : V4) : Sp := fun vs H Q _ => ∃ x y z u, vs = [x, y, z, u] ∧ R x y z u H Q
abbrev sp5 (R : V5) : Sp := fun vs H Q _ => ∃ x y z u v, vs = [x, y, z, u, v] ∧ R x y z u v H Q
/-! ### a def where it stands, with its code object: the rule for its body -/
structure Df (K : PySem.W.Frag) (x : Str) (st : Stmt) (f : Addr) (fd : FuncData) (cd : Value) : Prop where
  ok : ∀ {P : Program} {w : World} {mg : Str → Option Value} {base : PySem.Heap} {N ps : List Str} {k : Nat} {sp : Sp}, FnScope N ps (defScope st) → (∀ vs H Q E, sp vs H Q E → vs.length = ps.length) →
    (∀ (A : Around) (outer : List Env) (s : Shared) (H : Hp) (vs : List V) (Q : VK) (E : XK), Room k (A.deeper (PyProof.Rows.envOfC x (defScope st) s.heap.objs.size f cd)) → sp vs H Q E →
      ∃ t, PSs (cxOf CX0 P w K mg base N x (defScope st) f cd A outer s H E).nox (defBody st) t ∧ t { nx := fun _ H' => Q .non H', rt := Q } (start N vs) H) → FnOk P w K mg base CX0 (k + 1) f fd ps sp
theorem Df.of {K : PySem.W.Frag} {x : Str} {st : Stmt} {f : Addr} {oc : Value} {od an : Option Addr} {dV kV doc pm cd ct : Value} {osl : Array (Option Value)}
    (lk : K.lookup f = some ⟨oc, od, .func (PySem.W.fnOf x x (defArgs st) (defBody st) (defScope st) dV kV doc pm an cd ct), osl⟩) (hcd : PySem.W.codeIn K cd x = true) :
    Df K x st f (PySem.W.fnOf x x (defArgs st) (defBody st) (defScope st) dV kV doc pm an cd ct) cd :=
  ⟨fun S len hb => fn_of lk hcd S len fun A outer s H vs Q E hr hsp => let ⟨t, h, q⟩ := hb A outer s H vs Q E hr hsp; ⟨t, h.nox, q⟩⟩
/-! ### a def that may be called by its name: its promise, where it stands, how arguments bind -/
structure Cal (P : Program) (w : World) (K : PySem.W.Frag) (mg : Str → Option Value) (base : PySem.Heap) (k : Nat) (x : Str) (sp : Sp) (dvs : List V) : Prop where
  all : ∃ (f : Addr) (fd : FuncData) (ps : List Str) (ds : List Value), FnOk P w K mg base CX0 k f fd ps sp ∧ mg x = some (.ref f) ∧
    PySem.W.keepIn K (.ref f) = true ∧ Binds K fd ps ds ∧ Vals dvs ds
theorem Cal.mk0 {P : Program} {w : World} {K : PySem.W.Frag} {mg : Str → Option Value} {base : PySem.Heap} {k : Nat} {x : Str} {sp : Sp} {f : Addr} {fd : FuncData} {ps : List Str}
    (h : FnOk P w K mg base CX0 k f fd ps sp) (m : mg x = some (.ref f)) (kp : PySem.W.keepIn K (.ref f) = true) (b : Binds K fd ps []) : Cal P w K mg base k x sp [] := ⟨f, fd, ps, [], h, m, kp, b, .nil⟩
theorem pe_c {X : Cx} {j k : Nat} {x : Str} {sp : Sp} {dvs : List V} {e : Expr} {es : List Expr} {p pos : Pos} {t : TA}
    (c : Cal X.prog X.w X.K X.mg X.base k x sp dvs) (hr : Room j X.A) (hk : k ≤ j) (hg : Gl X x) (ha : PA X (e :: es) t)
    (h1 : (x == ("__debug__" : Str)) = false := by decide) (h2 : starEach (e :: es) X.env = (false, eval e X.env) :: starEach es X.env := by rfl)
    (h3 : (backTo pos (starEach es X.env)).any (·.1) = false := by rfl) : PE X (.Call (.Name x p) (e :: es) [] pos) (tCall sp dvs E0 t) :=
  let ⟨_, _, _, _, F, hm, kp, b, d⟩ := c.all
  pe_call F (hr.mono hk) hg hm kp b d pass0 ha h1 h2 h3
/-- tuple(xs) -/
def rTupS (K : PySem.W.Frag) : List V → Hp → VK → Prop := fun xs H Q => ∃ p ys, xs = [.ref p] ∧ ((SqL K H p ys ∧ ∀ l, H l = none → Q (.ref l) (upd H l (.tup ys))) ∨ (SqT K H p ys ∧ Q (.ref p) H))
/-- a comprehension without a test -/
theorem tyes {σ : L2.St} {H : Hp} {F G : Hp → Prop} (h : F H) : tYes σ H fun c H4 => if c = true then F H4 else G H4 := by
  show if true = true then F H else G H
  rw [if_pos rfl]
  exact h
/-- a number among numbers -/
theorem inV_int (n : Int) (ns : List Int) : inV (.int n) (ns.map V.int) = decide (n ∈ ns) := by
  induction ns with
  | nil => rfl
  | cons k r ih =>
    show (eqV (.int k) (.int n) || inV (.int n) (r.map V.int)) = _
    rw [ih]
    show (k == n || decide (n ∈ r)) = _
    by_cases e : k = n
    · subst e; simp
    · have e3 : ¬ n = k := fun z => e z.symm
      simp [e, e3]
theorem flat_ints (ns : List Int) : (ns.map V.int).all flatV = true := by
  rw [List.all_eq_true]
  intro x hx
  obtain ⟨n, _, rfl⟩ := List.mem_map.mp hx
  rfl
/-! ### memories -/
/-- all but what stands at M is as it was -/
def ExM (M : List Addr) (H H' : Hp) : Prop := ∀ a o, a ∉ M → H a = some o → H' a = some o
abbrev ExA (H H' : Hp) : Prop := ExM [] H H'
/-- every tuple is as it was; so are those of which the object is known -/
structure Tk (K : PySem.W.Frag) (H H' : Hp) : Prop where
  sq : ∀ a xs, SqT K H a xs → SqT K H' a xs
  zq : ∀ a (o : Obj) xs, H a = some (.frz o (.tup xs)) → H' a = some (.frz o (.tup xs))
instance {K : PySem.W.Frag} {H H' : Hp} : CoeFun (Tk K H H') fun _ => ∀ a xs, SqT K H a xs → SqT K H' a xs := ⟨Tk.sq⟩
/-- a tuple of which it is known that its object has no dict -/
def SqZ (H : Hp) (a : Addr) (xs : List V) : Prop := ∃ o : Obj, o.dict = none ∧ H a = some (.frz o (.tup xs))
theorem SqZ.sq {K : PySem.W.Frag} {H : Hp} {a : Addr} {xs : List V} (h : SqZ H a xs) : SqT K H a xs := let ⟨o, _, e⟩ := h; .inl (.inr ⟨o, e⟩)
theorem SqZ.mono {K : PySem.W.Frag} {H H' : Hp} {a : Addr} {xs : List V} (t : Tk K H H') (h : SqZ H a xs) : SqZ H' a xs := let ⟨o, n, e⟩ := h; ⟨o, n, t.zq _ _ _ e⟩
section
variable {K : PySem.W.Frag} {M : List Addr} {H H' H1 H2 : Hp} {a b p D : Addr} {o u : HO} {xs ys : List V}
theorem ExM.refl (M : List Addr) (H : Hp) : ExM M H H := fun _ _ _ h => h
theorem ExM.trans (h1 : ExM M H H1) (h2 : ExM M H1 H2) : ExM M H H2 := fun a o n h => h2 a o n (h1 a o n h)
theorem ExM.of (h : ExA H H') : ExM M H H' := fun a o _ e => h a o (by simp) e
theorem ExA.at (h : ExA H H') (e : H a = some o) : H' a = some o := h a o (by simp) e
theorem ExM.new (n : H p = none) : ExM M H (upd H p o) := fun a u _ e => by
  rw [upd_ne (ne_of_none e n)]; exact e
theorem ExM.put (h : ExM M H H') (n : H p = none) : ExM M H (upd H' p o) := fun a u m e => by
  rw [upd_ne (ne_of_none e n)]; exact h a u m e
theorem ExM.mem (h : ExM M H H') (n : p ∈ M) : ExM M H (upd H' p o) := fun a u m e => by
  rw [upd_ne (fun z => m (by rw [z]; exact n))]; exact h a u m e
theorem ExM.free (h : ExM M H H') (m : p ∉ M) (n : H' p = none) : H p = none := by
  cases q : H p with
  | none => rfl
  | some u => rw [h p u m q] at n; cases n
theorem ExA.free (h : ExA H H') (n : H' p = none) : H p = none := ExM.free h (by simp) n
theorem Tk.refl : Tk K H H := ⟨fun _ _ h => h, fun _ _ _ h => h⟩
theorem Tk.trans (h1 : Tk K H H1) (h2 : Tk K H1 H2) : Tk K H H2 := ⟨fun a xs h => h2.sq a xs (h1.sq a xs h), fun a o xs h => h2.zq a o xs (h1.zq a o xs h)⟩
theorem Tk.new (n : H p = none) : Tk K H (upd H p o) := ⟨fun a xs h => by
  rcases h with (h | ⟨v, h⟩) | h
  · exact .inl (.inl (by rw [upd_ne (ne_of_none h n)]; exact h))
  · exact .inl (.inr ⟨v, by rw [upd_ne (ne_of_none h n)]; exact h⟩)
  · exact .inr h, fun a v xs h => by rw [upd_ne (ne_of_none h n)]; exact h⟩
theorem Tk.all (h : ExA H H') : Tk K H H' := ⟨fun a xs e => by
  rcases e with (e | ⟨v, e⟩) | e
  · exact .inl (.inl (h.at e))
  · exact .inl (.inr ⟨v, h.at e⟩)
  · exact .inr e, fun a v xs e => h.at e⟩
/-- what is no tuple, and no tuple locked, may be written -/
theorem Tk.upd (n : ∀ xs, H p ≠ some (.tup xs)) (n2 : ∀ v xs, H p ≠ some (.frz v (.tup xs))) : Tk K H (L2.upd H p o) := ⟨fun a xs h => by
  rcases h with (h | ⟨v, h⟩) | h
  · exact .inl (.inl (by rw [upd_ne (fun z => n xs (by rw [← z]; exact h))]; exact h))
  · exact .inl (.inr ⟨v, by rw [upd_ne (fun z => n2 v xs (by rw [← z]; exact h))]; exact h⟩)
  · exact .inr h, fun a v xs h => by rw [upd_ne (fun z => n2 v xs (by rw [← z]; exact h))]; exact h⟩
theorem Tk.lst (h : H p = some (.lst xs)) : Tk K H (L2.upd H p o) := Tk.upd (fun _ q => by rw [h] at q; cases q) (fun _ _ q => by rw [h] at q; cases q)
theorem Tk.dic {kvs : List (Key × V)} (h : H p = some (.dK kvs)) : Tk K H (L2.upd H p o) := Tk.upd (fun _ q => by rw [h] at q; cases q) (fun _ _ q => by rw [h] at q; cases q)
theorem Tk.frz {kvs : List (Key × V)} {v : Obj} (h : H p = some (.frz v (.dK kvs))) : Tk K H (L2.upd H p o) := Tk.upd (fun _ q => by rw [h] at q; cases q) (fun _ _ q => by rw [h] at q; cases q)
theorem SqL.all (h : ExA H H') (e : SqL K H a xs) : SqL K H' a xs := by
  rcases e with (e | ⟨v, e⟩) | e
  · exact .inl (.inl (h.at e))
  · exact .inl (.inr ⟨v, h.at e⟩)
  · exact .inr e
end
/-- tuple(xs), a new object without a dict -/
def rTupZ (K : PySem.W.Frag) : List V → Hp → VK → Prop := fun xs H Q => ∃ p ys, xs = [.ref p] ∧ SqL K H p ys ∧ ∀ l (o : Obj), H l = none → o.dict = none → Q (.ref l) (upd H l (.frz o (.tup ys)))
theorem SqZ.of {H : Hp} {a : Addr} {xs : List V} {o : Obj} (n : o.dict = none) (h : H a = some (.frz o (.tup xs))) : SqZ H a xs := ⟨o, n, h⟩
/-! ### a heap of the program, as data -/
abbrev Rf := Option Int
def rV : Rf → V
  | none => .non
  | some i => .int i
inductive Ob where
  | rcd (n : Int) (fs : List Rf)
  | weak (n : Int) (t : Rf)
  | tab (n : Int) (es : List (Int × Int))
def Ob.num : Ob → Int
  | .rcd n _ => n
  | .weak n _ => n
  | .tab n _ => n
structure Hd where
  nx : Int
  regs : List Rf
  kept : List Int
  obs : List Ob
  wat : List (Int × Int)
def Hd.nums (h : Hd) : List Int := h.obs.map Ob.num
def Rf.ok (S : List Int) (r : Rf) : Prop := ∀ i, r = some i → i ∈ S
def Ob.ok (S : List Int) : Ob → Prop
  | .rcd _ fs => fs.length ≤ 1000 ∧ ∀ r ∈ fs, Rf.ok S r
  | .weak _ t => Rf.ok S t
  | .tab _ es => es.length ≤ 1000 ∧ (es.map (·.1)).Nodup ∧ ∀ e ∈ es, e.1 ∈ S ∧ e.2 ∈ S
structure Hd.Ok (h : Hd) : Prop where
  up : h.nums.Pairwise (· < ·)
  size : h.obs.length ≤ 50
  nreg : h.regs.length ≤ 1000
  regs : ∀ r ∈ h.regs, Rf.ok h.nums r
  obs : ∀ o ∈ h.obs, o.ok h.nums
  kept : ∀ i ∈ h.kept, i ∈ h.nums
  wat : ∀ e ∈ h.wat, e.1 ∈ h.nums
  low : ∀ n ∈ h.nums, 0 ≤ n ∧ n < h.nx
  nxl : 0 ≤ h.nx ∧ h.nx ≤ 999
  kup : h.kept.Pairwise (· < ·)
  tok : ∀ e ∈ h.wat, 0 ≤ e.2 ∧ e.2 ≤ 999
  nwat : h.wat.length ≤ 50
  rpos : h.regs ≠ []
/-- what an object leads to -/
def ledTo (o : Ob) (got gone : List Int) : List Int := match o with
  | .rcd _ fs => fs.filterMap id
  | .weak _ none => []
  | .weak _ (some t) => if t ∈ gone then [] else [t]
  | .tab _ es => (es.filter fun e => decide (e.1 ∈ got)).map (·.2)
/-! ### .. as it stands in memory: tuples all through -/
section
variable (K : PySem.W.Frag) (H : Hp)
def PairAt (a : Addr) (p : Int × Int) : Prop := SqT K H a [.int p.1, .int p.2]
def ObAt (a : Addr) : Ob → Prop
  | .rcd n fs => ∃ t, SqT K H a [.str "record", .int n, .ref t] ∧ SqZ H t (fs.map rV)
  | .weak n r => SqT K H a [.str "weak", .int n, rV r]
  | .tab n es => ∃ t ps, SqT K H a [.str "table", .int n, .ref t] ∧ SqZ H t (ps.map .ref) ∧ Paired (PairAt K H) ps es
def ObsAt (o : Addr) (h : Hd) : Prop := ∃ os, SqT K H o (os.map V.ref) ∧ Paired (ObAt K H) os h.obs
def HeapAt (a : Addr) (h : Hd) : Prop := ∃ r k o w ws, SqT K H a [.str "heap", .int h.nx, .ref r, .ref k, .ref o, .ref w] ∧ SqZ H r (h.regs.map rV) ∧ SqT K H k (h.kept.map .int) ∧
  ObsAt K H o h ∧ SqT K H w (ws.map .ref) ∧ Paired (PairAt K H) ws h.wat
end
section
variable {K : PySem.W.Frag} {H H' : Hp} {a : Addr}
theorem pmp {α β : Type} {F G : α → β → Prop} {l : List α} {m : List β} (h : Paired F l m) (f : ∀ a b, F a b → G a b) : Paired G l m := Paired.mapP h f
theorem PairAt.mono (t : Tk K H H') {p : Int × Int} (h : PairAt K H a p) : PairAt K H' a p := t _ _ h
theorem ObAt.mono (t : Tk K H H') {o : Ob} (h : ObAt K H a o) : ObAt K H' a o := by
  cases o with
  | rcd n fs => obtain ⟨q, h1, h2⟩ := h; exact ⟨q, t _ _ h1, h2.mono t⟩
  | weak n r => exact t _ _ h
  | tab n es => obtain ⟨q, ps, h1, h2, h3⟩ := h; exact ⟨q, ps, t _ _ h1, h2.mono t, pmp h3 fun _ _ z => PairAt.mono t z⟩
theorem ObsAt.mono (t : Tk K H H') {h : Hd} (x : ObsAt K H a h) : ObsAt K H' a h := by
  obtain ⟨os, h1, h2⟩ := x
  exact ⟨os, t _ _ h1, pmp h2 fun _ _ z => ObAt.mono t z⟩
theorem HeapAt.mono (t : Tk K H H') {h : Hd} (x : HeapAt K H a h) : HeapAt K H' a h := by
  obtain ⟨r, k, o, w, ws, h1, h2, h3, h4, h5, h6⟩ := x
  exact ⟨r, k, o, w, ws, t _ _ h1, h2.mono t, t _ _ h3, h4.mono t, t _ _ h5, pmp h6 fun _ _ z => PairAt.mono t z⟩
theorem pget {α β : Type} {F : α → β → Prop} : ∀ {l : List α} {m : List β} {i : Nat} {x : α}, Paired F l m → l[i]? = some x → ∃ y, m[i]? = some y ∧ F x y
  | _, _, _, _, .nil, e => by simp at e
  | _, _, 0, _, .cons r _, e => by simp at e; subst e; exact ⟨_, rfl, r⟩
  | _, _, i + 1, x, .cons _ t, e => by
    obtain ⟨u, h1, h2⟩ := pget (i := i) (x := x) t (by simpa using e)
    exact ⟨u, by simpa using h1, h2⟩
theorem pget' {α β : Type} {F : α → β → Prop} : ∀ {l : List α} {m : List β} {i : Nat} {y : β}, Paired F l m → m[i]? = some y → ∃ x, l[i]? = some x ∧ F x y
  | _, _, _, _, .nil, e => by simp at e
  | _, _, 0, _, .cons r _, e => by simp at e; subst e; exact ⟨_, rfl, r⟩
  | _, _, i + 1, y, .cons _ t, e => by
    obtain ⟨u, h1, h2⟩ := pget' (i := i) (y := y) t (by simpa using e)
    exact ⟨u, by simpa using h1, h2⟩
theorem plen {α β : Type} {F : α → β → Prop} : ∀ {l : List α} {m : List β}, Paired F l m → l.length = m.length
  | _, _, .nil => rfl
  | _, _, .cons _ t => by rw [List.length_cons, List.length_cons, plen t]
theorem psnoc {α β : Type} {F : α → β → Prop} {x : α} {y : β} (q : F x y) : ∀ {l : List α} {m : List β}, Paired F l m → Paired F (l ++ [x]) (m ++ [y])
  | _, _, .nil => .cons q .nil
  | _, _, .cons r t => .cons r (psnoc q t)
/-- the number of an object, at its place -/
theorem ObAt.num {o : Ob} (h : ObAt K H a o) : ∃ k v, SqT K H a [.str k, .int o.num, v] := by
  cases o with
  | rcd n fs => obtain ⟨q, h1, h2⟩ := h; exact ⟨_, _, h1⟩
  | weak n r => exact ⟨_, _, h⟩
  | tab n es => obtain ⟨q, ps, h1, h2, h3⟩ := h; exact ⟨_, _, h1⟩
end
/-! ### items of short rows -/
theorem at0 {x : V} {r : List V} : atI (x :: r) (0 : Int) = some x := atI_nat (j := 0) rfl
theorem at1 {x y : V} {r : List V} : atI (x :: y :: r) (1 : Int) = some y := atI_nat (j := 1) rfl
theorem at2 {x y z : V} {r : List V} : atI (x :: y :: z :: r) (2 : Int) = some z := atI_nat (j := 2) rfl
theorem at3 {x y z w : V} {r : List V} : atI (x :: y :: z :: w :: r) (3 : Int) = some w := atI_nat (j := 3) rfl
theorem at4 {x y z w v : V} {r : List V} : atI (x :: y :: z :: w :: v :: r) (4 : Int) = some v := atI_nat (j := 4) rfl
theorem at5 {x y z w v u : V} {r : List V} : atI (x :: y :: z :: w :: v :: u :: r) (5 : Int) = some u := atI_nat (j := 5) rfl
theorem sz {n : Nat} (h : n ≤ 100000) : n ≤ sizeLine := Nat.le_trans h (by decide)
theorem szl {n : Nat} (h : n ≤ 100000) : n < sizeLine := Nat.lt_of_le_of_lt h (by decide)
/-! ### data of any depth: tuples of tuples of numbers, texts, None -/
inductive Dt where
  | non
  | bl (b : Bool)
  | int (i : Int)
  | str (s : Str)
  | tup (ds : List Dt)
mutual
def Is (K : PySem.W.Frag) (H : Hp) : Dt → V → Prop
  | .non, v => v = .non
  | .bl b, v => v = .bl b
  | .int i, v => v = .int i
  | .str s, v => v = .str s
  | .tup ds, v => ∃ a xs, v = .ref a ∧ SqT K H a xs ∧ IsL K H ds xs
def IsL (K : PySem.W.Frag) (H : Hp) : List Dt → List V → Prop
  | [], xs => xs = []
  | d :: ds, xs => ∃ x r, xs = x :: r ∧ Is K H d x ∧ IsL K H ds r
end
mutual
def Dt.dep : Dt → Nat
  | .tup ds => 1 + Dt.depL ds
  | _ => 0
def Dt.depL : List Dt → Nat
  | [] => 0
  | d :: ds => max d.dep (Dt.depL ds)
end
mutual
/-- rows that are not too long -/
def Dt.thin : Dt → Prop
  | .tup ds => ds.length ≤ 100000 ∧ Dt.thinL ds
  | _ => True
def Dt.thinL : List Dt → Prop
  | [] => True
  | d :: ds => d.thin ∧ Dt.thinL ds
end
theorem thin_get : ∀ {ds : List Dt} {i : Nat} {d : Dt}, Dt.thinL ds → ds[i]? = some d → d.thin
  | [], i, d, _, e => by simp at e
  | d :: ds, 0, d', h, e => by
    have e : d = d' := by simpa using e
    subst e
    exact h.1
  | d :: ds, i + 1, d', h, e => thin_get (i := i) h.2 (by simpa using e)
theorem thin_ints : ∀ ns : List Int, Dt.thinL (ns.map Dt.int)
  | [] => trivial
  | _ :: ns => ⟨trivial, thin_ints ns⟩
theorem IsL.len {K : PySem.W.Frag} {H : Hp} : ∀ {ds : List Dt} {xs : List V}, IsL K H ds xs → xs.length = ds.length
  | [], xs, h => by
    have e : xs = [] := h
    rw [e]; rfl
  | d :: ds, xs, h => by
    obtain ⟨x, r, e, _, h2⟩ := h
    rw [e, List.length_cons, List.length_cons, IsL.len h2]
theorem IsL.get {K : PySem.W.Frag} {H : Hp} : ∀ {ds : List Dt} {xs : List V} {i : Nat} {d : Dt}, IsL K H ds xs → ds[i]? = some d → ∃ x, xs[i]? = some x ∧ Is K H d x
  | [], xs, i, d, h, e => by simp at e
  | d :: ds, xs, 0, d', h, e => by
    obtain ⟨x, r, e1, h1, _⟩ := h
    have e : d = d' := by simpa using e
    subst e
    rw [e1]; exact ⟨x, rfl, h1⟩
  | d :: ds, xs, i + 1, d', h, e => by
    obtain ⟨x, r, e1, _, h2⟩ := h
    obtain ⟨y, h3, h4⟩ := IsL.get (i := i) h2 (by simpa using e)
    rw [e1]; exact ⟨y, by simpa using h3, h4⟩
theorem dep_get : ∀ {ds : List Dt} {i : Nat} {d : Dt}, ds[i]? = some d → d.dep ≤ Dt.depL ds
  | [], i, d, e => by simp at e
  | d :: ds, 0, d', e => by
    have e : d = d' := by simpa using e
    subst e
    exact Nat.le_max_left _ _
  | d :: ds, i + 1, d', e => Nat.le_trans (dep_get (i := i) (by simpa using e)) (Nat.le_max_right _ _)
theorem IsL.ints {K : PySem.W.Frag} {H : Hp} : ∀ ns : List Int, IsL K H (ns.map Dt.int) (ns.map V.int)
  | [] => rfl
  | n :: ns => ⟨_, _, rfl, rfl, IsL.ints ns⟩
theorem depL_ints : ∀ ns : List Int, Dt.depL (ns.map Dt.int) = 0
  | [] => rfl
  | n :: ns => by
    show max 0 (Dt.depL (ns.map Dt.int)) = 0
    rw [depL_ints ns]; rfl
theorem tyx_tup {K : PySem.W.Frag} {H : Hp} {a : Addr} {xs : List V} (h : SqT K H a xs) : TyX K H (.ref a) (.type "tuple") := by
  rcases h with (h | ⟨o, h⟩) | ⟨o, its, n, h1, h2, _⟩
  · exact .base (.tup h)
  · exact .fTuple h
  · exact .kTuple h1 h2
/-! ### a list or a tuple that is walked -/
def iSeq (K : PySem.W.Frag) (tl : TE) : TI := fun σ H R => iList K tl σ H R ∨ iTup K tl σ H R
theorem pi_seq {X : Cx} {tg l : Expr} {tl : TE} (hl : PE X l tl) : PI X tg l (iSeq X.K tl) :=
  ⟨fun pins s σ H R I h => h.elim ((pi_list hl).run pins s σ H R I) ((pi_tup hl).run pins s σ H R I)⟩
/-- a list or a tuple -/
def SqS (K : PySem.W.Frag) (H : Hp) (a : Addr) (xs : List V) : Prop := SqL K H a xs ∨ SqT K H a xs
theorem SqS.all {K : PySem.W.Frag} {H H' : Hp} {a : Addr} {xs : List V} (e : ExA H H') (h : SqS K H a xs) : SqS K H' a xs := h.elim (fun z => .inl (SqL.all e z)) fun z => .inr (Tk.all e _ _ z)
theorem seq_at {K : PySem.W.Frag} {tl : TE} {σ : L2.St} {H : Hp} {R : It → Hp → Prop} {c : Addr} {xs : List V} (h : SqS K H c xs) (ht : ∀ Q : VK, Q (.ref c) H → tl σ H Q)
    (k : ∀ J G, Walk J xs.length G (YAt xs) → (∀ H', ExA H H' → G H') → R J H) : iSeq K tl σ H R := by
  rcases h with h | h
  · exact .inl (ht _ ⟨c, rfl, ⟨xs, h⟩, k _ _ walk_list fun H' e => SqL.all e h⟩)
  · exact .inr (ht _ ⟨c, rfl, ⟨xs, h⟩, k _ _ walk_tup fun H' e => Tk.all e _ _ h⟩)
/-! ### what stands beside a list that may change -/
theorem SqL.exm {K : PySem.W.Frag} {M : List Addr} {H H' : Hp} {a : Addr} {xs : List V} (h : ExM M H H') (m : a ∉ M) (e : SqL K H a xs) : SqL K H' a xs := by
  rcases e with (e | ⟨v, e⟩) | e
  · exact .inl (.inl (h a _ m e))
  · exact .inl (.inr ⟨v, h a _ m e⟩)
  · exact .inr e
theorem Tk.exm {K : PySem.W.Frag} {b : Addr} {H H' : Hp} {xs : List V} (h : ExM [b] H H') (hb : H b = some (.lst xs)) : Tk K H H' := by
  have ne : ∀ a o, H a = some o → o ≠ .lst xs → a ∉ [b] := fun a o q z m => by
    have e : a = b := by simpa using m
    rw [e, hb] at q
    exact z (Option.some.inj q).symm
  refine ⟨fun a ys e => ?_, fun a o ys e => h a _ (ne a _ e (fun z => nomatch z)) e⟩
  rcases e with (e | ⟨v, e⟩) | e
  · exact .inl (.inl (h a _ (ne a _ e (fun z => nomatch z)) e))
  · exact .inl (.inr ⟨v, h a _ (ne a _ e (fun z => nomatch z)) e⟩)
  · exact .inr e
/-- the law's source of numbers: a list of a list of numbers and a place in it -/
def Bx (H : Hp) (b d : Addr) (ds : List Int) : Prop := (∃ n : Nat, H b = some (.lst [.ref d, .int (n : Int)])) ∧ H d = some (.lst (ds.map V.int)) ∧ d ≠ b
section
variable {K : PySem.W.Frag} {H H' H0 : Hp} {b d p : Addr} {ds : List Int} {o : HO}
theorem Bx.tk (x : Bx H b d ds) (h : ExM [b] H H') : Tk K H H' := let ⟨⟨_, e⟩, _, _⟩ := x; Tk.exm h e
theorem Bx.keep (x : Bx H b d ds) (h : ExA H H') : Bx H' b d ds := let ⟨⟨n, e⟩, e2, e3⟩ := x; ⟨⟨n, ExA.at h e⟩, ExA.at h e2, e3⟩
theorem Bx.put (x : Bx H b d ds) (x0 : Bx H0 b d ds) (n : H0 p = none) : Bx (upd H p o) b d ds := by
  obtain ⟨⟨k, e⟩, e2, e3⟩ := x
  obtain ⟨⟨k0, f⟩, f2, _⟩ := x0
  exact ⟨⟨k, by rw [upd_ne (ne_of_none f n)]; exact e⟩, by rw [upd_ne (ne_of_none f2 n)]; exact e2, e3⟩
theorem Bx.new (x : Bx H b d ds) (n : H p = none) : Bx (upd H p o) b d ds := x.put x n
theorem Bx.ne (x : Bx H b d ds) (n : H p = none) : p ∉ [b] := fun m => by
  have e : p = b := by simpa using m
  obtain ⟨⟨k, q⟩, _⟩ := x
  rw [e, q] at n; cases n
end
/-- a list of numbers, apart from the source -/
def Nm (K : PySem.W.Frag) (H : Hp) (b a : Addr) (ns : List Int) : Prop := SqL K H a (ns.map V.int) ∧ a ∉ [b]
theorem Nm.keep {K : PySem.W.Frag} {H H' : Hp} {b a : Addr} {ns : List Int} (x : Nm K H b a ns) (h : ExM [b] H H') : Nm K H' b a ns := ⟨SqL.exm h x.2 x.1, x.2⟩
/-! ### comprehensions: what holds of the turn, of the row made so far and of the memory -/
def LcP (M : List Addr) (H : Hp) (D : Addr) (Acc : Nat → List V → Hp → Prop) (i : Nat) (H' : Hp) : Prop := ExM M H H' ∧ ∃ acc, H' D = some (.lst acc) ∧ acc.length ≤ i ∧ Acc i acc H'
section
variable {M : List Addr} {H H1 H5 : Hp} {D : Addr} {Acc : Nat → List V → Hp → Prop} {i : Nat} {acc : List V} {y : V}
theorem LcP.yes (hD : H D = none) (hM : D ∉ M) (hi : i ≤ 40000) (e : ExM M H H1) (h1 : H1 D = some (.lst acc)) (h2 : acc.length ≤ i) (e2 : ExM M H1 H5) (h : Acc (i + 1) (acc ++ [y]) (upd H5 D (.lst (acc ++ [y])))) :
    ∃ acc', H5 D = some (.lst acc') ∧ acc'.length < sizeLine ∧ LcP M H D Acc (i + 1) (upd H5 D (.lst (acc' ++ [y]))) :=
  ⟨acc, e2 D _ hM h1, szl (by omega), (e.trans e2).put hD, acc ++ [y], upd_same, by rw [List.length_append, List.length_singleton]; omega, h⟩
theorem LcP.no (hM : D ∉ M) (e : ExM M H H1) (h1 : H1 D = some (.lst acc)) (h2 : acc.length ≤ i) (e2 : ExM M H1 H5) (h : Acc (i + 1) acc H5) : LcP M H D Acc (i + 1) H5 :=
  ⟨e.trans e2, acc, e2 D _ hM h1, by omega, h⟩
end
theorem lcM (M : List Addr) {J : It} {n : Nat} {G : Hp → Prop} {Y : Nat → Hp → V → Hp → Prop} (w : Walk J n G Y) {g : TG} {tt : TT} {te : TE} {vs : List Nat} {σ : L2.St} {H : Hp} {D : Addr} {Qd : Hp → Prop}
    (hD : H D = none) (Acc : Nat → List V → Hp → Prop) (h0 : Acc 0 [] (upd H D (.lst []))) (hG : ∀ H', ExM M H H' → G H')
    (hs : ∀ i x H1 H2 acc, i < n → ExM M H H1 → H1 D = some (.lst acc) → acc.length ≤ i → Acc i acc H1 → Y i H1 x H2 → g x (wipe σ vs) H2 fun σ2 H3 => wipe σ2 vs = wipe σ vs ∧ tt σ2 H3 fun c H4 =>
      if c = true then te σ2 H4 fun y H5 => ∃ acc', H5 D = some (.lst acc') ∧ acc'.length < sizeLine ∧ LcP M H D Acc (i + 1) (upd H5 D (.lst (acc' ++ [y]))) else LcP M H D Acc (i + 1) H4)
    (hd : ∀ H' acc, ExM M H H' → H' D = some (.lst acc) → acc.length ≤ n → Acc n acc H' → Qd H') :
    ∃ W : Nat → Nat → Hp → Prop, (∃ m, W 0 m (upd H D (.lst []))) ∧ ∀ i m H, W i m H →
      (J.stop i H ∧ Qd H) ∨ (J.go i H ∧ ∃ Nx : Hp → Prop, (∀ H', Nx H' → ∃ m', m' < m ∧ W (i + 1) m' H') ∧ ∀ x H', J.yld i H x H' → g x (wipe σ vs) H' fun σ2 H2 => wipe σ2 vs = wipe σ vs ∧ tt σ2 H2 fun b H3 =>
        if b = true then te σ2 H3 fun y H4 => ∃ acc, H4 D = some (.lst acc) ∧ acc.length < sizeLine ∧ Nx (upd H4 D (.lst (acc ++ [y]))) else Nx H3) := by
  refine lc_it w (LcP M H D Acc) ⟨ExM.new hD, [], upd_same, Nat.le_refl _, h0⟩ (fun i H' _ p => hG H' p.1) (fun i x H1 H2 hi p y => ?_)
    fun H' p => by obtain ⟨e, acc, h1, h2, h3⟩ := p; exact hd H' acc e h1 h2 h3
  obtain ⟨e, acc, h1, h2, h3⟩ := p
  exact hs i x H1 H2 acc hi e h1 h2 h3 y
/-! ### the same of dicts with number keys -/
def DcP (M : List Addr) (H : Hp) (D : Addr) (Acc : Nat → List (Key × V) → Hp → Prop) (i : Nat) (H' : Hp) : Prop := ExM M H H' ∧ ∃ acc, H' D = some (.dK acc) ∧ acc.length ≤ i ∧ Acc i acc H'
theorem DcP.yes {M : List Addr} {H H1 H5 : Hp} {D : Addr} {Acc : Nat → List (Key × V) → Hp → Prop} {i : Nat} {acc : List (Key × V)} {k : Key} {y z : V} (hD : H D = none) (hM : D ∉ M) (hi : i ≤ 40000) (e : ExM M H H1) (h1 : H1 D = some (.dK acc)) (h2 : acc.length ≤ i)
    (ek : y = kV k) (e2 : ExM M H1 H5) (h : Acc (i + 1) (putK acc k z) (upd H5 D (.dK (putK acc k z)))) :
    ∃ kvs k, y = kV k ∧ H5 D = some (.dK kvs) ∧ kvs.length < sizeLine ∧ DcP M H D Acc (i + 1) (upd H5 D (.dK (putK kvs k z))) :=
  ⟨acc, k, ek, e2 D _ hM h1, szl (by omega), (e.trans e2).put hD, putK acc k z, upd_same, Nat.le_trans (length_putK _ _ _) (by omega), h⟩
theorem dcM (M : List Addr) {J : It} {n : Nat} {G : Hp → Prop} {Y : Nat → Hp → V → Hp → Prop} (w : Walk J n G Y) {g : TG} {tt : TT} {tk tv : TE} {vs : List Nat} {σ : L2.St} {H : Hp} {D : Addr} {Qd : Hp → Prop}
    (hD : H D = none) (Acc : Nat → List (Key × V) → Hp → Prop) (h0 : Acc 0 [] (upd H D (.dK []))) (hG : ∀ H', ExM M H H' → G H')
    (hs : ∀ i x H1 H2 acc, i < n → ExM M H H1 → H1 D = some (.dK acc) → acc.length ≤ i → Acc i acc H1 → Y i H1 x H2 → g x (wipe σ vs) H2 fun σ2 H3 => wipe σ2 vs = wipe σ vs ∧ tt σ2 H3 fun c H4 =>
      if c = true then tk σ2 H4 fun y H5 => tv σ2 H5 fun z H6 => ∃ kvs k, y = kV k ∧ H6 D = some (.dK kvs) ∧ kvs.length < sizeLine ∧ DcP M H D Acc (i + 1) (upd H6 D (.dK (putK kvs k z))) else DcP M H D Acc (i + 1) H4)
    (hd : ∀ H' acc, ExM M H H' → H' D = some (.dK acc) → acc.length ≤ n → Acc n acc H' → Qd H') :
    ∃ W : Nat → Nat → Hp → Prop, (∃ m, W 0 m (upd H D (.dK []))) ∧ ∀ i m H, W i m H →
      (J.stop i H ∧ Qd H) ∨ (J.go i H ∧ ∃ Nx : Hp → Prop, (∀ H', Nx H' → ∃ m', m' < m ∧ W (i + 1) m' H') ∧ ∀ x H', J.yld i H x H' → g x (wipe σ vs) H' fun σ2 H2 => wipe σ2 vs = wipe σ vs ∧ tt σ2 H2 fun b H3 =>
        if b = true then tk σ2 H3 fun y H4 => tv σ2 H4 fun z H5 => ∃ kvs k, y = kV k ∧ H5 D = some (.dK kvs) ∧ kvs.length < sizeLine ∧ Nx (upd H5 D (.dK (putK kvs k z))) else Nx H3) := by
  refine ⟨fun i m H' => m + i = n ∧ DcP M H D Acc i H', ⟨n, rfl, ExM.new hD, [], upd_same, Nat.le_refl _, h0⟩, ?_⟩
  rintro i m H' ⟨hm, p⟩
  obtain ⟨e, acc, h1, h2, h3⟩ := id p
  have q := hG H' e
  by_cases hi : i < n
  · exact .inr ⟨w.goes i H' hi q, DcP M H D Acc (i + 1), fun H2 p2 => ⟨m - 1, by omega, by omega, p2⟩, fun x H2 y => hs i x H' H2 acc hi e h1 h2 h3 (w.yields i H' x H2 hi q y)⟩
  · have en : i = n := by omega
    subst en
    exact .inl ⟨w.stops H' q, hd H' acc e h1 h2 h3⟩
end Wc
/-! Comprehensions whose turns change nothing that stood before: what they make, at once. -/
namespace Wc
open PySem L2
theorem tsnoc {α : Type} {l : List α} {i : Nat} {x : α} (h : l[i]? = some x) : l.take (i + 1) = l.take i ++ [x] := by
  rw [List.take_add_one, h]; rfl
theorem zip_all {α β : Type} {F : α → β → Prop} : ∀ {l : List α} {m : List β}, Paired F l m → ∀ p ∈ l.zip m, F p.1 p.2
  | _, _, .nil, p, hp => by simp at hp
  | _, _, .cons r t, p, hp => by
    rcases List.mem_cons.mp hp with e | e
    · rw [e]; exact r
    · exact zip_all t p e
theorem zip_fst {α β : Type} {F : α → β → Prop} : ∀ {l : List α} {m : List β}, Paired F l m → (l.zip m).map (·.1) = l
  | _, _, .nil => rfl
  | _, _, .cons r t => congrArg (_ :: ·) (zip_fst t)
theorem zip_snd {α β : Type} {F : α → β → Prop} : ∀ {l : List α} {m : List β}, Paired F l m → (l.zip m).map (·.2) = m
  | _, _, .nil => rfl
  | _, _, .cons r t => congrArg (_ :: ·) (zip_snd t)
theorem filter_snd {α β : Type} (f : β → Bool) : ∀ l : List (α × β), (l.filter fun p => f p.2).map (·.2) = (l.map (·.2)).filter f
  | [] => rfl
  | p :: l => by
    rw [List.filter_cons, List.map_cons, List.filter_cons]
    split
    · rw [List.map_cons, filter_snd f l]
    · exact filter_snd f l
theorem paired_map {α β γ : Type} {F : α → γ → Prop} (g : β → α) : ∀ {l : List β} {m : List γ}, Paired (fun x y => F (g x) y) l m → Paired F (l.map g) m
  | _, _, .nil => .nil
  | _, _, .cons r t => .cons r (paired_map g t)
theorem paired_mapR {α β γ : Type} {F : γ → α → Prop} (g : β → α) : ∀ {l : List β} {m : List γ}, Paired (fun y x => F y (g x)) m l → Paired F m (l.map g)
  | _, _, .nil => .nil
  | _, _, .cons r t => .cons r (paired_mapR g t)
theorem papp {α β : Type} {F : α → β → Prop} {l2 : List α} {m2 : List β} (q : Paired F l2 m2) : ∀ {l : List α} {m : List β}, Paired F l m → Paired F (l ++ l2) (m ++ m2)
  | _, _, .nil => q
  | _, _, .cons r t => .cons r (papp q t)
theorem zip_refs {β : Type} {F : Addr → β → Prop} {l : List Addr} {m : List β} (h : Paired F l m) : l.map V.ref = (l.zip m).map fun q => V.ref q.1 := by
  have e := congrArg (List.map V.ref) (zip_fst h)
  rw [List.map_map] at e
  exact e.symm
theorem zip_len {α β : Type} {F : α → β → Prop} {l : List α} {m : List β} (h : Paired F l m) : (l.zip m).length = l.length := by
  have e := congrArg List.length (zip_fst h)
  rwa [List.length_map] at e
theorem filter_all {α : Type} : ∀ l : List α, l.filter (fun _ => true) = l := fun l => List.filter_eq_self.mpr fun _ _ => rfl
theorem paired_swap {α β : Type} {F : α → β → Prop} : ∀ {l : List α} {m : List β}, Paired F l m → Paired (fun y x => F x y) m l
  | _, _, .nil => .nil
  | _, _, .cons r t => .cons r (paired_swap t)
/-- values that are references -/
theorem paired_refs {α : Type} {F : Addr → α → Prop} : ∀ {l : List α} {ys : List V}, Paired (fun x y => ∃ a, y = V.ref a ∧ F a x) l ys → ∃ as : List Addr, ys = as.map V.ref ∧ Paired F as l
  | _, _, .nil => ⟨[], rfl, .nil⟩
  | _, _, .cons r t => by
    obtain ⟨a, rfl, h⟩ := r
    obtain ⟨as, rfl, h2⟩ := paired_refs t
    exact ⟨a :: as, rfl, .cons h h2⟩
/-- values that are known -/
theorem paired_vals {α : Type} {f : α → V} : ∀ {l : List α} {ys : List V}, Paired (fun x y => y = f x) l ys → ys = l.map f
  | _, _, .nil => rfl
  | _, _, .cons r t => by rw [paired_vals t, r]; rfl
theorem zip_filter {α β : Type} {F : α → β → Prop} {l : List α} {m : List β} (h : Paired F l m) (f : β → Bool) : ((l.zip m).filter fun q => f q.2).map (fun q => q.2) = m.filter f :=
  (filter_snd f (l.zip m)).trans (by rw [zip_snd h])
theorem zip_filter_map {α β γ : Type} {F : α → β → Prop} {l : List α} {m : List β} (h : Paired F l m) (f : β → Bool) (g : β → γ) : ((l.zip m).filter fun q => f q.2).map (fun q => g q.2) = (m.filter f).map g := by
  have e := congrArg (List.map g) ((filter_snd f (l.zip m)).trans (by rw [zip_snd h]))
  rw [List.map_map] at e
  exact e
theorem lcR {α : Type} (K : PySem.W.Frag) (e : α → V) (xs : List α) (f : α → Bool) (rel : α → V → Hp → Prop) (st : α → L2.St) {J : It} {G : Hp → Prop} {n : Nat} {zs : List V} (wk : Walk J n G (YAt zs)) (hzs : zs = xs.map e) (hn : n = xs.length) (hz : xs.length ≤ 40000)
    {g : TG} {tt : TT} {te : TE} {vs : List Nat} {σ : L2.St} {H : Hp} {D : Addr} {Qd : Hp → Prop} (hD : H D = none) (hG : ∀ H', ExA H H' → G H') (mono : ∀ x y H1 H2, Tk K H1 H2 → rel x y H1 → rel x y H2)
    (hg : ∀ x H1, x ∈ xs → ExA H H1 → ∀ R : L2.St → Hp → Prop, R (st x) H1 → g (e x) (wipe σ vs) H1 R) (hw : ∀ x, wipe (st x) vs = wipe σ vs)
    (ht : ∀ x H1, x ∈ xs → ExA H H1 → ∀ R : Bool → Hp → Prop, (∀ H2, ExA H1 H2 → R (f x) H2) → tt (st x) H1 R)
    (he : ∀ x H1, x ∈ xs → f x = true → ExA H H1 → ∀ R : VK, (∀ y H2, ExA H1 H2 → rel x y H2 → R y H2) → te (st x) H1 R)
    (hd : ∀ H' ys, ExA H H' → H' D = some (.lst ys) → Paired (fun x y => rel x y H') (xs.filter f) ys → Qd H') :
    ∃ W : Nat → Nat → Hp → Prop, (∃ m, W 0 m (upd H D (.lst []))) ∧ ∀ i m H, W i m H →
      (J.stop i H ∧ Qd H) ∨ (J.go i H ∧ ∃ Nx : Hp → Prop, (∀ H', Nx H' → ∃ m', m' < m ∧ W (i + 1) m' H') ∧ ∀ x H', J.yld i H x H' → g x (wipe σ vs) H' fun σ2 H2 => wipe σ2 vs = wipe σ vs ∧ tt σ2 H2 fun b H3 =>
        if b = true then te σ2 H3 fun y H4 => ∃ acc, H4 D = some (.lst acc) ∧ acc.length < sizeLine ∧ Nx (upd H4 D (.lst (acc ++ [y]))) else Nx H3) := by
  subst hzs hn
  refine lcM [] wk hD (fun i acc H' => Paired (fun x y => rel x y H') ((xs.take i).filter f) acc) .nil (fun H' x => hG H' x) (fun i x H1 H2 acc hi e1 k1 k2 hacc y => ?_) (fun H' acc e1 k1 k2 hacc => ?_)
  · obtain ⟨rfl, hx⟩ := y
    obtain ⟨u, hu⟩ : ∃ u, xs[i]? = some u := ⟨_, List.getElem?_eq_getElem hi⟩
    rw [List.getElem?_map, hu] at hx
    obtain rfl : e u = x := Option.some.inj hx
    have mu := List.mem_of_getElem? hu
    refine hg u H2 mu e1 _ ⟨hw u, ht u H2 mu e1 _ fun H3 e3 => ?_⟩
    have htk := tsnoc hu
    cases c : f u with
    | false =>
      refine iteF (LcP.no (by simp) e1 k1 k2 e3 ?_)
      rw [htk, List.filter_append, List.filter_cons, c]
      simp only [List.filter_nil, List.append_nil, Bool.false_eq_true, if_false]
      exact pmp hacc fun x y z => mono x y _ _ (Tk.all e3) z
    | true =>
      refine iteT (he u H3 mu c (e1.trans e3) _ fun y H4 e4 hr => LcP.yes hD (by simp) (by omega) e1 k1 k2 (e3.trans e4) ?_)
      have hk : H4 D = some (.lst acc) := ExA.at (e3.trans e4) k1
      rw [htk, List.filter_append, List.filter_cons, c]
      simp only [List.filter_nil, if_true]
      have h2 : Paired (fun x b => rel x b (upd H4 D (.lst (acc ++ [y])))) ((xs.take i).filter f) acc := pmp hacc fun a b z => mono a b _ _ (Tk.trans (Tk.all (e3.trans e4)) (Tk.lst hk)) z
      have h3 : rel u y (upd H4 D (.lst (acc ++ [y]))) := mono _ _ _ _ (Tk.lst hk) hr
      exact psnoc (α := α) (β := V) (F := fun (x : α) (b : V) => rel x b (upd H4 D (.lst (acc ++ [y])))) (x := u) (y := y) h3 (l := (xs.take i).filter f) (m := acc) h2
  · rw [List.take_length] at hacc
    exact hd H' acc e1 k1 hacc
/-- [x for x in xs if t] -/
theorem lcF {α : Type} (K : PySem.W.Frag) (e : α → V) (xs : List α) (f : α → Bool) (st : α → L2.St) {J : It} {G : Hp → Prop} {n : Nat} {zs : List V} (wk : Walk J n G (YAt zs)) (hzs : zs = xs.map e) (hn : n = xs.length) (hz : xs.length ≤ 40000)
    {g : TG} {tt : TT} {te : TE} {vs : List Nat} {σ : L2.St} {H : Hp} {D : Addr} {Qd : Hp → Prop} (v : α → V) (hD : H D = none) (hG : ∀ H', ExA H H' → G H')
    (hg : ∀ x H1, x ∈ xs → ExA H H1 → ∀ R : L2.St → Hp → Prop, R (st x) H1 → g (e x) (wipe σ vs) H1 R) (hw : ∀ x, wipe (st x) vs = wipe σ vs)
    (ht : ∀ x H1, x ∈ xs → ExA H H1 → ∀ R : Bool → Hp → Prop, (∀ H2, ExA H1 H2 → R (f x) H2) → tt (st x) H1 R)
    (he : ∀ x H1, x ∈ xs → f x = true → ExA H H1 → ∀ R : VK, (∀ H2, ExA H1 H2 → R (v x) H2) → te (st x) H1 R)
    (hd : ∀ H', ExA H H' → H' D = some (.lst ((xs.filter f).map v)) → Qd H') :
    ∃ W : Nat → Nat → Hp → Prop, (∃ m, W 0 m (upd H D (.lst []))) ∧ ∀ i m H, W i m H →
      (J.stop i H ∧ Qd H) ∨ (J.go i H ∧ ∃ Nx : Hp → Prop, (∀ H', Nx H' → ∃ m', m' < m ∧ W (i + 1) m' H') ∧ ∀ x H', J.yld i H x H' → g x (wipe σ vs) H' fun σ2 H2 => wipe σ2 vs = wipe σ vs ∧ tt σ2 H2 fun b H3 =>
        if b = true then te σ2 H3 fun y H4 => ∃ acc, H4 D = some (.lst acc) ∧ acc.length < sizeLine ∧ Nx (upd H4 D (.lst (acc ++ [y]))) else Nx H3) :=
  lcR K e xs f (fun x y _ => y = v x) st wk hzs hn hz hD hG (fun _ _ _ _ _ z => z) hg hw ht (fun x H1 m c e R q => he x H1 m c e R fun H2 e2 => q _ H2 e2 rfl)
    fun H' ys e k p => hd H' e (by rw [k, paired_vals p])
theorem tyesR {σ : L2.St} {H : Hp} {R : Bool → Hp → Prop} (h : ∀ H2, ExA H H2 → R true H2) : tYes σ H R := h H (ExM.refl _ _)
/-! ### two clauses -/
def flat2 {α β : Type} (xs : List α) (ys : α → List β) (f : α → β → Bool) : List (α × β) := xs.flatMap fun x => ((ys x).filter (f x)).map fun y => (x, y)
theorem flat2_snoc {α β : Type} (xs : List α) (x : α) (ys : α → List β) (f : α → β → Bool) : flat2 (xs ++ [x]) ys f = flat2 xs ys f ++ ((ys x).filter (f x)).map fun y => (x, y) := by
  unfold flat2; rw [List.flatMap_append, List.flatMap_cons, List.flatMap_nil, List.append_nil]
theorem lc2R {α β : Type} (K : PySem.W.Frag) (e : α → V) (xs : List α) (e1 : β → V) (ys : α → List β) (f : α → β → Bool) (rel : α → β → V → Hp → Prop) (st : α → L2.St) (st1 : α → β → L2.St) {J : It} {G : Hp → Prop} {n : Nat} {zs : List V}
    (wk : Walk J n G (YAt zs)) (hzs : zs = xs.map e) (hn : n = xs.length) (hz : xs.length ≤ 100) (hy : ∀ x ∈ xs, (ys x).length ≤ 1000)
    {g g1 : TG} {tt tt1 : TT} {wi1 : TI} {te : TE} {vs vs1 : List Nat} {σ : L2.St} {H : Hp} {D : Addr} {Qd : Hp → Prop} (hD : H D = none) (hG : ∀ H', ExA H H' → G H') (mono : ∀ x y v H1 H2, Tk K H1 H2 → rel x y v H1 → rel x y v H2)
    (hg : ∀ x H1, x ∈ xs → ExA H H1 → ∀ R : L2.St → Hp → Prop, R (st x) H1 → g (e x) (wipe σ vs) H1 R) (hw : ∀ x, wipe (st x) vs = wipe σ vs) (ht : ∀ x H1, ∀ R : Bool → Hp → Prop, R true H1 → tt (st x) H1 R)
    (hi1 : ∀ x H1, x ∈ xs → ExA H H1 → ∀ R : It → Hp → Prop, (∀ J G, Walk J (ys x).length G (YAt ((ys x).map e1)) → (∀ H', ExA H H' → G H') → R J H1) → wi1 (st x) H1 R)
    (hg1 : ∀ x y H1, x ∈ xs → y ∈ ys x → ExA H H1 → ∀ R : L2.St → Hp → Prop, R (st1 x y) H1 → g1 (e1 y) (wipe (st x) vs1) H1 R) (hw1 : ∀ x y, wipe (st1 x y) vs1 = wipe (st x) vs1)
    (ht1 : ∀ x y H1, x ∈ xs → y ∈ ys x → ExA H H1 → ∀ R : Bool → Hp → Prop, R (f x y) H1 → tt1 (st1 x y) H1 R)
    (he : ∀ x y H1, x ∈ xs → y ∈ ys x → f x y = true → ExA H H1 → ∀ R : VK, (∀ v H2, ExA H1 H2 → rel x y v H2 → R v H2) → te (st1 x y) H1 R)
    (hd : ∀ H' vs, ExA H H' → H' D = some (.lst vs) → Paired (fun p v => rel p.1 p.2 v H') (flat2 xs ys f) vs → Qd H') :
    ∃ W : Nat → Nat → Hp → Prop, (∃ m, W 0 m (upd H D (.lst []))) ∧ ∀ i m H, W i m H →
      (J.stop i H ∧ Qd H) ∨ (J.go i H ∧ ∃ Nx : Hp → Prop, (∀ H', Nx H' → ∃ m', m' < m ∧ W (i + 1) m' H') ∧ ∀ x H', J.yld i H x H' → g x (wipe σ vs) H' fun σ2 H2 => wipe σ2 vs = wipe σ vs ∧ tt σ2 H2 fun b H3 =>
        if b = true then wi1 σ2 H3 fun J1 H4 => ∃ W1 : Nat → Nat → Hp → Prop, (∃ m, W1 0 m H4) ∧ ∀ j k H, W1 j k H →
          (J1.stop j H ∧ Nx H) ∨ (J1.go j H ∧ ∃ Nx1 : Hp → Prop, (∀ H', Nx1 H' → ∃ k', k' < k ∧ W1 (j + 1) k' H') ∧ ∀ x H', J1.yld j H x H' → g1 x (wipe σ2 vs1) H' fun σ3 H5 => wipe σ3 vs1 = wipe σ2 vs1 ∧ tt1 σ3 H5 fun b H6 =>
            if b = true then te σ3 H6 fun y H7 => ∃ acc, H7 D = some (.lst acc) ∧ acc.length < sizeLine ∧ Nx1 (upd H7 D (.lst (acc ++ [y]))) else Nx1 H6)
        else Nx H3) := by
  subst hzs hn
  let Pv : Nat → Hp → Prop := fun i H' => ExA H H' ∧ ∃ acc, H' D = some (.lst acc) ∧ acc.length ≤ 1000 * i ∧ Paired (fun p v => rel p.1 p.2 v H') (flat2 (xs.take i) ys f) acc
  refine ⟨fun i m H' => m + i = xs.length ∧ Pv i H', ⟨xs.length, rfl, ExM.new hD, [], upd_same, Nat.zero_le _, .nil⟩, ?_⟩
  rintro i m H1 ⟨hm, ex1, acc, k1, k2, hacc⟩
  by_cases hi : i < xs.length
  · refine .inr ⟨wk.goes i H1 hi (hG _ ex1), Pv (i + 1), fun H2 p => ⟨m - 1, by omega, by omega, p⟩, fun xv H2 yy => ?_⟩
    obtain ⟨rfl, hx⟩ := wk.yields i H1 xv H2 hi (hG _ ex1) yy
    obtain ⟨x, hxi⟩ : ∃ x, xs[i]? = some x := ⟨_, List.getElem?_eq_getElem hi⟩
    rw [List.getElem?_map, hxi] at hx
    obtain rfl : e x = xv := Option.some.inj hx
    have mx := List.mem_of_getElem? hxi
    have tki := tsnoc hxi
    refine hg x _ mx ex1 _ ⟨hw x, ht x _ _ (iteT (hi1 x _ mx ex1 _ fun J1 G1 w1 hG1 => ?_))⟩
    let Pi : Nat → Hp → Prop := fun j H' => ExA H H' ∧ ∃ acc, H' D = some (.lst acc) ∧ acc.length ≤ 1000 * i + j ∧ Paired (fun p v => rel p.1 p.2 v H') (flat2 (xs.take i) ys f ++ (((ys x).take j).filter (f x)).map fun y => (x, y)) acc
    refine ⟨fun j k H' => k + j = (ys x).length ∧ Pi j H', ⟨(ys x).length, rfl, ex1, acc, k1, k2, by rw [List.take_zero, List.filter_nil, List.map_nil, List.append_nil]; exact hacc⟩, ?_⟩
    rintro j k H3 ⟨hk, ex3, ac, c1, c2, hac⟩
    by_cases hj : j < (ys x).length
    · refine .inr ⟨w1.goes j H3 hj (hG1 _ ex3), Pi (j + 1), fun H4 p => ⟨k - 1, by omega, by omega, p⟩, fun yv H4 yy => ?_⟩
      obtain ⟨rfl, hyv⟩ := w1.yields j H3 yv H4 hj (hG1 _ ex3) yy
      obtain ⟨y, hyj⟩ : ∃ y, (ys x)[j]? = some y := ⟨_, List.getElem?_eq_getElem hj⟩
      rw [List.getElem?_map, hyj] at hyv
      obtain rfl : e1 y = yv := Option.some.inj hyv
      have my := List.mem_of_getElem? hyj
      have tkj := tsnoc hyj
      refine hg1 x y _ mx my ex3 _ ⟨hw1 x y, ht1 x y _ mx my ex3 _ ?_⟩
      cases c : f x y with
      | false =>
        refine iteF ⟨ex3, ac, c1, by omega, ?_⟩
        rw [tkj, List.filter_append, List.filter_cons, c]
        simp only [List.filter_nil, List.append_nil, Bool.false_eq_true, if_false]
        exact hac
      | true =>
        refine iteT (he x y _ mx my c ex3 _ fun v H5 e5 hr => ?_)
        have c15 : H5 D = some (.lst ac) := ExA.at e5 c1
        have zy := hy x mx
        refine ⟨ac, c15, szl (by omega), (ex3.trans e5).put hD, ac ++ [v], upd_same, by rw [List.length_append, List.length_singleton]; omega, ?_⟩
        rw [tkj, List.filter_append, List.filter_cons, c]
        simp only [List.filter_nil, if_true]
        rw [List.map_append, ← List.append_assoc]
        have tt := Tk.lst (K := K) (o := .lst (ac ++ [v])) c15
        have h2 : Paired (fun (p : α × β) (b : V) => rel p.1 p.2 b (upd H5 D (.lst (ac ++ [v])))) (flat2 (xs.take i) ys f ++ (((ys x).take j).filter (f x)).map fun y => (x, y)) ac := pmp hac fun a b z => mono _ _ _ _ _ (Tk.trans (Tk.all e5) tt) z
        exact psnoc (F := fun (p : α × β) (b : V) => rel p.1 p.2 b (upd H5 D (.lst (ac ++ [v])))) (x := (x, y)) (mono _ _ _ _ _ tt hr) h2
    · have ej : j = (ys x).length := by omega
      subst ej
      have zy := hy x mx
      refine .inl ⟨w1.stops H3 (hG1 _ ex3), ex3, ac, c1, by omega, ?_⟩
      rw [tki, flat2_snoc]
      rw [List.take_length] at hac
      exact hac
  · have en : i = xs.length := by omega
    subst en
    rw [List.take_length] at hacc
    exact .inl ⟨wk.stops H1 (hG _ ex1), hd H1 acc ex1 k1 hacc⟩
end Wc
/-! A dict comprehension of two clauses: {k: v for a in x if .. for b in y if ..}. -/
namespace Wc
open PySem PySem.Spec PyProof.Rows L2
abbrev dd (kx vx ta ia : Expr) (ca : List Expr) (tb ib : Expr) (cb : List Expr) (sc : Scope) (ps : Pos) : Expr :=
  .DictComp kx vx [⟨ta, ia, ca, 0⟩, ⟨tb, ib, cb, 0⟩] sc ps
abbrev tsts (cs : List Expr) (env : Env) : Sem Bool :=
  forIn cs true fun c r =>
    if r = true then do
      let ok ← isTrue c env (eval c env)
      pure (ForInStep.yield ok)
    else pure (ForInStep.yield r)
section
variable {kx vx ta ia tb ib : Expr} {ca cb : List Expr} {sc : Scope} {ps : Pos} {it : Value} {Da : Addr} {env : Env}
theorem dd_out {acc : Value} : compTurn (dd kx vx ta ia ca tb ib cb sc ps) 0 it acc env = (do
        standAt ia.pos
        match ← pyNext it with
        | none =>
          pure (.done .next)
        | some u =>
          letOwnedTupleGo ta it u
          assign ta env u
          let mut ok := true
          for c in ca do
            if ok then ok ← isTrue c env (eval c env)
          if ok then
            let y ← eval ib env
            standAt ib.pos
            let y ← foldedSetIterable ib env y
            let _ ← runOwn (.compStart (dd kx vx ta ia ca tb ib cb sc ps) 1 (← holding [y] (pyIter y)) acc env) env
          again (.compLoop (dd kx vx ta ia ca tb ib cb sc ps) 0 it acc env)) := by rfl
theorem dd_in : compTurn (dd kx vx ta ia ca tb ib cb sc ps) 1 it (.ref Da) env = (do
        standAt ib.pos
        match ← pyNext it with
        | none =>
          pure (.done .next)
        | some u =>
          letOwnedTupleGo tb it u
          assign tb env u
          let mut ok := true
          for c in cb do
            if ok then ok ← isTrue c env (eval c env)
          if ok then
            (do
              let k ← eval kx env
              let u ← holding [k] (eval vx env)
              standAt { kx.pos with endLine := vx.pos.endLine, endCol := vx.pos.endCol }
              holding [k, u] (dictSet Da k u))
          again (.compLoop (dd kx vx ta ia ca tb ib cb sc ps) 1 it (.ref Da) env)) := by rfl
end
section
variable {P : Program} {w : World} {A : Around} {R : Result → Shared → Prop} {s : Shared}
variable {kx vx ta ia tb ib : Expr} {ca cb : List Expr} {sc : Scope} {ps : Pos} {it acc : Value} {Da : Addr} {env : Env}
/-- what is wanted of an error in a turn -/
abbrev bad (P : Program) (w : World) (A : Around) (env : Env) (R : Result → Shared → Prop) := notedBy (model P w) A env fun e s' => R (.error e) s'
theorem dd_loop0 (fold : ∀ x, foldedSetIterable ib env x = pure x) (I : Nat → Shared → Prop)
    (turn : ∀ n s, I n s → wpAny (model P w) A (pyNext it) (fun r s1 =>
      match r with
      | none => R (.ok .next) s1
      | some v => wpAny (model P w) A (letOwnedTupleGo ta it v) (fun _ s2 =>
          wpAny (model P w) A (assign ta env v) (fun _ s3 =>
            wpAny (model P w) A (tsts ca env) (fun ok s4 =>
              if ok = true then
                wpAny (model P w) A (eval ib env) (fun x s5 =>
                  wpAny (model P w) A (pyIter x) (fun jt s6 =>
                    codeAny (model P w) A (.compStart (dd kx vx ta ia ca tb ib cb sc ps) 1 jt acc env) (fun r s7 =>
                      match r with
                      | .ok _ => ∃ m, m < n ∧ I m s7
                      | .error _ => False) s6) (bad P w A env R) s5) (bad P w A env R) s4
              else ∃ m, m < n ∧ I m s4) (bad P w A env R) s3) (bad P w A env R) s2) (bad P w A env R) s1) (bad P w A env R) s)
    (n : Nat) (h : I n s) : codeAny (model P w) A (.compLoop (dd kx vx ta ia ca tb ib cb sc ps) 0 it acc env) R s := by
  refine codeAny_loop rfl I (fun n s hI => ?_) n h
  show wpAny _ A ((compTurn (dd kx vx ta ia ca tb ib cb sc ps) 0 it acc env).onRaise fun x => do noteFrame x env; theTreesLotGoes x) _ _ s
  refine wpAny_noted ?_
  rw [dd_out]
  refine wpAny_bind <| wpAny_standAt <| wpAny_bind <| wpAny_mono (turn n s hI) (fun r s1 h1 => ?_) fun _ _ z => z
  match r, h1 with
  | none, h1 => exact wpAny_pure h1
  | some v, h1 =>
    refine wpAny_bind <| wpAny_mono h1 (fun _ s2 h2 => ?_) fun _ _ z => z
    refine wpAny_bind <| wpAny_mono h2 (fun _ s3 h3 => ?_) fun _ _ z => z
    refine wpAny_bind <| wpAny_mono h3 (fun ok s4 h4 => ?_) fun _ _ z => z
    match ok, h4 with
    | false, h4 => exact wpAny_pure ⟨rfl, h4⟩
    | true, h4 =>
      refine wpAny_bind <| wpAny_mono h4 (fun x s5 h5 => ?_) fun _ _ z => z
      refine wpAny_bind <| wpAny_standAt <| wpAny_bind <| wpAny_of_eq (fold x) <| wpAny_bind <| wpAny_holding <| wpAny_mono h5 (fun jt s6 h6 => ?_) fun _ _ z => z
      refine wpAny_bind <| wpAny_runOwn ?_
      rw [Around.mark_none]
      refine codeAny_mono h6 fun r s7 hr => ?_
      match r, hr with
      | .ok f, hr => first | exact wpAny_pure ⟨rfl, hr⟩ | exact wpAny_bind (wpAny_pure (wpAny_pure ⟨rfl, hr⟩))
      | .error e, hr => exact hr.elim
theorem dd_loop1 (I : Nat → Shared → Prop)
    (turn : ∀ n s, I n s → wpAny (model P w) A (pyNext it) (fun r s1 =>
      match r with
      | none => R (.ok .next) s1
      | some v => wpAny (model P w) A (letOwnedTupleGo tb it v) (fun _ s2 =>
          wpAny (model P w) A (assign tb env v) (fun _ s3 =>
            wpAny (model P w) A (tsts cb env) (fun ok s4 =>
              if ok = true then
                wpAny (model P w) A (eval kx env) (fun k s5 =>
                  wpAny (model P w) A (eval vx env) (fun u s6 =>
                    wpAny (model P w) A (dictSet Da k u) (fun _ s7 => ∃ m, m < n ∧ I m s7) (bad P w A env R) s6) (bad P w A env R) s5) (bad P w A env R) s4
              else ∃ m, m < n ∧ I m s4) (bad P w A env R) s3) (bad P w A env R) s2) (bad P w A env R) s1) (bad P w A env R) s)
    (n : Nat) (h : I n s) : codeAny (model P w) A (.compLoop (dd kx vx ta ia ca tb ib cb sc ps) 1 it (.ref Da) env) R s := by
  refine codeAny_loop rfl I (fun n s hI => ?_) n h
  show wpAny _ A ((compTurn (dd kx vx ta ia ca tb ib cb sc ps) 1 it (.ref Da) env).onRaise fun x => do noteFrame x env; theTreesLotGoes x) _ _ s
  refine wpAny_noted ?_
  rw [dd_in]
  refine wpAny_bind <| wpAny_standAt <| wpAny_bind <| wpAny_mono (turn n s hI) (fun r s1 h1 => ?_) fun _ _ z => z
  match r, h1 with
  | none, h1 => exact wpAny_pure h1
  | some v, h1 =>
    refine wpAny_bind <| wpAny_mono h1 (fun _ s2 h2 => ?_) fun _ _ z => z
    refine wpAny_bind <| wpAny_mono h2 (fun _ s3 h3 => ?_) fun _ _ z => z
    refine wpAny_bind <| wpAny_mono h3 (fun ok s4 h4 => ?_) fun _ _ z => z
    match ok, h4 with
    | false, h4 => exact wpAny_pure ⟨rfl, h4⟩
    | true, h4 =>
      refine wpAny_bind <| wpAny_bind <| wpAny_mono h4 (fun k s5 h5 => ?_) fun _ _ z => z
      refine wpAny_bind <| wpAny_holding <| wpAny_mono h5 (fun u s6 h6 => ?_) fun _ _ z => z
      exact wpAny_bind <| wpAny_standAt <| wpAny_holding <| wpAny_mono h6 (fun _ s7 h7 => wpAny_pure ⟨rfl, h7⟩) fun _ _ z => z
/-- the second clause begins -/
theorem dd_start1 (h0 : codeAny (model P w) A (.compLoop (dd kx vx ta ia ca tb ib cb sc ps) 1 it acc env) R s)
    (h : wpAny (model P w) A (pyIter it) (fun jt s' => codeAny (model P w) A (.compLoop (dd kx vx ta ia ca tb ib cb sc ps) 1 jt acc env) R s')
      (notedBy (model P w) A env fun x s' => R (.error x) s') s) :
    codeAny (model P w) A (.compStart (dd kx vx ta ia ca tb ib cb sc ps) 1 it acc env) R s := by
  refine codeAny_of_tree ?_
  show wpAny _ _ ((compStart (dd kx vx ta ia ca tb ib cb sc ps) 1 it acc env).onRaise fun x => do noteFrame x env; standAt theWindowsPlace) _ _ s
  refine wpAny_notedAt ?_
  unfold compStart
  show wpAny _ _ (ask >>= _) _ _ s
  refine wpAny_bind <| wpAny_askSetting <| wpAny_ite ?_
  split
  · first | exact wpAny_bind (wpAny_pure (wpAny_pure ⟨rfl, h0⟩)) | exact wpAny_pure ⟨rfl, h0⟩
  · first
      | exact wpAny_bind <| wpAny_rule <| wpAny_bind <| wpAny_standAt <| wpAny_bind <| wpAny_mono h (fun jt s' h' => wpAny_pure ⟨rfl, h'⟩) fun _ _ x => x
      | (refine wpAny_bind <| wpAny_rule ?_
         show wpAny _ _ (standAt ib.pos >>= _) _ _ s
         exact wpAny_bind <| wpAny_standAt <| wpAny_bind <| wpAny_mono h (fun jt s' h' => wpAny_pure ⟨rfl, h'⟩) fun _ _ x => x)
end
/-- the reading: behind the first clause's store and tests the second source's own loop. vs: the block's names; vb: those of the second target -/
def tDd (wa : TI) (ga : TG) (ua : TT) (wb : TI) (gb : TG) (ub : TT) (tk tv : TE) (vs vb : List Nat) : TE := fun σ H Q => wa σ H fun J H1 => ∀ D, H1 D = none →
  ∃ W : Nat → Nat → Hp → Prop, (∃ m, W 0 m (upd H1 D (.dK []))) ∧ ∀ i m H, W i m H →
    (J.stop i H ∧ Q (.ref D) H) ∨
    (J.go i H ∧ ∃ Nx : Hp → Prop, (∀ H', Nx H' → ∃ m', m' < m ∧ W (i + 1) m' H') ∧
      ∀ x H', J.yld i H x H' → ga x (wipe σ vs) H' fun σ2 H2 => wipe σ2 vs = wipe σ vs ∧ ua σ2 H2 fun c H3 =>
        if c = true then
          wb σ2 H3 fun J1 H4 => ∃ W1 : Nat → Nat → Hp → Prop, (∃ m, W1 0 m H4) ∧ ∀ j k H, W1 j k H →
            (J1.stop j H ∧ Nx H) ∨
            (J1.go j H ∧ ∃ Ny : Hp → Prop, (∀ H', Ny H' → ∃ k', k' < k ∧ W1 (j + 1) k' H') ∧
              ∀ x H', J1.yld j H x H' → gb x (wipe σ2 vb) H' fun σ3 H5 => wipe σ3 vb = wipe σ2 vb ∧ ub σ3 H5 fun c H6 =>
                if c = true then tk σ3 H6 fun y H7 => tv σ3 H7 fun z H8 => ∃ kvs k, y = kV k ∧ H8 D = some (.dK kvs) ∧ kvs.length < sizeLine ∧ Ny (upd H8 D (.dK (putK kvs k z)))
                else Ny H6)
        else Nx H3)
section
variable {X : Cx}
/-- everywhere in a block -/
abbrev Blk (X : Cx) (sc : Scope) (F : Cx → Prop) : Prop := ∀ (s : Shared) (H : Hp) (C : Addr) (cl : List (Str × Addr)) (fp : List Addr), F (X.blk s H sc (compEnvC sc cl C X.env) fp)
theorem pe_dc2 {kx vx ta ia tb ib : Expr} {ca cb : List Expr} {sc : Scope} {own : List (Str × Nat)} {vs1 : List Nat} {ps : Pos} {wa wb : TI} {ga gb : TG} {ua ub : TT} {tk tv : TE}
    (hc : X.calm = true) (hN : X.N.Nodup) (hia : PI X ta ia wa) (ok : BlkOk X.N X.env.scope sc own) (hv : ∀ i ∈ vs1, i ∈ own.map (·.2))
    (hga : Blk X sc fun B => PG B ta ga) (hua : Blk X sc fun B => PTs B ca ua) (hib : Blk X sc fun B => PI B tb ib wb) (hgb : Blk X sc fun B => PG B tb gb) (hub : Blk X sc fun B => PTs B cb ub)
    (hk : Blk X sc fun B => PE B kx tk) (he : Blk X sc fun B => PE B vx tv) (fa : ∀ x, foldedSetIterable ia X.env x = pure x := by intro _; rfl) (fb : ∀ env x, foldedSetIterable ib env x = pure x := by intro _ _; rfl) :
    PE X (dd kx vx ta ia ca tb ib cb sc ps) (tDd wa ga ua wb gb ub tk tv (own.map (·.2)) vs1) := by
  refine ⟨fun pins s σ H Q I h => ?_⟩
  rw [arm_eval_DictComp]
  have hfree : ∀ y ∈ sc.names, y.2 = .free → ∃ c, X.env.cells.lookup y.1 = some c := fun y hy e => (ok.free y hy e).elim (fun k => I.ok.has _ (.inl k)) fun k => I.ok.has _ (.inr k)
  refine wpAny_comprehension_free rfl fa (closure_ok hfree) ok.kind (fun y hy e => by rw [ok.uniq y hy, e]) ?_
  refine thn (hia.run pins s σ H _ I h) fun xv s1 hx => thn hx fun itv s2 hh => ?_
  obtain ⟨it, fp, tn, J, H2, rfl, I2, T, st2, f2, q⟩ := hh
  refine wpAny_newObj_type (newEnv_comp ?_)
  generalize hD : s2.heap.objs.size = D
  have hDn : H2 D = none := I2.hok.fresh (Nat.le_of_eq hD)
  obtain ⟨W, ⟨m0, w0⟩, turn⟩ := q D hDn
  -- the new dict is laid
  generalize hs3 : ({ s2 with heap := s2.heap.push { cls := .type "dict", data := .dict #[] } } : Shared) = s3
  have h3 : s3.heap = s2.heap.push { cls := .type "dict", data := .dict #[] } := by rw [← hs3]
  have I3 : Inv X pins σ (upd H2 D (.dK [])) s3 := by
    rw [← hs3]
    exact I2.laid (t' := s2.toks) (fun b o e => Heap.get?_push_of_some _ e) (Nat.le_of_eq hD) (by rw [← hD]; exact dk_empty s2.heap I2.big)
  have low : ∀ b ∈ fp, b < s2.heap.objs.size := fun b hb => let ⟨_, e, _⟩ := T.obj _ _ st2 b hb; Heap.lt_size e
  have f3 : ∀ b ∈ fp, FpOk X pins (upd H2 D (.dK [])) b ∧ b < s3.heap.objs.size := fun b hb =>
    ⟨⟨by rw [upd_ne (by rw [← hD]; exact Nat.ne_of_lt (low b hb))]; exact (f2 b hb).1, (f2 b hb).2⟩, by rw [h3, Heap.size_push]; exact Nat.lt_succ_of_lt (low b hb)⟩
  have st3 : tn 0 s3.heap := T.keep _ _ _ st2 fun b _ o e => by rw [h3]; exact Heap.get?_push_of_some _ e
  have I4 := block_start I3 ok hN f3
  have qg := hga s3 (upd H2 D (.dK [])) s3.heap.objs.size (cellsFrom (s3.heap.objs.size + 1) sc.names (cloFrom X.env.cells sc.names [])) fp
  have qt := hua s3 (upd H2 D (.dK [])) s3.heap.objs.size (cellsFrom (s3.heap.objs.size + 1) sc.names (cloFrom X.env.cells sc.names [])) fp
  have qi1 := hib s3 (upd H2 D (.dK [])) s3.heap.objs.size (cellsFrom (s3.heap.objs.size + 1) sc.names (cloFrom X.env.cells sc.names [])) fp
  have qg1 := hgb s3 (upd H2 D (.dK [])) s3.heap.objs.size (cellsFrom (s3.heap.objs.size + 1) sc.names (cloFrom X.env.cells sc.names [])) fp
  have qt1 := hub s3 (upd H2 D (.dK [])) s3.heap.objs.size (cellsFrom (s3.heap.objs.size + 1) sc.names (cloFrom X.env.cells sc.names [])) fp
  have qk := hk s3 (upd H2 D (.dK [])) s3.heap.objs.size (cellsFrom (s3.heap.objs.size + 1) sc.names (cloFrom X.env.cells sc.names [])) fp
  have qe := he s3 (upd H2 D (.dK [])) s3.heap.objs.size (cellsFrom (s3.heap.objs.size + 1) sc.names (cloFrom X.env.cells sc.names [])) fp
  show codeAny _ _ (.compStart (dd kx vx ta ia ca tb ib cb sc ps) 0 (.ref it) (.ref D) (compEnvC sc (cellsFrom (s3.heap.objs.size + 1) sc.names (cloFrom X.env.cells sc.names [])) s3.heap.objs.size X.env))
    (compPost (model X.prog X.w) X.A X.xe none (EP X pins σ Q) (.ref D) s3.heap.objs.size) { s3 with heap := pushCells (s3.heap.push { cls := .type "dict", data := .dict #[] }) sc.names }
  have nfp : ∀ b ∈ fp, (upd H2 D (.dK [])) b = none := fun b hb => (f3 b hb).1.1
  generalize hce : compEnvC sc (cellsFrom (s3.heap.objs.size + 1) sc.names (cloFrom X.env.cells sc.names [])) s3.heap.objs.size X.env = ce at I4 qg qt qi1 qg1 qt1 qk qe ⊢
  have cL : ce.locals = s3.heap.objs.size := by subst hce; rfl
  generalize hH3 : upd H2 D (.dK []) = H3 at I3 I4 qg qt qi1 qg1 qt1 qk qe w0 nfp f3
  generalize hs4 : ({ s3 with heap := pushCells (s3.heap.push { cls := .type "dict", data := .dict #[] }) sc.names } : Shared) = s4 at I4 ⊢
  have st4 : tn 0 s4.heap := T.keep _ _ _ st3 fun b _ o e => by rw [← hs4]; exact pushCells_keeps _ _ _ _ (Heap.get?_push_of_some _ e)
  have stat : ∀ {σ' : L2.St} {H' : Hp} {s' : Shared}, Inv (X.blk s3 H3 sc ce fp) [] σ' H' s' → (∀ b ∈ fp, H' b = none) → ∀ b ∈ fp, FpOk (X.blk s3 H3 sc ce fp) [] H' b := fun {σ' H' s'} I' hn b hb =>
    ⟨hn b hb, (I'.ok.exf b hb).1, I'.ok.exfs b hb, .inl hb, fun x c e => (I'.ok.exf b hb).2 x c e, fun p hp => by cases (show p ∈ ([] : List (Addr × Obj)) ++ [] from hp)⟩
  have lp : codeAny (model X.prog X.w) X.A (.compLoop (dd kx vx ta ia ca tb ib cb sc ps) 0 (.ref it) (.ref D) ce) (compPost (model X.prog X.w) X.A X.xe none (EP X pins σ Q) (.ref D) s3.heap.objs.size) s4 := by
    refine dd_loop0 (fb ce) (fun n s' => ∃ i H', Inv (X.blk s3 H3 sc ce fp) [] (wipe σ (own.map (·.2))) H' s' ∧ tn i s'.heap ∧ (∀ b ∈ fp, H' b = none) ∧ W i n H') (fun n s5 hn5 => ?_) m0 ⟨0, H3, I4, st4, nfp, w0⟩
    obtain ⟨i, H5, I5, st5, n5, w5⟩ := hn5
    rcases turn i n H5 w5 with ⟨stop, qq⟩ | ⟨go, Nx, hNx, step⟩
    · refine thnF (T.done (X.blk s3 H3 sc ce fp) rfl rfl rfl hc i [] s5 _ H5 (fun _ _ => False) I5 (stat I5 n5) st5 stop) fun r s6 hr6 => ?_
      obtain ⟨rfl, I6⟩ := hr6
      have I7 : Inv X pins σ H5 s6 := I3.call' (ch := fp) I6.os I6.base I6.hok I6.bare fun b hb => let z := (f3 b hb).1; ⟨z.2.2.2.1, z.2.1, z.2.2.2.2.1, z.2.2.2.2.2⟩
      have nC : H5 s3.heap.objs.size = none := by have z : H5 ce.locals = none := I6.free; rwa [cL] at z
      obtain ⟨m, hm, _⟩ := I6.loc
      have hm : s6.heap.Ns ce.locals m := hm
      rw [cL] at hm
      refine ⟨m, hm, fun h'' sb => ?_⟩
      obtain ⟨g0, g1, g2, g3, g4, g5⟩ := I3.fpOk (Nat.le_refl _) nC
      exact ⟨.ref D, H5, I7.turned (t' := s6.toks) (fun b o hb e => (sb.2 b hb).trans e) g0 g1 g3 g4 g5, rfl, qq⟩
    · refine thnF (T.item (X.blk s3 H3 sc ce fp) rfl rfl rfl hc i [] s5 _ H5 (fun _ _ => False) I5 (stat I5 n5) st5 go) fun r s6 hr6 => ?_
      obtain ⟨u, rfl, h6⟩ := hr6
      refine thnF h6 fun _ s7 hh7 => ?_
      obtain ⟨x, H7, I7, r7, y7, st7, n7⟩ := hh7
      have I7' := I7.pinned (stat I7 n7) (T.obj _ _ st7)
      refine thnF (qg.run _ s7 _ H7 x u _ I7' r7 (step x H7 y7)) fun _ s8 hh8 => ?_
      obtain ⟨σ8, H8, I8, hw8, q8⟩ := hh8
      refine thnF (qt.run _ s8 σ8 H8 _ I8 q8) fun c s9 hh9 => ?_
      obtain ⟨H9, I9, q9⟩ := hh9
      -- where a turn of the outer loop ends
      have fin : ∀ {σ9 : L2.St} {s' : Shared} {H' : Hp}, Inv (X.blk s3 H3 sc ce fp) ([] ++ pinsAt fp s7.heap) σ9 H' s' → (wipe σ (own.map (·.2))).length = σ9.length →
          (∀ (j : Nat) v, (wipe σ (own.map (·.2)))[j]? = some (some v) → σ9[j]? = some (some v)) → Nx H' →
          ∃ m, m < n ∧ ∃ i H', Inv (X.blk s3 H3 sc ce fp) [] (wipe σ (own.map (·.2))) H' s' ∧ tn i s'.heap ∧ (∀ b ∈ fp, H' b = none) ∧ W i m H' := fun {σ9 s' H'} I' hl hk nx => by
        obtain ⟨m', hm, w'⟩ := hNx H' nx
        have pin' : ∀ b ∈ fp, ∀ o, s7.heap.get? b = some o → s'.heap.get? b = some o ∧ H' b = none := fun b hb o e =>
          let z := I'.pin (b, o) (List.mem_append_right _ (List.mem_append_right _ (mem_pinsAt hb e))); ⟨z.1, z.2.1⟩
        exact ⟨m', hm, i + 1, H', (I'.unpinned (pins := [])).weak hl hk, T.keep _ _ _ st7 fun b hb o e => (pin' b hb o e).1, fun b hb => let ⟨o, e, _⟩ := T.obj _ _ st7 b hb; (pin' b hb o e).2, w'⟩
      have hl8 : (wipe σ (own.map (·.2))).length = σ8.length := by rw [← hw8, wipe_length]
      have hk8 : ∀ (j : Nat) v, (wipe σ (own.map (·.2)))[j]? = some (some v) → σ8[j]? = some (some v) := fun j v e => by rw [← hw8] at e; exact (wipe_some e).1
      have hk9 : ∀ (j : Nat) v, (wipe σ (own.map (·.2)))[j]? = some (some v) → (wipe σ8 vs1)[j]? = some (some v) := fun j v e => by
        rw [← hw8] at e
        rw [wipe_out fun z => (wipe_some e).2 (hv j z)]
        exact (wipe_some e).1
      match c, q9 with
      | false, q9 => exact fin I9 hl8 hk8 (by simpa using q9)
      | true, q9 =>
        simp only [if_true] at q9 ⊢
        refine thnF (qi1.run _ s9 σ8 H9 _ I9 q9) fun xv s10 hx => thnF hx fun itv s11 hh => ?_
        obtain ⟨jt, fq, tm, J1, H11, rfl, I11, T1, st11, f11, W1, ⟨m1, w1⟩, turn1⟩ := hh
        have stat1 : ∀ {H' : Hp}, (∀ b ∈ fq, H' b = none) → ∀ b ∈ fq, FpOk (X.blk s3 H3 sc ce fp) ([] ++ pinsAt fp s7.heap) H' b := fun hn b hb => ⟨hn b hb, (f11 b hb).2⟩
        have lq : codeAny (model X.prog X.w) X.A (.compLoop (dd kx vx ta ia ca tb ib cb sc ps) 1 (.ref jt) (.ref D) ce) (fun r s' =>
            match r with
            | .ok _ => ∃ m, m < n ∧ ∃ i H', Inv (X.blk s3 H3 sc ce fp) [] (wipe σ (own.map (·.2))) H' s' ∧ tn i s'.heap ∧ (∀ b ∈ fp, H' b = none) ∧ W i m H'
            | .error _ => False) s11 := by
          refine dd_loop1 (fun k s' => ∃ j H', Inv (X.blk s3 H3 sc ce fp) ([] ++ pinsAt fp s7.heap) (wipe σ8 vs1) H' s' ∧ tm j s'.heap ∧ (∀ b ∈ fq, H' b = none) ∧ W1 j k H') (fun k s12 hh12 => ?_) m1
            ⟨0, H11, I11.weak (wipe_length _ _) (fun j v e => (wipe_some e).1), st11, fun b hb => (f11 b hb).1, w1⟩
          obtain ⟨j, H12, I12, st12, n12, w12⟩ := hh12
          rcases turn1 j k H12 w12 with ⟨stop1, nx1⟩ | ⟨go1, Ny, hNy, step1⟩
          · refine thnF (T1.done (X.blk s3 H3 sc ce fp) rfl rfl rfl hc j _ s12 (wipe σ8 vs1) H12 (fun _ _ => False) I12 (stat1 n12) st12 stop1) fun r s13 hr => ?_
            obtain ⟨rfl, I13⟩ := hr
            exact fin I13 (hl8.trans (wipe_length σ8 vs1).symm) hk9 nx1
          · refine thnF (T1.item (X.blk s3 H3 sc ce fp) rfl rfl rfl hc j _ s12 (wipe σ8 vs1) H12 (fun _ _ => False) I12 (stat1 n12) st12 go1) fun r s13 hr => ?_
            obtain ⟨u1, rfl, h13⟩ := hr
            refine thnF h13 fun _ s14 hh => ?_
            obtain ⟨x1, H14, I14, r14, y14, st14, n14⟩ := hh
            have I14' := I14.pinned (stat1 n14) (T1.obj _ _ st14)
            refine thnF (qg1.run _ s14 (wipe σ8 vs1) H14 x1 u1 _ I14' r14 (step1 x1 H14 y14)) fun _ s15 hh => ?_
            obtain ⟨σ15, H15, I15, hw15, q15⟩ := hh
            refine thnF (qt1.run _ s15 σ15 H15 _ I15 q15) fun c1 s16 hh => ?_
            obtain ⟨H16, I16, q16⟩ := hh
            have fin1 : ∀ {s' : Shared} {H' : Hp}, Inv (X.blk s3 H3 sc ce fp) (([] ++ pinsAt fp s7.heap) ++ pinsAt fq s14.heap) σ15 H' s' → Ny H' →
                ∃ m, m < k ∧ ∃ j H', Inv (X.blk s3 H3 sc ce fp) ([] ++ pinsAt fp s7.heap) (wipe σ8 vs1) H' s' ∧ tm j s'.heap ∧ (∀ b ∈ fq, H' b = none) ∧ W1 j m H' := fun {s' H'} I' nx => by
              obtain ⟨m', hm, w'⟩ := hNy H' nx
              have pin' : ∀ b ∈ fq, ∀ o, s14.heap.get? b = some o → s'.heap.get? b = some o ∧ H' b = none := fun b hb o e =>
                let z := I'.pin (b, o) (List.mem_append_right _ (List.mem_append_right _ (mem_pinsAt hb e))); ⟨z.1, z.2.1⟩
              exact ⟨m', hm, j + 1, H', I'.unpinned.weak (by rw [← hw15, wipe_length]) (fun j v e => by rw [← hw15] at e; exact (wipe_some e).1), T1.keep _ _ _ st14 fun b hb o e => (pin' b hb o e).1,
                fun b hb => let ⟨o, e, _⟩ := T1.obj _ _ st14 b hb; (pin' b hb o e).2, w'⟩
            match c1, q16 with
            | false, q16 => exact fin1 I16 (by simpa using q16)
            | true, q16 =>
              simp only [if_true] at q16 ⊢
              refine thnF (qk.run _ s16 σ15 H16 _ I16 q16) fun z s17 hh => ?_
              obtain ⟨yk, H17, I17, r17, q17⟩ := hh
              refine thnF (qe.run _ s17 σ15 H17 _ I17 q17) fun z2 s18 hh => ?_
              obtain ⟨yv, H18, I18, r18, kvs, k', rfl, hD18, hz18, ny⟩ := hh
              exact d_dictSet (X := X.blk s3 H3 sc ce fp) I18 hD18 hz18 r17 r18 fun s19 I19 => fin1 I19 ny
        exact dd_start1 lq (T1.self X.A 0 _ _ _ st11 lq)
  exact codeAny_compStart_dict lp (T.self X.A 0 _ _ _ st4 lp)
end
end Wc
/-! What can be obtained: rounds, the mathematics. -/
namespace Wc
/-- n follows from objects of S by another reason than a register -/
def Ob.fol (cs : List Int) (S : Int → Prop) (n : Int) : Ob → Prop
  | .rcd _ fs => some n ∈ fs
  | .weak _ t => t = some n ∧ n ∉ cs
  | .tab _ es => ∃ k, (k, n) ∈ es ∧ S k
def Fol (h : Hd) (cs : List Int) (S : Int → Prop) (n : Int) : Prop := ∃ o ∈ h.obs, S o.num ∧ o.fol cs S n
/-- obtainable within so many rounds -/
def In (h : Hd) (cs : List Int) : Nat → Int → Prop
  | 0 => fun n => some n ∈ h.regs
  | k + 1 => fun n => In h cs k n ∨ Fol h cs (In h cs k) n
def Obt (h : Hd) (cs : List Int) (n : Int) : Prop := ∃ k, In h cs k n
section
variable {h : Hd} {cs ds : List Int} {S S' : Int → Prop} {n : Int}
theorem Ob.fol_mono (hs : ∀ n, S n → S' n) {o : Ob} (x : o.fol cs S n) : o.fol cs S' n := by
  cases o with
  | rcd _ _ => exact x
  | weak _ _ => exact x
  | tab _ _ => obtain ⟨k, h1, h2⟩ := x; exact ⟨k, h1, hs k h2⟩
theorem Fol.mono (hs : ∀ n, S n → S' n) (x : Fol h cs S n) : Fol h cs S' n := by
  obtain ⟨o, h1, h2, h3⟩ := x
  exact ⟨o, h1, hs _ h2, Ob.fol_mono hs h3⟩
theorem In.succ {k : Nat} (x : In h cs k n) : In h cs (k + 1) n := .inl x
theorem In.le {k j : Nat} (hk : k ≤ j) (x : In h cs k n) : In h cs j n := by
  induction hk with
  | refl => exact x
  | step _ ih => exact .inl ih
theorem Ob.fol_in {S : List Int} {T : Int → Prop} {o : Ob} (ok : o.ok S) (x : o.fol cs T n) : n ∈ S := by
  cases o with
  | rcd m fs => exact ok.2 _ x n rfl
  | weak m t => exact ok n x.1
  | tab m es => obtain ⟨k, h1, _⟩ := x; exact (ok.2.2 _ h1).2
theorem In.num (ok : h.Ok) : ∀ {k : Nat} {n : Int}, In h cs k n → n ∈ h.nums
  | 0, n, x => ok.regs _ x n rfl
  | k + 1, n, .inl x => In.num ok x
  | k + 1, n, .inr ⟨o, ho, _, hf⟩ => Ob.fol_in (ok.obs o ho) hf
theorem Obt.num (ok : h.Ok) (x : Obt h cs n) : n ∈ h.nums := let ⟨_, y⟩ := x; In.num ok y
/-- fewer condemned, more is obtained -/
theorem Ob.fol_less (hc : ∀ n, n ∈ ds → n ∈ cs) {o : Ob} (x : o.fol cs S n) : o.fol ds S n := by
  cases o with
  | rcd _ _ => exact x
  | weak _ _ => exact ⟨x.1, fun z => x.2 (hc _ z)⟩
  | tab _ _ => exact x
theorem In.less (hc : ∀ n, n ∈ ds → n ∈ cs) : ∀ {k : Nat} {n : Int}, In h cs k n → In h ds k n
  | 0, _, x => x
  | _ + 1, _, .inl x => .inl (In.less hc x)
  | _ + 1, _, .inr ⟨o, ho, h2, h3⟩ => .inr ⟨o, ho, In.less hc h2, Ob.fol_mono (fun _ z => In.less hc z) (Ob.fol_less hc h3)⟩
theorem Obt.less (hc : ∀ n, n ∈ ds → n ∈ cs) (x : Obt h cs n) : Obt h ds n := let ⟨k, y⟩ := x; ⟨k, In.less hc y⟩
/-- what is closed has all that is obtained -/
theorem Obt.closed (h0 : ∀ n, some n ∈ h.regs → S n) (h1 : ∀ n, Fol h cs S n → S n) (x : Obt h cs n) : S n := by
  obtain ⟨k, x⟩ := x
  induction k generalizing n with
  | zero => exact h0 n x
  | succ k ih =>
    rcases x with x | x
    · exact ih x
    · exact h1 n (x.mono fun m z => ih z)
theorem Obt.reg (x : some n ∈ h.regs) : Obt h cs n := ⟨0, x⟩
theorem two {k j : Nat} {m : Int} (x : In h cs k n) (y : In h cs j m) : ∃ i, In h cs i n ∧ In h cs i m := ⟨max k j, x.le (Nat.le_max_left _ _), y.le (Nat.le_max_right _ _)⟩
theorem Obt.fol (x : Fol h cs (Obt h cs) n) : Obt h cs n := by
  obtain ⟨o, ho, ⟨k, hk⟩, hf⟩ := x
  cases o with
  | rcd m fs => exact ⟨k + 1, .inr ⟨_, ho, hk, hf⟩⟩
  | weak m t => exact ⟨k + 1, .inr ⟨_, ho, hk, hf⟩⟩
  | tab m es =>
    obtain ⟨q, h1, j, hj⟩ := hf
    obtain ⟨i, a, b⟩ := two hk hj
    exact ⟨i + 1, .inr ⟨_, ho, a, q, h1, b⟩⟩
end
/-- what an object leads to, and what follows from it -/
theorem mem_ledTo {o : Ob} {gs cs : List Int} {n : Int} : n ∈ ledTo o gs cs ↔ o.fol cs (· ∈ gs) n := by
  cases o with
  | rcd m fs => simp [ledTo, Ob.fol]
  | weak m t =>
    cases t with
    | none => simp [ledTo, Ob.fol]
    | some i =>
      show n ∈ (if i ∈ cs then [] else [i]) ↔ (some i = some n ∧ n ∉ cs)
      by_cases c : i ∈ cs
      · rw [if_pos c]
        constructor
        · intro z; cases z
        · rintro ⟨e, z⟩; exact absurd (Option.some.inj e ▸ c) z
      · rw [if_neg c]
        constructor
        · intro z
          have e : n = i := by simpa using z
          subst e; exact ⟨rfl, c⟩
        · rintro ⟨e, _⟩
          have e := Option.some.inj e
          subst e; simp
  | tab m es =>
    show n ∈ ((es.filter fun e => decide (e.1 ∈ gs)).map (·.2)) ↔ ∃ k, (k, n) ∈ es ∧ k ∈ gs
    rw [List.mem_map]
    constructor
    · rintro ⟨e, he, rfl⟩
      obtain ⟨h1, h2⟩ := List.mem_filter.mp he
      exact ⟨e.1, h1, of_decide_eq_true h2⟩
    · rintro ⟨k, h1, h2⟩
      exact ⟨(k, n), List.mem_filter.mpr ⟨h1, decide_eq_true h2⟩, rfl⟩
/-! ### rows without repetition -/
theorem nd_sub {l m : List Int} (h : l.Nodup) (s : ∀ n ∈ l, n ∈ m) : l.length ≤ m.length := by
  induction l generalizing m with
  | nil => exact Nat.zero_le _
  | cons x r ih =>
    have hx : x ∈ m := s x List.mem_cons_self
    obtain ⟨nx, nr⟩ := List.nodup_cons.mp h
    have q := ih (m := m.erase x) nr fun n hn => (List.mem_erase_of_ne (fun e => nx (by rw [← e]; exact hn))).mpr (s n (List.mem_cons_of_mem _ hn))
    rw [List.length_erase_of_mem hx] at q
    have : 0 < m.length := List.length_pos_of_mem hx
    rw [List.length_cons]
    omega
/-- two rising rows with the same members are one -/
theorem up_same : ∀ {l m : List Int}, l.Pairwise (· < ·) → m.Pairwise (· < ·) → (∀ n, n ∈ l ↔ n ∈ m) → l = m
  | [], [], _, _, _ => rfl
  | [], y :: m, _, _, h => absurd ((h y).mpr List.mem_cons_self) (by simp)
  | x :: l, [], _, _, h => absurd ((h x).mp List.mem_cons_self) (by simp)
  | x :: l, y :: m, hl, hm, h => by
    obtain ⟨hx, hl'⟩ := List.pairwise_cons.mp hl
    obtain ⟨hy, hm'⟩ := List.pairwise_cons.mp hm
    have e : x = y := by
      rcases List.mem_cons.mp ((h x).mp List.mem_cons_self) with e | e
      · exact e
      · rcases List.mem_cons.mp ((h y).mpr List.mem_cons_self) with e2 | e2
        · exact e2.symm
        · have := hx y e2
          have := hy x e
          omega
    subst e
    have hh : ∀ n, n ∈ l ↔ n ∈ m := fun n => by
      constructor
      · intro z
        rcases List.mem_cons.mp ((h n).mp (List.mem_cons_of_mem _ z)) with e | e
        · subst e; exact absurd (hx n z) (by omega)
        · exact e
      · intro z
        rcases List.mem_cons.mp ((h n).mpr (List.mem_cons_of_mem _ z)) with e | e
        · subst e; exact absurd (hy n z) (by omega)
        · exact e
    rw [up_same hl' hm' hh]
theorem up_of {l : List Int} (h : l.Pairwise (· ≤ ·)) (nd : l.Nodup) : l.Pairwise (· < ·) := by
  induction l with
  | nil => exact .nil
  | cons x r ih =>
    obtain ⟨h1, h2⟩ := List.pairwise_cons.mp h
    obtain ⟨n1, n2⟩ := List.nodup_cons.mp nd
    exact List.pairwise_cons.mpr ⟨fun y hy => by
      have := h1 y hy
      have : x ≠ y := fun e => n1 (by rw [e]; exact hy)
      omega, ih h2 n2⟩
/-! ### the rounds as they are found, one behind the other -/
structure RI (h : Hd) (cs : List Int) (d : Nat) (G : List (Int × Int)) (W : List Int) : Prop where
  ndG : (G.map (·.1)).Nodup
  ndW : W.Nodup
  mem : ∀ n, n ∈ G.map (·.1) ↔ ∃ j, j < d ∧ In h cs j n
  new : ∀ n, n ∈ W ↔ In h cs d n ∧ ¬ ∃ j, j < d ∧ In h cs j n
  val : ∀ n v, (n, v) ∈ G → ∃ k : Nat, v = k ∧ In h cs k n ∧ ∀ j, j < k → ¬ In h cs j n
structure RoundsOf (h : Hd) (cs : List Int) (G : List (Int × Int)) : Prop where
  nd : (G.map (·.1)).Nodup
  all : ∀ n, n ∈ G.map (·.1) ↔ Obt h cs n
  val : ∀ n v, (n, v) ∈ G → ∃ k : Nat, v = k ∧ In h cs k n ∧ ∀ j, j < k → ¬ In h cs j n
def addW (G : List (Int × Int)) (W : List Int) (d : Nat) : List (Int × Int) := G ++ W.map fun n => (n, (d : Int))
section
variable {h : Hd} {cs : List Int} {d : Nat} {G : List (Int × Int)} {W : List Int}
theorem addW_keys : (addW G W d).map (·.1) = G.map (·.1) ++ W := by
  unfold addW
  rw [List.map_append, List.map_map]
  congr 1
  exact List.map_id' W
theorem RI.dis (r : RI h cs d G W) {n : Int} (hn : n ∈ W) : n ∉ G.map (·.1) := fun z => ((r.new n).mp hn).2 ((r.mem n).mp z)
theorem RI.ndA (r : RI h cs d G W) : ((addW G W d).map (·.1)).Nodup := by
  rw [addW_keys]
  exact List.nodup_append.mpr ⟨r.ndG, r.ndW, fun a ha b hb e => r.dis hb (e ▸ ha)⟩
theorem RI.memA (r : RI h cs d G W) (n : Int) : n ∈ (addW G W d).map (·.1) ↔ In h cs d n := by
  rw [addW_keys, List.mem_append, r.mem, r.new]
  constructor
  · rintro (⟨j, hj, x⟩ | x)
    · exact x.le (by omega)
    · exact x.1
  · intro x
    by_cases c : ∃ j, j < d ∧ In h cs j n
    · exact .inl c
    · exact .inr ⟨x, c⟩
theorem RI.size (r : RI h cs d G W) (ok : h.Ok) : (addW G W d).length ≤ h.nums.length := by
  have q := nd_sub r.ndA fun n hn => In.num ok ((r.memA n).mp hn)
  rwa [List.length_map] at q
theorem RI.more (hw : W ≠ []) : G.length < (addW G W d).length := by
  unfold addW
  rw [List.length_append, List.length_map]
  have := List.length_pos_iff.mpr hw
  omega
/-- a round: who is asked, and what is found -/
theorem RI.step (r : RI h cs d G W) {as W' : List Int} (ha : ∀ n ∈ as, n ∈ (addW G W d).map (·.1)) (hb : ∀ n, n ∈ (addW G W d).map (·.1) → (n ∈ W ∨ ∃ m es, Ob.tab m es ∈ h.obs ∧ m = n) → n ∈ as)
    (nd : W'.Nodup) (hw : ∀ n, n ∈ W' ↔ n ∉ (addW G W d).map (·.1) ∧ ∃ o ∈ h.obs, o.num ∈ as ∧ o.fol cs (· ∈ (addW G W d).map (·.1)) n) : RI h cs (d + 1) (addW G W d) W' := by
  refine ⟨r.ndA, nd, fun n => ?_, fun n => ?_, fun n v hv => ?_⟩
  · rw [r.memA]
    exact ⟨fun x => ⟨d, by omega, x⟩, fun ⟨j, hj, x⟩ => x.le (by omega)⟩
  · rw [hw n]
    have e1 : (∃ j, j < d + 1 ∧ In h cs j n) ↔ In h cs d n := ⟨fun ⟨j, hj, x⟩ => x.le (by omega), fun x => ⟨d, by omega, x⟩⟩
    rw [e1, r.memA]
    constructor
    · rintro ⟨hn, o, ho, hoa, hf⟩
      exact ⟨.inr ⟨o, ho, (r.memA _).mp (ha _ hoa), Ob.fol_mono (fun m z => (r.memA m).mp z) hf⟩, hn⟩
    · rintro ⟨x, hn⟩
      refine ⟨hn, ?_⟩
      rcases x with x | ⟨o, ho, h1, hf⟩
      · exact absurd x hn
      · refine ⟨o, ho, ?_, Ob.fol_mono (fun m z => (r.memA m).mpr z) hf⟩
        refine hb _ ((r.memA _).mpr h1) ?_
        by_cases c : o.num ∈ W
        · exact .inl c
        · refine .inr ?_
          -- found before the last round: then n would have been found, but for a table
          have h2 : ∃ j, j < d ∧ In h cs j o.num := by
            by_cases c2 : ∃ j, j < d ∧ In h cs j o.num
            · exact c2
            · exact absurd ((r.new _).mpr ⟨h1, c2⟩) c
          obtain ⟨j, hj, x⟩ := h2
          cases o with
          | rcd m fs => exact absurd (In.le (by omega : j + 1 ≤ d) (.inr ⟨_, ho, x, hf⟩)) hn
          | weak m t => exact absurd (In.le (by omega : j + 1 ≤ d) (.inr ⟨_, ho, x, hf⟩)) hn
          | tab m es => exact ⟨m, es, ho, rfl⟩
  · rcases List.mem_append.mp hv with z | z
    · exact r.val n v z
    · obtain ⟨m, hm, e⟩ := List.mem_map.mp z
      cases e
      have q := (r.new _).mp hm
      exact ⟨d, rfl, q.1, fun j hj x => q.2 ⟨j, hj, x⟩⟩
theorem RI.first {W : List Int} (nd : W.Nodup) (hw : ∀ n, n ∈ W ↔ some n ∈ h.regs) : RI h cs 0 [] W :=
  ⟨List.nodup_nil, nd, fun n => ⟨fun z => by simp at z, fun ⟨j, hj, _⟩ => absurd hj (by omega)⟩, fun n => (hw n).trans ⟨fun z => ⟨z, fun ⟨j, hj, _⟩ => absurd hj (by omega)⟩, fun z => z.1⟩, fun n v z => by simp at z⟩
theorem RI.done (r : RI h cs d G []) : RoundsOf h cs G := by
  refine ⟨r.ndG, fun n => ⟨fun z => let ⟨j, _, x⟩ := (r.mem n).mp z; ⟨j, x⟩, fun x => ?_⟩, r.val⟩
  have stop : ∀ n, In h cs d n → ∃ j, j < d ∧ In h cs j n := fun n y => by
    by_cases c : ∃ j, j < d ∧ In h cs j n
    · exact c
    · exact absurd ((r.new n).mpr ⟨y, c⟩) (by simp)
  refine Obt.closed (S := fun n => n ∈ G.map (·.1)) (fun n z => (r.mem n).mpr (stop n (In.le (Nat.zero_le d) z))) (fun n z => ?_) x
  have hd : ∀ m, m ∈ G.map (·.1) → In h cs (d - 1) m := fun m hm => let ⟨j, hj, y⟩ := (r.mem m).mp hm; y.le (by omega)
  by_cases d0 : d = 0
  · obtain ⟨o, _, h1, _⟩ := z
    obtain ⟨j, hj, _⟩ := (r.mem _).mp h1
    omega
  · have y : In h cs (d - 1 + 1) n := .inr (z.mono hd)
    exact (r.mem n).mpr (stop n (y.le (by omega)))
end
end Wc
/-! A heap without some of its objects; what is reached without one: the mathematics. -/
namespace Wc
open PySem L2
def hit (gs : List Int) : Rf → Bool
  | none => false
  | some m => decide (m ∈ gs)
def clr (gs : List Int) (r : Rf) : Rf := if hit gs r = true then none else r
def dropOb (gs : List Int) : Ob → Ob
  | .rcd n fs => .rcd n (fs.map (clr gs))
  | .weak n t => .weak n (clr gs t)
  | .tab n es => .tab n (es.filter fun e => decide (e.1 ∉ gs) && decide (e.2 ∉ gs))
def drop (h : Hd) (gs : List Int) : Hd :=
  ⟨h.nx, h.regs.map (clr gs), h.kept.filter fun n => decide (n ∉ gs), (h.obs.filter fun o => decide (o.num ∉ gs)).map (dropOb gs), h.wat.filter fun e => decide (e.1 ∉ gs)⟩
/-- .. the object itself stays, without what leads to it -/
def leftOut (h : Hd) (n : Int) : Hd := ⟨h.nx, h.regs.map (clr [n]), h.kept, h.obs.map (dropOb [n]), h.wat⟩
theorem dropOb_num (gs : List Int) (o : Ob) : (dropOb gs o).num = o.num := by cases o <;> rfl
theorem clr_some {gs : List Int} {r : Rf} {m : Int} : clr gs r = some m ↔ r = some m ∧ m ∉ gs := by
  cases r with
  | none => simp [clr, hit]
  | some k =>
    show (if decide (k ∈ gs) = true then none else some k) = some m ↔ _
    by_cases c : k ∈ gs
    · rw [decide_eq_true c, if_pos rfl]
      exact ⟨fun z => (nomatch z), fun ⟨z, y⟩ => absurd (Option.some.inj z ▸ c) y⟩
    · rw [decide_eq_false c, if_neg (by simp)]
      exact ⟨fun z => ⟨z, fun y => c (Option.some.inj z ▸ y)⟩, fun z => z.1⟩
theorem drop_nums (h : Hd) (gs : List Int) : (drop h gs).nums = h.nums.filter fun n => decide (n ∉ gs) := by
  have key : ∀ l : List Ob, ((l.filter fun o => decide (o.num ∉ gs)).map (dropOb gs)).map Ob.num = (l.map Ob.num).filter fun n => decide (n ∉ gs) := fun l => by
    induction l with
    | nil => rfl
    | cons o r ih =>
      rw [List.map_cons, List.filter_cons, List.filter_cons]
      split
      · rw [List.map_cons, List.map_cons, ih, dropOb_num]
      · exact ih
  exact key h.obs
theorem leftOut_nums (h : Hd) (n : Int) : (leftOut h n).nums = h.nums := by
  show (h.obs.map (dropOb [n])).map Ob.num = h.obs.map Ob.num
  rw [List.map_map]
  exact List.map_congr_left fun o _ => dropOb_num _ _
theorem dropOb_ok {S gs : List Int} {o : Ob} (h : o.ok S) : (dropOb gs o).ok (S.filter fun n => decide (n ∉ gs)) := by
  have cl : ∀ r, Rf.ok S r → Rf.ok (S.filter fun n => decide (n ∉ gs)) (clr gs r) := fun r hr i e => by
    obtain ⟨e1, e2⟩ := clr_some.mp e
    exact List.mem_filter.mpr ⟨hr i e1, decide_eq_true e2⟩
  cases o with
  | rcd n fs =>
    refine ⟨by rw [List.length_map]; exact h.1, fun r hr => ?_⟩
    obtain ⟨q, hq, rfl⟩ := List.mem_map.mp hr
    exact cl q (h.2 q hq)
  | weak n t => exact cl t h
  | tab n es =>
    refine ⟨Nat.le_trans (List.length_filter_le _ _) h.1, (List.Sublist.map _ List.filter_sublist).nodup h.2.1, fun e he => ?_⟩
    obtain ⟨e1, e2⟩ := List.mem_filter.mp he
    obtain ⟨y1, y2⟩ := Bool.and_eq_true_iff.mp e2
    exact ⟨List.mem_filter.mpr ⟨(h.2.2 e e1).1, y1⟩, List.mem_filter.mpr ⟨(h.2.2 e e1).2, y2⟩⟩
theorem Ob.ok.sub {S S' : List Int} {o : Ob} (h : o.ok S) (s : ∀ n ∈ S, n ∈ S') : o.ok S' := by
  cases o with
  | rcd n fs => exact ⟨h.1, fun r hr i e => s i (h.2 r hr i e)⟩
  | weak n t => exact fun i e => s i (h i e)
  | tab n es => exact ⟨h.1, h.2.1, fun e he => ⟨s _ (h.2.2 e he).1, s _ (h.2.2 e he).2⟩⟩
theorem drop_ok {h : Hd} (ok : h.Ok) (gs : List Int) : (drop h gs).Ok := by
  have en := drop_nums h gs
  refine ⟨by rw [en]; exact ok.up.sublist List.filter_sublist, ?_, ?_, fun r hr i e => ?_, fun o ho => ?_, fun i hi => ?_, fun e he => ?_, fun n hn => ?_, ok.nxl, ok.kup.sublist List.filter_sublist, fun e he => ok.tok e (List.mem_filter.mp he).1, Nat.le_trans (List.length_filter_le _ _) ok.nwat, fun z => ?_⟩
  · show ((h.obs.filter fun o => decide (o.num ∉ gs)).map (dropOb gs)).length ≤ 50
    rw [List.length_map]; exact Nat.le_trans (List.length_filter_le _ _) ok.size
  · show (h.regs.map (clr gs)).length ≤ 1000
    rw [List.length_map]; exact ok.nreg
  · rw [en]
    obtain ⟨q, hq, rfl⟩ := List.mem_map.mp hr
    obtain ⟨e1, e2⟩ := clr_some.mp e
    exact List.mem_filter.mpr ⟨ok.regs q hq i e1, decide_eq_true e2⟩
  · rw [en]
    obtain ⟨q, hq, rfl⟩ := List.mem_map.mp ho
    exact dropOb_ok (ok.obs q (List.mem_filter.mp hq).1)
  · rw [en]
    obtain ⟨y1, y2⟩ := List.mem_filter.mp hi
    exact List.mem_filter.mpr ⟨ok.kept i y1, y2⟩
  · rw [en]
    obtain ⟨y1, y2⟩ := List.mem_filter.mp he
    exact List.mem_filter.mpr ⟨ok.wat e y1, y2⟩
  · rw [en] at hn
    exact ok.low n (List.mem_filter.mp hn).1
  · exact ok.rpos (List.map_eq_nil_iff.mp z)
theorem leftOut_ok {h : Hd} (ok : h.Ok) (n : Int) : (leftOut h n).Ok := by
  have en := leftOut_nums h n
  refine ⟨by rw [en]; exact ok.up, ?_, ?_, fun r hr i e => ?_, fun o ho => ?_, fun i hi => ?_, fun e he => ?_, fun n hn => ?_, ok.nxl, ok.kup, fun e he => ok.tok e he, ok.nwat, fun z => ?_⟩
  · show (h.obs.map (dropOb [n])).length ≤ 50
    rw [List.length_map]; exact ok.size
  · show (h.regs.map (clr [n])).length ≤ 1000
    rw [List.length_map]; exact ok.nreg
  · rw [en]
    obtain ⟨q, hq, rfl⟩ := List.mem_map.mp hr
    exact ok.regs q hq i (clr_some.mp e).1
  · rw [en]
    obtain ⟨q, hq, rfl⟩ := List.mem_map.mp ho
    exact (dropOb_ok (ok.obs q hq)).sub fun n hn => (List.mem_filter.mp hn).1
  · rw [en]; exact ok.kept i hi
  · rw [en]; exact ok.wat e he
  · rw [en] at hn; exact ok.low n hn
  · exact ok.rpos (List.map_eq_nil_iff.mp z)
/-! ### what is reached without some objects -/
inductive Wo (h : Hd) (ex : Int → Prop) : Int → Prop
  | reg {m : Int} : some m ∈ h.regs → ¬ ex m → Wo h ex m
  | fld {k m : Int} {fs : List Rf} : Ob.rcd k fs ∈ h.obs → Wo h ex k → some m ∈ fs → ¬ ex m → Wo h ex m
  | ent {k q m : Int} {es : List (Int × Int)} : Ob.tab k es ∈ h.obs → Wo h ex k → (q, m) ∈ es → Wo h ex q → ¬ ex m → Wo h ex m
section
variable {h : Hd} {ex ex' : Int → Prop} {m b : Int}
theorem Wo.not (x : Wo h ex m) : ¬ ex m := by cases x <;> assumption
theorem Wo.mono (s : ∀ n, ex' n → ex n) (x : Wo h ex m) : Wo h ex' m := by
  induction x with
  | reg h1 h2 => exact .reg h1 fun z => h2 (s _ z)
  | fld h1 _ h2 h3 ih => exact .fld h1 ih h2 fun z => h3 (s _ z)
  | ent h1 _ h2 _ h3 ih1 ih2 => exact .ent h1 ih1 h2 ih2 fun z => h3 (s _ z)
/-- an object that is not reached so is not needed -/
theorem Wo.spare (nb : ¬ Wo h ex b) (x : Wo h ex m) : Wo h (fun n => ex n ∨ n = b) m := by
  have ne : ∀ {k}, Wo h ex k → k ≠ b := fun y e => nb (e ▸ y)
  induction x with
  | reg h1 h2 => exact .reg h1 fun z => z.elim h2 fun e => ne (Wo.reg h1 h2) e
  | fld h1 y h2 h3 ih => exact .fld h1 ih h2 fun z => z.elim h3 fun e => ne (Wo.fld h1 y h2 h3) e
  | ent h1 y h2 y2 h3 ih1 ih2 => exact .ent h1 ih1 h2 ih2 fun z => z.elim h3 fun e => ne (Wo.ent h1 y h2 y2 h3) e
/-- reached, and not without n -/
def Dom (h : Hd) (n m : Int) : Prop := Wo h (fun _ => False) m ∧ ¬ Wo h (· = n) m
theorem Dom.self (x : Wo h (fun _ => False) m) : Dom h m m := ⟨x, fun z => z.not rfl⟩
theorem Dom.first {n : Int} (x : Dom h n m) : Wo h (fun _ => False) n := Classical.byContradiction fun no => x.2 ((Wo.spare no x.1).mono fun _ e => .inr e)
theorem Dom.trans {a b c : Int} (x : Dom h a b) (y : Dom h b c) : Dom h a c := ⟨y.1, fun z => y.2 ((Wo.spare x.2 z).mono fun _ e => .inr e)⟩
theorem Dom.anti {a b : Int} (x : Dom h a b) (y : Dom h b a) : a = b := by
  refine Classical.byContradiction fun ne => ?_
  have key : ∀ {m}, Wo h (fun _ => False) m → Wo h (fun k => k = a ∨ k = b) m ∨ Wo h (· = b) a ∨ Wo h (· = a) b := fun z => by
    have sA : ∀ {k}, Wo h (fun k => k = a ∨ k = b) k → Wo h (· = b) k := fun w => w.mono fun _ e => .inr e
    have sB : ∀ {k}, Wo h (fun k => k = a ∨ k = b) k → Wo h (· = a) k := fun w => w.mono fun _ e => .inl e
    induction z with
    | @reg m h1 h2 =>
      by_cases ea : m = a
      · subst ea; exact .inr (.inl (.reg h1 ne))
      by_cases eb : m = b
      · subst eb; exact .inr (.inr (.reg h1 fun e => ne e.symm))
      exact .inl (.reg h1 fun z => z.elim ea eb)
    | @fld k m fs h1 _ h2 h3 ih =>
      rcases ih with ih | ih
      · by_cases ea : m = a
        · subst ea; exact .inr (.inl (.fld h1 (sA ih) h2 ne))
        by_cases eb : m = b
        · subst eb; exact .inr (.inr (.fld h1 (sB ih) h2 fun e => ne e.symm))
        exact .inl (.fld h1 ih h2 fun z => z.elim ea eb)
      · exact .inr ih
    | @ent k q m es h1 _ h2 _ h3 ih1 ih2 =>
      rcases ih1 with ih1 | ih1
      · rcases ih2 with ih2 | ih2
        · by_cases ea : m = a
          · subst ea; exact .inr (.inl (.ent h1 (sA ih1) h2 (sA ih2) ne))
          by_cases eb : m = b
          · subst eb; exact .inr (.inr (.ent h1 (sB ih1) h2 (sB ih2) fun e => ne e.symm))
          exact .inl (.ent h1 ih1 h2 ih2 fun z => z.elim ea eb)
        · exact .inr ih2
      · exact .inr ih1
  rcases key y.1 with z | z | z
  · exact z.not (.inl rfl)
  · exact y.2 z
  · exact x.2 z
end
/-- .. as what is obtainable without any target -/
theorem wo_obt {g h : Hd} {cs gs : List Int} (hr : ∀ m, some m ∈ g.regs ↔ some m ∈ h.regs ∧ m ∉ gs) (hf : ∀ k m, (∃ fs, Ob.rcd k fs ∈ g.obs ∧ some m ∈ fs) → (∃ fs, Ob.rcd k fs ∈ h.obs ∧ some m ∈ fs) ∧ m ∉ gs)
    (he : ∀ k q m, (∃ es, Ob.tab k es ∈ g.obs ∧ (q, m) ∈ es) → (∃ es, Ob.tab k es ∈ h.obs ∧ (q, m) ∈ es) ∧ m ∉ gs) (hw : ∀ k t, Ob.weak k (some t) ∈ g.obs → t ∈ cs)
    (bf : ∀ k m, k ∉ gs → (∃ fs, Ob.rcd k fs ∈ h.obs ∧ some m ∈ fs) → m ∉ gs → ∃ fs, Ob.rcd k fs ∈ g.obs ∧ some m ∈ fs)
    (be : ∀ k q m, k ∉ gs → q ∉ gs → (∃ es, Ob.tab k es ∈ h.obs ∧ (q, m) ∈ es) → m ∉ gs → ∃ es, Ob.tab k es ∈ g.obs ∧ (q, m) ∈ es) (m : Int) : Obt g cs m ↔ Wo h (· ∈ gs) m := by
  constructor
  · refine Obt.closed (S := fun m => Wo h (· ∈ gs) m) (fun m z => ?_) (fun m ⟨o, h1, h2, h3⟩ => ?_)
    · obtain ⟨z1, z2⟩ := (hr m).mp z; exact .reg z1 z2
    · cases o with
      | rcd k fs =>
        obtain ⟨⟨fs', y1, y2⟩, y3⟩ := hf k m ⟨fs, h1, h3⟩
        exact .fld y1 h2 y2 y3
      | weak k t =>
        obtain ⟨e, no⟩ := h3
        subst e
        exact absurd (hw k m h1) no
      | tab k es =>
        obtain ⟨q, h3, h4⟩ := h3
        obtain ⟨⟨es', y1, y2⟩, y3⟩ := he k q m ⟨es, h1, h3⟩
        exact .ent y1 h2 y2 h4 y3
  · intro x
    induction x with
    | reg h1 h2 => exact Obt.reg ((hr _).mpr ⟨h1, h2⟩)
    | @fld k m fs h1 y h2 h3 ih =>
      obtain ⟨fs', y1, y2⟩ := bf k m y.not ⟨fs, h1, h2⟩ h3
      exact Obt.fol ⟨_, y1, ih, y2⟩
    | @ent k q m es h1 y h2 y2 h3 ih1 ih2 =>
      obtain ⟨es', z1, z2⟩ := be k q m y.not y2.not ⟨es, h1, h2⟩ h3
      exact Obt.fol ⟨_, z1, ih1, q, z2, ih2⟩
section
variable {h : Hd}
theorem clr_mem {gs : List Int} {fs : List Rf} {m : Int} : some m ∈ fs.map (clr gs) ↔ some m ∈ fs ∧ m ∉ gs := by
  rw [List.mem_map]
  constructor
  · rintro ⟨r, hr, e⟩
    obtain ⟨e1, e2⟩ := clr_some.mp e
    subst e1
    exact ⟨hr, e2⟩
  · rintro ⟨h1, h2⟩
    exact ⟨_, h1, clr_some.mpr ⟨rfl, h2⟩⟩
theorem rcd_drop {l : List Ob} {gs : List Int} {k : Int} {m : Int} : (∃ fs, Ob.rcd k fs ∈ l.map (dropOb gs) ∧ some m ∈ fs) ↔ (∃ fs, Ob.rcd k fs ∈ l ∧ some m ∈ fs) ∧ m ∉ gs := by
  constructor
  · rintro ⟨fs, h1, h2⟩
    obtain ⟨o, ho, e⟩ := List.mem_map.mp h1
    cases o with
    | rcd n fs' =>
      cases e
      obtain ⟨y1, y2⟩ := clr_mem.mp h2
      exact ⟨⟨fs', ho, y1⟩, y2⟩
    | weak n t => cases e
    | tab n es => cases e
  · rintro ⟨⟨fs, h1, h2⟩, h3⟩
    exact ⟨_, List.mem_map_of_mem (f := dropOb gs) h1, clr_mem.mpr ⟨h2, h3⟩⟩
theorem tab_drop {l : List Ob} {gs : List Int} {k q m : Int} : (∃ es, Ob.tab k es ∈ l.map (dropOb gs) ∧ (q, m) ∈ es) ↔ (∃ es, Ob.tab k es ∈ l ∧ (q, m) ∈ es) ∧ q ∉ gs ∧ m ∉ gs := by
  constructor
  · rintro ⟨es, h1, h2⟩
    obtain ⟨o, ho, e⟩ := List.mem_map.mp h1
    cases o with
    | tab n es' =>
      cases e
      obtain ⟨y1, y2⟩ := List.mem_filter.mp h2
      obtain ⟨y2, y3⟩ := Bool.and_eq_true_iff.mp y2
      exact ⟨⟨es', ho, y1⟩, of_decide_eq_true y2, of_decide_eq_true y3⟩
    | weak n t => cases e
    | rcd n es => cases e
  · rintro ⟨⟨es, h1, h2⟩, h3, h4⟩
    exact ⟨_, List.mem_map_of_mem (f := dropOb gs) h1, List.mem_filter.mpr ⟨h2, Bool.and_eq_true_iff.mpr ⟨decide_eq_true h3, decide_eq_true h4⟩⟩⟩
theorem reach_wo (ok : h.Ok) (m : Int) : Obt h h.nums m ↔ Wo h (fun _ => False) m := by
  refine (wo_obt (gs := []) (h := h) (fun m => ⟨fun z => ⟨z, by simp⟩, fun z => z.1⟩) (fun k m z => ⟨z, by simp⟩) (fun k q m z => ⟨z, by simp⟩) (fun k t z => ok.obs _ z t rfl) (fun k m _ z _ => z) (fun k q m _ _ z _ => z) m).trans ?_
  exact ⟨fun z => z.mono fun _ y => y.elim, fun z => z.mono fun _ y => by cases y⟩
theorem drop_wo (ok : h.Ok) (gs : List Int) (m : Int) : Obt (drop h gs) (drop h gs).nums m ↔ Wo h (· ∈ gs) m := by
  have inF : ∀ {o : Ob}, o ∈ h.obs.filter (fun o => decide (o.num ∉ gs)) → o ∈ h.obs := fun z => (List.mem_filter.mp z).1
  refine wo_obt (fun m => clr_mem) (fun k m z => ?_) (fun k q m z => ?_) (fun k t z => (drop_ok ok gs).obs _ z t rfl) (fun k m nk z nm => ?_) (fun k q m nk nq z nm => ?_) m
  · obtain ⟨⟨fs, y1, y2⟩, y3⟩ := rcd_drop.mp z
    exact ⟨⟨fs, inF y1, y2⟩, y3⟩
  · obtain ⟨⟨fs, y1, y2⟩, y3⟩ := tab_drop.mp z
    exact ⟨⟨fs, inF y1, y2⟩, y3.2⟩
  · obtain ⟨fs, y1, y2⟩ := z
    exact rcd_drop.mpr ⟨⟨fs, List.mem_filter.mpr ⟨y1, decide_eq_true nk⟩, y2⟩, nm⟩
  · obtain ⟨fs, y1, y2⟩ := z
    exact tab_drop.mpr ⟨⟨fs, List.mem_filter.mpr ⟨y1, decide_eq_true nk⟩, y2⟩, nq, nm⟩
theorem left_wo (ok : h.Ok) (n m : Int) : Obt (leftOut h n) h.nums m ↔ Wo h (· ∈ [n]) m := by
  refine wo_obt (fun m => clr_mem) (fun k m z => rcd_drop.mp z) (fun k q m z => ?_) (fun k t z => ?_) (fun k m nk z nm => rcd_drop.mpr ⟨z, nm⟩) (fun k q m nk nq z nm => tab_drop.mpr ⟨z, nq, nm⟩) m
  · obtain ⟨y1, y2⟩ := tab_drop.mp z
    exact ⟨y1, y2.2⟩
  · have := (leftOut_ok ok n).obs _ z t rfl
    rwa [leftOut_nums] at this
theorem mem_one {n : Int} : (· ∈ [n]) = (· = n) := by funext k; simp
end
end Wc
namespace Wc
open PySem PySem.Spec PyProof.Rows L2
/-- t.index(x): the first place, items of any flat kinds -/
def rIndexT (K : PySem.W.Frag) : V → List V → Hp → VK → Prop := fun x xs H Q => ∃ (a : Addr) (ys : List V) (y : V) (j : Nat) (z : V), x = V.ref a ∧ xs = [y] ∧ SqT K H a ys ∧ flatV y = true ∧ ys.all flatV = true ∧ ys[j]? = some z ∧ eqV z y = true ∧
  (∀ (m : Nat) (z' : V), m < j → ys[m]? = some z' → eqV z' y = false) ∧ Q (.int (j : Nat)) H
theorem mt_indexT {X : Cx} : MtR X "tuple.index" (rIndexT X.K) := by
  intro pins s σ H x xs v us Q I rx rxs h
  obtain ⟨a, ys, y, j, z, rfl, rfl, hq, fy, fys, hz, hzj, hno, q⟩ := h
  cases rx
  cases rxs with
  | cons ry rt =>
    rename_i uy ut
    cases rt
    obtain ⟨its, rv, pl, hsz⟩ := I.tuple hq
    obtain ⟨⟨cls, dd, dt, sl⟩, ho, hc, n, hd⟩ := pl
    simp only at hc hd
    subst hc
    subst hd
    obtain ⟨u, hu, ru⟩ := rv.get hz
    obtain ⟨hjl, hje⟩ := List.getElem?_eq_some_iff.mp hu
    have hvl := rv.length
    have hj : j < its.toArray.size := by simpa using hjl
    refine call_meets PySem.F.slot_tuple_index ⟨_, ho, rfl⟩ PySem.F.entry_tuple_index (PySem.F.args_tuple_index_2 _ _) (TI.tuple_indexAt a its.toArray n dd sl uy (eqU y) j hj ?_ ?_)
      ⟨ho, fun u' hu' => mem_eqAt ry fy rv fys u' (by simpa using hu'), ⟨.int (j : Nat), H, I.tok _, ⟨_, rfl⟩, q⟩⟩
    · have e1 : its.toArray[j] = u := by simpa using hje
      rw [e1, eqU_of ru (flat_at fys hz)]
      exact hzj
    · intro m hm hmj
      have hml : m < its.length := by simpa using hm
      have hmy : m < ys.length := by omega
      have hy' : ys[m]? = some ys[m] := List.getElem?_eq_getElem hmy
      obtain ⟨u2, hu2, ru2⟩ := rv.get hy'
      obtain ⟨_, hme⟩ := List.getElem?_eq_some_iff.mp hu2
      have e1 : its.toArray[m] = u2 := by simpa using hme
      rw [e1, eqU_of ru2 (flat_at fys hy')]
      exact hno m _ hmj hy'
section
open PySem.Calls
theorem call_tupleZ {X : Cx} : CallR X (.type "tuple") (rTupZ X.K) := by
  intro pins s σ H xs us Q I r h
  obtain ⟨p, ys, rfl, hq, q⟩ := h
  obtain ⟨u, rfl, rx⟩ := vals1 r
  cases rx
  obtain ⟨its, r', pl, hz⟩ := I.list hq
  have hlen := r'.length
  refine call_tuple_list pl.isList (fun h' kp => ?_) (by simp only [List.size_toArray] <;> omega)
  have I1 : Inv X pins σ H { s with heap := h' } := I.kept (t' := s.toks) kp
  have I2 : Inv X pins σ (upd H h'.objs.size (.frz { cls := .type "tuple", data := .seq its.toArray } (.tup ys))) { s with heap := h'.push { cls := .type "tuple", data := .seq its.toArray } } :=
    I1.laid (t' := s.toks) (fun b o e => Heap.get?_push_of_some _ e) (Nat.le_refl _) (show ObjOk X.prog X.w _ _ _ (.frz _ (.tup ys)) from ⟨Heap.get?_push_size _ rfl, hz, its, r', IsTup.new _ _⟩)
  exact ⟨.ref h'.objs.size, _, I2, rfl, q _ _ (I1.hok.fresh (Nat.le_refl _)) rfl⟩
/-- a method of a tuple of which it is known that its object has no dict -/
def tBMZ (r : V → List V → Hp → VK → Prop) (to : TE) (t : TA) : TE := fun σ H Q => to σ H fun x H1 => (∃ p xs, x = .ref p ∧ SqZ H1 p xs) ∧ t σ H1 fun xs H2 => r x xs H2 Q
theorem pe_bmZ {X : Cx} {o e : Expr} {es : List Expr} {to : TE} {t : TA} {name : Str} {apos cpos : Pos} {id : String} {r : V → List V → Hp → VK → Prop} (pa : PlainAttrs "tuple") (slot : Slot "tuple" name id) (hty : typeOf (.builtin id) = pure (.type "method_descriptor")) (hm : MtR X id r) (ho : PE X o to) (ha : PA X (e :: es) t)
    (hbase : attributeBase o name X.env (eval o X.env) = eval o X.env := by rfl)
    (hfew : ((backTo cpos (starEach (e :: es) X.env)).all (fun x => !x.1) && (backToKw cpos (keywordEach [] X.env)).all (fun x => x.1.isSome)
      && decide ((e :: es).length + ([] : List Keyword).length + (if ([] : List Keyword).isEmpty then 0 else 1) < 30)) = true := by rfl)
    (hline : (apos.endLine == cpos.line) = true := by rfl) (hs : starEach (e :: es) X.env = (false, eval e X.env) :: starEach es X.env := by rfl) (hplain : (backTo cpos (starEach es X.env)).any (·.1) = false := by rfl) :
    PE X (.Call (.Attribute o name apos) (e :: es) [] cpos) (tBMZ r to t) := by
  refine ⟨fun pins s σ H Q I h => ?_⟩
  refine wpAny_Call_method_late hbase hfew hline rfl (thn (ho.run pins s σ H _ I h) fun v s1 ⟨x, H1, I1, r1, ty, q1⟩ => ?_)
  obtain ⟨p, xs, rfl, ob, hd, hz⟩ := ty
  cases r1
  obtain ⟨e1, _, its, _, ho2, e2, hc, _⟩ := I1.hok p _ hz
  rw [e1] at e2
  cases e2
  refine ⟨"tuple", id, pa, slot, hty, ⟨ob, e1, hc⟩, fun a e => ?_, ?_⟩
  · cases e
    exact ⟨ob, e1, hd⟩
  have hA := ha.run cpos pins s1 σ H1 _ I1 q1
  rw [hs] at hA ⊢
  refine Calls.callWith_builtin (by show (false || (backTo cpos (starEach es X.env)).any (·.1)) = false; rw [hplain] <;> rfl) (Calls.evalArgs_plain ?_)
  exact thn hA fun us s2 ⟨vs, H2, I2, r2, q2⟩ => hm pins s2 σ H2 (.ref p) vs _ us Q I2 rfl r2 q2
end
/-- the first place of a number among numbers and None -/
def ixR (rs : List Rf) (n : Int) : Nat := rs.findIdx (· == some n)
theorem flat_rfs (rs : List Rf) : (rs.map rV).all flatV = true := by
  rw [List.all_eq_true]
  intro x hx
  obtain ⟨r, _, rfl⟩ := List.mem_map.mp hx
  cases r <;> rfl
theorem eqV_rf (r : Rf) (n : Int) : eqV (rV r) (.int n) = (r == some n) := by
  cases r with
  | none => rfl
  | some i =>
    show (i == n) = (some i == some n)
    by_cases e : i = n
    · subst e; simp
    · simp [e]
theorem inV_rf (n : Int) (rs : List Rf) : inV (.int n) (rs.map rV) = decide (some n ∈ rs) := by
  induction rs with
  | nil => rfl
  | cons k r ih =>
    show (eqV (rV k) (.int n) || inV (.int n) (r.map rV)) = _
    rw [ih, eqV_rf]
    by_cases e : k = some n
    · subst e; simp
    · have e3 : ¬ some n = k := fun z => e z.symm
      simp [e, e3]
theorem indexT_ok {K : PySem.W.Frag} {H : Hp} {a : Addr} {rs : List Rf} {n : Int} {Q : VK} (h : SqT K H a (rs.map rV)) (m : some n ∈ rs) (q : Q (.int (ixR rs n : Nat)) H) : rIndexT K (.ref a) [.int n] H Q := by
  have hl : ixR rs n < rs.length := List.findIdx_lt_length_of_exists ⟨_, m, by simp⟩
  refine ⟨a, _, .int n, ixR rs n, rV rs[ixR rs n], rfl, rfl, h, rfl, flat_rfs rs, ?_, ?_, ?_, q⟩
  · rw [List.getElem?_map, List.getElem?_eq_getElem hl]; rfl
  · rw [eqV_rf]; exact List.findIdx_getElem (p := (· == some n)) (w := hl)
  · intro k z' hk hz'
    have hkl : k < rs.length := Nat.lt_trans hk hl
    rw [List.getElem?_map, List.getElem?_eq_getElem hkl] at hz'
    obtain rfl : rV rs[k] = z' := Option.some.inj hz'
    rw [eqV_rf]
    exact List.not_of_lt_findIdx (p := (· == some n)) hk
end Wc
namespace Wc
open PySem L2
/-! ### tuples joined, cut -/
theorem cat_any {K : PySem.W.Frag} {H : Hp} {a b : Addr} {xs ys : List V} {Q : VK} (ha : SqT K H a xs) (hb : SqT K H b ys) (hz : xs.length + ys.length ≤ 100000) (q : ∀ p H', ExA H H' → SqT K H' p (xs ++ ys) → Q (.ref p) H') : rCatA K (.ref a) (.ref b) H Q := by
  refine ⟨a, b, xs, ys, rfl, rfl, ha, hb, sz hz, fun e => ?_, fun _ e => ?_, fun _ _ p fp => q p _ (ExM.new fp) (SqT.of upd_same)⟩
  · subst e; exact q b H (ExM.refl _ _) hb
  · subst e; exact q a H (ExM.refl _ _) (by rw [List.append_nil]; exact ha)
theorem cut_to {xs : List V} {i : Nat} (h : i ≤ xs.length) : cutV xs none (some (i : Int)) = xs.take i := by
  unfold cutV
  rw [HT.sIx_nat, HT.sIx_none, Nat.min_eq_left h]
  simp
theorem cut_from {xs : List V} {i : Nat} (h : i ≤ xs.length) : cutV xs (some (i : Int)) none = xs.drop i := by
  unfold cutV
  rw [HT.sIx_nat, HT.sIx_none, Nat.min_eq_left h]
  rw [List.take_of_length_le (by rw [List.length_drop]; omega)]
theorem sl_to {K : PySem.W.Frag} {H : Hp} {a : Addr} {xs : List V} {i : Nat} {Q : VK} (ha : SqT K H a xs) (h : i < xs.length) (q : ∀ p H', ExA H H' → SqT K H' p (xs.take i) → Q (.ref p) H') : rSlT K (.ref a) none (some (i : Int)) H Q := by
  refine ⟨a, xs, rfl, ha, fun z => ?_, fun p fp => q p _ (ExM.new fp) (by rw [cut_to (by omega)]; exact SqT.of upd_same)⟩
  have z2 := z.2
  rw [HT.sIx_nat, Nat.min_eq_left (by omega)] at z2
  omega
theorem sl_from {K : PySem.W.Frag} {H : Hp} {a : Addr} {xs : List V} {i : Nat} {Q : VK} (ha : SqT K H a xs) (h0 : 0 < i) (h : i ≤ xs.length) (q : ∀ p H', ExA H H' → SqT K H' p (xs.drop i) → Q (.ref p) H') : rSlT K (.ref a) (some (i : Int)) none H Q := by
  refine ⟨a, xs, rfl, ha, fun z => ?_, fun p fp => q p _ (ExM.new fp) (by rw [cut_from h]; exact SqT.of upd_same)⟩
  have z2 := z.1
  rw [HT.sIx_nat, Nat.min_eq_left h] at z2
  omega
end Wc
namespace Wc
open PySem L2
def topS (i : Nat) : Stmt := PySem.Challenge.pw_weakcourt_k23_what_objects_retain.main.body.getD i (.Pass ⟨0, 0, 0, 0⟩)
abbrev s_registers_of : Stmt := topS 1
abbrev N_registers_of : List Str := ["heap"]
theorem sc_registers_of : FnScope N_registers_of ["heap"] (defScope s_registers_of) := ⟨rfl, rfl, rfl, by decide +kernel, rfl, by decide +kernel, by decide +kernel⟩
abbrev s_objects_of : Stmt := topS 2
abbrev N_objects_of : List Str := ["heap"]
theorem sc_objects_of : FnScope N_objects_of ["heap"] (defScope s_objects_of) := ⟨rfl, rfl, rfl, by decide +kernel, rfl, by decide +kernel, by decide +kernel⟩
abbrev s_numbers_of : Stmt := topS 3
abbrev N_numbers_of : List Str := ["heap", "thing"]
theorem sc_numbers_of : FnScope N_numbers_of ["heap"] (defScope s_numbers_of) := ⟨rfl, rfl, rfl, by decide +kernel, rfl, by decide +kernel, by decide +kernel⟩
abbrev s_by_number : Stmt := topS 4
abbrev N_by_number : List Str := ["heap", "thing"]
theorem sc_by_number : FnScope N_by_number ["heap"] (defScope s_by_number) := ⟨rfl, rfl, rfl, by decide +kernel, rfl, by decide +kernel, by decide +kernel⟩
abbrev s_objects_among : Stmt := topS 5
abbrev N_objects_among : List Str := ["references", "number"]
theorem sc_objects_among : FnScope N_objects_among ["references"] (defScope s_objects_among) := ⟨rfl, rfl, rfl, by decide +kernel, rfl, by decide +kernel, by decide +kernel⟩
abbrev s_without : Stmt := topS 6
abbrev N_without : List Str := ["thing", "gone", "kind", "number", "inside", "held", "entries", "key", "value"]
theorem sc_without : FnScope N_without ["thing", "gone"] (defScope s_without) := ⟨rfl, rfl, rfl, by decide +kernel, rfl, by decide +kernel, by decide +kernel⟩
abbrev s_dropping : Stmt := topS 7
abbrev N_dropping : List Str := ["heap", "gone", "word", "following", "registers", "kept", "objects", "watches", "held", "number", "left", "staying", "thing", "watched", "token"]
theorem sc_dropping : FnScope N_dropping ["heap", "gone"] (defScope s_dropping) := ⟨rfl, rfl, rfl, by decide +kernel, rfl, by decide +kernel, by decide +kernel⟩
abbrev s_led_to : Stmt := topS 9
abbrev N_led_to : List Str := ["thing", "got", "condemned", "key", "value"]
theorem sc_led_to : FnScope N_led_to ["thing", "got", "condemned"] (defScope s_led_to) := ⟨rfl, rfl, rfl, by decide +kernel, rfl, by decide +kernel, by decide +kernel⟩
abbrev s_rounds : Stmt := topS 10
abbrev N_rounds : List Str := ["heap", "condemned", "things", "gone", "number", "got", "depth", "newest", "asked", "found"]
theorem sc_rounds : FnScope N_rounds ["heap", "condemned"] (defScope s_rounds) := ⟨rfl, rfl, rfl, by decide +kernel, rfl, by decide +kernel, by decide +kernel⟩
abbrev s_obtainable : Stmt := topS 12
abbrev N_obtainable : List Str := ["heap", "condemned"]
theorem sc_obtainable : FnScope N_obtainable ["heap", "condemned"] (defScope s_obtainable) := ⟨rfl, rfl, rfl, by decide +kernel, rfl, by decide +kernel, by decide +kernel⟩
abbrev s_reachable : Stmt := topS 13
abbrev N_reachable : List Str := ["heap"]
theorem sc_reachable : FnScope N_reachable ["heap"] (defScope s_reachable) := ⟨rfl, rfl, rfl, by decide +kernel, rfl, by decide +kernel, by decide +kernel⟩
abbrev s_retained : Stmt := topS 15
abbrev N_retained : List Str := ["heap", "number", "left", "other"]
theorem sc_retained : FnScope N_retained ["heap", "number"] (defScope s_retained) := ⟨rfl, rfl, rfl, by decide +kernel, rfl, by decide +kernel, by decide +kernel⟩
abbrev s_dominators : Stmt := topS 16
abbrev N_dominators : List Str := ["heap", "number", "other"]
theorem sc_dominators : FnScope N_dominators ["heap", "number"] (defScope s_dominators) := ⟨rfl, rfl, rfl, by decide +kernel, rfl, by decide +kernel, by decide +kernel⟩
abbrev s__law_cell : Stmt := topS 18
abbrev N__law_cell : List Str := ["script", "k"]
theorem sc__law_cell : FnScope N__law_cell ["script", "k"] (defScope s__law_cell) := ⟨rfl, rfl, rfl, by decide +kernel, rfl, by decide +kernel, by decide +kernel⟩
abbrev s__law_digits : Stmt := topS 19
abbrev N__law_digits : List Str := ["script", "first", "last", "digits", "k", "cell", "turn", "seed"]
theorem sc__law_digits : FnScope N__law_digits ["script", "first", "last"] (defScope s__law_digits) := ⟨rfl, rfl, rfl, by decide +kernel, rfl, by decide +kernel, by decide +kernel⟩
abbrev s__law_box : Stmt := topS 20
abbrev N__law_box : List Str := ["script", "first", "last"]
theorem sc__law_box : FnScope N__law_box ["script", "first", "last"] (defScope s__law_box) := ⟨rfl, rfl, rfl, by decide +kernel, rfl, by decide +kernel, by decide +kernel⟩
abbrev s__law_draw : Stmt := topS 21
abbrev N__law_draw : List Str := ["box", "many", "at"]
theorem sc__law_draw : FnScope N__law_draw ["box", "many"] (defScope s__law_draw) := ⟨rfl, rfl, rfl, by decide +kernel, rfl, by decide +kernel, by decide +kernel⟩
abbrev s__law_number : Stmt := topS 22
abbrev N__law_number : List Str := ["box", "numbers"]
theorem sc__law_number : FnScope N__law_number ["box", "numbers"] (defScope s__law_number) := ⟨rfl, rfl, rfl, by decide +kernel, rfl, by decide +kernel, by decide +kernel⟩
abbrev s__law_object : Stmt := topS 23
abbrev N__law_object : List Str := ["box", "number", "numbers", "kind", "k", "entries", "key", "value", "entry"]
theorem sc__law_object : FnScope N__law_object ["box", "number", "numbers"] (defScope s__law_object) := ⟨rfl, rfl, rfl, by decide +kernel, rfl, by decide +kernel, by decide +kernel⟩
abbrev s__law_heap : Stmt := topS 24
abbrev N__law_heap : List Str := ["box", "most", "many", "numbers", "at", "k", "objects", "number", "registers", "kept", "watches"]
theorem sc__law_heap : FnScope N__law_heap ["box", "most"] (defScope s__law_heap) := ⟨rfl, rfl, rfl, by decide +kernel, rfl, by decide +kernel, by decide +kernel⟩
abbrev s__law_numbers : Stmt := topS 25
abbrev N__law_numbers : List Str := ["heap", "row"]
theorem sc__law_numbers : FnScope N__law_numbers ["heap"] (defScope s__law_numbers) := ⟨rfl, rfl, rfl, by decide +kernel, rfl, by decide +kernel, by decide +kernel⟩
abbrev s__law_follows : Stmt := topS 26
abbrev N__law_follows : List Str := ["row", "got", "gone", "number", "entry"]
theorem sc__law_follows : FnScope N__law_follows ["row", "got", "gone"] (defScope s__law_follows) := ⟨rfl, rfl, rfl, by decide +kernel, rfl, by decide +kernel, by decide +kernel⟩
abbrev s__law_obtainable : Stmt := topS 27
abbrev N__law_obtainable : List Str := ["heap", "gone", "got", "number", "turn", "row"]
theorem sc__law_obtainable : FnScope N__law_obtainable ["heap", "gone"] (defScope s__law_obtainable) := ⟨rfl, rfl, rfl, by decide +kernel, rfl, by decide +kernel, by decide +kernel⟩
abbrev s__law_same : Stmt := topS 28
abbrev N__law_same : List Str := ["actual", "expected", "k"]
theorem sc__law_same : FnScope N__law_same ["actual", "expected"] (defScope s__law_same) := ⟨rfl, rfl, rfl, by decide +kernel, rfl, by decide +kernel, by decide +kernel⟩
abbrev s__law_left_out : Stmt := topS 29
abbrev N__law_left_out : List Str := ["heap", "number", "objects", "row", "one", "entry"]
theorem sc__law_left_out : FnScope N__law_left_out ["heap", "number"] (defScope s__law_left_out) := ⟨rfl, rfl, rfl, by decide +kernel, rfl, by decide +kernel, by decide +kernel⟩
abbrev s_law : Stmt := topS 30
abbrev N_law : List Str := ["script", "box", "heap", "numbers", "there", "table", "number", "still", "due", "other", "third"]
theorem sc_law : FnScope N_law ["script"] (defScope s_law) := ⟨rfl, rfl, rfl, by decide +kernel, rfl, by decide +kernel, by decide +kernel⟩
structure Txt (mg : Str → Option Value) : Prop where
  bool : mg "bool" = none
  int : mg "int" = none
  isinstance : mg "isinstance" = none
  len : mg "len" = none
  range : mg "range" = none
  sorted : mg "sorted" = none
  str : mg "str" = none
  tuple : mg "tuple" = none
/-! ### dicts with number keys -/
def dictOf (os : List Addr) (obs : List Ob) : List (Key × V) := List.zipWith (fun a o => ((Sum.inl o.num : Key), V.ref a)) os obs
theorem key_has {kvs : List (Key × V)} {ks : List Int} (h : kvs.map (·.1) = ks.map Sum.inl) (n : Int) : (valV kvs (Sum.inl n)).isSome = decide (n ∈ ks) := by
  rw [← valV_any]
  induction kvs generalizing ks with
  | nil =>
    cases ks with
    | nil => rfl
    | cons k r => simp at h
  | cons p r ih =>
    cases ks with
    | nil => simp at h
    | cons k t =>
      simp only [List.map_cons, List.cons.injEq] at h
      rw [List.any_cons, ih h.2, h.1]
      by_cases e : k = n
      · subst e; simp
      · have e2 : ¬ ((Sum.inl k : Key) = Sum.inl n) := fun z => e (Sum.inl.inj z)
        have e3 : ¬ n = k := fun z => e z.symm
        simp [e2, e3]
theorem dictOf_keys : ∀ {os : List Addr} {obs : List Ob}, os.length = obs.length → (dictOf os obs).map (·.1) = (obs.map Ob.num).map Sum.inl
  | [], [], _ => rfl
  | [], _ :: _, h => by simp at h
  | _ :: _, [], h => by simp at h
  | a :: os, o :: obs, h => by
    show (Sum.inl o.num : Key) :: (dictOf os obs).map (·.1) = _
    rw [dictOf_keys (by simpa using h)]
    rfl
theorem dictOf_len {os : List Addr} {obs : List Ob} (h : os.length = obs.length) : (dictOf os obs).length = obs.length := by
  unfold dictOf; rw [List.length_zipWith, h, Nat.min_self]
theorem dictOf_at {os : List Addr} {obs : List Ob} {i : Nat} {a : Addr} {o : Ob} (h1 : os[i]? = some a) (h2 : obs[i]? = some o) : (dictOf os obs)[i]? = some (Sum.inl o.num, .ref a) := by
  unfold dictOf; rw [List.getElem?_zipWith, h1, h2]
/-- looked up by its number -/
theorem dictOf_get {K : PySem.W.Frag} {H : Hp} : ∀ {os : List Addr} {obs : List Ob} {n : Int}, Paired (ObAt K H) os obs → n ∈ obs.map Ob.num →
    ∃ a o, valV (dictOf os obs) (Sum.inl n) = some (.ref a) ∧ o ∈ obs ∧ o.num = n ∧ ObAt K H a o
  | _, _, n, .nil, h => by simp at h
  | a :: os, o :: obs, n, .cons r t, h => by
    by_cases e : o.num = n
    · exact ⟨a, o, valV_pos (by show (Sum.inl o.num : Key) = _; rw [e]), List.mem_cons_self, e, r⟩
    · have h' : n ∈ obs.map Ob.num := by
        rcases List.mem_cons.mp h with z | z
        · exact absurd z.symm e
        · exact z
      obtain ⟨a', o', h1, h2, h3, h4⟩ := dictOf_get t h'
      refine ⟨a', o', ?_, List.mem_cons_of_mem _ h2, h3, h4⟩
      show valV ((Sum.inl o.num, V.ref a) :: dictOf os obs) (Sum.inl n) = _
      rw [valV_neg (fun z => e (Sum.inl.inj z))]
      exact h1
theorem take_snoc {α : Type} {l : List α} {i : Nat} {x : α} (h : l[i]? = some x) : l.take (i + 1) = l.take i ++ [x] := by
  rw [List.take_add_one, h]; rfl
theorem num_notin {obs : List Ob} {os : List Addr} {i : Nat} {o : Ob} (hl : os.length = obs.length) (nd : (obs.map Ob.num).Nodup) (h : obs[i]? = some o) : valV ((dictOf os obs).take i) (Sum.inl o.num) = none := by
  have hk : ((dictOf os obs).take i).map (·.1) = ((obs.map Ob.num).take i).map Sum.inl := by
    rw [List.map_take, dictOf_keys hl, List.map_take]
  have q := key_has hk o.num
  cases e : valV ((dictOf os obs).take i) (Sum.inl o.num) with
  | none => rfl
  | some v =>
    rw [e] at q
    have m : o.num ∈ (obs.map Ob.num).take i := of_decide_eq_true q.symm
    obtain ⟨j, hj⟩ := List.getElem?_of_mem m
    have hlt : j < i := by
      have := (List.getElem?_eq_some_iff.mp hj).1
      rw [List.length_take] at this; omega
    rw [List.getElem?_take_of_lt hlt] at hj
    have hi : (obs.map Ob.num)[i]? = some o.num := by rw [List.getElem?_map, h]; rfl
    exact absurd (nd_ix nd hj hi) (Nat.ne_of_lt hlt)
theorem nodup_of_up {l : List Int} (h : l.Pairwise (· < ·)) : l.Nodup := h.imp fun h => Int.ne_of_lt h
section
variable (K : PySem.W.Frag)
def R_registers_of : V1 := fun x H Q => ∃ a h, x = .ref a ∧ HeapAt K H a h ∧ ∀ r, SqZ H r (h.regs.map rV) → Q (.ref r) H
abbrev sp_registers_of : Sp := sp1 (R_registers_of K)
def R_objects_of : V1 := fun x H Q => ∃ a h, x = .ref a ∧ HeapAt K H a h ∧ ∀ o, ObsAt K H o h → Q (.ref o) H
abbrev sp_objects_of : Sp := sp1 (R_objects_of K)
def R_by_number : V1 := fun x H Q => ∃ a h, x = .ref a ∧ HeapAt K H a h ∧ h.Ok ∧ ∀ p H' os, H p = none → ExA H H' → Paired (ObAt K H') os h.obs → H' p = some (.dK (dictOf os h.obs)) → Q (.ref p) H'
abbrev sp_by_number : Sp := sp1 (R_by_number K)
/-- a new list of numbers -/
def NewL (ns : List Int) (H : Hp) (Q : VK) : Prop := ∀ p H', H p = none → ExA H H' → H' p = some (.lst (ns.map .int)) → Q (.ref p) H'
/-- a new tuple of numbers -/
def NewT (ns : List Int) (H : Hp) (Q : VK) : Prop := ∀ p H', H p = none → ExA H H' → H' p = some (.tup (ns.map .int)) → Q (.ref p) H'
def R_objects_among : V1 := fun x H Q => ∃ (a : Addr) (rs : List Rf), x = .ref a ∧ SqT K H a (rs.map rV) ∧ rs.length ≤ 1000 ∧ NewL (rs.filterMap id) H Q
abbrev sp_objects_among : Sp := sp1 (R_objects_among K)
def Ob.small : Ob → Prop
  | .rcd _ fs => fs.length ≤ 1000
  | .weak _ _ => True
  | .tab _ es => es.length ≤ 1000
theorem Ob.ok.small {S : List Int} {o : Ob} (h : o.ok S) : o.small := by
  cases o with
  | rcd n fs => exact h.1
  | weak n t => trivial
  | tab n es => exact h.1
/-- a dict whose keys are these numbers -/
def KeysAt (H : Hp) (g : Addr) (gs : List Int) : Prop := ∃ kvs, H g = some (.dK kvs) ∧ kvs.map (·.1) = gs.map Sum.inl
def R_led_to : V3 := fun x y z H Q => ∃ (a : Addr) (o : Ob) (g : Addr) (gs : List Int) (c : Addr) (cs : List Int), x = .ref a ∧ y = .ref g ∧ z = .ref c ∧ ObAt K H a o ∧ o.small ∧ KeysAt H g gs ∧ KeysAt H c cs ∧ NewL (ledTo o gs cs) H Q
abbrev sp_led_to : Sp := sp3 (R_led_to K)
end
section
variable {P : Program} {w : World} {K : PySem.W.Frag} {mg : Str → Option Value} {base : Heap}
theorem ok_registers_of {f : Addr} {fd : FuncData} {cd : Value} (F : Df K "registers_of" s_registers_of f fd cd) (T : Txt mg) : FnOk P w K mg base CX0 1 f fd ["heap"] (sp_registers_of K) := by
  have nd := sc_registers_of.nd
  refine F.ok sc_registers_of (fun vs H Q E h => ?_) (fun A outer s H vs Q E hr h => ?_)
  · obtain ⟨_, rfl, _⟩ := h; rfl
  have hu := hu_of hr
  obtain ⟨x0, rfl, h⟩ := h
  refine ⟨_, (pss_one (ps_ret (pe_ix (r := rIxT K) ix_tup (pv 0) pe_int (fun _ _ => rfl)))), ?_⟩
  obtain ⟨a, h, rfl, ⟨r, k, o, w, ws, h1, h2, _⟩, q⟩ := h
  exact ⟨_, rfl, a, _, _, _, rfl, rfl, h1, at2, q r h2⟩
theorem ok_objects_of {f : Addr} {fd : FuncData} {cd : Value} (F : Df K "objects_of" s_objects_of f fd cd) (T : Txt mg) : FnOk P w K mg base CX0 1 f fd ["heap"] (sp_objects_of K) := by
  have nd := sc_objects_of.nd
  refine F.ok sc_objects_of (fun vs H Q E h => ?_) (fun A outer s H vs Q E hr h => ?_)
  · obtain ⟨_, rfl, _⟩ := h; rfl
  have hu := hu_of hr
  obtain ⟨x0, rfl, h⟩ := h
  refine ⟨_, (pss_one (ps_ret (pe_ix (r := rIxT K) ix_tup (pv 0) pe_int (fun _ _ => rfl)))), ?_⟩
  obtain ⟨a, h, rfl, ⟨r, k, o, w, ws, h1, h2, h3, h4, _⟩, q⟩ := h
  exact ⟨_, rfl, a, _, _, _, rfl, rfl, h1, at4, q o h4⟩
theorem ok_by_number {f : Addr} {fd : FuncData} {cd : Value} (F : Df K "by_number" s_by_number f fd cd) (T : Txt mg) (C_objects_of : Cal P w K mg base 1 "objects_of" (sp_objects_of K) []) : FnOk P w K mg base CX0 2 f fd ["heap"] (sp_by_number K) := by
  have nd := sc_by_number.nd
  refine F.ok sc_by_number (fun vs H Q E h => ?_) (fun A outer s H vs Q E hr h => ?_)
  · obtain ⟨_, rfl, _⟩ := h; rfl
  have hu := hu_of hr
  obtain ⟨x0, rfl, h⟩ := h
  refine ⟨_, (pss_one (ps_ret (pe_dc (own := [("thing", 1)]) rfl nd (show PI _ _ _ (iTup K _) from pi_tup (pe_c C_objects_of hr (by first | exact Nat.le_refl _ | decide) rfl (pa_cons (pv 0) pa_nil))) (blkOk_by (own := [("thing", 1)]) (N := N_by_number) (sc := defScope s_by_number) (by decide +kernel)) (fun _ _ _ _ _ => (pg_name (i := 1) nd rfl (by first | exact Or.inl rfl | exact Or.inr rfl))) (fun _ _ _ _ _ => pts_nil) (fun _ _ _ _ _ => (pe_ix (r := rIxT K) ix_tup (pv 1) pe_int (fun _ _ => rfl))) (fun _ _ _ _ _ => (pv 1))))), ?_⟩
  obtain ⟨a, h, rfl, hA, ok, q⟩ := h
  refine ⟨_, rfl, _, rfl, a, h, rfl, hA, fun o hO => ?_⟩
  obtain ⟨os, ho, hp⟩ := hO
  have hl := plen hp
  refine ⟨o, rfl, ⟨_, ho⟩, fun D hD => ?_⟩
  refine dcM [] (walk_tup (xs := os.map V.ref)) hD (fun i acc _ => acc = (dictOf os h.obs).take i) rfl (fun H' e => Tk.all e _ _ ho) (fun i x H1 H2 acc hi e h1 h2 hacc y => ?_) (fun H' acc e h1 h2 hacc => ?_)
  · obtain ⟨rfl, hx⟩ := y
    rw [List.getElem?_map] at hx
    cases hos : os[i]? with
    | none => rw [hos] at hx; cases hx
    | some a1 =>
      rw [hos] at hx
      obtain ⟨o1, ho1, hob⟩ := pget hp hos
      obtain rfl : V.ref a1 = x := Option.some.inj hx
      obtain ⟨kn, vn, hn⟩ := (ObAt.mono (Tk.all e) hob).num
      refine ⟨rfl, tyes ⟨_, rfl, a1, _, _, _, rfl, rfl, hn, at1, _, rfl, ?_⟩⟩
      have hi' : i < 50 := by
        have z := (List.getElem?_eq_some_iff.mp ho1).1
        have := ok.size
        omega
      refine DcP.yes (k := Sum.inl o1.num) hD (by simp) (by omega) e h1 h2 rfl (ExM.refl _ _) ?_
      rw [hacc, putK_new _ (num_notin hl (nodup_of_up ok.up) ho1), take_snoc (dictOf_at hos ho1)]
  · refine q D H' os hD e (pmp hp fun _ _ z => ObAt.mono (Tk.all e) z) ?_
    rw [h1, hacc, List.length_map, hl, ← dictOf_len hl, List.take_length]
theorem ok_objects_among {f : Addr} {fd : FuncData} {cd : Value} (F : Df K "objects_among" s_objects_among f fd cd) (T : Txt mg) : FnOk P w K mg base CX0 1 f fd ["references"] (sp_objects_among K) := by
  have nd := sc_objects_among.nd
  refine F.ok sc_objects_among (fun vs H Q E h => ?_) (fun A outer s H vs Q E hr h => ?_)
  · obtain ⟨_, rfl, _⟩ := h; rfl
  have hu := hu_of hr
  obtain ⟨x0, rfl, h⟩ := h
  refine ⟨_, (pss_one (ps_ret (pe_lc (own := [("number", 1)]) rfl nd (show PI _ _ _ (iTup K _) from pi_tup (pv 0)) (blkOk_by (own := [("number", 1)]) (N := N_objects_among) (sc := defScope s_objects_among) (by decide +kernel)) (fun _ _ _ _ _ => (pg_name (i := 1) nd rfl (by first | exact Or.inl rfl | exact Or.inr rfl))) (fun _ _ _ _ _ => (pts_one (pt_cmpR op_notN (pv 1) pe_non (nomark _)))) (fun _ _ _ _ _ => (pv 1))))), ?_⟩
  obtain ⟨a, rs, rfl, hA, hz, q⟩ := h
  refine ⟨_, rfl, a, rfl, ⟨_, hA⟩, fun D hD => ?_⟩
  refine lcM [] (walk_tup (xs := rs.map rV)) hD (fun i acc _ => acc = ((rs.take i).filterMap id).map V.int) rfl (fun H' e => Tk.all e _ _ hA) (fun i x H1 H2 acc hi e h1 h2 hacc y => ?_) (fun H' acc e h1 h2 hacc => ?_)
  · obtain ⟨rfl, hx⟩ := y
    rw [List.length_map] at hi
    obtain ⟨r, hr⟩ : ∃ r, rs[i]? = some r := ⟨rs[i], List.getElem?_eq_getElem hi⟩
    rw [List.getElem?_map, hr] at hx
    obtain rfl : rV r = x := Option.some.inj hx
    refine ⟨rfl, _, rfl, rfl, _, rfl, ?_⟩
    have ht := take_snoc hr
    cases r with
    | none => exact iteF (LcP.no (by simp) e h1 h2 (ExM.refl _ _) (by rw [hacc, ht, List.filterMap_append]; simp))
    | some n => exact iteT ⟨_, rfl, LcP.yes hD (by simp) (by omega) e h1 h2 (ExM.refl _ _) (by rw [hacc, ht, List.filterMap_append, List.map_append]; rfl)⟩
  · refine q D H' hD e ?_
    rw [h1, hacc, List.length_map, List.take_length]
theorem ok_led_to {f : Addr} {fd : FuncData} {cd : Value} (F : Df K "led_to" s_led_to f fd cd) (T : Txt mg) (C_objects_among : Cal P w K mg base 1 "objects_among" (sp_objects_among K) []) : FnOk P w K mg base CX0 2 f fd ["thing", "got", "condemned"] (sp_led_to K) := by
  have nd := sc_led_to.nd
  refine F.ok sc_led_to (fun vs H Q E h => ?_) (fun A outer s H vs Q E hr h => ?_)
  · obtain ⟨_, _, _, rfl, _⟩ := h; rfl
  have hu := hu_of hr
  obtain ⟨x0, x1, x2, rfl, h⟩ := h
  refine ⟨_, (pss_cons (ps_if (pt_cmpR op_eq (pe_ix (r := rIxT K) ix_tup (pv 0) pe_int (fun _ _ => rfl)) pe_str (nomark _)) (pss_one (ps_ret (pe_c C_objects_among hr (by first | exact Nat.le_refl _ | decide) rfl (pa_cons (pe_ix (r := rIxT K) ix_tup (pv 0) pe_int (fun _ _ => rfl)) pa_nil)))) pss_nil)
    (pss_cons (ps_if (pt_cmpR op_eq (pe_ix (r := rIxT K) ix_tup (pv 0) pe_int (fun _ _ => rfl)) pe_str (nomark _)) (pss_one (ps_ret (pe_lc (own := [("key", 3), ("value", 4)]) rfl nd (show PI _ _ _ (iTup K _) from pi_tup (pe_ix (r := rIxT K) ix_tup (pv 0) pe_int (fun _ _ => rfl))) (blkOk_by (own := [("key", 3), ("value", 4)]) (N := N_led_to) (sc := defScope s_led_to) (by decide +kernel)) (fun _ _ _ _ _ => (show PG _ _ (gTup K 2 _) from pg_tup rfl (pgs_cons (pg_name (i := 3) nd rfl (by first | exact Or.inl rfl | exact Or.inr rfl)) (pgs_cons (pg_name (i := 4) nd rfl (by first | exact Or.inl rfl | exact Or.inr rfl)) pgs_nil)))) (fun _ _ _ _ _ => (pts_one (pt_cmp (pc_din hu (pv 3) (pv 1)) rfl))) (fun _ _ _ _ _ => (pv 4))))) pss_nil)
    (pss_cons (ps_if (PW.pt (pw_or (pt_cmpR op_isN (pe_ix (r := rIxT K) ix_tup (pv 0) pe_int (fun _ _ => rfl)) pe_non (nomark _)) (pw_or1 (pt_cmp (pc_din hu (pe_ix (r := rIxT K) ix_tup (pv 0) pe_int (fun _ _ => rfl)) (pv 2)) rfl)))) (pss_one (ps_ret (pe_lst pa_nil))) pss_nil)
    (pss_one (ps_ret (pe_lst (pa_cons (pe_ix (r := rIxT K) ix_tup (pv 0) pe_int (fun _ _ => rfl)) pa_nil))))))), ?_⟩
  obtain ⟨a, o, g, gs, c, cs, rfl, rfl, rfl, hO, sm, ⟨gk, hg, hgk⟩, ⟨ck, hc, hck⟩, q⟩ := h
  cases o with
  | rcd n fs =>
    obtain ⟨t, h1, h2⟩ := hO
    refine ⟨_, rfl, a, _, _, _, rfl, rfl, h1, at0, rfl, _, rfl, iteT ?_⟩
    exact ⟨_, rfl, a, _, _, _, rfl, rfl, h1, at2, _, rfl, t, fs, rfl, h2.sq, sm, q⟩
  | weak n t =>
    have h1 : SqT K H a [.str "weak", .int n, rV t] := hO
    refine ⟨_, rfl, a, _, _, _, rfl, rfl, h1, at0, rfl, _, rfl, iteF ?_⟩
    refine ⟨_, rfl, a, _, _, _, rfl, rfl, h1, at0, rfl, _, rfl, iteF ?_⟩
    refine ⟨_, rfl, a, _, _, _, rfl, rfl, h1, at2, rfl, _, rfl, ?_⟩
    cases t with
    | none => exact iteT (iteT ⟨Nat.zero_le _, fun p hp => q p _ hp (ExM.new hp) upd_same⟩)
    | some i =>
      refine iteF ⟨_, rfl, a, _, _, _, rfl, rfl, h1, at2, _, rfl, c, _, rfl, DGet.k (k := Sum.inl i) hc, _, rfl, ?_⟩
      rw [key_has hck i]
      have q : NewL (if i ∈ cs then [] else [i]) H Q := q
      by_cases m : i ∈ cs
      · rw [decide_eq_true m]
        rw [if_pos m] at q
        exact iteT ⟨Nat.zero_le _, fun p hp => q p _ hp (ExM.new hp) upd_same⟩
      · rw [decide_eq_false m]
        rw [if_neg m] at q
        exact iteF ⟨_, rfl, a, _, _, _, rfl, rfl, h1, at2, sz (by show 1 ≤ 100000; decide), fun p hp => q p _ hp (ExM.new hp) upd_same⟩
  | tab n es =>
    obtain ⟨t, ps, h1, hz2, h3⟩ := hO; have h2 := hz2.sq (K := K)
    refine ⟨_, rfl, a, _, _, _, rfl, rfl, h1, at0, rfl, _, rfl, iteF ?_⟩
    refine ⟨_, rfl, a, _, _, _, rfl, rfl, h1, at0, rfl, _, rfl, iteT ?_⟩
    refine ⟨_, rfl, a, _, _, _, rfl, rfl, h1, at2, t, rfl, ⟨_, h2⟩, fun D hD => ?_⟩
    have hl := plen h3
    have sm' : es.length ≤ 1000 := sm
    refine lcM [] (walk_tup (xs := ps.map V.ref)) hD (fun i acc _ => acc = (((es.take i).filter fun e => decide (e.1 ∈ gs)).map (·.2)).map V.int) rfl (fun H' e => Tk.all e _ _ h2) (fun i x H1 H2 acc hi e k1 k2 hacc y => ?_) (fun H' acc e k1 k2 hacc => ?_)
    · obtain ⟨rfl, hx⟩ := y
      rw [List.length_map] at hi
      obtain ⟨p, hp⟩ : ∃ p, ps[i]? = some p := ⟨ps[i], List.getElem?_eq_getElem hi⟩
      obtain ⟨e1, he1, hpa⟩ := pget h3 hp
      rw [List.getElem?_map, hp] at hx
      obtain rfl : V.ref p = x := Option.some.inj hx
      refine ⟨p, _, rfl, Tk.all e _ _ hpa, rfl, _, _, rfl, _, _, rfl, ⟨rfl, rfl, ?_⟩⟩
      refine ⟨_, rfl, _, rfl, g, _, rfl, DGet.k (k := Sum.inl e1.1) (ExA.at e hg), _, rfl, ?_⟩
      rw [key_has hgk e1.1]
      have ht := take_snoc he1
      by_cases m : e1.1 ∈ gs
      · rw [decide_eq_true m]
        refine iteT ⟨_, rfl, LcP.yes hD (by simp) (by omega) e k1 k2 (ExM.refl _ _) ?_⟩
        rw [hacc, ht, List.filter_append, List.map_append, List.map_append]
        simp [m]
      · rw [decide_eq_false m]
        refine iteF (LcP.no (by simp) e k1 k2 (ExM.refl _ _) ?_)
        rw [hacc, ht, List.filter_append, List.map_append, List.map_append]
        simp [m]
    · refine q D H' hD e ?_
      rw [k1, hacc, List.length_map, hl, List.take_length]
      rfl
end
end Wc
namespace Wc
open PySem L2
/-! ### comprehensions of two clauses into a dict -/
abbrev dIn (gb : TG) (ub : TT) (tk tv : TE) (vb : List Nat) (σ2 : L2.St) (D : Addr) (Nx : Hp → Prop) (J1 : It) (H4 : Hp) : Prop :=
  ∃ W1 : Nat → Nat → Hp → Prop, (∃ m, W1 0 m H4) ∧ ∀ j k H, W1 j k H →
            (J1.stop j H ∧ Nx H) ∨
            (J1.go j H ∧ ∃ Ny : Hp → Prop, (∀ H', Ny H' → ∃ k', k' < k ∧ W1 (j + 1) k' H') ∧
              ∀ x H', J1.yld j H x H' → gb x (wipe σ2 vb) H' fun σ3 H5 => wipe σ3 vb = wipe σ2 vb ∧ ub σ3 H5 fun c H6 =>
                if c = true then tk σ3 H6 fun y H7 => tv σ3 H7 fun z H8 => ∃ kvs k, y = kV k ∧ H8 D = some (.dK kvs) ∧ kvs.length < sizeLine ∧ Ny (upd H8 D (.dK (putK kvs k z)))
                else Ny H6)
theorem ddI {J1 : It} {n1 : Nat} {G1 : Hp → Prop} {Y1 : Nat → Hp → V → Hp → Prop} (w1 : Walk J1 n1 G1 Y1) {gb : TG} {ub : TT} {tk tv : TE} {vb : List Nat} {σ2 : L2.St} {D : Addr} {Nx : Hp → Prop} {H5 : Hp}
    (Pv : Nat → Hp → Prop) (h0 : Pv 0 H5) (hG : ∀ j H, j ≤ n1 → Pv j H → G1 H)
    (hs : ∀ j x H1 H2, j < n1 → Pv j H1 → Y1 j H1 x H2 → gb x (wipe σ2 vb) H2 fun σ3 H5 => wipe σ3 vb = wipe σ2 vb ∧ ub σ3 H5 fun c H6 =>
      if c = true then tk σ3 H6 fun y H7 => tv σ3 H7 fun z H8 => ∃ kvs k, y = kV k ∧ H8 D = some (.dK kvs) ∧ kvs.length < sizeLine ∧ Pv (j + 1) (upd H8 D (.dK (putK kvs k z))) else Pv (j + 1) H6)
    (hd : ∀ H, Pv n1 H → Nx H) : dIn gb ub tk tv vb σ2 D Nx J1 H5 := by
  refine ⟨fun j k H => k + j = n1 ∧ Pv j H, ⟨n1, rfl, h0⟩, fun j k H q => ?_⟩
  obtain ⟨e, p⟩ := q
  have g := hG j H (by omega) p
  by_cases hj : j < n1
  · exact .inr ⟨w1.goes j H hj g, Pv (j + 1), fun H' p' => ⟨k - 1, by omega, by omega, p'⟩, fun x H' y => hs j x H H' hj p (w1.yields j H x H' hj g y)⟩
  · have ej : j = n1 := by omega
    subst ej
    exact .inl ⟨w1.stops H g, hd H p⟩
theorem ddM {J : It} {n : Nat} {G : Hp → Prop} {Y : Nat → Hp → V → Hp → Prop} (w : Walk J n G Y) {ga gb : TG} {ua ub : TT} {wb : TI} {tk tv : TE} {vs vb : List Nat} {σ : L2.St} {H5 : Hp} {D : Addr} {Qd : Hp → Prop}
    (Pv : Nat → Hp → Prop) (h0 : Pv 0 H5) (hG : ∀ j H, j ≤ n → Pv j H → G H)
    (hs : ∀ i x H1 H2, i < n → Pv i H1 → Y i H1 x H2 → ga x (wipe σ vs) H2 fun σ2 H3 => wipe σ2 vs = wipe σ vs ∧ ua σ2 H3 fun c H4 =>
      if c = true then wb σ2 H4 fun J1 H5 => dIn gb ub tk tv vb σ2 D (Pv (i + 1)) J1 H5 else Pv (i + 1) H4)
    (hd : ∀ H, Pv n H → Qd H) :
    ∃ W : Nat → Nat → Hp → Prop, (∃ m, W 0 m H5) ∧ ∀ i m H, W i m H →
      (J.stop i H ∧ Qd H) ∨
      (J.go i H ∧ ∃ Nx : Hp → Prop, (∀ H', Nx H' → ∃ m', m' < m ∧ W (i + 1) m' H') ∧
        ∀ x H', J.yld i H x H' → ga x (wipe σ vs) H' fun σ2 H2 => wipe σ2 vs = wipe σ vs ∧ ua σ2 H2 fun c H3 =>
          if c = true then wb σ2 H3 fun J1 H4 => dIn gb ub tk tv vb σ2 D Nx J1 H4 else Nx H3) := by
  refine ⟨fun j k H => k + j = n ∧ Pv j H, ⟨n, rfl, h0⟩, fun j k H q => ?_⟩
  obtain ⟨e, p⟩ := q
  have g := hG j H (by omega) p
  by_cases hj : j < n
  · exact .inr ⟨w.goes j H hj g, Pv (j + 1), fun H' p' => ⟨k - 1, by omega, by omega, p'⟩, fun x H' y => hs j x H H' hj p (w.yields j H x H' hj g y)⟩
  · have ej : j = n := by omega
    subst ej
    exact .inl ⟨w.stops H g, hd H p⟩
/-! ### dicts of numbers, of marks -/
def dI (G : List (Int × Int)) : List (Key × V) := G.map fun q => ((Sum.inl q.1 : Key), V.int q.2)
def dB (W : List Int) : List (Key × V) := W.map fun n => ((Sum.inl n : Key), V.bl true)
theorem dI_keys (G : List (Int × Int)) : (dI G).map (·.1) = (G.map (·.1)).map Sum.inl := by unfold dI; rw [List.map_map, List.map_map]; rfl
theorem dB_keys (W : List Int) : (dB W).map (·.1) = W.map Sum.inl := by unfold dB; rw [List.map_map]; rfl
def addK (W : List Int) (n : Int) : List Int := if n ∈ W then W else W ++ [n]
theorem dB_put (W : List Int) (n : Int) : putK (dB W) (Sum.inl n) (.bl true) = dB (addK W n) := by
  have q := key_has (dB_keys W) n
  unfold addK
  by_cases m : n ∈ W
  · rw [if_pos m]
    rw [decide_eq_true m] at q
    unfold putK
    rw [valV_any, q, if_pos rfl]
    unfold dB
    rw [List.map_map]
    refine List.map_congr_left fun k _ => ?_
    show (if (Sum.inl k : Key) = Sum.inl n then ((Sum.inl k : Key), V.bl true) else (Sum.inl k, V.bl true)) = _
    split <;> rfl
  · rw [if_neg m]
    rw [decide_eq_false m] at q
    rw [putK_new _ (by cases e : valV (dB W) (Sum.inl n) with | none => rfl | some v => rw [e] at q; cases q)]
    unfold dB
    rw [List.map_append]
    rfl
theorem dI_put {G : List (Int × Int)} {n d : Int} (h : n ∉ G.map (·.1)) : putK (dI G) (Sum.inl n) (.int d) = dI (G ++ [(n, d)]) := by
  have q := key_has (dI_keys G) n
  rw [decide_eq_false h] at q
  rw [putK_new _ (by cases e : valV (dI G) (Sum.inl n) with | none => rfl | some v => rw [e] at q; cases q)]
  unfold dI
  rw [List.map_append]
  rfl
theorem addK_nd {W : List Int} {n : Int} (h : W.Nodup) : (addK W n).Nodup := by
  unfold addK
  split
  · exact h
  · rename_i m
    exact List.nodup_append.mpr ⟨h, by simp, fun a ha b hb e => m (by have : b = n := by simpa using hb
                                                                      subst this; rw [← e]; exact ha)⟩
theorem mem_addK {W : List Int} {n k : Int} : k ∈ addK W n ↔ k ∈ W ∨ k = n := by
  unfold addK
  split
  · rename_i m
    constructor
    · exact Or.inl
    · rintro (z | rfl)
      · exact z
      · exact m
  · simp
theorem mem_take_snoc {α : Type} {l : List α} {i : Nat} {x y : α} (h : l[i]? = some x) : y ∈ l.take (i + 1) ↔ y ∈ l.take i ∨ y = x := by
  rw [take_snoc h]; simp
theorem dI_len (G : List (Int × Int)) : (dI G).length = G.length := by unfold dI; rw [List.length_map]
theorem dB_len (W : List Int) : (dB W).length = W.length := by unfold dB; rw [List.length_map]
section
variable (K : PySem.W.Frag)
def R_rounds : V2 := fun x y H Q => ∃ (a : Addr) (h : Hd) (c : Addr) (cs : List Int), x = .ref a ∧ y = .ref c ∧ HeapAt K H a h ∧ h.Ok ∧ SqS K H c (cs.map .int) ∧ cs.length ≤ 1000 ∧
  ∀ p H' G, RoundsOf h cs G → H p = none → ExA H H' → H' p = some (.dK (dI G)) → Q (.ref p) H'
abbrev sp_rounds : Sp := sp2 (R_rounds K)
end
/-- what rounds keeps through its loop: the dicts things, gone, got; newest -/
structure Rw (K : PySem.W.Frag) (H0 H : Hp) (h : Hd) (cs : List Int) (th gn gt nw : Addr) (G : List (Int × Int)) (W : List Int) : Prop where
  ex : ExA H0 H
  fg : H0 gt = none
  fw : H0 nw = none
  aT : ∃ os, Paired (ObAt K H) os h.obs ∧ H th = some (.dK (dictOf os h.obs))
  aN : H gn = some (.dK (dB cs))
  aG : H gt = some (.dK (dI G))
  aW : H nw = some (.dK (dB W))
  n1 : th ≠ gt
  n2 : gn ≠ gt
  n3 : th ≠ nw
  n4 : gn ≠ nw
  n5 : gt ≠ nw
/-- .. while one of the two is locked -/
structure Rk (K : PySem.W.Frag) (H0 H : Hp) (h : Hd) (cs : List Int) (th gn gt nw : Addr) (gd wd : HO) : Prop where
  ex : ExA H0 H
  fg : H0 gt = none
  fw : H0 nw = none
  aT : ∃ os, Paired (ObAt K H) os h.obs ∧ H th = some (.dK (dictOf os h.obs))
  aN : H gn = some (.dK (dB cs))
  aG : H gt = some gd
  aW : H nw = some wd
  n1 : th ≠ gt
  n2 : gn ≠ gt
  n3 : th ≠ nw
  n4 : gn ≠ nw
  n5 : gt ≠ nw
section
variable {K : PySem.W.Frag} {H0 H H' : Hp} {h : Hd} {cs : List Int} {th gn gt nw : Addr} {gd wd u : HO} {G : List (Int × Int)} {W : List Int}
theorem Rw.rk (r : Rw K H0 H h cs th gn gt nw G W) : Rk K H0 H h cs th gn gt nw (.dK (dI G)) (.dK (dB W)) := ⟨r.ex, r.fg, r.fw, r.aT, r.aN, r.aG, r.aW, r.n1, r.n2, r.n3, r.n4, r.n5⟩
theorem Rk.rw (r : Rk K H0 H h cs th gn gt nw (.dK (dI G)) (.dK (dB W))) : Rw K H0 H h cs th gn gt nw G W := ⟨r.ex, r.fg, r.fw, r.aT, r.aN, r.aG, r.aW, r.n1, r.n2, r.n3, r.n4, r.n5⟩
theorem Rk.setG (r : Rk K H0 H h cs th gn gt nw gd wd) (t : Tk K H (upd H gt u)) : Rk K H0 (upd H gt u) h cs th gn gt nw u wd := by
  obtain ⟨os, h1, h2⟩ := r.aT
  exact ⟨r.ex.put r.fg, r.fg, r.fw, ⟨os, pmp h1 fun _ _ z => ObAt.mono t z, by rw [upd_ne r.n1]; exact h2⟩, by rw [upd_ne r.n2]; exact r.aN, upd_same, by rw [upd_ne r.n5.symm]; exact r.aW, r.n1, r.n2, r.n3, r.n4, r.n5⟩
theorem Rk.setW (r : Rk K H0 H h cs th gn gt nw gd wd) (t : Tk K H (upd H nw u)) : Rk K H0 (upd H nw u) h cs th gn gt nw gd u := by
  obtain ⟨os, h1, h2⟩ := r.aT
  exact ⟨r.ex.put r.fw, r.fg, r.fw, ⟨os, pmp h1 fun _ _ z => ObAt.mono t z, by rw [upd_ne r.n3]; exact h2⟩, by rw [upd_ne r.n4]; exact r.aN, by rw [upd_ne r.n5]; exact r.aG, upd_same, r.n1, r.n2, r.n3, r.n4, r.n5⟩
theorem Rk.keep (r : Rk K H0 H h cs th gn gt nw gd wd) (e : ExA H H') : Rk K H0 H' h cs th gn gt nw gd wd := by
  obtain ⟨os, h1, h2⟩ := r.aT
  exact ⟨r.ex.trans e, r.fg, r.fw, ⟨os, pmp h1 fun _ _ z => ObAt.mono (Tk.all e) z, ExA.at e h2⟩, ExA.at e r.aN, ExA.at e r.aG, ExA.at e r.aW, r.n1, r.n2, r.n3, r.n4, r.n5⟩
/-- the object of a number, by things -/
theorem Rk.look (r : Rk K H0 H h cs th gn gt nw gd wd) {n : Int} (hn : n ∈ h.nums) : ∃ a o, DGet H th (.int n) (some (.ref a)) ∧ o ∈ h.obs ∧ o.num = n ∧ ObAt K H a o := by
  obtain ⟨os, h1, h2⟩ := r.aT
  obtain ⟨a, o, q, q1, q2, q3⟩ := dictOf_get h1 hn
  exact ⟨a, o, .inl ⟨_, Sum.inl n, .inl h2, rfl, q.symm⟩, q1, q2, q3⟩
end
theorem ob_uniq {h : Hd} (ok : h.Ok) {o p : Ob} (ho : o ∈ h.obs) (hp : p ∈ h.obs) (e : o.num = p.num) : o = p := by
  have key : ∀ (l : List Ob), (l.map Ob.num).Pairwise (· < ·) → o ∈ l → p ∈ l → o = p := by
    intro l
    induction l with
    | nil => intro _ z _; cases z
    | cons x r ih =>
      intro up h1 h2
      obtain ⟨u1, u2⟩ := List.pairwise_cons.mp (show (x.num :: r.map Ob.num).Pairwise (· < ·) from up)
      rcases List.mem_cons.mp h1 with e1 | m1
      · rcases List.mem_cons.mp h2 with e2 | m2
        · rw [e1, e2]
        · have := u1 _ (List.mem_map_of_mem (f := Ob.num) m2); rw [← e1] at this; omega
      · rcases List.mem_cons.mp h2 with e2 | m2
        · have := u1 _ (List.mem_map_of_mem (f := Ob.num) m1); rw [← e2] at this; omega
        · exact ih u2 m1 m2
  exact key h.obs ok.up ho hp
theorem In.same {h : Hd} {cs ds : List Int} (e : ∀ n, n ∈ cs ↔ n ∈ ds) (k : Nat) (n : Int) : In h cs k n ↔ In h ds k n := ⟨In.less fun m z => (e m).mpr z, In.less fun m z => (e m).mp z⟩
theorem RoundsOf.same {h : Hd} {cs ds : List Int} {G : List (Int × Int)} (e : ∀ n, n ∈ cs ↔ n ∈ ds) (r : RoundsOf h cs G) : RoundsOf h ds G :=
  ⟨r.nd, fun n => (r.all n).trans ⟨fun ⟨k, x⟩ => ⟨k, (In.same e k n).mp x⟩, fun ⟨k, x⟩ => ⟨k, (In.same e k n).mpr x⟩⟩, fun n v z => let ⟨k, a, b, c⟩ := r.val n v z; ⟨k, a, (In.same e k n).mp b, fun j hj x => c j hj ((In.same e j n).mpr x)⟩⟩
section
variable {P : Program} {w : World} {K : PySem.W.Frag} {mg : Str → Option Value} {base : Heap}
theorem ok_rounds {f : Addr} {fd : FuncData} {cd : Value} (F : Df K "rounds" s_rounds f fd cd) (T : Txt mg) (C_registers_of : Cal P w K mg base 1 "registers_of" (sp_registers_of K) []) (C_by_number : Cal P w K mg base 2 "by_number" (sp_by_number K) []) (C_objects_among : Cal P w K mg base 1 "objects_among" (sp_objects_among K) []) (C_led_to : Cal P w K mg base 2 "led_to" (sp_led_to K) []) : FnOk P w K mg base CX0 3 f fd ["heap", "condemned"] (sp_rounds K) := by
  have nd := sc_rounds.nd
  refine F.ok sc_rounds (fun vs H Q E h => ?_) (fun A outer s H vs Q E hr h => ?_)
  · obtain ⟨_, _, rfl, _⟩ := h; rfl
  have hu := hu_of hr
  obtain ⟨x0, x1, rfl, h⟩ := h
  refine ⟨_, (pss_cons (ps_set (i := 2) nd rfl (by first | exact Or.inl rfl | exact Or.inr rfl) (pe_c C_by_number hr (by first | exact Nat.le_refl _ | decide) rfl (pa_cons (pv 0) pa_nil)))
    (pss_cons (ps_set (i := 3) nd rfl (by first | exact Or.inl rfl | exact Or.inr rfl) (pe_dc (own := [("number", 4)]) rfl nd (show PI _ _ _ (iSeq K _) from pi_seq (pv 1)) (blkOk_by (own := [("number", 4)]) (N := N_rounds) (sc := defScope s_rounds) (by decide +kernel)) (fun _ _ _ _ _ => (pg_name (i := 4) nd rfl (by first | exact Or.inl rfl | exact Or.inr rfl))) (fun _ _ _ _ _ => pts_nil) (fun _ _ _ _ _ => (pv 4)) (fun _ _ _ _ _ => pe_bl)))
    (pss_cons (ps_set (i := 5) nd rfl (by first | exact Or.inl rfl | exact Or.inr rfl) pe_dnewK)
    (pss_cons (ps_set (i := 6) nd rfl (by first | exact Or.inl rfl | exact Or.inr rfl) pe_int)
    (pss_cons (ps_set (i := 7) nd rfl (by first | exact Or.inl rfl | exact Or.inr rfl) (pe_dc (own := [("number", 4)]) rfl nd (show PI _ _ _ (iList K _) from pi_list (pe_c C_objects_among hr (by first | exact Nat.le_refl _ | decide) rfl (pa_cons (pe_c C_registers_of hr (by first | exact Nat.le_refl _ | decide) rfl (pa_cons (pv 0) pa_nil)) pa_nil))) (blkOk_by (own := [("number", 4)]) (N := N_rounds) (sc := defScope s_rounds) (by decide +kernel)) (fun _ _ _ _ _ => (pg_name (i := 4) nd rfl (by first | exact Or.inl rfl | exact Or.inr rfl))) (fun _ _ _ _ _ => pts_nil) (fun _ _ _ _ _ => (pv 4)) (fun _ _ _ _ _ => pe_bl)))
    (pss_cons (ps_while PassesOwn.never (pt_truth (pv 7) (by intro _; rfl)) (pss_cons (ps_lock (ps_for PassesOwn.never rfl (pi_keys (pv 7)) (pg_name (i := 4) nd rfl (by first | exact Or.inl rfl | exact Or.inr rfl))
    (pss_one (ps_dput hu (pv 5) (pv 4) (pv 6) rfl))))
    (pss_cons (ps_lock (ps_setLc (i := 8) (own := [("number", 4)]) rfl nd rfl rfl (sw_true rfl rfl rfl (by decide +kernel)) (pi_keys (pv 5)) (blkOk_by (own := [("number", 4)]) (N := N_rounds) (sc := defScope s_rounds) (by decide +kernel)) (fun _ _ _ _ _ => (pg_name (i := 4) nd rfl (by first | exact Or.inl rfl | exact Or.inr rfl))) (fun _ _ _ _ _ => (pts_one (PW.pt (pw_or (pt_cmp (pc_din hu (pv 4) (pv 7)) rfl) (pw_or1 (pt_cmpR op_eq (pe_ix (r := rIxT K) ix_tup (pe_dget hu (pv 2) (pv 4) (fun _ _ => rfl)) pe_int (fun _ _ => rfl)) pe_str (nomark _))))))) (fun _ _ _ _ _ => (pv 4))))
    (pss_cons (ps_set (i := 7) nd rfl (by first | exact Or.inl rfl | exact Or.inr rfl) (pe_dc2 (own := [("number", 4), ("found", 9)]) (vs1 := [9]) rfl nd (show PI _ _ _ (iList K _) from pi_list (pv 8)) (blkOk_by (own := [("number", 4), ("found", 9)]) (N := N_rounds) (sc := defScope s_rounds) (by decide +kernel)) (by decide) (fun _ _ _ _ _ => (pg_name (i := 4) nd rfl (by first | exact Or.inl rfl | exact Or.inr rfl))) (fun _ _ _ _ _ => pts_nil) (fun _ _ _ _ _ => (show PI _ _ _ (iList K _) from pi_list (pe_c C_led_to hr (by first | exact Nat.le_refl _ | decide) rfl (pa_cons (pe_dget hu (pv 2) (pv 4) (fun _ _ => rfl)) (pa_cons (pv 5) (pa_cons (pv 3) pa_nil)))))) (fun _ _ _ _ _ => (pg_name (i := 9) nd rfl (by first | exact Or.inl rfl | exact Or.inr rfl))) (fun _ _ _ _ _ => (pts_one (pt_cmp (pc_dnotin hu (pv 9) (pv 5)) rfl))) (fun _ _ _ _ _ => (pv 9)) (fun _ _ _ _ _ => pe_bl)))
    (pss_one (ps_aug (i := 6) nd rfl (by first | exact Or.inl rfl | exact Or.inr rfl) pe_int ip_add))))))
    (pss_one (ps_ret (pv 5))))))))), ?_⟩
  obtain ⟨a, h, c, cs, rfl, rfl, hA, ok, hC, hcz, q⟩ := h
  -- things
  refine ⟨_, rfl, _, rfl, a, h, rfl, hA, ok, fun th H1 os f1 e1 hos hth => ?_⟩
  -- gone
  have hC1 := SqS.all e1 hC
  refine seq_at hC1 (fun _ z => ⟨_, rfl, z⟩) fun J G wk hG gn fgn => ?_
  refine dcM [] wk fgn (fun i acc _ => ∃ ks, acc = dB ks ∧ ∀ n, n ∈ ks ↔ n ∈ cs.take i) ⟨[], rfl, by simp⟩ (fun H' e => hG H' e) (fun i x H2 H3 acc hi e k1 k2 hacc y => ?_) (fun H2 acc e2 k1 k2 hacc => ?_)
  · obtain ⟨rfl, hx⟩ := y
    rw [List.length_map] at hi
    obtain ⟨n, hn⟩ : ∃ n, cs[i]? = some n := ⟨cs[i], List.getElem?_eq_getElem hi⟩
    rw [List.getElem?_map, hn] at hx
    obtain rfl : V.int n = x := Option.some.inj hx
    obtain ⟨ks, rfl, hk⟩ := hacc
    refine ⟨rfl, tyes ⟨_, rfl, ?_⟩⟩
    refine DcP.yes (k := Sum.inl n) fgn (by simp) (by omega) e k1 k2 rfl (ExM.refl _ _) ⟨addK ks n, dB_put ks n, fun m => ?_⟩
    rw [mem_addK, hk, mem_take_snoc hn]
  obtain ⟨ks, rfl, hks⟩ := hacc
  rw [List.length_map, List.take_length] at hks
  have hth2 : H2 th = some (.dK (dictOf os h.obs)) := ExA.at e2 hth
  have hgn2 : H2 gn = some (.dK (dB ks)) := k1
  have nth_gn : th ≠ gn := ne_of_none hth fgn
  -- got, depth
  intro gt fgt
  have hth3 : (upd H2 gt (.dK [])) th = some (.dK (dictOf os h.obs)) := by rw [upd_ne (ne_of_none hth2 fgt)]; exact hth2
  have hgn3 : (upd H2 gt (.dK [])) gn = some (.dK (dB ks)) := by rw [upd_ne (ne_of_none hgn2 fgt)]; exact hgn2
  have hgt3 : (upd H2 gt (.dK [])) gt = some (.dK []) := upd_same
  have n_tg : th ≠ gt := ne_of_none hth2 fgt
  have n_gg : gn ≠ gt := ne_of_none hgn2 fgt
  have E2 : ExA H H2 := e1.trans e2
  have fgt0 : H gt = none := ExA.free E2 fgt
  have E3 : ExA H (upd H2 gt (.dK [])) := E2.put fgt0
  have T3 : Tk K H (upd H2 gt (.dK [])) := Tk.all E3
  have P3 : Paired (ObAt K (upd H2 gt (.dK []))) os h.obs := pmp hos fun _ _ z => ObAt.mono (Tk.trans (Tk.all e2) (Tk.new fgt)) z
  generalize upd H2 gt (.dK []) = H3 at hth3 hgn3 hgt3 E3 T3 P3 ⊢
  -- the registers
  refine ⟨_, rfl, _, rfl, a, h, rfl, HeapAt.mono T3 hA, fun r hr => ?_⟩
  refine ⟨_, rfl, r, h.regs, rfl, hr.sq, ok.nreg, fun l H4 fl e4 hl => ?_⟩
  refine ⟨l, rfl, ⟨_, SqL.of hl⟩, fun nw fnw => ?_⟩
  have hl' : ∀ H', ExA H4 H' → SqL K H' l ((h.regs.filterMap id).map V.int) := fun H' e => SqL.of (ExA.at e hl)
  have mreg : ∀ n, n ∈ h.regs.filterMap id ↔ some n ∈ h.regs := fun n => by simp
  refine dcM [] (walk_list (xs := (h.regs.filterMap id).map V.int)) fnw (fun i acc _ => ∃ ks, acc = dB ks ∧ ks.Nodup ∧ ∀ n, n ∈ ks ↔ n ∈ (h.regs.filterMap id).take i) ⟨[], rfl, by simp, by simp⟩ hl' (fun i x H5 H6 acc hi e k1 k2 hacc y => ?_) (fun H5 acc e5 k1 k2 hacc => ?_)
  · obtain ⟨rfl, hx⟩ := y
    rw [List.length_map] at hi
    have hz : i < 1000 := Nat.lt_of_lt_of_le hi (Nat.le_trans (List.length_filterMap_le _ _) ok.nreg)
    obtain ⟨n, hn⟩ : ∃ n, (h.regs.filterMap id)[i]? = some n := ⟨_, List.getElem?_eq_getElem hi⟩
    rw [List.getElem?_map, hn] at hx
    obtain rfl : V.int n = x := Option.some.inj hx
    obtain ⟨js, rfl, nd1, hk⟩ := hacc
    refine ⟨rfl, tyes ⟨_, rfl, ?_⟩⟩
    refine DcP.yes (k := Sum.inl n) fnw (by simp) (by omega) e k1 k2 rfl (ExM.refl _ _) ⟨addK js n, dB_put js n, addK_nd nd1, fun m => ?_⟩
    rw [mem_addK, hk, mem_take_snoc hn]
  obtain ⟨W, rfl, ndW, hW⟩ := hacc
  rw [List.length_map, List.take_length] at hW
  have E5 : ExA H H5 := (E3.trans e4).trans e5
  have nwE : ∀ {b : Addr} {o : HO}, H3 b = some o → b ≠ nw := fun hb => ne_of_none (ExA.at e4 hb) fnw
  have R0 : Rw K H H5 h ks th gn gt nw [] W := ⟨E5, fgt0, ExA.free (E3.trans e4) fnw, ⟨os, pmp P3 fun _ _ z => ObAt.mono (Tk.all (e4.trans e5)) z, ExA.at (e4.trans e5) hth3⟩, ExA.at (e4.trans e5) hgn3, ExA.at (e4.trans e5) hgt3, k1, n_tg, n_gg, nwE hth3, nwE hgn3, nwE hgt3⟩
  have hcs : ∀ n, n ∈ ks ↔ n ∈ cs := hks
  have I0 : RI h ks 0 [] W := RI.first ndW fun n => (hW n).trans (mreg n)
  -- the loop
  refine ⟨fun m σ' H' => ∃ (d : Nat) (G : List (Int × Int)) (W : List Int) (nw : Addr) (u4 u8 : Option V), m + G.length = h.nums.length + 1 ∧ σ' = [some (.ref a), some (.ref c), some (.ref th), some (.ref gn), u4, some (.ref gt), some (.int (d : Int)), some (.ref nw), u8, none] ∧
      RI h ks d G W ∧ Rw K H H' h ks th gn gt nw G W, ⟨h.nums.length + 1, 0, [], W, nw, none, none, rfl, rfl, I0, R0⟩, ?_⟩
  rintro m σ' H' ⟨d, G, W, nw, u4, u8, hm, rfl, I, R⟩
  refine ⟨_, rfl, !(dB W).isEmpty, .inr (.inr ⟨_, R.aW, rfl⟩), ?_⟩
  by_cases hW : W = []
  · subst hW
    exact iteF ⟨_, rfl, q gt H' G (I.done.same hcs) fgt0 R.ex R.aG⟩
  have hne : (!(dB W).isEmpty) = true := by
    cases W with
    | nil => exact absurd rfl hW
    | cons _ _ => rfl
  rw [hne]
  refine iteT ⟨fun σ2 H2 => ∃ (W' : List Int) (nw' : Addr) (v4 v8 : Option V), σ2 = [some (.ref a), some (.ref c), some (.ref th), some (.ref gn), v4, some (.ref gt), some (.int ((d + 1 : Nat) : Int)), some (.ref nw'), v8, none] ∧
      RI h ks (d + 1) (addW G W d) W' ∧ Rw K H H2 h ks th gn gt nw' (addW G W d) W', ?_, ?_⟩
  · rintro σ2 H2 ⟨W', nw', v4, v8, rfl, I', R'⟩
    have z1 := I.size ok
    have z2 := RI.more (G := G) (d := d) hW
    exact ⟨h.nums.length + 1 - (addW G W d).length, by omega, d + 1, addW G W d, W', nw', v4, v8, by omega, rfl, I', R'⟩
  -- got[number] = depth, for the newest
  refine ⟨nw, _, R.aW, trivial, fun od => ?_⟩
  have Rl : Rk K H (upd H' nw (.frz od (.dK (dB W)))) h ks th gn gt nw (.dK (dI G)) (.frz od (.dK (dB W))) := R.rk.setW (Tk.dic R.aW)
  refine ⟨_, rfl, nw, od, rfl, .inl ⟨_, upd_same, ?_⟩⟩
  generalize upd H' nw (.frz od (.dK (dB W))) = H1 at Rl ⊢
  refine for_it (walk_keys (d := nw) (o := od) (kvs := dB W)) (fun i σ2 H2 => ∃ v4, σ2 = [some (.ref a), some (.ref c), some (.ref th), some (.ref gn), v4, some (.ref gt), some (.int (d : Int)), some (.ref nw), u8, none] ∧
      Rk K H H2 h ks th gn gt nw (.dK (dI (G ++ (W.take i).map fun n => (n, (d : Int))))) (.frz od (.dK (dB W)))) ⟨u4, rfl, by simpa using Rl⟩ (fun i σ2 H2 _ p => p.elim fun _ z => z.2.aW) (fun i x σ2 H2 H3 hi p y => ?_) (fun σ2 H2 p => ?_)
  · obtain ⟨v4, rfl, r⟩ := p
    obtain ⟨rfl, k, v, hk, rfl⟩ := y
    rw [dB_len] at hi
    obtain ⟨n, hn⟩ : ∃ n, W[i]? = some n := ⟨_, List.getElem?_eq_getElem hi⟩
    have hk' : (dB W)[i]? = some (Sum.inl n, .bl true) := by unfold dB; rw [List.getElem?_map, hn]; rfl
    rw [hk'] at hk
    cases hk
    have hnw : n ∈ W := List.mem_of_getElem? hn
    have ng : n ∉ (G ++ (W.take i).map fun n => (n, (d : Int))).map (·.1) := by
      rw [List.map_append, List.map_map, List.mem_append]
      rintro (z | z)
      · exact I.dis hnw z
      · have z' : n ∈ W.take i := by
          obtain ⟨m, hm, e⟩ := List.mem_map.mp z
          have e : m = n := e
          rw [← e]; exact hm
        obtain ⟨j, hj⟩ := List.getElem?_of_mem z'
        have hlt : j < i := by
          have := (List.getElem?_eq_some_iff.mp hj).1
          rw [List.length_take] at this; omega
        rw [List.getElem?_take_of_lt hlt] at hj
        exact absurd (nd_ix I.ndW hj hn) (Nat.ne_of_lt hlt)
    have zl : (dI (G ++ (W.take i).map fun n => (n, (d : Int)))).length < sizeLine := by
      rw [dI_len, List.length_append, List.length_map]
      have z1 := I.size ok
      unfold addW at z1
      rw [List.length_append, List.length_map] at z1
      have z2 : (W.take i).length ≤ W.length := by rw [List.length_take]; omega
      have z3 : h.nums.length ≤ 50 := by unfold Hd.nums; rw [List.length_map]; exact ok.size
      exact szl (by omega)
    refine ⟨_, rfl, _, rfl, _, rfl, gt, _, rfl, DPut.k (k := Sum.inl n) r.aG zl, some (.int n), rfl, ?_⟩
    have r2 := r.setG (u := .dK (putK (dI (G ++ (W.take i).map fun n => (n, (d : Int)))) (Sum.inl n) (.int (d : Int)))) (Tk.dic r.aG)
    rw [dI_put ng] at r2
    rw [dI_put ng, take_snoc hn, List.map_append, ← List.append_assoc]
    rw [List.append_assoc] at r2 ⊢
    simpa using r2
  obtain ⟨v4, rfl, r⟩ := p
  rw [dB_len, List.take_length] at r
  refine ⟨r.aW, ?_⟩
  have R2 : Rw K H (upd H2 nw (.dK (dB W))) h ks th gn gt nw (addW G W d) W := (r.setW (u := .dK (dB W)) (Tk.frz r.aW)).rw
  generalize upd H2 nw (.dK (dB W)) = H3 at R2 ⊢
  -- who is asked
  have keysI : (dI (addW G W d)).map (·.1) = ((addW G W d).map (·.1)).map Sum.inl := dI_keys _
  have zK : ((addW G W d).map (·.1)).length ≤ 50 := by
    rw [List.length_map]
    have z1 := I.size ok
    have z3 : h.nums.length ≤ 50 := by unfold Hd.nums; rw [List.length_map]; exact ok.size
    omega
  have hnum : ∀ n, n ∈ (addW G W d).map (·.1) → n ∈ h.nums := fun n z => In.num ok ((I.memA n).mp z)
  refine ⟨gt, _, R2.aG, trivial, fun od => ?_⟩
  have Rl := R2.rk.setG (u := .frz od (.dK (dI (addW G W d)))) (Tk.dic R2.aG)
  refine ⟨_, rfl, gt, od, rfl, .inl ⟨_, upd_same, fun D hD => ?_⟩⟩
  generalize upd H3 gt (.frz od (.dK (dI (addW G W d)))) = H4 at Rl hD ⊢
  refine lcM [] (walk_keys (d := gt) (o := od) (kvs := dI (addW G W d))) hD (fun i acc _ => ∃ as : List Int, acc = as.map V.int ∧ (∀ m ∈ as, m ∈ (addW G W d).map (·.1)) ∧
      ∀ m, m ∈ ((addW G W d).map (·.1)).take i → (m ∈ W ∨ ∃ k es, Ob.tab k es ∈ h.obs ∧ k = m) → m ∈ as) ⟨[], rfl, by simp, by simp⟩ (fun H' e => ExA.at e Rl.aG) (fun i x H5 H6 acc hi e k1 k2 hacc y => ?_) (fun H5 acc e5 k1 k2 hacc => ?_)
  · obtain ⟨rfl, k, v, hk, rfl⟩ := y
    rw [dI_len] at hi
    obtain ⟨n, hn⟩ : ∃ n, ((addW G W d).map (·.1))[i]? = some n := ⟨_, List.getElem?_eq_getElem (by rw [List.length_map]; exact hi)⟩
    have hk' : ((dI (addW G W d)).map (·.1))[i]? = some (Sum.inl n) := by rw [keysI, List.getElem?_map, hn]; rfl
    rw [List.getElem?_map, hk] at hk'
    obtain rfl : k = Sum.inl n := Option.some.inj hk'
    have hin : n ∈ (addW G W d).map (·.1) := List.mem_of_getElem? hn
    obtain ⟨as, rfl, ha, hb⟩ := hacc
    have r5 := Rl.keep e
    have zi : i ≤ 40000 := by rw [List.length_map] at zK; omega
    have yes : ∀ H7, ExA H6 H7 → ∃ acc', H7 D = some (.lst acc') ∧ acc'.length < sizeLine ∧ LcP [] H4 D (fun i acc _ => ∃ as : List Int, acc = as.map V.int ∧ (∀ m ∈ as, m ∈ (addW G W d).map (·.1)) ∧
      ∀ m, m ∈ ((addW G W d).map (·.1)).take i → (m ∈ W ∨ ∃ k es, Ob.tab k es ∈ h.obs ∧ k = m) → m ∈ as) (i + 1) (upd H7 D (.lst (acc' ++ [.int n]))) := fun H7 e7 => by
      refine LcP.yes hD (by simp) zi e k1 k2 e7 ⟨as ++ [n], by rw [List.map_append]; rfl, fun m hm => ?_, fun m hm hq => ?_⟩
      · rcases List.mem_append.mp hm with z | z
        · exact ha m z
        · have : m = n := by simpa using z
          rw [this]; exact hin
      · rcases (mem_take_snoc hn).mp hm with z | z
        · exact List.mem_append_left _ (hb m z hq)
        · rw [z]; simp
    refine ⟨rfl, _, rfl, _, rfl, nw, _, rfl, DGet.k (k := Sum.inl n) r5.aW, _, rfl, ?_⟩
    rw [key_has (dB_keys W) n]
    by_cases mW : n ∈ W
    · rw [decide_eq_true mW]
      exact iteT (iteT ⟨_, rfl, yes _ (ExM.refl _ _)⟩)
    rw [decide_eq_false mW]
    refine iteF ?_
    obtain ⟨ao, o, hg, ho, hon, hob⟩ := r5.look (hnum n hin)
    refine ⟨_, rfl, _, rfl, th, _, rfl, hg, ?_⟩
    have no : (∀ k es, Ob.tab k es ∈ h.obs → k ≠ n) → LcP [] H4 D (fun i acc _ => ∃ as : List Int, acc = as.map V.int ∧ (∀ m ∈ as, m ∈ (addW G W d).map (·.1)) ∧
      ∀ m, m ∈ ((addW G W d).map (·.1)).take i → (m ∈ W ∨ ∃ k es, Ob.tab k es ∈ h.obs ∧ k = m) → m ∈ as) (i + 1) H6 := fun nt => by
      refine LcP.no (by simp) e k1 k2 (ExM.refl _ _) ⟨as, rfl, ha, fun m hm hq => ?_⟩
      rcases (mem_take_snoc hn).mp hm with z | rfl
      · exact hb m z hq
      · rcases hq with z | ⟨k, es, h1, h2⟩
        · exact absurd z mW
        · exact absurd h2 (nt k es h1)
    cases o with
    | rcd n' fs =>
      obtain ⟨t, h1, _⟩ := hob
      exact ⟨ao, _, _, _, rfl, rfl, h1, at0, rfl, _, rfl, iteF (no fun k es h1 h2 => by cases ob_uniq ok ho h1 (hon.trans h2.symm))⟩
    | weak n' t =>
      have h1 : SqT K H6 ao [.str "weak", .int n', rV t] := hob
      exact ⟨ao, _, _, _, rfl, rfl, h1, at0, rfl, _, rfl, iteF (no fun k es h1 h2 => by cases ob_uniq ok ho h1 (hon.trans h2.symm))⟩
    | tab n' es =>
      obtain ⟨t, ps, h1, _⟩ := hob
      exact ⟨ao, _, _, _, rfl, rfl, h1, at0, rfl, _, rfl, iteT ⟨_, rfl, yes _ (ExM.refl _ _)⟩⟩
  obtain ⟨as, rfl, ha, hb⟩ := hacc
  rw [dI_len, ← List.length_map (f := fun q : Int × Int => q.1), List.take_length] at hb
  rw [dI_len] at k2
  have r5 := Rl.keep e5
  refine ⟨r5.aG, ?_⟩
  have R6 : Rw K H (upd H5 gt (.dK (dI (addW G W d)))) h ks th gn gt nw (addW G W d) W := (r5.setG (u := .dK (dI (addW G W d))) (Tk.frz r5.aG)).rw
  have hask : (upd H5 gt (.dK (dI (addW G W d)))) D = some (.lst (as.map V.int)) := by
    rw [upd_ne (ne_of_none Rl.aG hD).symm]; exact k1
  generalize upd H5 gt (.dK (dI (addW G W d))) = H6 at R6 hask ⊢
  -- what is found
  refine ⟨_, rfl, D, rfl, ⟨_, SqL.of hask⟩, fun N hN => ?_⟩
  have zN : ∀ W' : List Int, W'.Nodup → (∀ n ∈ W', n ∈ h.nums) → (dB W').length < sizeLine := fun W' n1 n2 => by
    have z1 := nd_sub n1 n2
    have z3 : h.nums.length ≤ 50 := by unfold Hd.nums; rw [List.length_map]; exact ok.size
    rw [dB_len]
    exact szl (by omega)
  have Fnd : ∀ (l : List Int) (n : Int), (∃ o ∈ h.obs, o.num ∈ l ∧ o.fol ks (· ∈ (addW G W d).map (·.1)) n) → n ∈ h.nums := fun l n ⟨o, ho, _, hf⟩ => Ob.fol_in (ok.obs o ho) hf
  refine ddM (walk_list (xs := as.map V.int)) (fun i H7 => ExA H6 H7 ∧ ∃ W' : List Int, H7 N = some (.dK (dB W')) ∧ W'.Nodup ∧ ∀ n, n ∈ W' ↔ n ∉ (addW G W d).map (·.1) ∧ ∃ o ∈ h.obs, o.num ∈ as.take i ∧ o.fol ks (· ∈ (addW G W d).map (·.1)) n)
    ⟨ExM.new hN, [], upd_same, List.nodup_nil, fun n => by simp⟩ (fun i H7 _ p => SqL.of (ExA.at p.1 hask)) (fun i x H7 H8 hi p y => ?_) (fun H7 p => ?_)
  · obtain ⟨rfl, hx⟩ := y
    obtain ⟨e7, W', hW', ndW', mW'⟩ := p
    rw [List.length_map] at hi
    obtain ⟨m, hm⟩ : ∃ m, as[i]? = some m := ⟨_, List.getElem?_eq_getElem hi⟩
    rw [List.getElem?_map, hm] at hx
    obtain rfl : V.int m = x := Option.some.inj hx
    have hmK := ha m (List.mem_of_getElem? hm)
    have R7 := R6.rk.keep e7
    obtain ⟨ao, o, hg, ho, hon, hob⟩ := R7.look (hnum m hmK)
    refine ⟨rfl, tyes ?_⟩
    refine ⟨_, rfl, _, rfl, th, _, rfl, hg, _, rfl, _, rfl, ?_⟩
    refine ⟨_, _, _, rfl, ao, o, gt, (addW G W d).map (·.1), gn, ks, rfl, rfl, rfl, hob, (ok.obs o ho).small, ⟨_, R7.aG, keysI⟩, ⟨_, R7.aN, dB_keys ks⟩, fun l H9 fl e9 hl => ?_⟩
    refine ⟨l, rfl, ⟨_, SqL.of hl⟩, ?_⟩
    have nNl : N ≠ l := ne_of_none hW' fl
    refine ddI (walk_list (xs := (ledTo o ((addW G W d).map (·.1)) ks).map V.int)) (fun j H10 => ExA H6 H10 ∧ H10 l = some (.lst ((ledTo o ((addW G W d).map (·.1)) ks).map V.int)) ∧ ∃ W2 : List Int, H10 N = some (.dK (dB W2)) ∧ W2.Nodup ∧
        ∀ n, n ∈ W2 ↔ n ∉ (addW G W d).map (·.1) ∧ ((∃ o ∈ h.obs, o.num ∈ as.take i ∧ o.fol ks (· ∈ (addW G W d).map (·.1)) n) ∨ n ∈ (ledTo o ((addW G W d).map (·.1)) ks).take j))
      ⟨ExM.trans e7 e9, hl, W', ExA.at e9 hW', ndW', fun n => by rw [mW' n]; simp⟩ (fun j H10 _ p => SqL.of p.2.1) (fun j x H10 H11 hj p y => ?_) (fun H10 p => ?_)
    · obtain ⟨rfl, hx⟩ := y
      obtain ⟨e10, hl10, W2, hW2, nd2, mW2⟩ := p
      rw [List.length_map] at hj
      obtain ⟨n, hn⟩ : ∃ n, (ledTo o ((addW G W d).map (·.1)) ks)[j]? = some n := ⟨_, List.getElem?_eq_getElem hj⟩
      rw [List.getElem?_map, hn] at hx
      obtain rfl : V.int n = x := Option.some.inj hx
      have R10 := R6.rk.keep e10
      refine ⟨rfl, _, rfl, _, rfl, gt, _, rfl, DGet.k (k := Sum.inl n) R10.aG, _, rfl, ?_⟩
      rw [key_has keysI n]
      by_cases c : n ∈ (addW G W d).map (·.1)
      · rw [decide_eq_true c]
        refine iteF ⟨e10, hl10, W2, hW2, nd2, fun k => ?_⟩
        rw [mW2 k, mem_take_snoc hn]
        constructor
        · rintro ⟨z1, z2⟩
          exact ⟨z1, z2.elim .inl fun z => .inr (.inl z)⟩
        · rintro ⟨z1, z2 | z2 | rfl⟩
          · exact ⟨z1, .inl z2⟩
          · exact ⟨z1, .inr z2⟩
          · exact absurd c z1
      · rw [decide_eq_false c]
        have nd3 : (addK W2 n).Nodup := addK_nd nd2
        have hm3 : ∀ k, k ∈ addK W2 n ↔ k ∉ (addW G W d).map (·.1) ∧ ((∃ o ∈ h.obs, o.num ∈ as.take i ∧ o.fol ks (· ∈ (addW G W d).map (·.1)) k) ∨ k ∈ (ledTo o ((addW G W d).map (·.1)) ks).take (j + 1)) := fun k => by
          rw [mem_addK, mW2 k, mem_take_snoc hn]
          constructor
          · rintro (⟨z1, z2⟩ | rfl)
            · exact ⟨z1, z2.elim .inl fun z => .inr (.inl z)⟩
            · exact ⟨c, .inr (.inr rfl)⟩
          · rintro ⟨z1, z2 | z2 | z2⟩
            · exact .inl ⟨z1, .inl z2⟩
            · exact .inl ⟨z1, .inr z2⟩
            · exact .inr z2
        have hin2 : ∀ k ∈ W2, k ∈ h.nums := fun k hk => by
          rcases ((mW2 k).mp hk).2 with z | z
          · exact Fnd _ _ z
          · exact Ob.fol_in (ok.obs o ho) (mem_ledTo.mp (List.mem_of_mem_take z))
        refine iteT ⟨_, rfl, dB W2, Sum.inl n, rfl, hW2, zN W2 nd2 hin2, ExM.put e10 (ExA.free (ExM.refl _ _) hN), ?_, addK W2 n, ?_, nd3, hm3⟩
        · rw [upd_ne nNl.symm]; exact hl10
        · rw [dB_put]; exact upd_same
    · obtain ⟨e10, hl10, W2, hW2, nd2, mW2⟩ := p
      rw [List.length_map, List.take_length] at mW2
      refine ⟨e10, W2, hW2, nd2, fun n => ?_⟩
      rw [mW2 n, mem_ledTo]
      constructor
      · rintro ⟨z1, ⟨o1, h1, h2, h3⟩ | z⟩
        · exact ⟨z1, o1, h1, (mem_take_snoc hm).mpr (.inl h2), h3⟩
        · exact ⟨z1, o, ho, (mem_take_snoc hm).mpr (.inr hon), z⟩
      · rintro ⟨z1, o1, h1, h2, h3⟩
        rcases (mem_take_snoc hm).mp h2 with z | z
        · exact ⟨z1, .inl ⟨o1, h1, z, h3⟩⟩
        · have e1 := ob_uniq ok h1 ho (z.trans hon.symm)
          rw [e1] at h3
          exact ⟨z1, .inr h3⟩
  obtain ⟨e7, W', hW', ndW', mW'⟩ := p
  rw [List.length_map, List.take_length] at mW'
  have R7 := R6.rk.keep e7
  have fN : H6 N = none := hN
  refine ⟨.int (d : Int), rfl, _, _, rfl, rfl, W', N, _, _, rfl, I.step ha hb ndW' mW', ?_⟩
  exact ⟨R7.ex, R7.fg, ExA.free R6.ex hN, R7.aT, R7.aN, R7.aG, hW', R7.n1, R7.n2, (let ⟨_, z⟩ := R6.aT; ne_of_none z.2 fN), ne_of_none R6.aN fN, ne_of_none R6.aG fN⟩
end
end Wc
namespace Wc
open PySem L2
/-! ### {x: True for x in xs} -/
def dedup (xs : List Int) : List Int := xs.foldl addK []
theorem dedup_snoc (xs : List Int) (n : Int) : dedup (xs ++ [n]) = addK (dedup xs) n := by unfold dedup; rw [List.foldl_append]; rfl
theorem mem_foldK (xs : List Int) : ∀ acc n, n ∈ xs.foldl addK acc ↔ n ∈ acc ∨ n ∈ xs := by
  induction xs with
  | nil => intro acc n; simp
  | cons x r ih => intro acc n; rw [List.foldl_cons, ih, mem_addK, List.mem_cons]; exact ⟨fun z => z.elim (fun z => z.elim .inl fun e => .inr (.inl e)) fun z => .inr (.inr z), fun z => z.elim (fun z => .inl (.inl z)) fun z => z.elim (fun e => .inl (.inr e)) .inr⟩
theorem mem_dedup {xs : List Int} {n : Int} : n ∈ dedup xs ↔ n ∈ xs := by unfold dedup; rw [mem_foldK]; simp
theorem nd_foldK (xs : List Int) : ∀ acc, acc.Nodup → (xs.foldl addK acc).Nodup := by
  induction xs with
  | nil => intro acc h; exact h
  | cons x r ih => intro acc h; exact ih _ (addK_nd h)
theorem nd_dedup (xs : List Int) : (dedup xs).Nodup := nd_foldK xs [] (by simp)
theorem dedup_self {xs : List Int} (h : xs.Nodup) : dedup xs = xs := by
  have key : ∀ (l acc : List Int), (acc ++ l).Nodup → l.foldl addK acc = acc ++ l := fun l => by
    induction l with
    | nil => intro acc _; rw [List.append_nil]; rfl
    | cons x r ih =>
      intro acc h
      have nx : x ∉ acc := fun z => (List.nodup_append.mp h).2.2 x z x List.mem_cons_self rfl
      rw [List.foldl_cons, show addK acc x = acc ++ [x] by unfold addK; rw [if_neg nx], ih _ (by rw [List.append_assoc]; exact h), List.append_assoc]; rfl
  exact key xs [] (by simpa using h)
theorem dcB {J : It} {G : Hp → Prop} {n : Nat} {zs : List V} (wk : Walk J n G (YAt zs)) (xs : List Int) (hzs : zs = xs.map V.int) (hn : n = xs.length) (hz : xs.length ≤ 40000) (st : Int → L2.St) {g : TG} {tt : TT} {tk tv : TE} {vs : List Nat} {σ : L2.St} {H : Hp} {D : Addr} {Qd : Hp → Prop}
    (hD : H D = none) (hG : ∀ H', ExA H H' → G H') (hg : ∀ x H1, ∀ R : L2.St → Hp → Prop, R (st x) H1 → g (V.int x) (wipe σ vs) H1 R) (hw : ∀ x, wipe (st x) vs = wipe σ vs) (ht : ∀ x H1, ∀ R : Bool → Hp → Prop, R true H1 → tt (st x) H1 R)
    (hk : ∀ x H1, ∀ R : VK, R (V.int x) H1 → tk (st x) H1 R) (hv : ∀ x H1, ∀ R : VK, R (V.bl true) H1 → tv (st x) H1 R) (hd : ∀ H', ExA H H' → H' D = some (.dK (dB (dedup xs))) → Qd H') :
    ∃ W : Nat → Nat → Hp → Prop, (∃ m, W 0 m (upd H D (.dK []))) ∧ ∀ i m H, W i m H →
      (J.stop i H ∧ Qd H) ∨ (J.go i H ∧ ∃ Nx : Hp → Prop, (∀ H', Nx H' → ∃ m', m' < m ∧ W (i + 1) m' H') ∧ ∀ x H', J.yld i H x H' → g x (wipe σ vs) H' fun σ2 H2 => wipe σ2 vs = wipe σ vs ∧ tt σ2 H2 fun b H3 =>
        if b = true then tk σ2 H3 fun y H4 => tv σ2 H4 fun z H5 => ∃ kvs k, y = kV k ∧ H5 D = some (.dK kvs) ∧ kvs.length < sizeLine ∧ Nx (upd H5 D (.dK (putK kvs k z))) else Nx H3) := by
  subst hzs hn
  refine dcM [] wk hD (fun i acc _ => acc = dB (dedup (xs.take i))) rfl (fun H' x => hG H' x) (fun i x H1 H2 acc hi e k1 k2 hacc y => ?_) (fun H' acc e k1 k2 hacc => ?_)
  · obtain ⟨rfl, hx⟩ := y
    obtain ⟨u, hu⟩ : ∃ u, xs[i]? = some u := ⟨_, List.getElem?_eq_getElem hi⟩
    rw [List.getElem?_map, hu] at hx
    obtain rfl : V.int u = x := Option.some.inj hx
    refine hg u _ _ ⟨hw u, ht u _ _ (iteT (hk u _ _ (hv u _ _ ?_)))⟩
    refine DcP.yes (k := Sum.inl u) hD (by simp) (by omega) e k1 k2 rfl (ExM.refl _ _) ?_
    rw [hacc, take_snoc hu, dedup_snoc, dB_put]
  · rw [List.take_length] at hacc
    exact hd H' e (by rw [k1, hacc])
end Wc
namespace Wc
open PySem L2
/-- rising, and these -/
def UpSet (ns : List Int) (S : Int → Prop) : Prop := ns.Pairwise (· < ·) ∧ ∀ n, n ∈ ns ↔ S n
section
variable (K : PySem.W.Frag)
def R_obtainable : V2 := fun x y H Q => ∃ (a : Addr) (h : Hd) (c : Addr) (cs : List Int), x = .ref a ∧ y = .ref c ∧ HeapAt K H a h ∧ h.Ok ∧ SqT K H c (cs.map .int) ∧ cs.length ≤ 1000 ∧
  ∀ ns, UpSet ns (Obt h cs) → NewT ns H Q
abbrev sp_obtainable : Sp := sp2 (R_obtainable K)
def R_numbers_of : V1 := fun x H Q => ∃ (a : Addr) (h : Hd), x = .ref a ∧ HeapAt K H a h ∧ h.Ok ∧ NewT h.nums H Q
abbrev sp_numbers_of : Sp := sp1 (R_numbers_of K)
def R_reachable : V1 := fun x H Q => ∃ (a : Addr) (h : Hd), x = .ref a ∧ HeapAt K H a h ∧ h.Ok ∧ ∀ ns, UpSet ns (Obt h h.nums) → NewT ns H Q
abbrev sp_reachable : Sp := sp1 (R_reachable K)
def R__law_cell : V2 := fun x y H Q => ∃ (a : Addr) (ns : List Int) (i : Int), x = .ref a ∧ y = .int i ∧ SqL K H a (ns.map .int) ∧ 0 ≤ i ∧ ∀ v : Int, Q (.int v) H
abbrev sp__law_cell : Sp := sp2 (R__law_cell K)
def R__law_digits : V3 := fun x y z H Q => ∃ (a : Addr) (ns : List Int) (i j : Int), x = .ref a ∧ y = .int i ∧ z = .int j ∧ SqL K H a (ns.map .int) ∧ 0 ≤ i ∧ i ≤ j ∧ j ≤ 1000 ∧ ∀ ds, NewL ds H Q
abbrev sp__law_digits : Sp := sp3 (R__law_digits K)
def R__law_box : V3 := fun x y z H Q => ∃ (a : Addr) (ns : List Int) (i j : Int), x = .ref a ∧ y = .int i ∧ z = .int j ∧ SqL K H a (ns.map .int) ∧ 0 ≤ i ∧ i ≤ j ∧ j ≤ 1000 ∧ ∀ b d ds H', H b = none → ExA H H' → Bx H' b d ds → Q (.ref b) H'
abbrev sp__law_box : Sp := sp3 (R__law_box K)
def R__law_draw (_ : PySem.W.Frag) : V2 := fun x y H Q => ∃ (b d : Addr) (ds : List Int) (m : Int), x = .ref b ∧ y = .int m ∧ 0 < m ∧ Bx H b d ds ∧ ∀ H' (v : Int), ExM [b] H H' → Bx H' b d ds → 0 ≤ v → v < m → Q (.int v) H'
abbrev sp__law_draw : Sp := sp2 (R__law_draw K)
def R__law_number : V2 := fun x y H Q => ∃ (b d : Addr) (ds : List Int) (a : Addr) (ns : List Int), x = .ref b ∧ y = .ref a ∧ Bx H b d ds ∧ Nm K H b a ns ∧ ∀ H' (r : Rf), ExM [b] H H' → Bx H' b d ds → Rf.ok ns r → Q (rV r) H'
abbrev sp__law_number : Sp := sp2 (R__law_number K)
def R__law_object : V3 := fun x y z H Q => ∃ (b d : Addr) (ds : List Int) (n : Int) (a : Addr) (ns : List Int), x = .ref b ∧ y = .int n ∧ z = .ref a ∧ Bx H b d ds ∧ Nm K H b a ns ∧
  ∀ H' p o, ExM [b] H H' → Bx H' b d ds → ObAt K H' p o → o.num = n → o.ok ns → Q (.ref p) H'
abbrev sp__law_object : Sp := sp3 (R__law_object K)
def R__law_heap : V2 := fun x y H Q => ∃ (b d : Addr) (ds : List Int) (m : Int), x = .ref b ∧ y = .int m ∧ 0 ≤ m ∧ m ≤ 49 ∧ Bx H b d ds ∧ ∀ H' p (h : Hd), ExM [b] H H' → Bx H' b d ds → HeapAt K H' p h → h.Ok → (h.obs.length : Int) ≤ m → Q (.ref p) H'
abbrev sp__law_heap : Sp := sp2 (R__law_heap K)
def R__law_numbers : V1 := fun x H Q => ∃ (a : Addr) (h : Hd), x = .ref a ∧ HeapAt K H a h ∧ h.Ok ∧ NewL h.nums H Q
abbrev sp__law_numbers : Sp := sp1 (R__law_numbers K)
def R__law_some : V2 := fun x y H Q => ∃ (b d : Addr) (ds : List Int) (a : Addr) (ns : List Int), x = .ref b ∧ y = .ref a ∧ Bx H b d ds ∧ (Nm K H b a ns ∨ SqT K H a (ns.map .int)) ∧ ns.length ≤ 1000 ∧
  ∀ H' p (ms : List Int), ExM [b] H H' → Bx H' b d ds → ms.Sublist ns → H' p = some (.tup (ms.map V.int)) → Q (.ref p) H'
abbrev sp__law_some : Sp := sp2 (R__law_some K)
end
section
variable {P : Program} {w : World} {K : PySem.W.Frag} {mg : Str → Option Value} {base : Heap}
theorem ok_obtainable {f : Addr} {fd : FuncData} {cd : Value} (F : Df K "obtainable" s_obtainable f fd cd) (T : Txt mg) (C_rounds : Cal P w K mg base 3 "rounds" (sp_rounds K) []) : FnOk P w K mg base CX0 4 f fd ["heap", "condemned"] (sp_obtainable K) := by
  have nd := sc_obtainable.nd
  refine F.ok sc_obtainable (fun vs H Q E h => ?_) (fun A outer s H vs Q E hr h => ?_)
  · obtain ⟨_, _, rfl, _⟩ := h; rfl
  have hu := hu_of hr
  obtain ⟨x0, x1, rfl, h⟩ := h
  refine ⟨_, (pss_one (ps_ret (pe_callTy (r := rTupS K) call_tuple_of rfl T.tuple (by decide +kernel) (pa_cons (pe_callB (call_sortedDI rfl) rfl T.sorted (by decide +kernel) (pa_cons (pe_c C_rounds hr (by first | exact Nat.le_refl _ | decide) rfl (pa_cons (pv 0) (pa_cons (pv 1) pa_nil))) pa_nil)) pa_nil)))), ?_⟩
  obtain ⟨a, h, c, cs, rfl, rfl, hA, ok, hC, hz, q⟩ := h
  refine ⟨_, rfl, _, rfl, _, _, rfl, a, h, c, cs, rfl, rfl, hA, ok, .inr hC, hz, fun p H1 G rG fp e1 hp => ?_⟩
  have zG : (G.map (·.1)).length < 64 := by
    have z1 := nd_sub rG.nd fun n hn => Obt.num ok ((rG.all n).mp hn)
    have z3 : h.nums.length ≤ 50 := by unfold Hd.nums; rw [List.length_map]; exact ok.size
    omega
  refine ⟨p, _, G.map (·.1), rfl, .inl hp, dI_keys G, zG, fun ys l hperm hle fl => ?_⟩
  refine ⟨l, _, rfl, .inl ⟨SqL.of upd_same, fun t ft => ?_⟩⟩
  have fl0 := ExA.free e1 fl
  have e2 : ExA H (upd H1 l (.lst (ys.map V.int))) := e1.put fl0
  refine q ys ⟨up_of hle ((hperm.nodup_iff).mpr rG.nd), fun n => (hperm.mem_iff).trans (rG.all n)⟩ t _ (ExA.free e2 ft) (e2.put (ExA.free e2 ft)) upd_same
theorem ok_numbers_of {f : Addr} {fd : FuncData} {cd : Value} (F : Df K "numbers_of" s_numbers_of f fd cd) (T : Txt mg) (C_objects_of : Cal P w K mg base 1 "objects_of" (sp_objects_of K) []) : FnOk P w K mg base CX0 2 f fd ["heap"] (sp_numbers_of K) := by
  have nd := sc_numbers_of.nd
  refine F.ok sc_numbers_of (fun vs H Q E h => ?_) (fun A outer s H vs Q E hr h => ?_)
  · obtain ⟨_, rfl, _⟩ := h; rfl
  have hu := hu_of hr
  obtain ⟨x0, rfl, h⟩ := h
  refine ⟨_, (pss_one (ps_ret (pe_callTy (r := rTupS K) call_tuple_of rfl T.tuple (by decide +kernel) (pa_cons (pe_lc (own := [("thing", 1)]) rfl nd (show PI _ _ _ (iTup K _) from pi_tup (pe_c C_objects_of hr (by first | exact Nat.le_refl _ | decide) rfl (pa_cons (pv 0) pa_nil))) (blkOk_by (own := [("thing", 1)]) (N := N_numbers_of) (sc := defScope s_numbers_of) (by decide +kernel)) (fun _ _ _ _ _ => (pg_name (i := 1) nd rfl (by first | exact Or.inl rfl | exact Or.inr rfl))) (fun _ _ _ _ _ => pts_nil) (fun _ _ _ _ _ => (pe_ix (r := rIxT K) ix_tup (pv 1) pe_int (fun _ _ => rfl)))) pa_nil)))), ?_⟩
  obtain ⟨a, h, rfl, hA, ok, q⟩ := h
  refine ⟨_, rfl, _, rfl, a, h, rfl, hA, fun o hO => ?_⟩
  obtain ⟨os, ho, hp⟩ := hO
  have hl := plen hp
  refine ⟨o, rfl, ⟨_, ho⟩, fun D hD => ?_⟩
  refine lcM [] (walk_tup (xs := os.map V.ref)) hD (fun i acc _ => acc = (h.nums.take i).map V.int) rfl (fun H' e => Tk.all e _ _ ho) (fun i x H1 H2 acc hi e h1 h2 hacc y => ?_) (fun H' acc e h1 h2 hacc => ?_)
  · obtain ⟨rfl, hx⟩ := y
    rw [List.length_map] at hi
    obtain ⟨a1, hos⟩ : ∃ a1, os[i]? = some a1 := ⟨_, List.getElem?_eq_getElem hi⟩
    rw [List.getElem?_map, hos] at hx
    obtain rfl : V.ref a1 = x := Option.some.inj hx
    obtain ⟨o1, ho1, hob⟩ := pget hp hos
    obtain ⟨kn, vn, hn⟩ := (ObAt.mono (Tk.all e) hob).num
    have hnum : h.nums[i]? = some o1.num := by unfold Hd.nums; rw [List.getElem?_map, ho1]; rfl
    have zi : i ≤ 40000 := by have := ok.size; omega
    refine ⟨rfl, tyes ⟨_, rfl, a1, _, _, _, rfl, rfl, hn, at1, LcP.yes hD (by simp) zi e h1 h2 (ExM.refl _ _) ?_⟩⟩
    rw [hacc, take_snoc hnum, List.map_append]; rfl
  · have hn : h.nums.length = os.length := by unfold Hd.nums; rw [List.length_map, hl]
    rw [List.length_map, ← hn, List.take_length] at hacc
    subst hacc
    refine ⟨D, _, rfl, .inl ⟨SqL.of h1, fun t ft => ?_⟩⟩
    exact q t _ (ExA.free e ft) (e.put (ExA.free e ft)) upd_same
theorem ok_reachable {f : Addr} {fd : FuncData} {cd : Value} (F : Df K "reachable" s_reachable f fd cd) (T : Txt mg) (C_numbers_of : Cal P w K mg base 2 "numbers_of" (sp_numbers_of K) []) (C_obtainable : Cal P w K mg base 4 "obtainable" (sp_obtainable K) []) : FnOk P w K mg base CX0 5 f fd ["heap"] (sp_reachable K) := by
  have nd := sc_reachable.nd
  refine F.ok sc_reachable (fun vs H Q E h => ?_) (fun A outer s H vs Q E hr h => ?_)
  · obtain ⟨_, rfl, _⟩ := h; rfl
  have hu := hu_of hr
  obtain ⟨x0, rfl, h⟩ := h
  refine ⟨_, (pss_one (ps_ret (pe_c C_obtainable hr (by first | exact Nat.le_refl _ | decide) rfl (pa_cons (pv 0) (pa_cons (pe_c C_numbers_of hr (by first | exact Nat.le_refl _ | decide) rfl (pa_cons (pv 0) pa_nil)) pa_nil))))), ?_⟩
  obtain ⟨a, h, rfl, hA, ok, q⟩ := h
  refine ⟨_, rfl, _, rfl, _, rfl, a, h, rfl, hA, ok, fun t H1 f1 e1 ht => ?_⟩
  refine ⟨_, _, rfl, a, h, t, h.nums, rfl, rfl, HeapAt.mono (Tk.all e1) hA, ok, SqT.of ht, by have := ok.size; unfold Hd.nums; rw [List.length_map]; omega, fun ns hs p H3 fp e3 hp => ?_⟩
  exact q ns hs p H3 (ExA.free e1 fp) (e1.trans e3) hp
theorem ok__law_cell {f : Addr} {fd : FuncData} {cd : Value} (F : Df K "_law_cell" s__law_cell f fd cd) (T : Txt mg) : FnOk P w K mg base CX0 1 f fd ["script", "k"] (sp__law_cell K) := by
  have nd := sc__law_cell.nd
  refine F.ok sc__law_cell (fun vs H Q E h => ?_) (fun A outer s H vs Q E hr h => ?_)
  · obtain ⟨_, _, rfl, _⟩ := h; rfl
  have hu := hu_of hr
  obtain ⟨x0, x1, rfl, h⟩ := h
  refine ⟨_, (pss_cons (ps_if (pt_cmpR op_lt (pv 1) (pe_callB (r := Evl.rLenS K) call_len_seq rfl T.len PySem.boot_len (pa_cons (pv 0) pa_nil)) (nomark _)) (pss_one (ps_ret (pe_ix (r := rIxL K) ix_list (pv 0) (pv 1) (fun _ _ => rfl)))) pss_nil)
    (pss_one (ps_ret pe_int))), ?_⟩
  obtain ⟨a, ns, i, rfl, rfl, hS, h0, q⟩ := h
  obtain ⟨j, rfl⟩ : ∃ j : Nat, i = (j : Int) := ⟨i.toNat, by omega⟩
  refine ⟨_, rfl, _, rfl, a, _, rfl, .inl hS, _, _, rfl, rfl, _, rfl, ite2 (fun c => ?_) (fun c => ?_)⟩
  · have c' : (j : Int) < (((ns.map V.int).length : Nat) : Int) := of_decide_eq_true c
    rw [List.length_map] at c'
    have hj : j < ns.length := by omega
    exact ⟨_, rfl, _, rfl, a, _, _, V.int ns[j], rfl, rfl, hS, atI_nat (by rw [List.getElem?_map]; simp [hj]), q _⟩
  · exact q 0
theorem ok__law_draw {f : Addr} {fd : FuncData} {cd : Value} (F : Df K "_law_draw" s__law_draw f fd cd) (T : Txt mg) : FnOk P w K mg base CX0 1 f fd ["box", "many"] (sp__law_draw K) := by
  have nd := sc__law_draw.nd
  refine F.ok sc__law_draw (fun vs H Q E h => ?_) (fun A outer s H vs Q E hr h => ?_)
  · obtain ⟨_, _, rfl, _⟩ := h; rfl
  have hu := hu_of hr
  obtain ⟨x0, x1, rfl, h⟩ := h
  refine ⟨_, (pss_cons (ps_set (i := 2) nd rfl (by first | exact Or.inl rfl | exact Or.inr rfl) (pe_ix (r := rIxL K) ix_list (pv 0) pe_int (fun _ _ => rfl)))
    (pss_cons (ps_asg (pe_op op_add (pv 2) pe_int) (pg_sub (pv 0) pe_int set_list))
    (pss_cons (ps_if (pt_cmpR op_lt (pv 2) (pe_callB (r := Evl.rLenS K) call_len_seq rfl T.len PySem.boot_len (pa_cons (pe_ix (r := rIxL K) ix_list (pv 0) pe_int (fun _ _ => rfl)) pa_nil)) (nomark _)) (pss_one (ps_ret (pe_op op_mod (pe_callTy call_int1 rfl T.int (by decide +kernel) (pa_cons (pe_ix (r := rIxL K) ix_list (pe_ix (r := rIxL K) ix_list (pv 0) pe_int (fun _ _ => rfl)) (pv 2) (fun _ _ => rfl)) pa_nil)) (pv 1)))) pss_nil)
    (pss_one (ps_ret pe_int))))), ?_⟩
  obtain ⟨b, d, ds, m, rfl, rfl, hm, hb, q⟩ := h
  obtain ⟨⟨n, e1⟩, e2, e3⟩ := id hb
  refine ⟨_, rfl, b, _, _, _, rfl, rfl, SqL.of e1, at1, ?_⟩
  refine ⟨_, rfl, _, _, rfl, rfl, _, rfl, b, _, _, 1, rfl, rfl, e1, rfl, ?_⟩
  have e4 : (upd H b (.lst ([V.ref d, V.int (n : Int)].set 1 (V.int ((n : Int) + 1))))) b = some (.lst [.ref d, .int ((n + 1 : Nat) : Int)]) := by rw [upd_same]; rfl
  have e5 : (upd H b (.lst ([V.ref d, V.int (n : Int)].set 1 (V.int ((n : Int) + 1))))) d = some (.lst (ds.map V.int)) := by rw [upd_ne e3]; exact e2
  have e6 : ExM [b] H (upd H b (.lst ([V.ref d, V.int (n : Int)].set 1 (V.int ((n : Int) + 1))))) := (ExM.refl _ _).mem (by simp)
  have hb' : Bx _ b d ds := ⟨⟨n + 1, e4⟩, e5, e3⟩
  refine ⟨_, rfl, _, rfl, b, _, _, _, rfl, rfl, SqL.of e4, at0, d, _, rfl, .inl (SqL.of e5), _, _, rfl, rfl, _, rfl, ite2 (fun c => ?_) (fun c => ?_)⟩
  · have c' : (n : Int) < (((ds.map V.int).length : Nat) : Int) := of_decide_eq_true c
    rw [List.length_map] at c'
    have hj : n < ds.length := by omega
    refine ⟨_, rfl, b, _, _, _, rfl, rfl, SqL.of e4, at0, _, rfl, d, _, _, V.int ds[n], rfl, rfl, SqL.of e5, atI_nat (by rw [List.getElem?_map]; simp [hj]), .inl ⟨_, rfl, _, rfl, _, _, rfl, rfl, hm, ?_⟩⟩
    exact q _ _ e6 hb' (Int.emod_nonneg _ (by omega)) (Int.emod_lt_of_pos _ hm)
  · exact q _ 0 e6 hb' (Int.le_refl 0) hm
theorem ok__law_number {f : Addr} {fd : FuncData} {cd : Value} (F : Df K "_law_number" s__law_number f fd cd) (T : Txt mg) (C__law_draw : Cal P w K mg base 1 "_law_draw" (sp__law_draw K) []) : FnOk P w K mg base CX0 2 f fd ["box", "numbers"] (sp__law_number K) := by
  have nd := sc__law_number.nd
  refine F.ok sc__law_number (fun vs H Q E h => ?_) (fun A outer s H vs Q E hr h => ?_)
  · obtain ⟨_, _, rfl, _⟩ := h; rfl
  have hu := hu_of hr
  obtain ⟨x0, x1, rfl, h⟩ := h
  refine ⟨_, (pss_cons (ps_if (PW.pt (pw_or (pt_cmpR op_eq (pe_callB (r := Evl.rLenS K) call_len_seq rfl T.len PySem.boot_len (pa_cons (pv 1) pa_nil)) pe_int (nomark _)) (pw_or1 (pt_cmpR op_eq (pe_c C__law_draw hr (by first | exact Nat.le_refl _ | decide) rfl (pa_cons (pv 0) (pa_cons pe_int pa_nil))) pe_int (nomark _))))) (pss_one (ps_ret pe_non)) pss_nil)
    (pss_one (ps_ret (pe_ix (r := rIxL K) ix_list (pv 1) (pe_op op_mod (pe_callTy call_int1 rfl T.int (by decide +kernel) (pa_cons (pe_c C__law_draw hr (by first | exact Nat.le_refl _ | decide) rfl (pa_cons (pv 0) (pa_cons pe_int pa_nil))) pa_nil)) (pe_callB (r := Evl.rLenS K) call_len_seq rfl T.len PySem.boot_len (pa_cons (pv 1) pa_nil))) (fun _ _ => rfl))))), ?_⟩
  obtain ⟨b, d, ds, a, ns, rfl, rfl, hb, hN, q⟩ := h
  refine ⟨_, rfl, a, _, rfl, .inl hN.1, rfl, _, rfl, ite2 (fun c => ?_) (fun c => ?_)⟩
  · exact iteT (q _ none (ExM.refl _ _) hb (fun i z => by cases z))
  have hne : 0 < ns.length := by
    rw [List.length_map] at c
    have c' : ¬ (V.int (ns.length : Int) = V.int 0) := of_decide_eq_false (Bool.eq_false_iff.mpr c)
    rcases Nat.eq_zero_or_pos ns.length with z | z
    · rw [z] at c'; exact absurd rfl c'
    · exact z
  refine ⟨_, rfl, _, _, rfl, b, d, ds, 5, rfl, rfl, by decide, hb, fun H1 v x1 b1 v0 v5 => ?_⟩
  refine ⟨rfl, _, rfl, ite2 (fun c2 => ?_) (fun c2 => ?_)⟩
  · exact q _ none x1 b1 (fun i z => by cases z)
  have N1 := hN.keep x1
  refine ⟨_, rfl, _, rfl, _, _, rfl, b, d, ds, 1000, rfl, rfl, by decide, b1, fun H2 u x2 b2 u0 u5 => ?_⟩
  have N2 := N1.keep x2
  refine .inl ⟨_, rfl, _, rfl, a, _, rfl, .inl N2.1, _, _, rfl, rfl, by rw [List.length_map]; omega, ?_⟩
  have hl : (ns.map V.int).length = ns.length := List.length_map _
  have r0 : 0 ≤ u % ((ns.map V.int).length : Int) := Int.emod_nonneg _ (by omega)
  have r1 : u % ((ns.map V.int).length : Int) < ((ns.map V.int).length : Int) := Int.emod_lt_of_pos _ (by omega)
  obtain ⟨j, hj⟩ : ∃ j : Nat, u % ((ns.map V.int).length : Int) = (j : Int) := ⟨(u % ((ns.map V.int).length : Int)).toNat, by omega⟩
  have hjl : j < ns.length := by omega
  show rIxL K (.ref a) (.int (u % (((ns.map V.int).length : Nat) : Int))) H2 _
  rw [hj]
  refine ⟨a, _, _, V.int ns[j], rfl, rfl, N2.1, atI_nat (by rw [List.getElem?_map]; simp [hjl]), ?_⟩
  exact q _ (some ns[j]) (x1.trans x2) b2 (fun i z => by cases z; exact List.getElem_mem hjl)
theorem ok__law_numbers {f : Addr} {fd : FuncData} {cd : Value} (F : Df K "_law_numbers" s__law_numbers f fd cd) (T : Txt mg) : FnOk P w K mg base CX0 1 f fd ["heap"] (sp__law_numbers K) := by
  have nd := sc__law_numbers.nd
  refine F.ok sc__law_numbers (fun vs H Q E h => ?_) (fun A outer s H vs Q E hr h => ?_)
  · obtain ⟨_, rfl, _⟩ := h; rfl
  have hu := hu_of hr
  obtain ⟨x0, rfl, h⟩ := h
  refine ⟨_, (pss_one (ps_ret (pe_lc (own := [("row", 1)]) rfl nd (show PI _ _ _ (iTup K _) from pi_tup (pe_ix (r := rIxT K) ix_tup (pv 0) pe_int (fun _ _ => rfl))) (blkOk_by (own := [("row", 1)]) (N := N__law_numbers) (sc := defScope s__law_numbers) (by decide +kernel)) (fun _ _ _ _ _ => (pg_name (i := 1) nd rfl (by first | exact Or.inl rfl | exact Or.inr rfl))) (fun _ _ _ _ _ => pts_nil) (fun _ _ _ _ _ => (pe_ix (r := rIxT K) ix_tup (pv 1) pe_int (fun _ _ => rfl)))))), ?_⟩
  obtain ⟨a, h, rfl, ⟨r, k, o, w, ws, h1, h2, h3, ⟨os, ho, hp⟩, _⟩, ok, q⟩ := h
  have hl := plen hp
  refine ⟨_, rfl, a, _, _, _, rfl, rfl, h1, at4, o, rfl, ⟨_, ho⟩, fun D hD => ?_⟩
  refine lcM [] (walk_tup (xs := os.map V.ref)) hD (fun i acc _ => acc = (h.nums.take i).map V.int) rfl (fun H' e => Tk.all e _ _ ho) (fun i x H1 H2 acc hi e h1 h2 hacc y => ?_) (fun H' acc e h1 h2 hacc => ?_)
  · obtain ⟨rfl, hx⟩ := y
    rw [List.length_map] at hi
    obtain ⟨a1, hos⟩ : ∃ a1, os[i]? = some a1 := ⟨_, List.getElem?_eq_getElem hi⟩
    rw [List.getElem?_map, hos] at hx
    obtain rfl : V.ref a1 = x := Option.some.inj hx
    obtain ⟨o1, ho1, hob⟩ := pget hp hos
    obtain ⟨kn, vn, hn⟩ := (ObAt.mono (Tk.all e) hob).num
    have hnum : h.nums[i]? = some o1.num := by unfold Hd.nums; rw [List.getElem?_map, ho1]; rfl
    have zi : i ≤ 40000 := by have := ok.size; omega
    refine ⟨rfl, tyes ⟨_, rfl, a1, _, _, _, rfl, rfl, hn, at1, LcP.yes hD (by simp) zi e h1 h2 (ExM.refl _ _) ?_⟩⟩
    rw [hacc, take_snoc hnum, List.map_append]; rfl
  · have hn : h.nums.length = os.length := by unfold Hd.nums; rw [List.length_map, hl]
    rw [List.length_map, ← hn, List.take_length] at hacc
    exact q D H' hD e (by rw [h1, hacc])
end
end Wc
namespace Wc
open PySem L2
/-- a or b, a and b, where nothing is made: by their answers -/
theorem or_join {t u : TT} {σ : L2.St} {H : Hp} {Q : Bool → Hp → Prop} (b c : Bool) (ht : ∀ Q' : Bool → Hp → Prop, Q' b H → t σ H Q') (hu : b = false → ∀ Q' : Bool → Hp → Prop, Q' c H → u σ H Q') (h : Q (b || c) H) : tOr t u σ H Q := by
  refine ht _ ?_
  cases b with
  | true => exact iteT h
  | false => exact iteF (hu rfl _ h)
theorem gN {i : Nat} {v : V} {σ : L2.St} {H : Hp} {Q : L2.St → Hp → Prop} (h : Q (σ.set i (some v)) H) : gName i v σ H Q := h
theorem and_join {t u : TT} {σ : L2.St} {H : Hp} {Q : Bool → Hp → Prop} (b c : Bool) (ht : ∀ Q' : Bool → Hp → Prop, Q' b H → t σ H Q') (hu : b = true → ∀ Q' : Bool → Hp → Prop, Q' c H → u σ H Q') (h : Q (b && c) H) : tAnd t u σ H Q := by
  refine ht _ ?_
  cases b with
  | true => exact iteT (hu rfl _ h)
  | false => exact iteF h
theorem len0 (ns : List Int) : decide (V.int (((ns.map V.int).length : Nat) : Int) = V.int 0) = decide (ns.length = 0) := by
  rw [List.length_map]
  by_cases c : ns.length = 0
  · rw [c]; rfl
  · rw [decide_eq_false c]
    exact decide_eq_false fun z => c (by have := V.int.inj z; omega)
theorem pick_ok {K : PySem.W.Frag} {H : Hp} {a : Addr} {ns : List Int} (hS : SqL K H a (ns.map V.int)) (hne : 0 < ns.length) (u : Int) {Q : VK} (q : ∀ i, i ∈ ns → Q (.int i) H) :
    rIxL K (.ref a) (.int (u % (((ns.map V.int).length : Nat) : Int))) H Q := by
  have hl : (ns.map V.int).length = ns.length := List.length_map _
  have r0 : 0 ≤ u % ((ns.map V.int).length : Int) := Int.emod_nonneg _ (by omega)
  have r1 : u % ((ns.map V.int).length : Int) < ((ns.map V.int).length : Int) := Int.emod_lt_of_pos _ (by omega)
  obtain ⟨j, hj⟩ : ∃ j : Nat, u % ((ns.map V.int).length : Int) = (j : Int) := ⟨(u % ((ns.map V.int).length : Int)).toNat, by omega⟩
  have hjl : j < ns.length := by omega
  rw [hj]
  exact ⟨a, _, _, V.int ns[j], rfl, rfl, hS, atI_nat (by rw [List.getElem?_map]; simp [hjl]), q _ (List.getElem_mem hjl)⟩
section
variable {P : Program} {w : World} {K : PySem.W.Frag} {mg : Str → Option Value} {base : Heap}
theorem ok__law_digits {f : Addr} {fd : FuncData} {cd : Value} (F : Df K "_law_digits" s__law_digits f fd cd) (T : Txt mg) (C__law_cell : Cal P w K mg base 1 "_law_cell" (sp__law_cell K) []) : FnOk P w K mg base CX0 2 f fd ["script", "first", "last"] (sp__law_digits K) := by
  have nd := sc__law_digits.nd
  refine F.ok sc__law_digits (fun vs H Q E h => ?_) (fun A outer s H vs Q E hr h => ?_)
  · obtain ⟨_, _, _, rfl, _⟩ := h; rfl
  have hu := hu_of hr
  obtain ⟨x0, x1, x2, rfl, h⟩ := h
  refine ⟨_, (pss_cons (ps_set (i := 3) nd rfl (by first | exact Or.inl rfl | exact Or.inr rfl) (pe_lst pa_nil))
    (pss_cons (ps_for PassesOwn.never rfl (pi_range2 rfl T.range (pa_cons (pv 1) (pa_cons (pv 2) pa_nil))) (pg_name (i := 4) nd rfl (by first | exact Or.inl rfl | exact Or.inr rfl))
    (pss_cons (ps_set (i := 5) nd rfl (by first | exact Or.inl rfl | exact Or.inr rfl) (pe_c C__law_cell hr (by first | exact Nat.le_refl _ | decide) rfl (pa_cons (pv 0) (pa_cons (pv 4) pa_nil))))
    (Evl.pss_cut (ps_if (pt_cmpR op_lt (pv 5) pe_int (nomark _)) (pss_one (ps_set (i := 5) nd rfl (by first | exact Or.inl rfl | exact Or.inr rfl) (pe_op op_sub pe_int (pe_op op_mul pe_int (pv 5))))) pss_nil)
    (pss_one (ps_if (pt_cmpR op_ge (pv 5) (pe_op op_pow pe_int pe_int) (nomark _)) (pss_one (ps_for PassesOwn.never rfl (pi_range1 rfl T.range (pa_cons pe_int pa_nil)) (pg_name (i := 6) nd rfl (by first | exact Or.inl rfl | exact Or.inr rfl))
    (pss_one (ps_if (pt_cmpR op_gt (pv 5) pe_int (nomark _)) (pss_cons (ps_expr (pe_bm PySem.F.plainAttrs_list PySem.F.slot_list_append PySem.F.type_list_append mt_append (pv 3) (pa_cons (pe_op op_mod (pe_callTy call_int1 rfl T.int (by decide +kernel) (pa_cons (pv 5) pa_nil)) pe_int) pa_nil)))
    (pss_one (ps_set (i := 5) nd rfl (by first | exact Or.inl rfl | exact Or.inr rfl) (pe_op op_fdiv (pv 5) pe_int)))) pss_nil)))) (pss_cons (ps_set (i := 7) nd rfl (by first | exact Or.inl rfl | exact Or.inr rfl) (pe_op op_mod (pe_callTy call_int1 rfl T.int (by decide +kernel) (pa_cons (pe_op op_add (pe_op op_add (pe_op op_mul (pv 5) pe_int) (pe_op op_mul (pv 4) pe_int)) pe_int) pa_nil)) pe_int))
    (pss_one (ps_for PassesOwn.never rfl (pi_range1 rfl T.range (pa_cons pe_int pa_nil)) (pg_name (i := 6) nd rfl (by first | exact Or.inl rfl | exact Or.inr rfl))
    (pss_cons (ps_set (i := 7) nd rfl (by first | exact Or.inl rfl | exact Or.inr rfl) (pe_op op_mod (pe_callTy call_int1 rfl T.int (by decide +kernel) (pa_cons (pe_op op_add (pe_op op_add (pe_op op_mul (pv 7) pe_int) (pe_op op_mul pe_int (pv 6))) pe_int) pa_nil)) pe_int))
    (pss_one (ps_expr (pe_bm PySem.F.plainAttrs_list PySem.F.slot_list_append PySem.F.type_list_append mt_append (pv 3) (pa_cons (pe_op op_mod (pe_callTy call_int1 rfl T.int (by decide +kernel) (pa_cons (pe_op op_fdiv (pv 7) pe_int) pa_nil)) pe_int) pa_nil)))))))))))))
    (pss_one (ps_ret (pv 3))))), ?_⟩
  obtain ⟨a, ns, i, j, rfl, rfl, rfl, hS, hi0, hij, hj, q⟩ := h
  refine ⟨Nat.zero_le _, fun l fl => ?_⟩
  refine ⟨_, rfl, _, rfl, i, j, rfl, ⟨by omega, by omega, by omega, by omega⟩, ?_⟩
  refine for_range (lo := i) (n := (j - i).toNat) (fun t σ2 H2 => ∃ u4 u5 u6 u7, σ2 = [some (.ref a), some (.int i), some (.int j), some (.ref l), u4, u5, u6, u7] ∧ ExA H H2 ∧ ∃ ds : List Int, H2 l = some (.lst (ds.map V.int)) ∧ ds.length ≤ 60 * t)
    ⟨none, none, none, none, rfl, ExM.new fl, [], upd_same, Nat.le_refl _⟩ (fun t σ2 H2 ht p => ?_) (fun σ2 H2 p => ?_)
  · obtain ⟨u4, u5, u6, u7, rfl, e2, ds, hl, hz⟩ := p
    refine ⟨_, rfl, _, rfl, _, _, rfl, a, ns, _, rfl, rfl, SqL.all e2 hS, by omega, fun v => ?_⟩
    refine ⟨fun σ3 H3 => ∃ c : Int, 0 ≤ c ∧ H3 = H2 ∧ σ3 = [some (.ref a), some (.int i), some (.int j), some (.ref l), some (.int (i + (t : Int))), some (.int c), u6, u7], ?_, ?_⟩
    · refine ⟨_, rfl, _, _, rfl, rfl, _, rfl, ite2 (fun c => ?_) (fun c => ?_)⟩
      · have c' : v < 0 := of_decide_eq_true c
        exact ⟨_, rfl, 2, v, rfl, rfl, .inl ⟨by decide, by decide⟩, 1, _, rfl, rfl, 1 - 2 * v, by omega, rfl, rfl⟩
      · have c' : ¬ v < 0 := of_decide_eq_false (Bool.eq_false_iff.mpr c)
        exact ⟨v, by omega, rfl, rfl⟩
    rintro σ3 H3 ⟨c, c0, rfl, rfl⟩
    have zt : t ≤ 1000 := by omega
    refine ⟨_, rfl, 10, 18, rfl, rfl, ⟨by decide, by decide, by decide⟩, _, _, rfl, rfl, _, rfl, ite2 (fun _ => ?_) (fun _ => ?_)⟩
    · refine ⟨60, rfl, by decide, by decide, ?_⟩
      refine for_range (lo := 0) (n := 60) (fun r σ4 H4 => ∃ (c : Int) (u6 : Option V), σ4 = [some (.ref a), some (.int i), some (.int j), some (.ref l), some (.int (i + (t : Int))), some (.int c), u6, u7] ∧ ExA H H4 ∧ ∃ ds : List Int, H4 l = some (.lst (ds.map V.int)) ∧ ds.length ≤ 60 * t + r)
        ⟨c, u6, rfl, e2, ds, hl, hz⟩ (fun r σ4 H4 hr p => ?_) (fun σ4 H4 p => ?_)
      · obtain ⟨c, u6, rfl, e4, ds, hl, hz⟩ := p
        refine ⟨_, rfl, _, _, rfl, rfl, _, rfl, ite2 (fun _ => ?_) (fun _ => ?_)⟩
        · refine ⟨_, rfl, .inl ⟨rfl, _, SqL.of hl⟩, _, rfl, .inl ⟨_, rfl, _, _, rfl, rfl, (by show (0 : Int) < 1000; decide), l, _, _, rfl, rfl, hl, szl (by rw [List.length_map]; omega), ?_⟩⟩
          refine ⟨_, rfl, _, _, rfl, rfl, ⟨by decide, by decide⟩, _, _, rfl, e4.put fl, ds ++ [c % 1000], ?_, by rw [List.length_append, List.length_singleton]; omega⟩
          rw [upd_same, List.map_append]; rfl
        · exact ⟨c, _, rfl, e4, ds, hl, by omega⟩
      · obtain ⟨c, u6, rfl, e4, ds, hl, hz⟩ := p
        exact ⟨_, _, _, _, rfl, e4, ds, hl, by omega⟩
    · refine ⟨_, rfl, _, _, rfl, rfl, .inr ⟨by decide, by decide⟩, _, rfl, _, _, rfl, rfl, .inr ⟨by decide, by decide⟩, _, _, rfl, rfl, _, _, rfl, rfl, .inl ⟨_, rfl, _, _, rfl, rfl, (by show (0 : Int) < 2147483647; decide), ?_⟩⟩
      refine ⟨12, rfl, by decide, by decide, ?_⟩
      refine for_range (lo := 0) (n := 12) (fun r σ4 H4 => ∃ (e : Int) (u6 : Option V), σ4 = [some (.ref a), some (.int i), some (.int j), some (.ref l), some (.int (i + (t : Int))), some (.int c), u6, some (.int e)] ∧ ExA H H4 ∧ ∃ ds : List Int, H4 l = some (.lst (ds.map V.int)) ∧ ds.length ≤ 60 * t + r)
        ⟨_, u6, rfl, e2, ds, hl, hz⟩ (fun r σ4 H4 hr p => ?_) (fun σ4 H4 p => ?_)
      · obtain ⟨e, u6, rfl, e4, ds, hl, hz⟩ := p
        refine ⟨_, rfl, _, _, rfl, rfl, .inr ⟨by decide, by decide⟩, _, rfl, _, _, rfl, rfl, .inl ⟨by decide, by decide⟩, _, _, rfl, rfl, _, _, rfl, rfl, .inl ⟨_, rfl, _, _, rfl, rfl, (by show (0 : Int) < 2147483647; decide), ?_⟩⟩
        refine ⟨_, rfl, .inl ⟨rfl, _, SqL.of hl⟩, _, rfl, _, _, rfl, rfl, ⟨by decide, by decide⟩, .inl ⟨_, rfl, _, _, rfl, rfl, (by show (0 : Int) < 1000; decide), l, _, _, rfl, rfl, hl, szl (by rw [List.length_map]; omega), ?_⟩⟩
        refine ⟨(e * 16807 + 7 * (0 + (r : Int)) + 1) % 2147483647, _, rfl, e4.put fl, ds ++ [(e * 16807 + 7 * (0 + (r : Int)) + 1) % 2147483647 / 997 % 1000], ?_, by rw [List.length_append, List.length_singleton]; omega⟩
        rw [upd_same, List.map_append]; rfl
      · obtain ⟨e, u6, rfl, e4, ds, hl, hz⟩ := p
        exact ⟨_, _, _, _, rfl, e4, ds, hl, by omega⟩
  · obtain ⟨u4, u5, u6, u7, rfl, e2, ds, hl, hz⟩ := p
    exact ⟨_, rfl, q ds l H2 fl e2 hl⟩
theorem ok__law_box {f : Addr} {fd : FuncData} {cd : Value} (F : Df K "_law_box" s__law_box f fd cd) (T : Txt mg) (C__law_digits : Cal P w K mg base 2 "_law_digits" (sp__law_digits K) []) : FnOk P w K mg base CX0 3 f fd ["script", "first", "last"] (sp__law_box K) := by
  have nd := sc__law_box.nd
  refine F.ok sc__law_box (fun vs H Q E h => ?_) (fun A outer s H vs Q E hr h => ?_)
  · obtain ⟨_, _, _, rfl, _⟩ := h; rfl
  have hu := hu_of hr
  obtain ⟨x0, x1, x2, rfl, h⟩ := h
  refine ⟨_, (pss_one (ps_ret (pe_lst (pa_cons (pe_c C__law_digits hr (by first | exact Nat.le_refl _ | decide) rfl (pa_cons (pv 0) (pa_cons (pv 1) (pa_cons (pv 2) pa_nil)))) (pa_cons pe_int pa_nil))))), ?_⟩
  obtain ⟨a, ns, i, j, rfl, rfl, rfl, hS, hi0, hij, hj, q⟩ := h
  refine ⟨_, rfl, _, rfl, _, rfl, _, _, _, rfl, a, ns, i, j, rfl, rfl, rfl, hS, hi0, hij, hj, fun ds p H1 fp e1 hp => ?_⟩
  refine ⟨sz (by show 2 ≤ 100000; decide), fun b fb => q b p ds _ (ExA.free e1 fb) (e1.put (ExA.free e1 fb)) ⟨⟨0, upd_same⟩, ?_, ne_of_none hp fb⟩⟩
  rw [upd_ne (ne_of_none hp fb)]; exact hp
theorem ok__law_object {f : Addr} {fd : FuncData} {cd : Value} (F : Df K "_law_object" s__law_object f fd cd) (T : Txt mg) (C__law_draw : Cal P w K mg base 1 "_law_draw" (sp__law_draw K) []) (C__law_number : Cal P w K mg base 2 "_law_number" (sp__law_number K) []) : FnOk P w K mg base CX0 3 f fd ["box", "number", "numbers"] (sp__law_object K) := by
  have nd := sc__law_object.nd
  refine F.ok sc__law_object (fun vs H Q E h => ?_) (fun A outer s H vs Q E hr h => ?_)
  · obtain ⟨_, _, _, rfl, _⟩ := h; rfl
  have hu := hu_of hr
  obtain ⟨x0, x1, x2, rfl, h⟩ := h
  refine ⟨_, (pss_cons (ps_set (i := 3) nd rfl (by first | exact Or.inl rfl | exact Or.inr rfl) (pe_c C__law_draw hr (by first | exact Nat.le_refl _ | decide) rfl (pa_cons (pv 0) (pa_cons pe_int pa_nil))))
    (pss_cons (ps_if (PW.pt (pw_or (pt_cmpR op_lt (pv 3) pe_int (nomark _)) (pw_or1 (PW.pt (pw_and (pt_cmpR op_gt (pv 3) pe_int (nomark _)) (pw_and1 (pt_cmpR op_eq (pe_callB (r := Evl.rLenS K) call_len_seq rfl T.len PySem.boot_len (pa_cons (pv 2) pa_nil)) pe_int (nomark _)))))))) (pss_one (ps_ret (pe_tup (pa_cons pe_str (pa_cons (pv 1) (pa_cons (pe_callTy (r := rTupZ K) call_tupleZ rfl T.tuple (by decide +kernel) (pa_cons (pe_lc (own := [("k", 4)]) rfl nd (pi_range1 rfl T.range (pa_cons (pe_c C__law_draw hr (by first | exact Nat.le_refl _ | decide) rfl (pa_cons (pv 0) (pa_cons pe_int pa_nil))) pa_nil)) (blkOk_by (own := [("k", 4)]) (N := N__law_object) (sc := defScope s__law_object) (by decide +kernel)) (fun _ _ _ _ _ => (pg_name (i := 4) nd rfl (by first | exact Or.inl rfl | exact Or.inr rfl))) (fun _ _ _ _ _ => pts_nil) (fun _ _ _ _ _ => (pe_c C__law_number hr (by first | exact Nat.le_refl _ | decide) rfl (pa_cons (pv 0) (pa_cons (pv 2) pa_nil))))) pa_nil)) pa_nil)))))) pss_nil)
    (pss_cons (ps_if (pt_cmpR op_lt (pv 3) pe_int (nomark _)) (pss_one (ps_ret (pe_tup (pa_cons pe_str (pa_cons (pv 1) (pa_cons (pe_c C__law_number hr (by first | exact Nat.le_refl _ | decide) rfl (pa_cons (pv 0) (pa_cons (pv 2) pa_nil))) pa_nil)))))) pss_nil)
    (pss_cons (ps_set (i := 5) nd rfl (by first | exact Or.inl rfl | exact Or.inr rfl) (pe_lst pa_nil))
    (pss_cons (ps_for PassesOwn.never rfl (pi_range1 rfl T.range (pa_cons (pe_c C__law_draw hr (by first | exact Nat.le_refl _ | decide) rfl (pa_cons (pv 0) (pa_cons pe_int pa_nil))) pa_nil)) (pg_name (i := 4) nd rfl (by first | exact Or.inl rfl | exact Or.inr rfl))
    (pss_cons (ps_set (i := 6) nd rfl (by first | exact Or.inl rfl | exact Or.inr rfl) (pe_ix (r := rIxL K) ix_list (pv 2) (pe_op op_mod (pe_callTy call_int1 rfl T.int (by decide +kernel) (pa_cons (pe_c C__law_draw hr (by first | exact Nat.le_refl _ | decide) rfl (pa_cons (pv 0) (pa_cons pe_int pa_nil))) pa_nil)) (pe_callB (r := Evl.rLenS K) call_len_seq rfl T.len PySem.boot_len (pa_cons (pv 2) pa_nil))) (fun _ _ => rfl)))
    (pss_cons (ps_set (i := 7) nd rfl (by first | exact Or.inl rfl | exact Or.inr rfl) (pe_ix (r := rIxL K) ix_list (pv 2) (pe_op op_mod (pe_callTy call_int1 rfl T.int (by decide +kernel) (pa_cons (pe_c C__law_draw hr (by first | exact Nat.le_refl _ | decide) rfl (pa_cons (pv 0) (pa_cons pe_int pa_nil))) pa_nil)) (pe_callB (r := Evl.rLenS K) call_len_seq rfl T.len PySem.boot_len (pa_cons (pv 2) pa_nil))) (fun _ _ => rfl)))
    (pss_one (ps_if (pt_cmpR (r := rIn K true) op_notIn_seq (pv 6) (pe_lc (own := [("entry", 8)]) rfl nd (show PI _ _ _ (iList K _) from pi_list (pv 5)) (blkOk_by (own := [("entry", 8)]) (N := N__law_object) (sc := defScope s__law_object) (by decide +kernel)) (fun _ _ _ _ _ => (pg_name (i := 8) nd rfl (by first | exact Or.inl rfl | exact Or.inr rfl))) (fun _ _ _ _ _ => pts_nil) (fun _ _ _ _ _ => (pe_ix (r := rIxT K) ix_tup (pv 8) pe_int (fun _ _ => rfl)))) (by first | exact nomark _ | rfl)) (pss_one (ps_expr (pe_bm PySem.F.plainAttrs_list PySem.F.slot_list_append PySem.F.type_list_append mt_append (pv 5) (pa_cons (pe_tup (pa_cons (pv 6) (pa_cons (pv 7) pa_nil))) pa_nil)))) pss_nil)))))
    (pss_one (ps_ret (pe_tup (pa_cons pe_str (pa_cons (pv 1) (pa_cons (pe_callTy (r := rTupZ K) call_tupleZ rfl T.tuple (by decide +kernel) (pa_cons (pv 5) pa_nil)) pa_nil))))))))))), ?_⟩
  obtain ⟨b, d, ds, n, a, ns, rfl, rfl, rfl, hb, hN, q⟩ := h
  refine ⟨_, rfl, _, _, rfl, b, d, ds, 7, rfl, rfl, by decide, hb, fun H1 v x1 b1 v0 v7 => ?_⟩
  have N1 := hN.keep x1
  refine gN ?_
  dsimp only
  show tSeq (tIfS (tOr _ _) _ _) _ _ _ _
  refine or_join (decide (v < 3)) (decide (v > 4) && decide (ns.length = 0)) (fun Q' z => ⟨_, rfl, _, _, rfl, rfl, _, rfl, z⟩) (fun _ Q' z => and_join (decide (v > 4)) (decide (ns.length = 0)) (fun Q' z => ⟨_, rfl, _, _, rfl, rfl, _, rfl, z⟩)
    (fun _ Q' z => ⟨_, rfl, a, _, rfl, .inl N1.1, rfl, _, rfl, by rw [len0]; exact z⟩) z) ?_
  refine ite2 (fun c1 => ?_) (fun c1 => ?_)
  · -- a record
    refine ⟨_, rfl, _, rfl, _, _, rfl, b, d, ds, 4, rfl, rfl, by decide, b1, fun H2 k x2 b2 k0 k4 => ?_⟩
    have N2 := N1.keep x2
    refine ⟨k, rfl, by omega, by omega, fun D hD => ?_⟩
    have nD := b2.ne hD
    refine lcM [b] (walk_range (lo := 0) (n := k.toNat)) hD (fun i acc H' => Bx H' b d ds ∧ ∃ rs : List Rf, acc = rs.map rV ∧ ∀ r ∈ rs, Rf.ok ns r) ⟨b2.new hD, [], rfl, by simp⟩ (fun _ _ => trivial) (fun i x H3 H4 acc hi e h1 h2 hacc y => ?_) (fun H3 acc e h1 h2 hacc => ?_)
    · obtain ⟨rfl, rfl⟩ := y
      obtain ⟨b3, rs, rfl, hrs⟩ := hacc
      refine ⟨rfl, tyes ⟨_, rfl, _, rfl, _, _, rfl, b, d, ds, a, ns, rfl, rfl, b3, N2.keep e, fun H5 r x5 b5 hr => ?_⟩⟩
      refine LcP.yes hD nD (by omega) e h1 h2 x5 ⟨b5.put b2 hD, rs ++ [r], by rw [List.map_append]; rfl, fun r' hr' => ?_⟩
      rcases List.mem_append.mp hr' with z | z
      · exact hrs r' z
      · have : r' = r := by simpa using z
        rw [this]; exact hr
    · obtain ⟨b3, rs, rfl, hrs⟩ := hacc
      refine ⟨D, _, rfl, SqL.of h1, fun t zt ft nt => ⟨sz (by show 3 ≤ 100000; decide), fun p fp => ?_⟩⟩
      have np : p ≠ t := fun z => by rw [z, upd_same] at fp; cases fp
      have x3 : ExM [b] H (upd (upd H3 t (.frz zt (.tup (rs.map rV)))) p (.tup [.str "record", .int n, .ref t])) := ((x1.trans x2).trans e).trans ((ExM.new ft).trans (ExM.new fp))
      refine q _ p (.rcd n rs) x3 ((b3.new ft).new fp) ⟨t, SqT.of upd_same, SqZ.of nt (by rw [upd_ne np.symm]; exact upd_same)⟩ rfl ⟨?_, hrs⟩
      rw [List.length_map] at h2
      omega
  have c1' : ¬ v < 3 ∧ (v > 4 → ns.length ≠ 0) := by
    have c2 := Bool.eq_false_iff.mpr c1
    rw [Bool.or_eq_false_iff] at c2
    refine ⟨of_decide_eq_false c2.1, fun hv z => ?_⟩
    have := c2.2
    rw [decide_eq_true hv, decide_eq_true z] at this
    cases this
  refine ⟨_, rfl, _, _, rfl, rfl, _, rfl, ite2 (fun c2 => ?_) (fun c2 => ?_)⟩
  · -- a weak reference
    refine ⟨_, rfl, _, rfl, _, rfl, _, _, rfl, b, d, ds, a, ns, rfl, rfl, b1, N1, fun H2 r x2 b2 hr => ?_⟩
    refine ⟨sz (by show 3 ≤ 100000; decide), fun p fp => ?_⟩
    exact q _ p (.weak n r) ((x1.trans x2).trans (ExM.new fp)) (b2.new fp) (SqT.of upd_same) rfl hr
  -- a table
  have c2' : ¬ v < 5 := of_decide_eq_false (Bool.eq_false_iff.mpr c2)
  have hne : 0 < ns.length := by have := c1'.2 (by omega); omega
  refine ⟨Nat.zero_le _, fun l fl => ?_⟩
  have nl : l ∉ [b] := b1.ne fl
  refine ⟨_, rfl, _, _, rfl, b, d, ds, 4, rfl, rfl, by decide, b1.new fl, fun H2 k x2 b2 k0 k4 => ?_⟩
  have hl2 : H2 l = some (.lst []) := x2 l _ nl upd_same
  have e2 : ExM [b] H1 H2 := (ExM.new fl).trans x2
  refine ⟨k, rfl, by omega, by omega, ?_⟩
  refine for_range (lo := 0) (n := k.toNat) (fun t σ3 H3 => ∃ u4 u6 u7, σ3 = [some (.ref b), some (.int n), some (.ref a), some (.int v), u4, some (.ref l), u6, u7, none] ∧ ExM [b] H1 H3 ∧ Bx H3 b d ds ∧
      ∃ (rs : List Addr) (es : List (Int × Int)), H3 l = some (.lst (rs.map V.ref)) ∧ Paired (PairAt K H3) rs es ∧ es.length ≤ t ∧ (es.map (·.1)).Nodup ∧ ∀ e ∈ es, e.1 ∈ ns ∧ e.2 ∈ ns)
    ⟨none, none, none, rfl, e2, b2, [], [], hl2, .nil, Nat.le_refl _, List.nodup_nil, by simp⟩ (fun t σ3 H3 ht p => ?_) (fun σ3 H3 p => ?_)
  · obtain ⟨u4, u6, u7, rfl, e3, b3, rs, es, hl, hp, hz, hnd, hin⟩ := p
    have N3 := N1.keep e3
    refine ⟨_, rfl, _, rfl, _, _, rfl, b, d, ds, 1000, rfl, rfl, by decide, b3, fun H4 u x4 b4 u0 u1 => .inl ⟨_, rfl, ?_⟩⟩
    have N4 := N3.keep x4
    refine ⟨_, rfl, a, _, rfl, .inl N4.1, _, _, rfl, rfl, by rw [List.length_map]; omega, pick_ok N4.1 hne u fun key hkey => ?_⟩
    refine ⟨_, rfl, _, rfl, _, _, rfl, b, d, ds, 1000, rfl, rfl, by decide, b4, fun H5 u' x5 b5 u0' u1' => .inl ⟨_, rfl, ?_⟩⟩
    have N5 := N4.keep x5
    refine ⟨_, rfl, a, _, rfl, .inl N5.1, _, _, rfl, rfl, by rw [List.length_map]; omega, pick_ok N5.1 hne u' fun val hval => ?_⟩
    have x35 := x4.trans x5
    have hl5 : H5 l = some (.lst (rs.map V.ref)) := x35 l _ nl hl
    have hp5 : Paired (PairAt K H5) rs es := pmp hp fun _ _ z => PairAt.mono (b3.tk x35) z
    have e5 : ExM [b] H1 H5 := e3.trans x35
    have hlen := plen hp
    refine ⟨_, rfl, _, rfl, l, rfl, ⟨_, SqL.of hl5⟩, fun D hD => ?_⟩
    refine lcM [] (walk_list (xs := rs.map V.ref)) hD (fun i acc _ => acc = ((es.take i).map (·.1)).map V.int) rfl (fun H' e => SqL.of (ExA.at e hl5)) (fun i x H6 H7 acc hi e h1 h2 hacc y => ?_) (fun H6 acc e h1 h2 hacc => ?_)
    · obtain ⟨rfl, hx⟩ := y
      rw [List.length_map] at hi
      obtain ⟨r1, hr⟩ : ∃ r1, rs[i]? = some r1 := ⟨_, List.getElem?_eq_getElem hi⟩
      rw [List.getElem?_map, hr] at hx
      obtain rfl : V.ref r1 = x := Option.some.inj hx
      obtain ⟨e1, he1, hpa⟩ := pget hp5 hr
      refine ⟨rfl, tyes ⟨_, rfl, r1, _, _, _, rfl, rfl, Tk.all e _ _ hpa, at0, LcP.yes hD (by simp) (by omega) e h1 h2 (ExM.refl _ _) ?_⟩⟩
      rw [hacc, take_snoc he1, List.map_append, List.map_append]; rfl
    · rw [List.length_map, hlen, List.take_length] at hacc
      subst hacc
      refine ⟨D, _, rfl, .inl (SqL.of h1), rfl, flat_ints _, _, rfl, ?_⟩
      rw [if_pos rfl, inV_int]
      have hl6 := ExA.at e hl5
      have b6 := b5.keep e
      have hp6 : Paired (PairAt K H6) rs es := pmp hp5 fun _ _ z => PairAt.mono (Tk.all e) z
      have e6 : ExM [b] H1 H6 := e5.trans (ExM.of e)
      by_cases m : key ∈ es.map (·.1)
      · rw [decide_eq_true m]
        exact iteF ⟨_, _, _, rfl, e6, b6, rs, es, hl6, hp6, by omega, hnd, hin⟩
      · rw [decide_eq_false m]
        refine iteT ⟨_, rfl, .inl ⟨rfl, _, SqL.of hl6⟩, _, rfl, _, rfl, sz (by show 2 ≤ 100000; decide), fun r2 fr => ?_⟩
        have nr : l ≠ r2 := ne_of_none hl6 fr
        have hl7 : (upd H6 r2 (.tup [V.int key, V.int val])) l = some (.lst (rs.map V.ref)) := by rw [upd_ne nr]; exact hl6
        have hp7 : Paired (PairAt K (upd H6 r2 (.tup [V.int key, V.int val]))) (rs ++ [r2]) (es ++ [(key, val)]) := by
          have hq : Paired (PairAt K (upd H6 r2 (.tup [V.int key, V.int val]))) rs es := pmp hp6 fun _ _ z => PairAt.mono (Tk.new fr) z
          have hr : PairAt K (upd H6 r2 (.tup [V.int key, V.int val])) r2 (key, val) := SqT.of upd_same
          exact psnoc hr hq
        have zl : (rs.map V.ref).length < sizeLine := szl (by rw [List.length_map]; omega)
        refine ⟨l, _, _, rfl, rfl, hl7, zl, _, _, _, rfl, (e6.trans (ExM.new fr)).put fl, (b6.new fr).put b1 fl, rs ++ [r2], es ++ [(key, val)], ?_, ?_, ?_, ?_, ?_⟩
        · rw [upd_same, List.map_append]; rfl
        · exact pmp hp7 fun _ _ z => PairAt.mono (Tk.lst hl7) z
        · rw [List.length_append, List.length_singleton]; omega
        · rw [List.map_append]
          exact List.nodup_append.mpr ⟨hnd, by simp, fun x hx y hy z => m (by have : y = key := by simpa using hy
                                                                              rw [← this, ← z]; exact hx)⟩
        · intro e' he'
          rcases List.mem_append.mp he' with z | z
          · exact hin e' z
          · have : e' = (key, val) := by simpa using z
            rw [this]; exact ⟨hkey, hval⟩
  · obtain ⟨u4, u6, u7, rfl, e3, b3, rs, es, hl, hp, hz, hnd, hin⟩ := p
    refine ⟨_, rfl, _, rfl, l, _, rfl, SqL.of hl, fun t zt ft nt => ⟨sz (by show 3 ≤ 100000; decide), fun p fp => ?_⟩⟩
    have np : p ≠ t := fun z => by rw [z, upd_same] at fp; cases fp
    have tt : Tk K H3 (upd (upd H3 t (.frz zt (.tup (rs.map V.ref)))) p (.tup [.str "table", .int n, .ref t])) := Tk.trans (Tk.new ft) (Tk.new fp)
    refine q _ p (.tab n es) ((x1.trans e3).trans ((ExM.new ft).trans (ExM.new fp))) ((b3.new ft).new fp) ⟨t, rs, SqT.of upd_same, SqZ.of nt (by rw [upd_ne np.symm]; exact upd_same), pmp hp fun _ _ z => PairAt.mono tt z⟩ rfl ⟨by omega, hnd, hin⟩
end
end Wc
namespace Wc
open PySem L2
theorem KeysAt.keep {H H' : Hp} {g : Addr} {gs : List Int} (e : ExA H H') (h : KeysAt H g gs) : KeysAt H' g gs := let ⟨k, h1, h2⟩ := h; ⟨k, ExA.at e h1, h2⟩
/-- None if r in gone else r -/
theorem clr_elt {H : Hp} {σ : L2.St} {i j : Nat} {g : Addr} {gs : List Int} {r : Rf} {R : VK} (hi : σ[i]? = some (some (rV r))) (hj : σ[j]? = some (some (.ref g))) (h : KeysAt H g gs) (z : R (rV (clr gs r)) H) :
    tIf (tB (tDInN (tVar i) (tVar j))) (tC .non) (tVar i) σ H R := by
  obtain ⟨kvs, h1, h2⟩ := h
  refine ⟨_, hi, _, hj, ?_⟩
  cases r with
  | none => exact .inr ⟨g, kvs, rfl, rfl, .inl h1, _, rfl, iteF ⟨_, hi, z⟩⟩
  | some m =>
    refine .inl ⟨g, _, rfl, DGet.k (k := Sum.inl m) h1, _, rfl, ?_⟩
    rw [key_has h2 m]
    have z : R (rV (if decide (m ∈ gs) = true then none else some m)) H := z
    by_cases c : m ∈ gs
    · rw [decide_eq_true c]; rw [decide_eq_true c, if_pos rfl] at z; exact iteT z
    · rw [decide_eq_false c]; rw [decide_eq_false c, if_neg (by simp)] at z; exact iteF ⟨_, hi, z⟩
theorem gL {i : Nat} {v : V} {σ σ' : L2.St} {H : Hp} {Q : L2.St → Hp → Prop} (e : σ.set i (some v) = σ') (h : Q σ' H) : gName i v σ H Q := by subst e; exact h
theorem nxL {σ σ' : L2.St} {H : Hp} {R : L2.St → Hp → Prop} (e : σ = σ') (h : R σ' H) : R σ H := by subst e; exact h
section
variable (K : PySem.W.Frag)
def R_without : V2 := fun x y H Q => ∃ (a : Addr) (o : Ob) (g : Addr) (gs : List Int), x = .ref a ∧ y = .ref g ∧ ObAt K H a o ∧ o.small ∧ KeysAt H g gs ∧ ∀ H' p, ExA H H' → ObAt K H' p (dropOb gs o) → Q (.ref p) H'
abbrev sp_without : Sp := sp2 (R_without K)
def R_dropping : V2 := fun x y H Q => ∃ (a : Addr) (h : Hd) (g : Addr) (gs : List Int), x = .ref a ∧ y = .ref g ∧ HeapAt K H a h ∧ h.Ok ∧ KeysAt H g gs ∧ ∀ H' p, ExA H H' → HeapAt K H' p (drop h gs) → Q (.ref p) H'
abbrev sp_dropping : Sp := sp2 (R_dropping K)
end
section
variable {P : Program} {w : World} {K : PySem.W.Frag} {mg : Str → Option Value} {base : Heap}
theorem ok_without {f : Addr} {fd : FuncData} {cd : Value} (F : Df K "without" s_without f fd cd) (T : Txt mg) : FnOk P w K mg base CX0 1 f fd ["thing", "gone"] (sp_without K) := by
  have nd := sc_without.nd
  refine F.ok sc_without (fun vs H Q E h => ?_) (fun A outer s H vs Q E hr h => ?_)
  · obtain ⟨_, _, rfl, _⟩ := h; rfl
  have hu := hu_of hr
  obtain ⟨x0, x1, rfl, h⟩ := h
  refine ⟨_, (pss_cons (ps_asg (pv 0) (show PG _ _ (gTup K 3 _) from pg_tup rfl (pgs_cons (pg_name (i := 2) nd rfl (by first | exact Or.inl rfl | exact Or.inr rfl)) (pgs_cons (pg_name (i := 3) nd rfl (by first | exact Or.inl rfl | exact Or.inr rfl)) (pgs_cons (pg_name (i := 4) nd rfl (by first | exact Or.inl rfl | exact Or.inr rfl)) pgs_nil)))))
    (pss_cons (ps_if (pt_cmpR op_eq (pv 2) pe_str (nomark _)) (pss_one (ps_ret (pe_tup (pa_cons (pv 2) (pa_cons (pv 3) (pa_cons (pe_callTy (r := rTupZ K) call_tupleZ rfl T.tuple (by decide +kernel) (pa_cons (pe_lc (own := [("held", 5)]) rfl nd (show PI _ _ _ (iTup K _) from pi_tup (pv 4)) (blkOk_by (own := [("held", 5)]) (N := N_without) (sc := defScope s_without) (by decide +kernel)) (fun _ _ _ _ _ => (pg_name (i := 5) nd rfl (by first | exact Or.inl rfl | exact Or.inr rfl))) (fun _ _ _ _ _ => pts_nil) (fun _ _ _ _ _ => (pe_ifExp (pt_cmp (pc_dinN hu (pv 5) (pv 1)) rfl) pe_non (pv 5)))) pa_nil)) pa_nil)))))) pss_nil)
    (pss_cons (ps_if (pt_cmpR op_eq (pv 2) pe_str (nomark _)) (pss_one (ps_ret (pe_tup (pa_cons (pv 2) (pa_cons (pv 3) (pa_cons (pe_ifExp (pt_cmp (pc_dinN hu (pv 4) (pv 1)) rfl) pe_non (pv 4)) pa_nil)))))) pss_nil)
    (pss_cons (ps_setLc (i := 6) (own := [("key", 7), ("value", 8)]) rfl nd rfl rfl (sw_true rfl rfl rfl (by decide +kernel)) (show PI _ _ _ (iTup K _) from pi_tup (pv 4)) (blkOk_by (own := [("key", 7), ("value", 8)]) (N := N_without) (sc := defScope s_without) (by decide +kernel)) (fun _ _ _ _ _ => (show PG _ _ (gTup K 2 _) from pg_tup rfl (pgs_cons (pg_name (i := 7) nd rfl (by first | exact Or.inl rfl | exact Or.inr rfl)) (pgs_cons (pg_name (i := 8) nd rfl (by first | exact Or.inl rfl | exact Or.inr rfl)) pgs_nil)))) (fun _ _ _ _ _ => (pts_one (PW.pt (pw_and (pt_cmp (pc_dnotin hu (pv 7) (pv 1)) rfl) (pw_and1 (pt_cmp (pc_dnotin hu (pv 8) (pv 1)) rfl)))))) (fun _ _ _ _ _ => (pe_tup (pa_cons (pv 7) (pa_cons (pv 8) pa_nil)))))
    (pss_one (ps_ret (pe_tup (pa_cons (pv 2) (pa_cons (pv 3) (pa_cons (pe_callTy (r := rTupZ K) call_tupleZ rfl T.tuple (by decide +kernel) (pa_cons (pv 6) pa_nil)) pa_nil)))))))))), ?_⟩
  obtain ⟨a, o, g, gs, rfl, rfl, hO, sm, hg, q⟩ := h
  cases o with
  | rcd n fs =>
    obtain ⟨t, h1, h2⟩ := hO
    refine ⟨_, rfl, a, _, rfl, h1, rfl, _, _, rfl, _, _, rfl, _, _, rfl, rfl, ?_⟩
    refine ⟨_, rfl, rfl, _, rfl, iteT ?_⟩
    refine ⟨_, rfl, _, rfl, _, rfl, t, rfl, ⟨_, h2.sq⟩, fun D hD => ?_⟩
    refine lcF K rV fs (fun _ => true) _ walk_tup rfl (List.length_map _) (Nat.le_trans sm (by decide)) (fun r => rV (clr gs r)) hD (fun H' e => Tk.all e _ _ h2.sq) (fun r H5 _ _ R z => z) (fun _ => rfl) (fun r H5 _ _ R z => tyesR z)
      (fun r H5 _ _ e R z => clr_elt rfl rfl (hg.keep e) (z _ (ExM.refl _ _))) (fun H5 e5 hd => ?_)
    rw [filter_all] at hd
    refine ⟨D, _, rfl, SqL.of hd, fun l o fl no => ⟨sz (by show 3 ≤ 100000; decide), fun p fp => ?_⟩⟩
    have np : p ≠ l := fun z => by rw [z, upd_same] at fp; cases fp
    refine q _ p ((e5.put (ExA.free e5 fl)).trans (ExM.new fp)) ⟨l, SqT.of upd_same, ?_⟩
    refine SqZ.of no ?_
    rw [upd_ne np.symm, upd_same, List.map_map]; rfl
  | weak n t =>
    have h1 : SqT K H a [.str "weak", .int n, rV t] := hO
    refine ⟨_, rfl, a, _, rfl, h1, rfl, _, _, rfl, _, _, rfl, _, _, rfl, rfl, ?_⟩
    refine ⟨_, rfl, rfl, _, rfl, iteF ?_⟩
    refine ⟨_, rfl, rfl, _, rfl, iteT ?_⟩
    refine ⟨_, rfl, _, rfl, ?_⟩
    refine clr_elt rfl rfl hg ⟨sz (by show 3 ≤ 100000; decide), fun p fp => ?_⟩
    exact q _ p (ExM.new fp) (SqT.of upd_same)
  | tab n es =>
    obtain ⟨t, ps, h1, h2, h3⟩ := hO
    refine ⟨_, rfl, a, _, rfl, h1, rfl, _, _, rfl, _, _, rfl, _, _, rfl, rfl, ?_⟩
    refine ⟨_, rfl, rfl, _, rfl, iteF ?_⟩
    refine ⟨_, rfl, rfl, _, rfl, iteF ?_⟩
    refine ⟨_, rfl, t, rfl, ⟨_, h2.sq⟩, fun D hD => ?_⟩
    have zl := plen h3
    have sm' : es.length ≤ 1000 := sm
    refine lcR K (fun q : Addr × (Int × Int) => V.ref q.1) (ps.zip es) (fun q => decide (q.2.1 ∉ gs) && decide (q.2.2 ∉ gs)) (fun q y H => ∃ b, y = .ref b ∧ PairAt K H b q.2) _ walk_tup (zip_refs h3) (by rw [List.length_map, zip_len h3]) (by rw [zip_len h3]; omega) hD (fun H' e => Tk.all e _ _ h2.sq)
      (fun q y H1 H2 t z => by obtain ⟨b, rfl, z⟩ := z; exact ⟨b, rfl, PairAt.mono t z⟩) (fun q H5 hq e R z => ⟨q.1, _, rfl, Tk.all e _ _ (zip_all h3 q hq), rfl, _, _, rfl, _, _, rfl, rfl, z⟩) (fun _ => rfl)
      (fun q H5 hq e R z => ?_) (fun q H5 hq c e R z => ⟨_, rfl, _, rfl, sz (by show 2 ≤ 100000; decide), fun p fp => z _ _ (ExM.new fp) ⟨p, rfl, SqT.of upd_same⟩⟩) (fun H5 ys e5 hd hp5 => ?_)
    · obtain ⟨kvs, k1, k2⟩ := hg.keep e
      refine and_join (decide (q.2.1 ∉ gs)) (decide (q.2.2 ∉ gs)) (fun Q' z => ⟨_, rfl, _, rfl, g, _, rfl, DGet.k (k := Sum.inl q.2.1) k1, _, rfl, by rw [key_has k2, ← decide_not]; exact z⟩) (fun _ Q' z => ⟨_, rfl, _, rfl, g, _, rfl, DGet.k (k := Sum.inl q.2.2) k1, _, rfl, by rw [key_has k2, ← decide_not]; exact z⟩) (z _ (ExM.refl _ _))
    obtain ⟨bs, rfl, hbs⟩ := paired_refs hp5
    have hbs2 := paired_mapR (F := PairAt K H5) (fun q : Addr × (Int × Int) => q.2) hbs
    rw [zip_filter h3 (fun e => decide (e.1 ∉ gs) && decide (e.2 ∉ gs))] at hbs2
    refine ⟨_, rfl, _, rfl, _, rfl, D, _, rfl, SqL.of hd, fun l o fl no => ⟨sz (by show 3 ≤ 100000; decide), fun p fp => ?_⟩⟩
    have np : p ≠ l := fun z => by rw [z, upd_same] at fp; cases fp
    refine q _ p ((e5.put (ExA.free e5 fl)).trans (ExM.new fp)) ⟨l, bs, SqT.of upd_same, SqZ.of no (by rw [upd_ne np.symm]; exact upd_same), pmp hbs2 fun _ _ z => PairAt.mono (Tk.trans (Tk.new fl) (Tk.new fp)) z⟩
theorem ok_dropping {f : Addr} {fd : FuncData} {cd : Value} (F : Df K "dropping" s_dropping f fd cd) (T : Txt mg) (C_without : Cal P w K mg base 1 "without" (sp_without K) []) : FnOk P w K mg base CX0 2 f fd ["heap", "gone"] (sp_dropping K) := by
  have nd := sc_dropping.nd
  refine F.ok sc_dropping (fun vs H Q E h => ?_) (fun A outer s H vs Q E hr h => ?_)
  · obtain ⟨_, _, rfl, _⟩ := h; rfl
  have hu := hu_of hr
  obtain ⟨x0, x1, rfl, h⟩ := h
  refine ⟨_, (pss_cons (ps_asg (pv 0) (show PG _ _ (gTup K 6 _) from pg_tup rfl (pgs_cons (pg_name (i := 2) nd rfl (by first | exact Or.inl rfl | exact Or.inr rfl)) (pgs_cons (pg_name (i := 3) nd rfl (by first | exact Or.inl rfl | exact Or.inr rfl)) (pgs_cons (pg_name (i := 4) nd rfl (by first | exact Or.inl rfl | exact Or.inr rfl)) (pgs_cons (pg_name (i := 5) nd rfl (by first | exact Or.inl rfl | exact Or.inr rfl)) (pgs_cons (pg_name (i := 6) nd rfl (by first | exact Or.inl rfl | exact Or.inr rfl)) (pgs_cons (pg_name (i := 7) nd rfl (by first | exact Or.inl rfl | exact Or.inr rfl)) pgs_nil))))))))
    (pss_cons (ps_set (i := 8) nd rfl (by first | exact Or.inl rfl | exact Or.inr rfl) (pe_callTy (r := rTupZ K) call_tupleZ rfl T.tuple (by decide +kernel) (pa_cons (pe_lc (own := [("number", 9)]) rfl nd (show PI _ _ _ (iTup K _) from pi_tup (pv 4)) (blkOk_by (own := [("number", 9)]) (N := N_dropping) (sc := defScope s_dropping) (by decide +kernel)) (fun _ _ _ _ _ => (pg_name (i := 9) nd rfl (by first | exact Or.inl rfl | exact Or.inr rfl))) (fun _ _ _ _ _ => pts_nil) (fun _ _ _ _ _ => (pe_ifExp (pt_cmp (pc_dinN hu (pv 9) (pv 1)) rfl) pe_non (pv 9)))) pa_nil)))
    (pss_cons (ps_set (i := 10) nd rfl (by first | exact Or.inl rfl | exact Or.inr rfl) (pe_callTy (r := rTupZ K) call_tupleZ rfl T.tuple (by decide +kernel) (pa_cons (pe_lc (own := [("number", 9)]) rfl nd (show PI _ _ _ (iTup K _) from pi_tup (pv 5)) (blkOk_by (own := [("number", 9)]) (N := N_dropping) (sc := defScope s_dropping) (by decide +kernel)) (fun _ _ _ _ _ => (pg_name (i := 9) nd rfl (by first | exact Or.inl rfl | exact Or.inr rfl))) (fun _ _ _ _ _ => (pts_one (pt_cmp (pc_dnotin hu (pv 9) (pv 1)) rfl))) (fun _ _ _ _ _ => (pv 9))) pa_nil)))
    (pss_cons (ps_set (i := 11) nd rfl (by first | exact Or.inl rfl | exact Or.inr rfl) (pe_callTy (r := rTupZ K) call_tupleZ rfl T.tuple (by decide +kernel) (pa_cons (pe_lc (own := [("thing", 12)]) rfl nd (show PI _ _ _ (iTup K _) from pi_tup (pv 6)) (blkOk_by (own := [("thing", 12)]) (N := N_dropping) (sc := defScope s_dropping) (by decide +kernel)) (fun _ _ _ _ _ => (pg_name (i := 12) nd rfl (by first | exact Or.inl rfl | exact Or.inr rfl))) (fun _ _ _ _ _ => (pts_one (pt_cmp (pc_dnotin hu (pe_ix (r := rIxT K) ix_tup (pv 12) pe_int (fun _ _ => rfl)) (pv 1)) rfl))) (fun _ _ _ _ _ => (pe_c C_without hr (by first | exact Nat.le_refl _ | decide) rfl (pa_cons (pv 12) (pa_cons (pv 1) pa_nil))))) pa_nil)))
    (pss_cons (ps_set (i := 13) nd rfl (by first | exact Or.inl rfl | exact Or.inr rfl) (pe_callTy (r := rTupZ K) call_tupleZ rfl T.tuple (by decide +kernel) (pa_cons (pe_lc (own := [("number", 9), ("token", 14)]) rfl nd (show PI _ _ _ (iTup K _) from pi_tup (pv 7)) (blkOk_by (own := [("number", 9), ("token", 14)]) (N := N_dropping) (sc := defScope s_dropping) (by decide +kernel)) (fun _ _ _ _ _ => (show PG _ _ (gTup K 2 _) from pg_tup rfl (pgs_cons (pg_name (i := 9) nd rfl (by first | exact Or.inl rfl | exact Or.inr rfl)) (pgs_cons (pg_name (i := 14) nd rfl (by first | exact Or.inl rfl | exact Or.inr rfl)) pgs_nil)))) (fun _ _ _ _ _ => (pts_one (pt_cmp (pc_dnotin hu (pv 9) (pv 1)) rfl))) (fun _ _ _ _ _ => (pe_tup (pa_cons (pv 9) (pa_cons (pv 14) pa_nil))))) pa_nil)))
    (pss_one (ps_ret (pe_tup (pa_cons (pv 2) (pa_cons (pv 3) (pa_cons (pv 8) (pa_cons (pv 10) (pa_cons (pv 11) (pa_cons (pv 13) pa_nil)))))))))))))), ?_⟩
  obtain ⟨a, h, g, gs, rfl, rfl, hA, ok, hg, q⟩ := h
  obtain ⟨r, k, o, w, ws, h1, h2, h3, ⟨os, ho, hobs⟩, h5, h6⟩ := id hA
  refine ⟨_, rfl, a, _, rfl, h1, rfl, _, _, rfl, _, _, rfl, _, _, rfl, _, _, rfl, _, _, rfl, _, _, rfl, rfl, ?_⟩
  refine nxL (σ' := [some (.ref a), some (.ref g), some (.str "heap"), some (.int h.nx), some (.ref r), some (.ref k), some (.ref o), some (.ref w), none, none, none, none, none, none, none]) rfl ?_
  -- the registers
  refine ⟨_, rfl, r, rfl, ⟨_, h2.sq⟩, fun D hD => ?_⟩
  refine lcF K rV h.regs (fun _ => true) _ walk_tup rfl (List.length_map _) (Nat.le_trans ok.nreg (by decide)) (fun r => rV (clr gs r)) hD (fun H' e => Tk.all e _ _ h2.sq) (fun r H5 _ _ R z => z) (fun _ => rfl) (fun r H5 _ _ R z => tyesR z)
    (fun r H5 _ _ e R z => clr_elt rfl rfl (hg.keep e) (z _ (ExM.refl _ _))) (fun H2 e2 hd => ?_)
  rw [filter_all] at hd
  refine ⟨D, _, rfl, SqL.of hd, fun l1 o1 fl1 no1 => ?_⟩
  have eA : ExA H (upd H2 l1 (.frz o1 (.tup (h.regs.map fun r => rV (clr gs r))))) := e2.put (ExA.free e2 fl1)
  have hA1 : SqZ (upd H2 l1 (.frz o1 (.tup (h.regs.map fun r => rV (clr gs r))))) l1 ((h.regs.map (clr gs)).map rV) := SqZ.of no1 (by rw [upd_same, List.map_map]; rfl)
  generalize upd H2 l1 (.frz o1 (.tup (h.regs.map fun r => rV (clr gs r)))) = Ha at eA hA1
  refine gL (σ' := [some (.ref a), some (.ref g), some (.str "heap"), some (.int h.nx), some (.ref r), some (.ref k), some (.ref o), some (.ref w), some (.ref l1), none, none, none, none, none, none]) rfl ?_
  -- what is kept
  have hka := Tk.all eA _ _ h3
  have zk : h.kept.length ≤ 1000 := by
    have z1 := nd_sub (nodup_of_up ok.kup) ok.kept
    have := ok.size
    unfold Hd.nums at z1
    rw [List.length_map] at z1
    omega
  refine ⟨_, rfl, k, rfl, ⟨_, hka⟩, fun D2 hD2 => ?_⟩
  refine lcF K V.int h.kept (fun n => decide (n ∉ gs)) _ walk_tup rfl (List.length_map _) (by omega) V.int hD2 (fun H' e => Tk.all e _ _ hka) (fun r H5 _ _ R z => z) (fun _ => rfl)
    (fun n H5 _ e R z => ?_) (fun n H5 _ _ _ R z => ⟨_, rfl, z _ (ExM.refl _ _)⟩) (fun H3 e3 hd2 => ?_)
  · obtain ⟨kvs, k1, k2⟩ := hg.keep (eA.trans e)
    exact ⟨_, rfl, _, rfl, g, _, rfl, DGet.k (k := Sum.inl n) k1, _, rfl, by rw [key_has k2, ← decide_not]; exact z _ (ExM.refl _ _)⟩
  refine ⟨D2, _, rfl, SqL.of hd2, fun l2 o2 fl2 no2 => ?_⟩
  have eB : ExA Ha (upd H3 l2 (.frz o2 (.tup ((h.kept.filter fun n => decide (n ∉ gs)).map V.int)))) := e3.put (ExA.free e3 fl2)
  have hB1 : SqT K (upd H3 l2 (.frz o2 (.tup ((h.kept.filter fun n => decide (n ∉ gs)).map V.int)))) l2 ((h.kept.filter fun n => decide (n ∉ gs)).map V.int) := (SqZ.of no2 upd_same).sq
  generalize upd H3 l2 (.frz o2 (.tup ((h.kept.filter fun n => decide (n ∉ gs)).map V.int))) = Hb at eB hB1
  refine gL (σ' := [some (.ref a), some (.ref g), some (.str "heap"), some (.int h.nx), some (.ref r), some (.ref k), some (.ref o), some (.ref w), some (.ref l1), none, some (.ref l2), none, none, none, none]) rfl ?_
  -- the objects
  have eAB := ExM.trans eA eB
  have hob := Tk.all eAB _ _ ho
  have hobsb : Paired (ObAt K Hb) os h.obs := pmp hobs fun _ _ z => ObAt.mono (Tk.all eAB) z
  refine ⟨_, rfl, o, rfl, ⟨_, hob⟩, fun D3 hD3 => ?_⟩
  refine lcR K (fun q : Addr × Ob => V.ref q.1) (os.zip h.obs) (fun q => decide (q.2.num ∉ gs)) (fun q y H => ∃ b, y = .ref b ∧ ObAt K H b (dropOb gs q.2)) _ walk_tup (zip_refs hobsb) (by rw [List.length_map, zip_len hobsb]) (by rw [zip_len hobsb, plen hobsb]; have := ok.size; omega) hD3 (fun H' e => Tk.all e _ _ hob)
    (fun q y H1 H2 t z => by obtain ⟨b, rfl, z⟩ := z; exact ⟨b, rfl, ObAt.mono t z⟩) (fun q H5 hq e R z => z) (fun _ => rfl)
    (fun q H5 hq e R z => ?_) (fun q H5 hq c e R z => ?_) (fun H5 ys e5 hd3 hp5 => ?_)
  · obtain ⟨kvs, k1, k2⟩ := hg.keep (eAB.trans e)
    obtain ⟨kn, vn, hn⟩ := (ObAt.mono (Tk.all e) (zip_all hobsb q hq)).num
    exact ⟨_, rfl, q.1, _, _, _, rfl, rfl, hn, at1, _, rfl, g, _, rfl, DGet.k (k := Sum.inl q.2.num) k1, _, rfl, by rw [key_has k2, ← decide_not]; exact z _ (ExM.refl _ _)⟩
  · exact ⟨_, rfl, _, rfl, _, _, rfl, q.1, q.2, g, gs, rfl, rfl, ObAt.mono (Tk.all e) (zip_all hobsb q hq), (ok.obs _ (List.of_mem_zip hq).2).small, hg.keep (eAB.trans e), fun H6 p e6 hp => z _ _ e6 ⟨p, rfl, hp⟩⟩
  obtain ⟨bs, rfl, hbs⟩ := paired_refs hp5
  have hbs2 := paired_mapR (F := ObAt K H5) (fun q : Addr × Ob => dropOb gs q.2) hbs
  rw [zip_filter_map hobsb (fun o => decide (o.num ∉ gs)) (dropOb gs)] at hbs2
  refine ⟨D3, _, rfl, SqL.of hd3, fun l3 o3 fl3 no3 => ?_⟩
  have eC : ExA Hb (upd H5 l3 (.frz o3 (.tup (bs.map V.ref)))) := e5.put (ExA.free e5 fl3)
  have hC1 : SqT K (upd H5 l3 (.frz o3 (.tup (bs.map V.ref)))) l3 (bs.map V.ref) := (SqZ.of no3 upd_same).sq
  have hC2 : Paired (ObAt K (upd H5 l3 (.frz o3 (.tup (bs.map V.ref))))) bs ((h.obs.filter fun o => decide (o.num ∉ gs)).map (dropOb gs)) := pmp hbs2 fun _ _ z => ObAt.mono (Tk.new fl3) z
  generalize upd H5 l3 (.frz o3 (.tup (bs.map V.ref))) = Hc at eC hC1 hC2
  refine gL (σ' := [some (.ref a), some (.ref g), some (.str "heap"), some (.int h.nx), some (.ref r), some (.ref k), some (.ref o), some (.ref w), some (.ref l1), none, some (.ref l2), some (.ref l3), none, none, none]) rfl ?_
  -- the watches
  have eABC := eAB.trans eC
  have hwc := Tk.all eABC _ _ h5
  have hwsc : Paired (PairAt K Hc) ws h.wat := pmp h6 fun _ _ z => PairAt.mono (Tk.all eABC) z
  refine ⟨_, rfl, w, rfl, ⟨_, hwc⟩, fun D4 hD4 => ?_⟩
  refine lcR K (fun q : Addr × (Int × Int) => V.ref q.1) (ws.zip h.wat) (fun q => decide (q.2.1 ∉ gs)) (fun q y H => ∃ b, y = .ref b ∧ PairAt K H b q.2) _ walk_tup (zip_refs hwsc) (by rw [List.length_map, zip_len hwsc]) (by rw [zip_len hwsc, plen hwsc]; have := ok.nwat; omega) hD4 (fun H' e => Tk.all e _ _ hwc)
    (fun q y H1 H2 t z => by obtain ⟨b, rfl, z⟩ := z; exact ⟨b, rfl, PairAt.mono t z⟩) (fun q H5 hq e R z => ⟨q.1, _, rfl, Tk.all e _ _ (zip_all hwsc q hq), rfl, _, _, rfl, _, _, rfl, rfl, z⟩) (fun _ => rfl)
    (fun q H5 hq e R z => ?_) (fun q H5 hq c e R z => ⟨_, rfl, _, rfl, sz (by show 2 ≤ 100000; decide), fun p fp => z _ _ (ExM.new fp) ⟨p, rfl, SqT.of upd_same⟩⟩) (fun H6 ys e6 hd4 hp6 => ?_)
  · obtain ⟨kvs, k1, k2⟩ := hg.keep (eABC.trans e)
    exact ⟨_, rfl, _, rfl, g, _, rfl, DGet.k (k := Sum.inl q.2.1) k1, _, rfl, by rw [key_has k2, ← decide_not]; exact z _ (ExM.refl _ _)⟩
  obtain ⟨vs, rfl, hvs⟩ := paired_refs hp6
  have hvs2 := paired_mapR (F := PairAt K H6) (fun q : Addr × (Int × Int) => q.2) hvs
  rw [zip_filter hwsc (fun e => decide (e.1 ∉ gs))] at hvs2
  refine ⟨D4, _, rfl, SqL.of hd4, fun l4 o4 fl4 no4 => ?_⟩
  have eD : ExA Hc (upd H6 l4 (.frz o4 (.tup (vs.map V.ref)))) := e6.put (ExA.free e6 fl4)
  have hD1 : SqT K (upd H6 l4 (.frz o4 (.tup (vs.map V.ref)))) l4 (vs.map V.ref) := (SqZ.of no4 upd_same).sq
  have hD2 : Paired (PairAt K (upd H6 l4 (.frz o4 (.tup (vs.map V.ref))))) vs (h.wat.filter fun e => decide (e.1 ∉ gs)) := pmp hvs2 fun _ _ z => PairAt.mono (Tk.new fl4) z
  generalize upd H6 l4 (.frz o4 (.tup (vs.map V.ref))) = Hd' at eD hD1 hD2
  refine ⟨_, rfl, _, rfl, _, rfl, _, rfl, _, rfl, _, rfl, sz (by show 6 ≤ 100000; decide), fun p fp => ?_⟩
  have tp : Tk K Hd' (upd Hd' p (.tup [.str "heap", .int h.nx, .ref l1, .ref l2, .ref l3, .ref l4])) := Tk.new fp
  have tC : Tk K Hc (upd Hd' p (.tup [.str "heap", .int h.nx, .ref l1, .ref l2, .ref l3, .ref l4])) := Tk.trans (Tk.all eD) tp
  have tB : Tk K Hb (upd Hd' p (.tup [.str "heap", .int h.nx, .ref l1, .ref l2, .ref l3, .ref l4])) := Tk.trans (Tk.all eC) tC
  have tA : Tk K Ha (upd Hd' p (.tup [.str "heap", .int h.nx, .ref l1, .ref l2, .ref l3, .ref l4])) := Tk.trans (Tk.all eB) tB
  exact q _ p ((eABC.trans eD).trans (ExM.new fp)) ⟨l1, l2, l3, l4, vs, SqT.of upd_same, hA1.mono tA, tB _ _ hB1, ⟨bs, tC _ _ hC1, pmp hC2 fun _ _ z => ObAt.mono tC z⟩, tp _ _ hD1, pmp hD2 fun _ _ z => PairAt.mono tp z⟩
end
end Wc
namespace Wc
open PySem L2
section
variable {P : Program} {w : World} {K : PySem.W.Frag} {mg : Str → Option Value} {base : Heap}
theorem ok__law_heap {f : Addr} {fd : FuncData} {cd : Value} (F : Df K "_law_heap" s__law_heap f fd cd) (T : Txt mg) (C__law_draw : Cal P w K mg base 1 "_law_draw" (sp__law_draw K) []) (C__law_number : Cal P w K mg base 2 "_law_number" (sp__law_number K) []) (C__law_object : Cal P w K mg base 3 "_law_object" (sp__law_object K) []) : FnOk P w K mg base CX0 4 f fd ["box", "most"] (sp__law_heap K) := by
  have nd := sc__law_heap.nd
  refine F.ok sc__law_heap (fun vs H Q E h => ?_) (fun A outer s H vs Q E hr h => ?_)
  · obtain ⟨_, _, rfl, _⟩ := h; rfl
  have hu := hu_of hr
  obtain ⟨x0, x1, rfl, h⟩ := h
  refine ⟨_, (pss_cons (ps_set (i := 2) nd rfl (by first | exact Or.inl rfl | exact Or.inr rfl) (pe_c C__law_draw hr (by first | exact Nat.le_refl _ | decide) rfl (pa_cons (pv 0) (pa_cons (pe_op op_add (pv 1) pe_int) pa_nil))))
    (pss_cons (ps_set (i := 3) nd rfl (by first | exact Or.inl rfl | exact Or.inr rfl) (pe_lst pa_nil))
    (pss_cons (ps_set (i := 4) nd rfl (by first | exact Or.inl rfl | exact Or.inr rfl) pe_int)
    (pss_cons (ps_for PassesOwn.never rfl (pi_range1 rfl T.range (pa_cons (pv 2) pa_nil)) (pg_name (i := 5) nd rfl (by first | exact Or.inl rfl | exact Or.inr rfl))
    (pss_cons (ps_set (i := 4) nd rfl (by first | exact Or.inl rfl | exact Or.inr rfl) (pe_op op_add (pv 4) (pe_ix (r := rIxL K) ix_list (pe_lst (pa_cons pe_int (pa_cons pe_int (pa_cons pe_int (pa_cons pe_int pa_nil))))) (pe_c C__law_draw hr (by first | exact Nat.le_refl _ | decide) rfl (pa_cons (pv 0) (pa_cons pe_int pa_nil))) (fun _ _ => rfl))))
    (pss_cons (ps_expr (pe_bm PySem.F.plainAttrs_list PySem.F.slot_list_append PySem.F.type_list_append mt_append (pv 3) (pa_cons (pv 4) pa_nil)))
    (pss_one (ps_set (i := 4) nd rfl (by first | exact Or.inl rfl | exact Or.inr rfl) (pe_op op_add (pv 4) pe_int))))))
    (pss_cons (ps_set (i := 6) nd rfl (by first | exact Or.inl rfl | exact Or.inr rfl) (pe_callTy (r := rTupZ K) call_tupleZ rfl T.tuple (by decide +kernel) (pa_cons (pe_lc (own := [("number", 7)]) rfl nd (show PI _ _ _ (iList K _) from pi_list (pv 3)) (blkOk_by (own := [("number", 7)]) (N := N__law_heap) (sc := defScope s__law_heap) (by decide +kernel)) (fun _ _ _ _ _ => (pg_name (i := 7) nd rfl (by first | exact Or.inl rfl | exact Or.inr rfl))) (fun _ _ _ _ _ => pts_nil) (fun _ _ _ _ _ => (pe_c C__law_object hr (by first | exact Nat.le_refl _ | decide) rfl (pa_cons (pv 0) (pa_cons (pv 7) (pa_cons (pv 3) pa_nil)))))) pa_nil)))
    (pss_cons (ps_set (i := 8) nd rfl (by first | exact Or.inl rfl | exact Or.inr rfl) (pe_callTy (r := rTupZ K) call_tupleZ rfl T.tuple (by decide +kernel) (pa_cons (pe_lc (own := [("k", 5)]) rfl nd (pi_range1 rfl T.range (pa_cons (pe_op op_add pe_int (pe_c C__law_draw hr (by first | exact Nat.le_refl _ | decide) rfl (pa_cons (pv 0) (pa_cons pe_int pa_nil)))) pa_nil)) (blkOk_by (own := [("k", 5)]) (N := N__law_heap) (sc := defScope s__law_heap) (by decide +kernel)) (fun _ _ _ _ _ => (pg_name (i := 5) nd rfl (by first | exact Or.inl rfl | exact Or.inr rfl))) (fun _ _ _ _ _ => pts_nil) (fun _ _ _ _ _ => (pe_c C__law_number hr (by first | exact Nat.le_refl _ | decide) rfl (pa_cons (pv 0) (pa_cons (pv 3) pa_nil))))) pa_nil)))
    (pss_cons (ps_set (i := 9) nd rfl (by first | exact Or.inl rfl | exact Or.inr rfl) (pe_callTy (r := rTupZ K) call_tupleZ rfl T.tuple (by decide +kernel) (pa_cons (pe_lc (own := [("number", 7)]) rfl nd (show PI _ _ _ (iList K _) from pi_list (pv 3)) (blkOk_by (own := [("number", 7)]) (N := N__law_heap) (sc := defScope s__law_heap) (by decide +kernel)) (fun _ _ _ _ _ => (pg_name (i := 7) nd rfl (by first | exact Or.inl rfl | exact Or.inr rfl))) (fun _ _ _ _ _ => (pts_one (pt_cmpR op_eq (pe_c C__law_draw hr (by first | exact Nat.le_refl _ | decide) rfl (pa_cons (pv 0) (pa_cons pe_int pa_nil))) pe_int (nomark _)))) (fun _ _ _ _ _ => (pv 7))) pa_nil)))
    (pss_cons (ps_set (i := 10) nd rfl (by first | exact Or.inl rfl | exact Or.inr rfl) (pe_lst pa_nil))
    (pss_cons (ps_for PassesOwn.never rfl (show PI _ _ _ (iList K _) from pi_list (pv 3)) (pg_name (i := 7) nd rfl (by first | exact Or.inl rfl | exact Or.inr rfl))
    (pss_one (ps_if (pt_cmpR op_eq (pe_c C__law_draw hr (by first | exact Nat.le_refl _ | decide) rfl (pa_cons (pv 0) (pa_cons pe_int pa_nil))) pe_int (nomark _)) (pss_one (ps_expr (pe_bm PySem.F.plainAttrs_list PySem.F.slot_list_append PySem.F.type_list_append mt_append (pv 10) (pa_cons (pe_tup (pa_cons (pv 7) (pa_cons (pe_op op_add pe_int (pe_c C__law_draw hr (by first | exact Nat.le_refl _ | decide) rfl (pa_cons (pv 0) (pa_cons pe_int pa_nil)))) pa_nil))) pa_nil)))) pss_nil)))
    (pss_one (ps_ret (pe_tup (pa_cons pe_str (pa_cons (pe_op op_add (pv 4) (pe_c C__law_draw hr (by first | exact Nat.le_refl _ | decide) rfl (pa_cons (pv 0) (pa_cons pe_int pa_nil)))) (pa_cons (pv 8) (pa_cons (pv 9) (pa_cons (pv 6) (pa_cons (pe_callTy (r := rTupZ K) call_tupleZ rfl T.tuple (by decide +kernel) (pa_cons (pv 10) pa_nil)) pa_nil)))))))))))))))))), ?_⟩
  obtain ⟨b, d, ds, m, rfl, rfl, m0, m49, hb, q⟩ := h
  refine ⟨_, rfl, _, rfl, _, _, rfl, rfl, _, _, rfl, b, d, ds, m + 1, rfl, rfl, by omega, hb, fun H1 many x1 b1 v0 v1 => ?_⟩
  refine ⟨Nat.zero_le _, fun l fl => ?_⟩
  have nl : l ∉ [b] := b1.ne fl
  refine ⟨_, rfl, many, rfl, by omega, by omega, ?_⟩
  refine for_range (lo := 0) (n := many.toNat) (fun t σ2 H2 => ∃ (at_ : Int) (u5 : Option V), σ2 = [some (.ref b), some (.int m), some (.int many), some (.ref l), some (.int at_), u5, none, none, none, none, none] ∧ ExM [b] H1 H2 ∧ Bx H2 b d ds ∧
      ∃ ns : List Int, H2 l = some (.lst (ns.map V.int)) ∧ ns.length = t ∧ ns.Pairwise (· < ·) ∧ (∀ n ∈ ns, 0 ≤ n ∧ n < at_) ∧ 0 ≤ at_ ∧ at_ ≤ 3 * t)
    ⟨0, none, rfl, ExM.new fl, b1.new fl, [], upd_same, rfl, .nil, by simp, Int.le_refl 0, by simp⟩ (fun t σ2 H2 ht p => ?_) (fun σ2 H2 p => ?_)
  · obtain ⟨at_, u5, rfl, e2, b2, ns, hl, hz, hup, hlow, a0, a3⟩ := p
    refine ⟨_, rfl, sz (by show 4 ≤ 100000; decide), fun p fp => ?_⟩
    refine ⟨_, rfl, _, _, rfl, b, d, ds, 4, rfl, rfl, by decide, b2.new fp, fun H3 v x3 b3 v0 v4 => ?_⟩
    have np : p ∉ [b] := b2.ne fp
    obtain ⟨w, hw, w0, w2⟩ : ∃ w : Int, atI [V.int 0, V.int 0, V.int 0, V.int 2] v = some (.int w) ∧ 0 ≤ w ∧ w ≤ 2 := by
      have c : v = 0 ∨ v = 1 ∨ v = 2 ∨ v = 3 := by omega
      rcases c with rfl | rfl | rfl | rfl
      · exact ⟨0, at0, by decide, by decide⟩
      · exact ⟨0, at1, by decide, by decide⟩
      · exact ⟨0, at2, by decide, by decide⟩
      · exact ⟨2, at3, by decide, by decide⟩
    refine ⟨p, _, _, _, rfl, rfl, SqL.of (x3 p _ np upd_same), hw, _, _, rfl, rfl, ?_⟩
    have hl3 : H3 l = some (.lst (ns.map V.int)) := x3 l _ nl (by rw [upd_ne (ne_of_none hl fp)]; exact hl)
    have e3 : ExM [b] H1 H3 := (e2.trans (ExM.new fp)).trans x3
    refine ⟨_, rfl, .inl ⟨rfl, _, SqL.of hl3⟩, _, rfl, l, _, _, rfl, rfl, hl3, szl (by rw [List.length_map]; omega), ?_⟩
    refine ⟨_, rfl, _, _, rfl, rfl, at_ + w + 1, _, rfl, e3.put fl, b3.put b1 fl, ns ++ [at_ + w], ?_, ?_, ?_, ?_, by omega, by omega⟩
    · rw [upd_same, List.map_append]; rfl
    · rw [List.length_append, List.length_singleton, hz]
    · refine List.pairwise_append.mpr ⟨hup, List.pairwise_singleton _ _, fun x hx y hy => ?_⟩
      have : y = at_ + w := by simpa using hy
      have := (hlow x hx).2
      omega
    · intro n hn
      rcases List.mem_append.mp hn with z | z
      · have := hlow n z; omega
      · have : n = at_ + w := by simpa using z
        omega
  obtain ⟨at_, u5, rfl, e2, b2, ns, hl, hz, hup, hlow, a0, a3⟩ := p
  have zn : ns.length ≤ 49 := by omega
  have N2 : Nm K H2 b l ns := ⟨SqL.of hl, nl⟩
  -- the objects
  refine ⟨_, rfl, l, rfl, ⟨_, SqL.of hl⟩, fun D fD => ?_⟩
  have nD : D ∉ [b] := b2.ne fD
  refine lcM [b] (walk_list (xs := ns.map V.int)) fD (fun i acc H' => Bx H' b d ds ∧ ∃ (os : List Addr) (obs : List Ob), acc = os.map V.ref ∧ Paired (ObAt K H') os obs ∧ obs.map Ob.num = ns.take i ∧ ∀ o ∈ obs, o.ok ns)
    ⟨b2.new fD, [], [], rfl, .nil, rfl, by simp⟩ (fun H' e => (N2.keep e).1) (fun i x H3 H4 acc hi e h1 h2 hacc y => ?_) (fun H3 acc e h1 h2 hacc => ?_)
  · obtain ⟨rfl, hx⟩ := y
    rw [List.length_map] at hi
    obtain ⟨n, hn⟩ : ∃ n, ns[i]? = some n := ⟨_, List.getElem?_eq_getElem hi⟩
    rw [List.getElem?_map, hn] at hx
    obtain rfl : V.int n = x := Option.some.inj hx
    obtain ⟨b3, os, obs, rfl, hp, hnum, hok⟩ := hacc
    refine ⟨rfl, tyes ⟨_, rfl, _, rfl, _, rfl, _, _, _, rfl, b, d, ds, n, l, ns, rfl, rfl, rfl, b3, N2.keep e, fun H5 p o x5 b5 ho hon hok5 => ?_⟩⟩
    refine LcP.yes fD nD (by omega) e h1 h2 x5 ⟨b5.put b2 fD, os ++ [p], obs ++ [o], by rw [List.map_append]; rfl, ?_, ?_, ?_⟩
    · have t5 : Tk K H4 (upd H5 D (.lst (os.map V.ref ++ [V.ref p]))) := Tk.trans (b3.tk x5) (Tk.lst (x5 D _ nD h1))
      have hq : Paired (ObAt K (upd H5 D (.lst (os.map V.ref ++ [V.ref p])))) os obs := pmp hp fun _ _ z => ObAt.mono t5 z
      have hr : ObAt K (upd H5 D (.lst (os.map V.ref ++ [V.ref p]))) p o := ObAt.mono (Tk.lst (x5 D _ nD h1)) ho
      exact psnoc hr hq
    · rw [List.map_append, hnum, take_snoc hn, ← hon]; rfl
    · intro o' ho'
      rcases List.mem_append.mp ho' with z | z
      · exact hok o' z
      · have : o' = o := by simpa using z
        rw [this]; exact hok5
  obtain ⟨b3, os, obs, rfl, hobs, hnum, hok⟩ := hacc
  rw [List.length_map, List.take_length] at hnum
  refine ⟨D, _, rfl, SqL.of h1, fun o zo fo no => ?_⟩
  have x4 : ExM [b] H2 (upd H3 o (.frz zo (.tup (os.map V.ref)))) := e.trans (ExM.new fo)
  have b4 : Bx (upd H3 o (.frz zo (.tup (os.map V.ref)))) b d ds := b3.new fo
  have ho4 : SqT K (upd H3 o (.frz zo (.tup (os.map V.ref)))) o (os.map V.ref) := (SqZ.of no upd_same).sq
  have hobs4 : Paired (ObAt K (upd H3 o (.frz zo (.tup (os.map V.ref))))) os obs := pmp hobs fun _ _ z => ObAt.mono (Tk.new fo) z
  generalize upd H3 o (.frz zo (.tup (os.map V.ref))) = H4 at x4 b4 ho4 hobs4 ⊢
  have N4 := N2.keep x4
  -- the registers
  refine ⟨_, rfl, _, _, rfl, b, d, ds, 3, rfl, rfl, by decide, b4, fun H5 k x5 b5 k0 k3 => ?_⟩
  have N5 := N4.keep x5
  refine ⟨_, _, rfl, rfl, 1 + k, rfl, by omega, by omega, fun D2 fD2 => ?_⟩
  have nD2 : D2 ∉ [b] := b5.ne fD2
  refine lcM [b] (walk_range (lo := 0) (n := (1 + k).toNat)) fD2 (fun i acc H' => Bx H' b d ds ∧ ∃ rs : List Rf, acc = rs.map rV ∧ rs.length = i ∧ ∀ r ∈ rs, Rf.ok ns r) ⟨b5.new fD2, [], rfl, rfl, by simp⟩ (fun _ _ => trivial) (fun i x H6 H7 acc hi e h1 h2 hacc y => ?_) (fun H6 acc e6 h1 h2 hacc => ?_)
  · obtain ⟨rfl, rfl⟩ := y
    obtain ⟨b6, rs, rfl, hrl, hrs⟩ := hacc
    refine ⟨rfl, tyes ⟨_, rfl, _, rfl, _, _, rfl, b, d, ds, l, ns, rfl, rfl, b6, N5.keep e, fun H8 r x8 b8 hr => ?_⟩⟩
    refine LcP.yes fD2 nD2 (by omega) e h1 h2 x8 ⟨b8.put b5 fD2, rs ++ [r], by rw [List.map_append]; rfl, by rw [List.length_append, List.length_singleton, hrl], fun r' hr' => ?_⟩
    rcases List.mem_append.mp hr' with z | z
    · exact hrs r' z
    · have : r' = r := by simpa using z
      rw [this]; exact hr
  obtain ⟨b6, rs, rfl, hrl, hrs⟩ := hacc
  refine ⟨D2, _, rfl, SqL.of h1, fun r zr fr nr => ?_⟩
  have x7 : ExM [b] H4 (upd H6 r (.frz zr (.tup (rs.map rV)))) := (x5.trans e6).trans (ExM.new fr)
  have b7 : Bx (upd H6 r (.frz zr (.tup (rs.map rV)))) b d ds := b6.new fr
  have hr7 : SqZ (upd H6 r (.frz zr (.tup (rs.map rV)))) r (rs.map rV) := SqZ.of nr upd_same
  generalize upd H6 r (.frz zr (.tup (rs.map rV))) = H7 at x7 b7 hr7 ⊢
  have N7 := N4.keep x7
  -- what is kept
  refine ⟨_, rfl, l, rfl, ⟨_, N7.1⟩, fun D3 fD3 => ?_⟩
  have nD3 : D3 ∉ [b] := b7.ne fD3
  refine lcM [b] (walk_list (xs := ns.map V.int)) fD3 (fun i acc H' => Bx H' b d ds ∧ ∃ ms : List Int, acc = ms.map V.int ∧ ms.Sublist (ns.take i)) ⟨b7.new fD3, [], rfl, by simp⟩ (fun H' e => (N7.keep e).1) (fun i x H8 H9 acc hi e h1 h2 hacc y => ?_) (fun H8 acc e8 h1 h2 hacc => ?_)
  · obtain ⟨rfl, hx⟩ := y
    rw [List.length_map] at hi
    obtain ⟨n, hn⟩ : ∃ n, ns[i]? = some n := ⟨_, List.getElem?_eq_getElem hi⟩
    rw [List.getElem?_map, hn] at hx
    obtain rfl : V.int n = x := Option.some.inj hx
    obtain ⟨b8, ms, rfl, hms⟩ := hacc
    refine ⟨rfl, _, rfl, _, _, rfl, b, d, ds, 6, rfl, rfl, by decide, b8, fun Ha v xa ba v0 v2 => ⟨rfl, _, rfl, ite2 (fun _ => ?_) (fun _ => ?_)⟩⟩
    · refine ⟨_, rfl, LcP.yes fD3 nD3 (by omega) e h1 h2 xa ⟨ba.put b7 fD3, ms ++ [n], by rw [List.map_append]; rfl, ?_⟩⟩
      rw [take_snoc hn]; exact hms.append (List.Sublist.refl _)
    · refine LcP.no nD3 e h1 h2 xa ⟨ba, ms, rfl, ?_⟩
      rw [take_snoc hn]; exact hms.trans (List.sublist_append_left _ _)
  obtain ⟨b8, ks, rfl, hks⟩ := hacc
  rw [List.length_map, List.take_length] at hks
  refine ⟨D3, _, rfl, SqL.of h1, fun kp zk fk nk => ?_⟩
  have x9 : ExM [b] H7 (upd H8 kp (.frz zk (.tup (ks.map V.int)))) := e8.trans (ExM.new fk)
  have b9 : Bx (upd H8 kp (.frz zk (.tup (ks.map V.int)))) b d ds := b8.new fk
  have hk9 : SqT K (upd H8 kp (.frz zk (.tup (ks.map V.int)))) kp (ks.map V.int) := (SqZ.of nk upd_same).sq
  generalize upd H8 kp (.frz zk (.tup (ks.map V.int))) = H9 at x9 b9 hk9 ⊢
  have N9 := N7.keep x9
  -- the watches
  refine ⟨Nat.zero_le _, fun lw flw => ?_⟩
  have nlw : lw ∉ [b] := b9.ne flw
  have N9' : Nm K (upd H9 lw (.lst [])) b l ns := N9.keep (ExM.new flw)
  refine ⟨_, rfl, l, rfl, ⟨_, N9'.1⟩, ?_⟩
  refine for_it (walk_list (xs := ns.map V.int)) (fun i σa Ha => ∃ u7 : Option V, σa = [some (.ref b), some (.int m), some (.int many), some (.ref l), some (.int at_), u5, some (.ref o), u7, some (.ref r), some (.ref kp), some (.ref lw)] ∧ ExM [b] H9 Ha ∧ Bx Ha b d ds ∧
      ∃ (rs : List Addr) (es : List (Int × Int)), Ha lw = some (.lst (rs.map V.ref)) ∧ Paired (PairAt K Ha) rs es ∧ es.length ≤ i ∧ ∀ e ∈ es, e.1 ∈ ns ∧ 0 ≤ e.2 ∧ e.2 ≤ 999)
    ⟨none, rfl, ExM.new flw, b9.new flw, [], [], upd_same, .nil, Nat.le_refl _, by simp⟩ (fun i σa Ha _ p => p.elim fun _ z => (N9.keep z.2.1).1) (fun i x σa Ha Hb hi p y => ?_) (fun σa Ha p => ?_)
  · obtain ⟨rfl, hx⟩ := y
    obtain ⟨u7, rfl, ea, ba, rs', es, hw, hp, hz, hin⟩ := p
    rw [List.length_map] at hi
    obtain ⟨n, hn⟩ : ∃ n, ns[i]? = some n := ⟨_, List.getElem?_eq_getElem hi⟩
    rw [List.getElem?_map, hn] at hx
    obtain rfl : V.int n = x := Option.some.inj hx
    refine ⟨_, rfl, _, _, rfl, b, d, ds, 3, rfl, rfl, by decide, ba, fun Hc v xc bc v0 v3 => ⟨rfl, _, rfl, ite2 (fun _ => ?_) (fun _ => ?_)⟩⟩
    · have hwc := xc lw _ nlw hw
      refine ⟨_, rfl, .inl ⟨rfl, _, SqL.of hwc⟩, _, rfl, _, rfl, _, _, rfl, b, d, ds, 2, rfl, rfl, by decide, bc, fun Hd v' xd bd v0' v2' => ?_⟩
      have hwd := xd lw _ nlw hwc
      refine ⟨_, _, rfl, rfl, sz (by show 2 ≤ 100000; decide), fun r2 fr2 => ?_⟩
      have nr : lw ≠ r2 := ne_of_none hwd fr2
      have hwe : (upd Hd r2 (.tup [V.int n, V.int (7 + v')])) lw = some (.lst (rs'.map V.ref)) := by rw [upd_ne nr]; exact hwd
      have tt : Tk K Hb (upd Hd r2 (.tup [V.int n, V.int (7 + v')])) := Tk.trans (ba.tk (xc.trans xd)) (Tk.new fr2)
      have hpe : Paired (PairAt K (upd Hd r2 (.tup [V.int n, V.int (7 + v')]))) rs' es := pmp hp fun _ _ z => PairAt.mono tt z
      have hre : PairAt K (upd Hd r2 (.tup [V.int n, V.int (7 + v')])) r2 (n, 7 + v') := SqT.of upd_same
      have hlen := plen hp
      refine ⟨lw, _, _, rfl, rfl, hwe, szl (by rw [List.length_map]; omega), _, rfl, (((ea.trans xc).trans xd).trans (ExM.new fr2)).put flw, (bd.new fr2).put b9 flw, rs' ++ [r2], es ++ [(n, 7 + v')], ?_, ?_, ?_, ?_⟩
      · rw [upd_same, List.map_append]; rfl
      · exact pmp (psnoc hre hpe) fun _ _ z => PairAt.mono (Tk.lst hwe) z
      · rw [List.length_append, List.length_singleton]; omega
      · intro e' he'
        rcases List.mem_append.mp he' with z | z
        · exact hin e' z
        · have : e' = (n, 7 + v') := by simpa using z
          rw [this]; exact ⟨List.mem_of_getElem? hn, by show 0 ≤ 7 + v'; omega, by show 7 + v' ≤ 999; omega⟩
    · exact ⟨_, rfl, ea.trans xc, bc, rs', es, xc lw _ nlw hw, pmp hp fun _ _ z => PairAt.mono (ba.tk xc) z, by omega, hin⟩
  obtain ⟨u7, rfl, ea, ba, ws, es, hw, hp, hz, hin⟩ := p
  rw [List.length_map] at hz
  refine ⟨_, rfl, _, rfl, _, _, rfl, b, d, ds, 2, rfl, rfl, by decide, ba, fun Hb v xb bb v0 v2 => ?_⟩
  have hwb := xb lw _ nlw hw
  refine ⟨_, _, rfl, rfl, _, rfl, _, rfl, _, rfl, _, rfl, lw, _, rfl, SqL.of hwb, fun t zt ft nt => ⟨sz (by show 6 ≤ 100000; decide), fun p fp => ?_⟩⟩
  have np : p ≠ t := fun z => by rw [z, upd_same] at fp; cases fp
  have xz : ExM [b] Hb (upd (upd Hb t (.frz zt (.tup (ws.map V.ref)))) p (.tup [.str "heap", .int (at_ + v), .ref r, .ref kp, .ref o, .ref t])) := (ExM.new ft).trans (ExM.new fp)
  have tz := Tk.trans (K := K) (ba.tk xb) (bb.tk xz)
  have t9 := Tk.trans (b9.tk ea) tz
  have t7 := Tk.trans (b7.tk x9) t9
  have t4 := Tk.trans (b4.tk x7) t7
  refine q _ p ⟨at_ + v, rs, ks, obs, es⟩ (((((((x1.trans e2).trans x4).trans x7).trans x9).trans ea).trans xb).trans xz) ((bb.new ft).new fp) ?_ ?_ ?_
  · refine ⟨r, kp, o, t, ws, SqT.of upd_same, hr7.mono t7, t9 _ _ hk9, ⟨os, t4 _ _ ho4, pmp hobs4 fun _ _ z => ObAt.mono t4 z⟩, (SqZ.of nt (by rw [upd_ne np.symm]; exact upd_same)).sq, pmp hp fun _ _ z => PairAt.mono tz z⟩
  · have hnn : (⟨at_ + v, rs, ks, obs, es⟩ : Wc.Hd).nums = ns := hnum
    have hol : obs.length = ns.length := by rw [← hnum, List.length_map]
    refine ⟨by rw [hnn]; exact hup, by show obs.length ≤ 50; omega, by show rs.length ≤ 1000; omega, by rw [hnn]; exact hrs, by rw [hnn]; exact hok, by rw [hnn]; exact fun i hi => hks.subset hi, by rw [hnn]; exact fun e he => (hin e he).1, ?_, ?_, ?_, fun e he => (hin e he).2, by show es.length ≤ 50; omega, ?_⟩
    · rw [hnn]; intro n hn; have := hlow n hn; show 0 ≤ n ∧ n < at_ + v; omega
    · show 0 ≤ at_ + v ∧ at_ + v ≤ 999; omega
    · exact hup.sublist hks
    · intro z
      have z' : rs = [] := z
      rw [z'] at hrl
      have : (0 : Nat) = (1 + k).toNat := hrl
      omega
  · have hol : obs.length = ns.length := by rw [← hnum, List.length_map]
    show ((obs.length : Nat) : Int) ≤ m
    omega
end
end Wc
namespace Wc
open PySem L2
section
variable (K : PySem.W.Frag)
def R__law_follows : V3 := fun x y z H Q => ∃ (a : Addr) (o : Ob) (g : Addr) (gs : List Int) (c : Addr) (cs : List Int), x = .ref a ∧ y = .ref g ∧ z = .ref c ∧ ObAt K H a o ∧ o.small ∧ SqL K H g (gs.map V.int) ∧
  (SqL K H c (cs.map V.int) ∨ SqT K H c (cs.map V.int)) ∧ NewL (ledTo o gs cs) H Q
abbrev sp__law_follows : Sp := sp3 (R__law_follows K)
def R__law_obtainable : V2 := fun x y H Q => ∃ (a : Addr) (h : Hd) (c : Addr) (cs : List Int), x = .ref a ∧ y = .ref c ∧ HeapAt K H a h ∧ h.Ok ∧ (SqL K H c (cs.map V.int) ∨ SqT K H c (cs.map V.int)) ∧
  ∀ ns, UpSet ns (Obt h cs) → NewL ns H Q
abbrev sp__law_obtainable : Sp := sp2 (R__law_obtainable K)
def R_same (n : Nat) : V2 := fun x y H Q => ∃ d : Dt, Is K H d x ∧ Is K H d y ∧ d.dep < n ∧ d.thin ∧ Q (.bl true) H
abbrev sp__law_same : Sp := sp2 (R_same K 9)
end
theorem ledTo_len {o : Ob} {gs cs : List Int} (sm : o.small) : (ledTo o gs cs).length ≤ 1000 := by
  cases o with
  | rcd n fs => exact Nat.le_trans (List.length_filterMap_le _ _) sm
  | weak n t =>
    cases t with
    | none => exact Nat.zero_le _
    | some i =>
      show (if i ∈ cs then [] else [i]).length ≤ 1000
      split <;> simp
  | tab n es =>
    show ((es.filter fun e => decide (e.1 ∈ gs)).map (·.2)).length ≤ 1000
    rw [List.length_map]
    exact Nat.le_trans (List.length_filter_le _ _) sm
/-! ### the law's own walk: closed behind as many turns as there are objects, and one more -/
def Shut (h : Hd) (cs G : List Int) : Prop := ∀ o ∈ h.obs, o.num ∈ G → ∀ n, o.fol cs (· ∈ G) n → n ∈ G
def cnt (h : Hd) (G : List Int) : Nat := (h.nums.filter fun n => decide (n ∈ G)).length
theorem filter_lt {l : List Int} {p q : Int → Bool} (s : ∀ n, p n = true → q n = true) {x : Int} (hx : x ∈ l) (h1 : p x = false) (h2 : q x = true) : (l.filter p).length < (l.filter q).length := by
  have le : ∀ l : List Int, (l.filter p).length ≤ (l.filter q).length := by
    intro l
    induction l with
    | nil => exact Nat.le_refl _
    | cons y r ih =>
      rw [List.filter_cons, List.filter_cons]
      cases hp : p y with
      | true =>
        rw [s y hp]
        simp only [if_true, List.length_cons]
        omega
      | false =>
        simp only [Bool.false_eq_true, if_false]
        split
        · rw [List.length_cons]; omega
        · exact ih
  induction l with
  | nil => cases hx
  | cons y r ih =>
    rw [List.filter_cons, List.filter_cons]
    rcases List.mem_cons.mp hx with rfl | hx
    · rw [h1, h2]
      simp only [Bool.false_eq_true, if_false, if_true, List.length_cons]
      have := le r
      omega
    · have := ih hx
      cases hp : p y with
      | true =>
        rw [s y hp]
        simp only [if_true, List.length_cons]
        omega
      | false =>
        simp only [Bool.false_eq_true, if_false]
        split
        · rw [List.length_cons]; omega
        · exact this
theorem cnt_lt {h : Hd} {G G' : List Int} (s : ∀ n ∈ G, n ∈ G') {n : Int} (hn : n ∈ h.nums) (h1 : n ∉ G) (h2 : n ∈ G') : cnt h G < cnt h G' :=
  filter_lt (fun m z => decide_eq_true (s m (of_decide_eq_true z))) hn (decide_eq_false h1) (decide_eq_true h2)
theorem cnt_le (h : Hd) (G : List Int) : cnt h G ≤ h.obs.length := by
  unfold cnt
  refine Nat.le_trans (List.length_filter_le _ _) ?_
  unfold Hd.nums
  rw [List.length_map]
  exact Nat.le_refl _
section
variable {P : Program} {w : World} {K : PySem.W.Frag} {mg : Str → Option Value} {base : Heap}
theorem ok__law_follows {f : Addr} {fd : FuncData} {cd : Value} (F : Df K "_law_follows" s__law_follows f fd cd) (T : Txt mg) : FnOk P w K mg base CX0 1 f fd ["row", "got", "gone"] (sp__law_follows K) := by
  have nd := sc__law_follows.nd
  refine F.ok sc__law_follows (fun vs H Q E h => ?_) (fun A outer s H vs Q E hr h => ?_)
  · obtain ⟨_, _, _, rfl, _⟩ := h; rfl
  have hu := hu_of hr
  obtain ⟨x0, x1, x2, rfl, h⟩ := h
  refine ⟨_, (pss_cons (ps_if (pt_cmpR op_eq (pe_ix (r := rIxT K) ix_tup (pv 0) pe_int (fun _ _ => rfl)) pe_str (nomark _)) (pss_one (ps_ret (pe_lc (own := [("number", 3)]) rfl nd (show PI _ _ _ (iTup K _) from pi_tup (pe_ix (r := rIxT K) ix_tup (pv 0) pe_int (fun _ _ => rfl))) (blkOk_by (own := [("number", 3)]) (N := N__law_follows) (sc := defScope s__law_follows) (by decide +kernel)) (fun _ _ _ _ _ => (pg_name (i := 3) nd rfl (by first | exact Or.inl rfl | exact Or.inr rfl))) (fun _ _ _ _ _ => (pts_one (pt_cmpR op_notN (pv 3) pe_non (nomark _)))) (fun _ _ _ _ _ => (pv 3))))) pss_nil)
    (pss_cons (ps_if (pt_cmpR op_eq (pe_ix (r := rIxT K) ix_tup (pv 0) pe_int (fun _ _ => rfl)) pe_str (nomark _)) (pss_one (ps_ret (pe_lc (own := [("number", 3)]) rfl nd (show PI _ _ _ (iList K _) from pi_list (pe_lst (pa_cons (pe_ix (r := rIxT K) ix_tup (pv 0) pe_int (fun _ _ => rfl)) pa_nil))) (blkOk_by (own := [("number", 3)]) (N := N__law_follows) (sc := defScope s__law_follows) (by decide +kernel)) (fun _ _ _ _ _ => (pg_name (i := 3) nd rfl (by first | exact Or.inl rfl | exact Or.inr rfl))) (fun _ _ _ _ _ => (pts_one (PW.pt (pw_and (pt_cmpR op_notN (pv 3) pe_non (nomark _)) (pw_and1 (pt_cmpR (r := rIn K true) op_notIn_seq (pv 3) (pv 2) (by first | exact nomark _ | rfl))))))) (fun _ _ _ _ _ => (pv 3))))) pss_nil)
    (pss_one (ps_ret (pe_lc (own := [("entry", 4)]) rfl nd (show PI _ _ _ (iTup K _) from pi_tup (pe_ix (r := rIxT K) ix_tup (pv 0) pe_int (fun _ _ => rfl))) (blkOk_by (own := [("entry", 4)]) (N := N__law_follows) (sc := defScope s__law_follows) (by decide +kernel)) (fun _ _ _ _ _ => (pg_name (i := 4) nd rfl (by first | exact Or.inl rfl | exact Or.inr rfl))) (fun _ _ _ _ _ => (pts_one (pt_cmpR (r := rIn K false) op_in_seq (pe_ix (r := rIxT K) ix_tup (pv 4) pe_int (fun _ _ => rfl)) (pv 1) (by first | exact nomark _ | rfl)))) (fun _ _ _ _ _ => (pe_ix (r := rIxT K) ix_tup (pv 4) pe_int (fun _ _ => rfl)))))))), ?_⟩
  obtain ⟨a, o, g, gs, c, cs, rfl, rfl, rfl, hO, sm, hG, hC, q⟩ := h
  cases o with
  | rcd n fs =>
    obtain ⟨t, h1, h2⟩ := hO
    have h2 := h2.sq (K := K)
    have sm' : fs.length ≤ 1000 := sm
    refine ⟨_, rfl, a, _, _, _, rfl, rfl, h1, at0, rfl, _, rfl, iteT ?_⟩
    refine ⟨_, rfl, a, _, _, _, rfl, rfl, h1, at2, t, rfl, ⟨_, h2⟩, fun D hD => ?_⟩
    refine lcM [] (walk_tup (xs := fs.map rV)) hD (fun i acc _ => acc = ((fs.take i).filterMap id).map V.int) rfl (fun H' e => Tk.all e _ _ h2) (fun i x H1 H2 acc hi e k1 k2 hacc y => ?_) (fun H' acc e k1 k2 hacc => ?_)
    · obtain ⟨rfl, hx⟩ := y
      rw [List.length_map] at hi
      obtain ⟨r, hr⟩ : ∃ r, fs[i]? = some r := ⟨fs[i], List.getElem?_eq_getElem hi⟩
      rw [List.getElem?_map, hr] at hx
      obtain rfl : rV r = x := Option.some.inj hx
      refine ⟨rfl, _, rfl, rfl, _, rfl, ?_⟩
      have ht := take_snoc hr
      cases r with
      | none => exact iteF (LcP.no (by simp) e k1 k2 (ExM.refl _ _) (by rw [hacc, ht, List.filterMap_append]; simp))
      | some n => exact iteT ⟨_, rfl, LcP.yes hD (by simp) (by omega) e k1 k2 (ExM.refl _ _) (by rw [hacc, ht, List.filterMap_append, List.map_append]; rfl)⟩
    · refine q D H' hD e ?_
      rw [k1, hacc, List.length_map, List.take_length]
      rfl
  | weak n t =>
    have h1 : SqT K H a [.str "weak", .int n, rV t] := hO
    refine ⟨_, rfl, a, _, _, _, rfl, rfl, h1, at0, rfl, _, rfl, iteF ?_⟩
    refine ⟨_, rfl, a, _, _, _, rfl, rfl, h1, at0, rfl, _, rfl, iteT ?_⟩
    refine ⟨_, rfl, a, _, _, _, rfl, rfl, h1, at2, sz (by show 1 ≤ 100000; decide), fun p fp => ?_⟩
    refine ⟨p, rfl, ⟨_, SqL.of upd_same⟩, fun D hD => ?_⟩
    have hp : (upd H p (.lst [rV t])) p = some (.lst [rV t]) := upd_same
    have e0 : ExA H (upd H p (.lst [rV t])) := ExM.new fp
    have fD : H D = none := ExA.free e0 hD
    refine lcM [] (walk_list (xs := [rV t])) hD (fun i acc _ => acc = if i = 0 then [] else (ledTo (.weak n t) gs cs).map V.int) rfl (fun H' e => SqL.of (ExA.at e hp)) (fun i x H1 H2 acc hi e k1 k2 hacc y => ?_) (fun H' acc e k1 k2 hacc => ?_)
    · obtain ⟨rfl, hx⟩ := y
      have i0 : i = 0 := by simpa using hi
      subst i0
      have hx : rV t = x := by simpa using hx
      subst hx
      have hacc : acc = [] := hacc
      subst hacc
      refine ⟨rfl, ?_⟩
      have hC' : SqL K H2 c (cs.map V.int) ∨ SqT K H2 c (cs.map V.int) := hC.elim (fun z => .inl (SqL.all (ExM.trans e0 e) z)) (fun z => .inr (Tk.all (ExM.trans e0 e) _ _ z))
      cases t with
      | none => exact ⟨_, rfl, rfl, _, rfl, iteF (iteF (LcP.no (by simp) e k1 k2 (ExM.refl _ _) rfl))⟩
      | some m =>
        refine ⟨_, rfl, rfl, _, rfl, iteT ⟨_, rfl, _, rfl, c, _, rfl, hC', rfl, flat_ints _, _, rfl, ?_⟩⟩
        rw [if_pos rfl]
        show if (!inV (V.int m) (cs.map V.int)) = true then _ else _
        rw [inV_int]
        by_cases z : m ∈ cs
        · rw [decide_eq_true z]
          refine iteF (LcP.no (by simp) e k1 k2 (ExM.refl _ _) ?_)
          show [] = (if m ∈ cs then [] else [m]).map V.int
          rw [if_pos z]; rfl
        · rw [decide_eq_false z]
          refine iteT ⟨_, rfl, LcP.yes hD (by simp) (by omega) e k1 k2 (ExM.refl _ _) ?_⟩
          show [V.int m] = (if m ∈ cs then [] else [m]).map V.int
          rw [if_neg z]; rfl
    · refine q D H' fD (ExM.trans e0 e) ?_
      rw [k1, hacc]
      rfl
  | tab n es =>
    obtain ⟨t, ps, h1, hz2, h3⟩ := hO; have h2 := hz2.sq (K := K)
    refine ⟨_, rfl, a, _, _, _, rfl, rfl, h1, at0, rfl, _, rfl, iteF ?_⟩
    refine ⟨_, rfl, a, _, _, _, rfl, rfl, h1, at0, rfl, _, rfl, iteF ?_⟩
    refine ⟨_, rfl, a, _, _, _, rfl, rfl, h1, at2, t, rfl, ⟨_, h2⟩, fun D hD => ?_⟩
    have hl := plen h3
    have sm' : es.length ≤ 1000 := sm
    refine lcM [] (walk_tup (xs := ps.map V.ref)) hD (fun i acc _ => acc = (((es.take i).filter fun e => decide (e.1 ∈ gs)).map (·.2)).map V.int) rfl (fun H' e => Tk.all e _ _ h2) (fun i x H1 H2 acc hi e k1 k2 hacc y => ?_) (fun H' acc e k1 k2 hacc => ?_)
    · obtain ⟨rfl, hx⟩ := y
      rw [List.length_map] at hi
      obtain ⟨p, hp⟩ : ∃ p, ps[i]? = some p := ⟨ps[i], List.getElem?_eq_getElem hi⟩
      obtain ⟨e1, he1, hpa⟩ := pget h3 hp
      rw [List.getElem?_map, hp] at hx
      obtain rfl : V.ref p = x := Option.some.inj hx
      have hpa' := Tk.all (K := K) e _ _ hpa
      refine ⟨rfl, _, rfl, p, _, _, _, rfl, rfl, hpa', at0, _, rfl, g, _, rfl, .inl (SqL.all e hG), rfl, flat_ints _, _, rfl, ?_⟩
      show if inV (V.int e1.1) (gs.map V.int) = true then _ else _
      rw [inV_int]
      have ht := take_snoc he1
      by_cases m : e1.1 ∈ gs
      · rw [decide_eq_true m]
        refine iteT ⟨_, rfl, p, _, _, _, rfl, rfl, hpa', at1, LcP.yes hD (by simp) (by omega) e k1 k2 (ExM.refl _ _) ?_⟩
        rw [hacc, ht, List.filter_append, List.map_append, List.map_append]
        simp [m]
      · rw [decide_eq_false m]
        refine iteF (LcP.no (by simp) e k1 k2 (ExM.refl _ _) ?_)
        rw [hacc, ht, List.filter_append, List.map_append, List.map_append]
        simp [m]
    · refine q D H' hD e ?_
      rw [k1, hacc, List.length_map, hl, List.take_length]
      rfl
theorem ok__law_obtainable {f : Addr} {fd : FuncData} {cd : Value} (F : Df K "_law_obtainable" s__law_obtainable f fd cd) (T : Txt mg) (C__law_numbers : Cal P w K mg base 1 "_law_numbers" (sp__law_numbers K) []) (C__law_follows : Cal P w K mg base 1 "_law_follows" (sp__law_follows K) []) : FnOk P w K mg base CX0 2 f fd ["heap", "gone"] (sp__law_obtainable K) := by
  have nd := sc__law_obtainable.nd
  refine F.ok sc__law_obtainable (fun vs H Q E h => ?_) (fun A outer s H vs Q E hr h => ?_)
  · obtain ⟨_, _, rfl, _⟩ := h; rfl
  have hu := hu_of hr
  obtain ⟨x0, x1, rfl, h⟩ := h
  refine ⟨_, (pss_cons (ps_set (i := 2) nd rfl (by first | exact Or.inl rfl | exact Or.inr rfl) (pe_lc (own := [("number", 3)]) rfl nd (show PI _ _ _ (iTup K _) from pi_tup (pe_ix (r := rIxT K) ix_tup (pv 0) pe_int (fun _ _ => rfl))) (blkOk_by (own := [("number", 3)]) (N := N__law_obtainable) (sc := defScope s__law_obtainable) (by decide +kernel)) (fun _ _ _ _ _ => (pg_name (i := 3) nd rfl (by first | exact Or.inl rfl | exact Or.inr rfl))) (fun _ _ _ _ _ => (pts_one (pt_cmpR op_notN (pv 3) pe_non (nomark _)))) (fun _ _ _ _ _ => (pv 3))))
    (pss_cons (ps_for PassesOwn.never rfl (pi_range1 rfl T.range (pa_cons (pe_op op_add (pe_callB (r := Evl.rLenS K) call_len_seq rfl T.len PySem.boot_len (pa_cons (pe_ix (r := rIxT K) ix_tup (pv 0) pe_int (fun _ _ => rfl)) pa_nil)) pe_int) pa_nil)) (pg_name (i := 4) nd rfl (by first | exact Or.inl rfl | exact Or.inr rfl))
    (pss_one (ps_for PassesOwn.never rfl (show PI _ _ _ (iTup K _) from pi_tup (pe_ix (r := rIxT K) ix_tup (pv 0) pe_int (fun _ _ => rfl))) (pg_name (i := 5) nd rfl (by first | exact Or.inl rfl | exact Or.inr rfl))
    (pss_one (ps_if (pt_cmpR (r := rIn K false) op_in_seq (pe_ix (r := rIxT K) ix_tup (pv 5) pe_int (fun _ _ => rfl)) (pv 2) (by first | exact nomark _ | rfl)) (pss_one (ps_set (i := 2) nd rfl (by first | exact Or.inl rfl | exact Or.inr rfl) (pe_op op_cat (pv 2) (pe_lc (own := [("number", 3)]) rfl nd (show PI _ _ _ (iList K _) from pi_list (pe_c C__law_follows hr (by first | exact Nat.le_refl _ | decide) rfl (pa_cons (pv 5) (pa_cons (pv 2) (pa_cons (pv 1) pa_nil))))) (blkOk_by (own := [("number", 3)]) (N := N__law_obtainable) (sc := defScope s__law_obtainable) (by decide +kernel)) (fun _ _ _ _ _ => (pg_name (i := 3) nd rfl (by first | exact Or.inl rfl | exact Or.inr rfl))) (fun _ _ _ _ _ => (pts_one (pt_cmpR (r := rIn K true) op_notIn_seq (pv 3) (pv 2) (by first | exact nomark _ | rfl)))) (fun _ _ _ _ _ => (pv 3)))))) pss_nil)))))
    (pss_one (ps_ret (pe_callB (r := rSortedI K) cr_sortedI rfl T.sorted (by decide +kernel) (pa_cons (pe_lc (own := [("number", 3)]) rfl nd (show PI _ _ _ (iList K _) from pi_list (pe_c C__law_numbers hr (by first | exact Nat.le_refl _ | decide) rfl (pa_cons (pv 0) pa_nil))) (blkOk_by (own := [("number", 3)]) (N := N__law_obtainable) (sc := defScope s__law_obtainable) (by decide +kernel)) (fun _ _ _ _ _ => (pg_name (i := 3) nd rfl (by first | exact Or.inl rfl | exact Or.inr rfl))) (fun _ _ _ _ _ => (pts_one (pt_cmpR (r := rIn K false) op_in_seq (pv 3) (pv 2) (by first | exact nomark _ | rfl)))) (fun _ _ _ _ _ => (pv 3))) pa_nil)))))), ?_⟩
  obtain ⟨a, h, c, cs, rfl, rfl, hA, ok, hC, q⟩ := h
  obtain ⟨r, k, o, w, ws, h1, h2, h3, ⟨os, ho, hobs⟩, _⟩ := id hA
  have h2 := h2.sq (K := K)
  have hlen := plen hobs
  have hC' : ∀ {H'}, ExA H H' → (SqL K H' c (cs.map V.int) ∨ SqT K H' c (cs.map V.int)) := fun e => hC.elim (fun z => .inl (SqL.all e z)) (fun z => .inr (Tk.all e _ _ z))
  -- got at first
  refine ⟨_, rfl, a, _, _, _, rfl, rfl, h1, at2, r, rfl, ⟨_, h2⟩, fun D hD => ?_⟩
  refine lcM [] (walk_tup (xs := h.regs.map rV)) hD (fun i acc _ => acc = ((h.regs.take i).filterMap id).map V.int) rfl (fun H' e => Tk.all e _ _ h2) (fun i x H1 H2 acc hi e k1 k2 hacc y => ?_) (fun H1 acc e1 k1 k2 hacc => ?_)
  · obtain ⟨rfl, hx⟩ := y
    rw [List.length_map] at hi
    obtain ⟨r, hr⟩ : ∃ r, h.regs[i]? = some r := ⟨h.regs[i], List.getElem?_eq_getElem hi⟩
    rw [List.getElem?_map, hr] at hx
    obtain rfl : rV r = x := Option.some.inj hx
    refine ⟨rfl, _, rfl, rfl, _, rfl, ?_⟩
    have ht := take_snoc hr
    have zi : i ≤ 40000 := by have := ok.nreg; omega
    cases r with
    | none => exact iteF (LcP.no (by simp) e k1 k2 (ExM.refl _ _) (by rw [hacc, ht, List.filterMap_append]; simp))
    | some n => exact iteT ⟨_, rfl, LcP.yes hD (by simp) zi e k1 k2 (ExM.refl _ _) (by rw [hacc, ht, List.filterMap_append, List.map_append]; rfl)⟩
  rw [List.length_map, List.take_length] at hacc
  subst hacc
  have z0 : (h.regs.filterMap id).length ≤ 1000 := Nat.le_trans (List.length_filterMap_le _ _) ok.nreg
  have t1 : Tk K H H1 := Tk.all e1
  -- the turns
  refine ⟨_, rfl, a, _, _, _, rfl, rfl, t1 _ _ h1, at4, o, _, rfl, .inr (t1 _ _ ho), _, _, rfl, rfl, _, rfl, by omega, by rw [List.length_map]; have := ok.size; omega, ?_⟩
  rw [show (((os.map V.ref).length : Nat) : Int) + 1 = ((h.obs.length + 1 : Nat) : Int) by rw [List.length_map, hlen]; omega]
  refine for_range (lo := 0) (n := h.obs.length + 1) (fun t σ2 H2 => ∃ (lg : Addr) (G : List Int) (u4 u5 : Option V), σ2 = [some (.ref a), some (.ref c), some (.ref lg), none, u4, u5] ∧ ExA H H2 ∧ H2 lg = some (.lst (G.map V.int)) ∧
      (∀ n ∈ G, Obt h cs n) ∧ (∀ n, some n ∈ h.regs → n ∈ G) ∧ G.length ≤ 1000 + 60000 * t ∧ (Shut h cs G ∨ t ≤ cnt h G))
    ⟨D, _, none, none, rfl, e1, k1, fun n hn => Obt.reg (by simpa using hn), fun n hn => by simpa using hn, z0, .inr (Nat.zero_le _)⟩ (fun t σ2 H2 ht p => ?_) (fun σ2 H2 p => ?_)
  · obtain ⟨lg, G0, u4, u5, rfl, e2, hg, hs, hr, hz, hp⟩ := p
    have t2 : Tk K H H2 := Tk.all e2
    refine ⟨_, rfl, a, _, _, _, rfl, rfl, t2 _ _ h1, at4, o, rfl, ⟨_, t2 _ _ ho⟩, ?_⟩
    refine for_it (walk_tup (xs := os.map V.ref)) (fun i σ3 H3 => ∃ (lg : Addr) (G : List Int) (u5 : Option V), σ3 = [some (.ref a), some (.ref c), some (.ref lg), none, some (.int (0 + (t : Int))), u5] ∧ ExA H H3 ∧ H3 lg = some (.lst (G.map V.int)) ∧
        (∀ n ∈ G, Obt h cs n) ∧ (∀ n ∈ G0, n ∈ G) ∧ G.length ≤ 1000 + 60000 * t + 1000 * i ∧ (Shut h cs G0 → G = G0) ∧
        ((G = G0 ∧ ∀ p ∈ h.obs.take i, p.num ∈ G0 → ∀ n, p.fol cs (· ∈ G0) n → n ∈ G0) ∨ ∃ n ∈ G, n ∉ G0))
      ⟨lg, G0, u5, rfl, e2, hg, hs, fun _ z => z, by omega, fun _ => rfl, .inl ⟨rfl, by simp⟩⟩ (fun i σ3 H3 _ p => ?_) (fun i x σ3 H3 H4 hi p y => ?_) (fun σ3 H3 p => ?_)
    · obtain ⟨_, _, _, _, e3, _⟩ := p
      exact Tk.all e3 _ _ ho
    · obtain ⟨rfl, hx⟩ := y
      obtain ⟨lg, G, u5, rfl, e3, hg, hs, hsub, hz, hsh, hq⟩ := p
      rw [List.length_map] at hi
      obtain ⟨ao, hao⟩ : ∃ ao, os[i]? = some ao := ⟨_, List.getElem?_eq_getElem hi⟩
      rw [List.getElem?_map, hao] at hx
      obtain rfl : V.ref ao = x := Option.some.inj hx
      obtain ⟨ob, hob, hoa⟩ := pget hobs hao
      have hoa4 := ObAt.mono (Tk.all e3) hoa
      have hmem : ob ∈ h.obs := List.mem_of_getElem? hob
      obtain ⟨kn, vn, hn⟩ := hoa4.num
      refine ⟨_, rfl, ao, _, _, _, rfl, rfl, hn, at1, _, rfl, lg, _, rfl, .inl (SqL.of hg), rfl, flat_ints _, _, rfl, ?_⟩
      show if inV (V.int ob.num) (G.map V.int) = true then _ else _
      rw [inV_int]
      by_cases c1 : ob.num ∈ G
      · rw [decide_eq_true c1]
        refine iteT ?_
        refine ⟨_, rfl, _, rfl, _, rfl, _, rfl, _, _, _, rfl, ao, ob, lg, G, c, cs, rfl, rfl, rfl, hoa4, (ok.obs _ hmem).small, SqL.of hg, hC' e3, fun l H5 fl e5 hl => ?_⟩
        refine ⟨l, rfl, ⟨_, SqL.of hl⟩, fun D2 hD2 => ?_⟩
        have hg5 := ExA.at e5 hg
        have zl := ledTo_len (gs := G) (cs := cs) (ok.obs _ hmem).small
        refine lcM [] (walk_list (xs := (ledTo ob G cs).map V.int)) hD2 (fun j acc _ => acc = (((ledTo ob G cs).take j).filter fun n => !decide (n ∈ G)).map V.int) rfl (fun H' e => SqL.of (ExA.at e hl)) (fun j x H6 H7 acc hj e m1 m2 hacc y => ?_) (fun H6 acc e6 m1 m2 hacc => ?_)
        · obtain ⟨rfl, hx⟩ := y
          rw [List.length_map] at hj
          obtain ⟨n, hn⟩ : ∃ n, (ledTo ob G cs)[j]? = some n := ⟨_, List.getElem?_eq_getElem hj⟩
          rw [List.getElem?_map, hn] at hx
          obtain rfl : V.int n = x := Option.some.inj hx
          refine ⟨rfl, _, rfl, _, rfl, lg, _, rfl, .inl (SqL.of (ExA.at e hg5)), rfl, flat_ints _, _, rfl, ?_⟩
          show if (!inV (V.int n) (G.map V.int)) = true then _ else _
          rw [inV_int]
          have ht := take_snoc hn
          by_cases m : n ∈ G
          · rw [decide_eq_true m]
            refine iteF (LcP.no (by simp) e m1 m2 (ExM.refl _ _) ?_)
            rw [hacc, ht, List.filter_append, List.map_append]
            simp [m]
          · rw [decide_eq_false m]
            refine iteT ⟨_, rfl, LcP.yes hD2 (by simp) (by omega) e m1 m2 (ExM.refl _ _) ?_⟩
            rw [hacc, ht, List.filter_append, List.map_append]
            simp [m]
        rw [List.length_map, List.take_length] at hacc
        subst hacc
        have zf : ((ledTo ob G cs).filter fun n => !decide (n ∈ G)).length ≤ 1000 := Nat.le_trans (List.length_filter_le _ _) zl
        have zt : t ≤ 51 := by have := ok.size; omega
        have zi : i ≤ 50 := by have := ok.size; omega
        have zz : (G.map V.int).length + (((ledTo ob G cs).filter fun n => !decide (n ∈ G)).map V.int).length ≤ sizeLine := by
          rw [List.length_map, List.length_map]
          refine Nat.le_trans ?_ (show 16000000 ≤ sizeLine by decide)
          omega
        refine ⟨lg, D2, _, _, rfl, rfl, ExA.at e6 hg5, m1, zz, fun p fp => ?_⟩
        have e7 : ExA H (upd H6 p (.lst (G.map V.int ++ ((ledTo ob G cs).filter fun n => !decide (n ∈ G)).map V.int))) := ((e3.trans e5).trans e6).trans (ExM.new fp)
        have hnew : ∀ n ∈ (ledTo ob G cs).filter fun n => !decide (n ∈ G), ob.fol cs (· ∈ G) n ∧ n ∉ G := fun n hn => by
          obtain ⟨z1, z2⟩ := List.mem_filter.mp hn
          exact ⟨mem_ledTo.mp z1, fun m => by rw [decide_eq_true m] at z2; cases z2⟩
        have hshut : Shut h cs G0 → G = G0 → ((ledTo ob G cs).filter fun n => !decide (n ∈ G)) = [] := fun hS hG => by
          rw [List.filter_eq_nil_iff]
          intro n hn
          subst hG
          have := hS ob hmem c1 n (mem_ledTo.mp hn)
          simp [this]
        refine ⟨p, G ++ ((ledTo ob G cs).filter fun n => !decide (n ∈ G)), _, rfl, e7, ?_, ?_, fun n z => List.mem_append_left _ (hsub n z), by rw [List.length_append]; omega, fun hS => ?_, ?_⟩
        · rw [upd_same, List.map_append]
        · intro n z
          rcases List.mem_append.mp z with z | z
          · exact hs n z
          · exact Obt.fol ⟨ob, hmem, hs _ c1, Ob.fol_mono (fun m z => hs m z) (hnew n z).1⟩
        · rw [hshut hS (hsh hS), List.append_nil]; exact hsh hS
        · rcases hq with ⟨rfl, hq⟩ | ⟨n, hn, hn0⟩
          · by_cases c2 : ((ledTo ob G cs).filter fun n => !decide (n ∈ G)) = []
            · refine .inl ⟨by rw [c2, List.append_nil], fun p hp hpn n hf => ?_⟩
              rcases (mem_take_snoc hob).mp hp with z | rfl
              · exact hq p z hpn n hf
              · have z := List.filter_eq_nil_iff.mp c2 n (mem_ledTo.mpr hf)
                by_cases m : n ∈ G
                · exact m
                · rw [decide_eq_false m] at z; exact absurd rfl z
            · obtain ⟨n, hn⟩ := List.exists_mem_of_ne_nil _ c2
              exact .inr ⟨n, List.mem_append_right _ hn, (hnew n hn).2⟩
          · exact .inr ⟨n, List.mem_append_left _ hn, hn0⟩
      · rw [decide_eq_false c1]
        refine iteF ⟨lg, G, _, rfl, e3, hg, hs, hsub, by omega, hsh, ?_⟩
        rcases hq with ⟨rfl, hq⟩ | z
        · refine .inl ⟨rfl, fun p hp hpn n hf => ?_⟩
          rcases (mem_take_snoc hob).mp hp with z | rfl
          · exact hq p z hpn n hf
          · exact absurd hpn c1
        · exact .inr z
    · obtain ⟨lg, G, u5, rfl, e3, hg, hs, hsub, hz, hsh, hq⟩ := p
      rw [List.length_map, hlen, List.take_length] at hq
      rw [List.length_map] at hz
      refine ⟨lg, G, _, _, rfl, e3, hg, hs, fun n z => hsub n (hr n z), by have := ok.size; omega, ?_⟩
      rcases hq with ⟨rfl, hq⟩ | ⟨n, hn, hn0⟩
      · exact .inl hq
      · rcases hp with hS | hle
        · rw [hsh hS] at hn; exact absurd hn hn0
        · have := cnt_lt hsub (Obt.num ok (hs n hn)) hn0 hn
          exact .inr (by omega)
  obtain ⟨lg, G, u4, u5, rfl, e2, hg, hs, hr, hz, hp⟩ := p
  have hS : Shut h cs G := hp.elim id fun z => by have := cnt_le h G; omega
  have hall : ∀ n, n ∈ G ↔ Obt h cs n := fun n => ⟨hs n, fun x => Obt.closed (S := (· ∈ G)) hr (fun m ⟨ob, z1, z2, z3⟩ => hS ob z1 z2 m z3) x⟩
  refine ⟨_, rfl, _, rfl, a, h, rfl, HeapAt.mono (Tk.all e2) hA, ok, fun l H3 fl e3 hl => ?_⟩
  refine ⟨l, rfl, ⟨_, SqL.of hl⟩, fun D2 hD2 => ?_⟩
  have hg3 := ExA.at e3 hg
  refine lcM [] (walk_list (xs := h.nums.map V.int)) hD2 (fun j acc _ => acc = ((h.nums.take j).filter fun n => decide (n ∈ G)).map V.int) rfl (fun H' e => SqL.of (ExA.at e hl)) (fun j x H6 H7 acc hj e m1 m2 hacc y => ?_) (fun H6 acc e6 m1 m2 hacc => ?_)
  · obtain ⟨rfl, hx⟩ := y
    rw [List.length_map] at hj
    obtain ⟨n, hn⟩ : ∃ n, h.nums[j]? = some n := ⟨_, List.getElem?_eq_getElem hj⟩
    rw [List.getElem?_map, hn] at hx
    obtain rfl : V.int n = x := Option.some.inj hx
    refine ⟨rfl, _, rfl, _, rfl, lg, _, rfl, .inl (SqL.of (ExA.at e hg3)), rfl, flat_ints _, _, rfl, ?_⟩
    show if inV (V.int n) (G.map V.int) = true then _ else _
    rw [inV_int]
    have ht := take_snoc hn
    have zj : j ≤ 40000 := by have := ok.size; unfold Hd.nums at hj; rw [List.length_map] at hj; omega
    by_cases m : n ∈ G
    · rw [decide_eq_true m]
      refine iteT ⟨_, rfl, LcP.yes hD2 (by simp) zj e m1 m2 (ExM.refl _ _) ?_⟩
      rw [hacc, ht, List.filter_append, List.map_append]
      simp [m]
    · rw [decide_eq_false m]
      refine iteF (LcP.no (by simp) e m1 m2 (ExM.refl _ _) ?_)
      rw [hacc, ht, List.filter_append, List.map_append]
      simp [m]
  rw [List.length_map, List.take_length] at hacc
  subst hacc
  refine ⟨D2, _, rfl, SqL.of m1, fun ns' p hperm hle fp => ?_⟩
  have eZ : ExA H H6 := (e2.trans e3).trans e6
  have ndn : (h.nums.filter fun n => decide (n ∈ G)).Nodup := (nodup_of_up ok.up).filter _
  refine q ns' ⟨up_of hle (hperm.nodup_iff.mpr ndn), fun n => ?_⟩ p _ (ExA.free eZ fp) (eZ.trans (ExM.new fp)) upd_same
  rw [hperm.mem_iff, List.mem_filter, ← hall n]
  exact ⟨fun z => of_decide_eq_true z.2, fun z => ⟨Obt.num ok ((hall n).mp z), decide_eq_true z⟩⟩
end
end Wc
namespace Wc
open PySem L2
section
variable {P : Program} {w : World} {K : PySem.W.Frag} {mg : Str → Option Value} {base : Heap}
theorem step__law_same {f : Addr} {fd : FuncData} {cd : Value} {n : Nat} (F : Df K "_law_same" s__law_same f fd cd) (T : Txt mg) (C__law_same : Cal P w K mg base n "_law_same" (sp2 (R_same K n)) []) :
    FnOk P w K mg base CX0 (n + 1) f fd ["actual", "expected"] (sp2 (R_same K (n + 1))) := by
  have nd := sc__law_same.nd
  refine F.ok sc__law_same (fun vs H Q E h => ?_) (fun A outer s H vs Q E hr h => ?_)
  · obtain ⟨_, _, rfl, _⟩ := h; rfl
  have hu := hu_of hr
  obtain ⟨x0, x1, rfl, h⟩ := h
  refine ⟨_, (pss_cons (ps_if (pt_val (pe_callB (r := rIsi K) call_isi rfl T.isinstance (by decide +kernel) (pa_cons (pv 1) (pa_cons (pe_bltn (v := .ty "tuple") rfl T.tuple (by decide +kernel) rfl) pa_nil)))) (pss_cons (ps_if (PW.pt (pw_or (pt_not (pt_val (pe_callB (r := rIsi K) call_isi rfl T.isinstance (by decide +kernel) (pa_cons (pv 0) (pa_cons (pe_bltn (v := .ty "tuple") rfl T.tuple (by decide +kernel) rfl) pa_nil))))) (pw_or1 (pt_cmpR op_ne (pe_callB (r := Evl.rLenS K) call_len_seq rfl T.len PySem.boot_len (pa_cons (pv 0) pa_nil)) (pe_callB (r := Evl.rLenS K) call_len_seq rfl T.len PySem.boot_len (pa_cons (pv 1) pa_nil)) (nomark _))))) (pss_one (ps_ret pe_bl)) pss_nil)
    (pss_cons (ps_for PassesOwn.never rfl (pi_range1 rfl T.range (pa_cons (pe_callB (r := Evl.rLenS K) call_len_seq rfl T.len PySem.boot_len (pa_cons (pv 1) pa_nil)) pa_nil)) (pg_name (i := 2) nd rfl (by first | exact Or.inl rfl | exact Or.inr rfl))
    (pss_one (ps_if (pt_not (pt_val (pe_c C__law_same hr (by first | exact Nat.le_refl _ | decide) rfl (pa_cons (pe_ix (r := rIxT K) ix_tup (pv 0) (pv 2) (fun _ _ => rfl)) (pa_cons (pe_ix (r := rIxT K) ix_tup (pv 1) (pv 2) (fun _ _ => rfl)) pa_nil))))) (pss_one (ps_ret pe_bl)) pss_nil)))
    (pss_one (ps_ret pe_bl)))) pss_nil)
    (pss_cons (ps_if (pt_cmpR op_isN (pv 1) pe_non (nomark _)) (pss_one (ps_ret (pe_cmpR op_isN (pv 0) pe_non (nomark _)))) pss_nil)
    (pss_cons (ps_if (pt_val (pe_callB (r := rIsi K) call_isi rfl T.isinstance (by decide +kernel) (pa_cons (pv 1) (pa_cons (pe_bltn (v := .ty "bool") rfl T.bool (by decide +kernel) rfl) pa_nil)))) (pss_one (ps_ret (pe_and (pe_callB (r := rIsi K) call_isi rfl T.isinstance (by decide +kernel) (pa_cons (pv 0) (pa_cons (pe_bltn (v := .ty "bool") rfl T.bool (by decide +kernel) rfl) pa_nil))) (pe_one (pe_cmpR op_eq (pv 0) (pv 1) (nomark _)))))) pss_nil)
    (pss_cons (ps_if (pt_val (pe_callB (r := rIsi K) call_isi rfl T.isinstance (by decide +kernel) (pa_cons (pv 1) (pa_cons (pe_bltn (v := .ty "int") rfl T.int (by decide +kernel) rfl) pa_nil)))) (pss_one (ps_ret (pe_and (pe_callB (r := rIsi K) call_isi rfl T.isinstance (by decide +kernel) (pa_cons (pv 0) (pa_cons (pe_bltn (v := .ty "int") rfl T.int (by decide +kernel) rfl) pa_nil))) (pe_and (pe_not (pe_callB (r := rIsi K) call_isi rfl T.isinstance (by decide +kernel) (pa_cons (pv 0) (pa_cons (pe_bltn (v := .ty "bool") rfl T.bool (by decide +kernel) rfl) pa_nil)))) (pe_one (pe_cmpR op_eq (pv 0) (pv 1) (nomark _))))))) pss_nil)
    (pss_one (ps_ret (pe_and (pe_callB (r := rIsi K) call_isi rfl T.isinstance (by decide +kernel) (pa_cons (pv 0) (pa_cons (pe_bltn (v := .ty "str") rfl T.str (by decide +kernel) rfl) pa_nil))) (pe_one (pe_cmpR op_eq (pv 0) (pv 1) (nomark _))))))))))
    , ?_⟩
  obtain ⟨d, hx, hy, hd, hth, q⟩ := h
  cases d with
  | tup ds =>
    obtain ⟨a, xs, rfl, ha, hxs⟩ := hx
    obtain ⟨b, ys, rfl, hb, hys⟩ := hy
    have lx := hxs.len
    have ly := hys.len
    have zl : ds.length ≤ 100000 := hth.1
    refine ⟨_, rfl, _, _, _, _, true, rfl, .ty "tuple", tyx_tup hb, kit_ty (by decide +kernel), _, rfl, iteT ?_⟩
    refine ⟨_, rfl, _, _, _, _, true, rfl, .ty "tuple", tyx_tup ha, kit_ty (by decide +kernel), _, rfl, iteF ?_⟩
    refine ⟨_, rfl, a, _, rfl, .inr ha, _, rfl, b, _, rfl, .inr hb, rfl, _, rfl, iteNS (by rw [lx, ly]) ?_⟩
    refine ⟨_, rfl, b, _, rfl, .inr hb, _, rfl, by omega, by omega, ?_⟩
    refine for_range (lo := 0) (n := ((ys.length : Nat) : Int).toNat) (fun i σ2 H2 => ∃ u, σ2 = [some (.ref a), some (.ref b), u] ∧ H2 = H) ⟨none, rfl, rfl⟩ (fun i σ2 H2 hi p => ?_) (fun σ2 H2 p => ?_)
    · obtain ⟨u, rfl, rfl⟩ := p
      have hi' : i < ds.length := by omega
      obtain ⟨d', hd'⟩ : ∃ d', ds[i]? = some d' := ⟨_, List.getElem?_eq_getElem hi'⟩
      obtain ⟨x, hx1, hx2⟩ := hxs.get hd'
      obtain ⟨y, hy1, hy2⟩ := hys.get hd'
      have e0 : (0 : Int) + (i : Int) = (i : Int) := Int.zero_add _
      have dd : d'.dep < n := by
        have z1 := dep_get hd'
        have z2 : 1 + Dt.depL ds < n + 1 := hd
        omega
      refine ⟨_, rfl, _, rfl, a, _, _, x, rfl, rfl, ha, by rw [e0]; exact atI_nat hx1, _, rfl, _, rfl, b, _, _, y, rfl, rfl, hb, by rw [e0]; exact atI_nat hy1, ?_⟩
      exact ⟨_, _, rfl, d', hx2, hy2, dd, thin_get hth.2 hd', _, rfl, iteF ⟨_, rfl, rfl⟩⟩
    · obtain ⟨u, rfl, rfl⟩ := p
      exact q
  | non =>
    have hx : x0 = .non := hx
    have hy : x1 = .non := hy
    subst hx hy
    refine ⟨_, rfl, _, _, _, _, false, rfl, .ty "tuple", .base .non, kit_ty (by decide +kernel), _, rfl, iteF ?_⟩
    exact ⟨_, rfl, rfl, _, rfl, iteT ⟨_, rfl, rfl, q⟩⟩
  | bl v =>
    have hx : x0 = .bl v := hx
    have hy : x1 = .bl v := hy
    subst hx hy
    refine ⟨_, rfl, _, _, _, _, false, rfl, .ty "tuple", .base (.bl v), kit_ty (by decide +kernel), _, rfl, iteF ?_⟩
    refine ⟨_, rfl, rfl, _, rfl, iteF ?_⟩
    refine ⟨_, rfl, _, _, _, _, true, rfl, .ty "bool", .base (.bl v), kit_ty (by decide +kernel), _, rfl, iteT ?_⟩
    refine ⟨_, rfl, _, _, _, _, true, rfl, .ty "bool", .base (.bl v), kit_ty (by decide +kernel), _, rfl, iteT ⟨_, rfl, _, rfl, rfl, ?_⟩⟩
    rw [decide_eq_true (rfl : V.bl v = V.bl v)]
    exact q
  | int v =>
    have hx : x0 = .int v := hx
    have hy : x1 = .int v := hy
    subst hx hy
    refine ⟨_, rfl, _, _, _, _, false, rfl, .ty "tuple", .base (.int v), kit_ty (by decide +kernel), _, rfl, iteF ?_⟩
    refine ⟨_, rfl, rfl, _, rfl, iteF ?_⟩
    refine ⟨_, rfl, _, _, _, _, false, rfl, .ty "bool", .base (.int v), kit_ty (by decide +kernel), _, rfl, iteF ?_⟩
    refine ⟨_, rfl, _, _, _, _, true, rfl, .ty "int", .base (.int v), kit_ty (by decide +kernel), _, rfl, iteT ?_⟩
    refine ⟨_, rfl, _, _, _, _, true, rfl, .ty "int", .base (.int v), kit_ty (by decide +kernel), _, rfl, iteT ?_⟩
    refine ⟨_, rfl, _, _, _, _, false, rfl, .ty "bool", .base (.int v), kit_ty (by decide +kernel), _, rfl, _, rfl, iteT ⟨_, rfl, _, rfl, rfl, ?_⟩⟩
    rw [decide_eq_true (rfl : V.int v = V.int v)]
    exact q
  | str v =>
    have hx : x0 = .str v := hx
    have hy : x1 = .str v := hy
    subst hx hy
    refine ⟨_, rfl, _, _, _, _, false, rfl, .ty "tuple", .base (.str v), kit_ty (by decide +kernel), _, rfl, iteF ?_⟩
    refine ⟨_, rfl, rfl, _, rfl, iteF ?_⟩
    refine ⟨_, rfl, _, _, _, _, false, rfl, .ty "bool", .base (.str v), kit_ty (by decide +kernel), _, rfl, iteF ?_⟩
    refine ⟨_, rfl, _, _, _, _, false, rfl, .ty "int", .base (.str v), kit_ty (by decide +kernel), _, rfl, iteF ?_⟩
    refine ⟨_, rfl, _, _, _, _, true, rfl, .ty "str", .base (.str v), kit_ty (by decide +kernel), _, rfl, iteT ⟨_, rfl, _, rfl, rfl, ?_⟩⟩
    rw [decide_eq_true (rfl : V.str v = V.str v)]
    exact q
theorem all__law_same {f : Addr} {fd : FuncData} {cd : Value} (F : Df K "_law_same" s__law_same f fd cd) (T : Txt mg) (b : Binds K fd ["actual", "expected"] []) (m : mg "_law_same" = some (.ref f)) (kp : PySem.W.keepIn K (.ref f) = true) :
    ∀ n, FnOk P w K mg base CX0 n f fd ["actual", "expected"] (sp2 (R_same K n))
  | 0 => by
    have no : ∀ vs H Q E, ¬ sp2 (R_same K 0) vs H Q E := fun vs H Q E h => by
      obtain ⟨_, _, _, d, _, _, hd, _⟩ := h
      omega
    exact ⟨fun vs H Q E h => absurd h (no vs H Q E), fun A outer s H args us vs Q E _ _ _ _ h => absurd h (no vs H Q E)⟩
  | n + 1 => step__law_same F T (Cal.mk0 (all__law_same F T b m kp n) m kp b)
theorem ok__law_same {f : Addr} {fd : FuncData} {cd : Value} (F : Df K "_law_same" s__law_same f fd cd) (T : Txt mg) (b : Binds K fd ["actual", "expected"] []) (m : mg "_law_same" = some (.ref f)) (kp : PySem.W.keepIn K (.ref f) = true) :
    Cal P w K mg base 9 "_law_same" (sp__law_same K) [] := Cal.mk0 (all__law_same F T b m kp 9) m kp b
end
end Wc
namespace Wc
open PySem L2
section
variable (K : PySem.W.Frag)
def R_retained : V2 := fun x y H Q => ∃ (a : Addr) (h : Hd) (n : Int), x = .ref a ∧ y = .int n ∧ HeapAt K H a h ∧ h.Ok ∧ ∀ ns, UpSet ns (Dom h n) → NewT ns H Q
abbrev sp_retained : Sp := sp2 (R_retained K)
def R_dominators : V2 := fun x y H Q => ∃ (a : Addr) (h : Hd) (n : Int), x = .ref a ∧ y = .int n ∧ HeapAt K H a h ∧ h.Ok ∧ ∀ ns, UpSet ns (fun m => Dom h m n) → NewT ns H Q
abbrev sp_dominators : Sp := sp2 (R_dominators K)
end
theorem obt_len {h : Hd} {cs ns : List Int} (ok : h.Ok) (u : UpSet ns (Obt h cs)) : ns.length ≤ 50 := by
  have z1 := nd_sub (nodup_of_up u.1) fun n hn => Obt.num ok ((u.2 n).mp hn)
  have := ok.size
  unfold Hd.nums at z1
  rw [List.length_map] at z1
  omega
section
variable {P : Program} {w : World} {K : PySem.W.Frag} {mg : Str → Option Value} {base : Heap}
theorem ok_retained {f : Addr} {fd : FuncData} {cd : Value} (F : Df K "retained" s_retained f fd cd) (T : Txt mg) (C_dropping : Cal P w K mg base 2 "dropping" (sp_dropping K) []) (C_reachable : Cal P w K mg base 5 "reachable" (sp_reachable K) []) : FnOk P w K mg base CX0 6 f fd ["heap", "number"] (sp_retained K) := by
  have nd := sc_retained.nd
  refine F.ok sc_retained (fun vs H Q E h => ?_) (fun A outer s H vs Q E hr h => ?_)
  · obtain ⟨_, _, rfl, _⟩ := h; rfl
  have hu := hu_of hr
  obtain ⟨x0, x1, rfl, h⟩ := h
  refine ⟨_, (pss_cons (ps_set (i := 2) nd rfl (by first | exact Or.inl rfl | exact Or.inr rfl) (pe_dc (own := [("other", 3)]) rfl nd (show PI _ _ _ (iTup K _) from pi_tup (pe_c C_reachable hr (by first | exact Nat.le_refl _ | decide) rfl (pa_cons (pe_c C_dropping hr (by first | exact Nat.le_refl _ | decide) rfl (pa_cons (pv 0) (pa_cons (pe_disp (pps_cons (pv 1) pe_bl pps_nil) rfl rfl (by simp) (by decide)) pa_nil))) pa_nil))) (blkOk_by (own := [("other", 3)]) (N := N_retained) (sc := defScope s_retained) (by decide +kernel)) (fun _ _ _ _ _ => (pg_name (i := 3) nd rfl (by first | exact Or.inl rfl | exact Or.inr rfl))) (fun _ _ _ _ _ => pts_nil) (fun _ _ _ _ _ => (pv 3)) (fun _ _ _ _ _ => pe_bl)))
    (pss_one (ps_ret (pe_callTy (r := rTupS K) call_tuple_of rfl T.tuple (by decide +kernel) (pa_cons (pe_lc (own := [("other", 3)]) rfl nd (show PI _ _ _ (iTup K _) from pi_tup (pe_c C_reachable hr (by first | exact Nat.le_refl _ | decide) rfl (pa_cons (pv 0) pa_nil))) (blkOk_by (own := [("other", 3)]) (N := N_retained) (sc := defScope s_retained) (by decide +kernel)) (fun _ _ _ _ _ => (pg_name (i := 3) nd rfl (by first | exact Or.inl rfl | exact Or.inr rfl))) (fun _ _ _ _ _ => (pts_one (pt_cmp (pc_dnotin hu (pv 3) (pv 2)) rfl))) (fun _ _ _ _ _ => (pv 3))) pa_nil))))), ?_⟩
  obtain ⟨a, h, n, rfl, rfl, hA, ok, q⟩ := h
  refine ⟨_, rfl, fun g fg => ⟨_, rfl, upd_same, [((Sum.inl n : Key), V.bl true)], rfl, (show 1 ≤ 15 by decide), ?_⟩⟩
  have e1 : ExA H (upd (upd H g (.dK [])) g (.dK (mergeK [] [(Sum.inl n, V.bl true)]))) := (ExM.new fg).put fg
  have hg : KeysAt (upd (upd H g (.dK [])) g (.dK (mergeK [] [(Sum.inl n, V.bl true)]))) g [n] := ⟨_, upd_same, rfl⟩
  generalize upd (upd H g (.dK [])) g (.dK (mergeK [] [(Sum.inl n, V.bl true)])) = H1 at e1 hg
  refine ⟨_, _, rfl, a, h, g, [n], rfl, rfl, HeapAt.mono (Tk.all e1) hA, ok, hg, fun H2 d e2 hd => ?_⟩
  refine ⟨_, rfl, d, _, rfl, hd, drop_ok ok _, fun ms hms t H3 f3 e3 ht => ?_⟩
  have zms := obt_len (drop_ok ok _) hms
  refine ⟨t, rfl, ⟨_, SqT.of ht⟩, fun L fL => ?_⟩
  refine dcB (walk_tup (xs := ms.map V.int)) ms rfl (List.length_map _) (by omega) _ fL (fun H' e => Tk.all e _ _ (SqT.of ht)) (fun _ _ R z => z) (fun _ => rfl) (fun _ _ R z => z) (fun _ _ R z => ⟨_, rfl, z⟩) (fun _ _ R z => z) (fun H4 e4 hL => ?_)
  have e14 := ((e1.trans e2).trans e3).trans e4
  refine ⟨_, rfl, _, rfl, a, h, rfl, HeapAt.mono (Tk.all e14) hA, ok, fun ns hns t2 H5 f5 e5 ht2 => ?_⟩
  have zns := obt_len ok hns
  refine ⟨t2, rfl, ⟨_, SqT.of ht2⟩, fun D hD => ?_⟩
  refine lcF K V.int ns (fun m => decide (m ∉ dedup ms)) _ walk_tup rfl (List.length_map _) (by omega) V.int hD (fun H' e => Tk.all e _ _ (SqT.of ht2)) (fun m H5 _ _ R z => z) (fun _ => rfl)
    (fun m H6 _ e R z => ⟨_, rfl, _, rfl, L, _, rfl, DGet.k (k := Sum.inl m) (ExA.at (e5.trans e) hL), _, rfl, by rw [key_has (dB_keys _) m, ← decide_not]; exact z _ (ExM.refl _ _)⟩) (fun m H5 _ _ _ R z => ⟨_, rfl, z _ (ExM.refl _ _)⟩) (fun H6 e6 hd2 => ?_)
  refine ⟨D, _, rfl, .inl ⟨SqL.of hd2, fun l fl => ?_⟩⟩
  have eZ := (e14.trans e5).trans e6
  refine q _ ⟨hns.1.sublist List.filter_sublist, fun m => ?_⟩ l _ (ExA.free eZ fl) (eZ.put (ExA.free eZ fl)) upd_same
  rw [List.mem_filter, decide_eq_true_eq, mem_dedup, hns.2, hms.2, reach_wo ok, drop_wo ok, mem_one]
  rfl
theorem ok_dominators {f : Addr} {fd : FuncData} {cd : Value} (F : Df K "dominators" s_dominators f fd cd) (T : Txt mg) (C_reachable : Cal P w K mg base 5 "reachable" (sp_reachable K) []) (C_retained : Cal P w K mg base 6 "retained" (sp_retained K) []) : FnOk P w K mg base CX0 7 f fd ["heap", "number"] (sp_dominators K) := by
  have nd := sc_dominators.nd
  refine F.ok sc_dominators (fun vs H Q E h => ?_) (fun A outer s H vs Q E hr h => ?_)
  · obtain ⟨_, _, rfl, _⟩ := h; rfl
  have hu := hu_of hr
  obtain ⟨x0, x1, rfl, h⟩ := h
  refine ⟨_, (pss_one (ps_ret (pe_callTy (r := rTupS K) call_tuple_of rfl T.tuple (by decide +kernel) (pa_cons (pe_lc (own := [("other", 2)]) rfl nd (show PI _ _ _ (iTup K _) from pi_tup (pe_c C_reachable hr (by first | exact Nat.le_refl _ | decide) rfl (pa_cons (pv 0) pa_nil))) (blkOk_by (own := [("other", 2)]) (N := N_dominators) (sc := defScope s_dominators) (by decide +kernel)) (fun _ _ _ _ _ => (pg_name (i := 2) nd rfl (by first | exact Or.inl rfl | exact Or.inr rfl))) (fun _ _ _ _ _ => (pts_one (pt_cmpR (r := rIn K false) op_in_seq (pv 1) (pe_c C_retained hr (by first | exact Nat.le_refl _ | decide) rfl (pa_cons (pv 0) (pa_cons (pv 2) pa_nil))) (by first | exact nomark _ | rfl)))) (fun _ _ _ _ _ => (pv 2))) pa_nil)))), ?_⟩
  obtain ⟨a, h, n, rfl, rfl, hA, ok, q⟩ := h
  refine ⟨_, rfl, _, rfl, a, h, rfl, hA, ok, fun ns hns t H1 f1 e1 ht => ?_⟩
  have zns := obt_len ok hns
  have hA1 := HeapAt.mono (Tk.all e1) hA
  refine ⟨t, rfl, ⟨_, SqT.of ht⟩, fun D hD => ?_⟩
  classical
  refine lcF K V.int ns (fun m => decide (Dom h m n)) _ walk_tup rfl (List.length_map _) (by omega) V.int hD (fun H' e => Tk.all e _ _ (SqT.of ht)) (fun m H5 _ _ R z => z) (fun _ => rfl)
    (fun m H6 _ e R z => ⟨_, rfl, _, rfl, _, rfl, _, _, rfl, a, h, m, rfl, rfl, HeapAt.mono (Tk.all e) hA1, ok, fun ms hms t3 H7 f7 e7 ht3 => ⟨t3, _, rfl, .inr (SqT.of ht3), rfl, flat_ints _, _, rfl, by
      show R (inV _ _) _; rw [inV_int, show decide (n ∈ ms) = decide (Dom h m n) from decide_eq_decide.mpr (hms.2 n)]; exact z _ e7⟩⟩) (fun m H5 _ _ _ R z => ⟨_, rfl, z _ (ExM.refl _ _)⟩) (fun H6 e6 hd2 => ?_)
  refine ⟨D, _, rfl, .inl ⟨SqL.of hd2, fun l fl => ?_⟩⟩
  have eZ := e1.trans e6
  refine q _ ⟨hns.1.sublist List.filter_sublist, fun m => ?_⟩ l _ (ExA.free eZ fl) (eZ.put (ExA.free eZ fl)) upd_same
  rw [List.mem_filter, decide_eq_true_eq, hns.2, reach_wo ok]
  exact ⟨fun z => z.2, fun z => ⟨Dom.first z, z⟩⟩
end
end Wc
namespace Wc
open PySem L2
theorem rf_eq2 (t : Rf) (n : Int) : decide (rV t = V.int n) = hit [n] t := by
  cases t with
  | none => rfl
  | some i => exact decide_eq_decide.mpr ⟨fun e => by rw [V.int.inj e]; exact List.mem_singleton.mpr rfl, fun e => by rw [List.mem_singleton.mp e]; rfl⟩
/-- None if r == n else r -/
theorem clr_eq {H : Hp} {tv : TE} {σ : L2.St} {n : Int} {r : Rf} {j : Nat} {R : VK} (hj : σ[j]? = some (some (.int n))) (hv : ∀ Q : VK, Q (rV r) H → tv σ H Q) (z : R (rV (clr [n] r)) H) :
    tIf (tTest (tOp rEq tv (tVar j))) (tC .non) tv σ H R := by
  refine hv _ ⟨_, hj, by cases r <;> rfl, _, rfl, ?_⟩
  rw [rf_eq2]
  have z : R (rV (if hit [n] r = true then none else r)) H := z
  cases c : hit [n] r with
  | true => rw [c, if_pos rfl] at z; exact iteT z
  | false => rw [c, if_neg (by simp)] at z; exact iteF (hv _ z)
section
variable (K : PySem.W.Frag)
def R__law_left_out : V2 := fun x y H Q => ∃ (a : Addr) (h : Hd) (n : Int), x = .ref a ∧ y = .int n ∧ HeapAt K H a h ∧ h.Ok ∧ ∀ H' p, ExA H H' → HeapAt K H' p (leftOut h n) → Q (.ref p) H'
abbrev sp__law_left_out : Sp := sp2 (R__law_left_out K)
end
section
variable {P : Program} {w : World} {K : PySem.W.Frag} {mg : Str → Option Value} {base : Heap}
theorem ok__law_left_out {f : Addr} {fd : FuncData} {cd : Value} (F : Df K "_law_left_out" s__law_left_out f fd cd) (T : Txt mg) : FnOk P w K mg base CX0 1 f fd ["heap", "number"] (sp__law_left_out K) := by
  have nd := sc__law_left_out.nd
  refine F.ok sc__law_left_out (fun vs H Q E h => ?_) (fun A outer s H vs Q E hr h => ?_)
  · obtain ⟨_, _, rfl, _⟩ := h; rfl
  have hu := hu_of hr
  obtain ⟨x0, x1, rfl, h⟩ := h
  refine ⟨_, (pss_cons (ps_set (i := 2) nd rfl (by first | exact Or.inl rfl | exact Or.inr rfl) (pe_lst pa_nil))
    (pss_cons (ps_for PassesOwn.never rfl (show PI _ _ _ (iTup K _) from pi_tup (pe_ix (r := rIxT K) ix_tup (pv 0) pe_int (fun _ _ => rfl))) (pg_name (i := 3) nd rfl (by first | exact Or.inl rfl | exact Or.inr rfl))
    (Evl.pss_cut (ps_if (pt_cmpR op_eq (pe_ix (r := rIxT K) ix_tup (pv 3) pe_int (fun _ _ => rfl)) pe_str (nomark _)) (pss_one (ps_set (i := 3) nd rfl (by first | exact Or.inl rfl | exact Or.inr rfl) (pe_tup (pa_cons pe_str (pa_cons (pe_ix (r := rIxT K) ix_tup (pv 3) pe_int (fun _ _ => rfl)) (pa_cons (pe_callTy (r := rTupZ K) call_tupleZ rfl T.tuple (by decide +kernel) (pa_cons (pe_lc (own := [("one", 4)]) rfl nd (show PI _ _ _ (iTup K _) from pi_tup (pe_ix (r := rIxT K) ix_tup (pv 3) pe_int (fun _ _ => rfl))) (blkOk_by (own := [("one", 4)]) (N := N__law_left_out) (sc := defScope s__law_left_out) (by decide +kernel)) (fun _ _ _ _ _ => (pg_name (i := 4) nd rfl (by first | exact Or.inl rfl | exact Or.inr rfl))) (fun _ _ _ _ _ => pts_nil) (fun _ _ _ _ _ => (pe_ifExp (pt_cmpR op_eq (pv 4) (pv 1) (nomark _)) pe_non (pv 4)))) pa_nil)) pa_nil)))))) (pss_one (ps_if (pt_cmpR op_eq (pe_ix (r := rIxT K) ix_tup (pv 3) pe_int (fun _ _ => rfl)) pe_str (nomark _)) (pss_one (ps_set (i := 3) nd rfl (by first | exact Or.inl rfl | exact Or.inr rfl) (pe_tup (pa_cons pe_str (pa_cons (pe_ix (r := rIxT K) ix_tup (pv 3) pe_int (fun _ _ => rfl)) (pa_cons (pe_ifExp (pt_cmpR op_eq (pe_ix (r := rIxT K) ix_tup (pv 3) pe_int (fun _ _ => rfl)) (pv 1) (nomark _)) pe_non (pe_ix (r := rIxT K) ix_tup (pv 3) pe_int (fun _ _ => rfl))) pa_nil)))))) (pss_one (ps_set (i := 3) nd rfl (by first | exact Or.inl rfl | exact Or.inr rfl) (pe_tup (pa_cons pe_str (pa_cons (pe_ix (r := rIxT K) ix_tup (pv 3) pe_int (fun _ _ => rfl)) (pa_cons (pe_callTy (r := rTupZ K) call_tupleZ rfl T.tuple (by decide +kernel) (pa_cons (pe_lc (own := [("entry", 5)]) rfl nd (show PI _ _ _ (iTup K _) from pi_tup (pe_ix (r := rIxT K) ix_tup (pv 3) pe_int (fun _ _ => rfl))) (blkOk_by (own := [("entry", 5)]) (N := N__law_left_out) (sc := defScope s__law_left_out) (by decide +kernel)) (fun _ _ _ _ _ => (pg_name (i := 5) nd rfl (by first | exact Or.inl rfl | exact Or.inr rfl))) (fun _ _ _ _ _ => (pts_one (pt_cmpR (r := rIn K true) op_notIn_seq (pv 1) (pv 5) (by first | exact nomark _ | rfl)))) (fun _ _ _ _ _ => (pv 5))) pa_nil)) pa_nil)))))))))
    (pss_one (ps_expr (pe_bm PySem.F.plainAttrs_list PySem.F.slot_list_append PySem.F.type_list_append mt_append (pv 2) (pa_cons (pv 3) pa_nil))))))
    (pss_one (ps_ret (pe_op (r := rCatA K) op_catA (pe_slice sl_tup (pv 0) po_none (po_some pe_int)) (pe_tup (pa_cons (pe_callTy (r := rTupZ K) call_tupleZ rfl T.tuple (by decide +kernel) (pa_cons (pe_lc (own := [("one", 4)]) rfl nd (show PI _ _ _ (iTup K _) from pi_tup (pe_ix (r := rIxT K) ix_tup (pv 0) pe_int (fun _ _ => rfl))) (blkOk_by (own := [("one", 4)]) (N := N__law_left_out) (sc := defScope s__law_left_out) (by decide +kernel)) (fun _ _ _ _ _ => (pg_name (i := 4) nd rfl (by first | exact Or.inl rfl | exact Or.inr rfl))) (fun _ _ _ _ _ => pts_nil) (fun _ _ _ _ _ => (pe_ifExp (pt_cmpR op_eq (pv 4) (pv 1) (nomark _)) pe_non (pv 4)))) pa_nil)) (pa_cons (pe_ix (r := rIxT K) ix_tup (pv 0) pe_int (fun _ _ => rfl)) (pa_cons (pe_callTy (r := rTupZ K) call_tupleZ rfl T.tuple (by decide +kernel) (pa_cons (pv 2) pa_nil)) (pa_cons (pe_ix (r := rIxT K) ix_tup (pv 0) pe_int (fun _ _ => rfl)) pa_nil)))))))))), ?_⟩
  obtain ⟨a, h, n, rfl, rfl, hA, ok, q⟩ := h
  obtain ⟨r, k, o, w, ws, h1, h2, h3, ⟨os, ho, hobs⟩, h5, h6⟩ := id hA
  refine ⟨Nat.zero_le _, fun l fl => ?_⟩
  have e1 : ExA H (upd H l (.lst [])) := ExM.new fl
  have hl1 : (upd H l (.lst [])) l = some (.lst []) := upd_same
  generalize upd H l (.lst []) = H1 at e1 hl1 ⊢
  refine ⟨_, rfl, a, _, _, _, rfl, rfl, Tk.all e1 _ _ h1, at4, o, rfl, ⟨_, Tk.all e1 _ _ ho⟩, ?_⟩
  refine for_it (walk_tup (xs := os.map V.ref)) (fun i σ3 H3 => ∃ u3 bs, σ3 = [some (.ref a), some (.int n), some (.ref l), u3, none, none] ∧ ExA H H3 ∧ H3 l = some (.lst (bs.map V.ref)) ∧ Paired (ObAt K H3) bs ((h.obs.take i).map (dropOb [n])))
    ⟨none, [], rfl, e1, hl1, .nil⟩ (fun i σ3 H3 _ p => by obtain ⟨_, _, _, e, _⟩ := p; exact Tk.all e _ _ ho) (fun i x σ3 H3 H4 hi p y => ?_) (fun σ3 H3 p => ?_)
  · obtain ⟨rfl, hx⟩ := y
    obtain ⟨u3, bs, rfl, e3, hl, hbs⟩ := p
    rw [List.length_map] at hi
    obtain ⟨ao, hao⟩ : ∃ ao, os[i]? = some ao := ⟨_, List.getElem?_eq_getElem hi⟩
    rw [List.getElem?_map, hao] at hx
    obtain rfl : V.ref ao = x := Option.some.inj hx
    obtain ⟨ob, hob, hoa⟩ := pget hobs hao
    have hoa := ObAt.mono (Tk.all e3) hoa
    have hmem : ob ∈ h.obs := List.mem_of_getElem? hob
    have sm := (ok.obs _ hmem).small
    have zi : i < 50 := by
      have z1 := (List.getElem?_eq_some_iff.mp hob).1
      have := ok.size
      omega
    have zb : bs.length ≤ 50 := by rw [plen hbs, List.length_map, List.length_take]; omega
    refine ⟨fun σ5 H5 => ∃ p, σ5 = [some (.ref a), some (.int n), some (.ref l), some (.ref p), none, none] ∧ ExA H4 H5 ∧ ObAt K H5 p (dropOb [n] ob), ?_, ?_⟩
    · cases ob with
      | rcd m fs =>
        obtain ⟨t, g1, g2⟩ := hoa
        refine ⟨_, rfl, ao, _, _, _, rfl, rfl, g1, at0, rfl, _, rfl, iteT ?_⟩
        refine ⟨_, rfl, ao, _, _, _, rfl, rfl, g1, at1, ?_⟩
        refine ⟨_, rfl, ao, _, _, _, rfl, rfl, g1, at2, t, rfl, ⟨_, g2.sq⟩, fun D hD => ?_⟩
        refine lcF K rV fs (fun _ => true) _ walk_tup rfl (List.length_map _) (Nat.le_trans sm (by decide)) (fun r => rV (clr [n] r)) hD (fun H' e => Tk.all e _ _ g2.sq) (fun r H5 _ _ R z => z) (fun _ => rfl) (fun r H5 _ _ R z => tyesR z)
          (fun r H5 _ _ e R z => clr_eq rfl (fun _ y => ⟨_, rfl, y⟩) (z _ (ExM.refl _ _))) (fun H5 e5 hd => ?_)
        rw [filter_all] at hd
        refine ⟨D, _, rfl, SqL.of hd, fun l2 o2 fl2 no => ⟨sz (by show 3 ≤ 100000; decide), fun p fp => ?_⟩⟩
        have np : p ≠ l2 := fun z => by rw [z, upd_same] at fp; cases fp
        refine ⟨p, rfl, (e5.put (ExA.free e5 fl2)).trans (ExM.new fp), l2, SqT.of upd_same, SqZ.of no ?_⟩
        rw [upd_ne np.symm, upd_same, List.map_map]; rfl
      | weak m t =>
        have g1 : SqT K H4 ao [.str "weak", .int m, rV t] := hoa
        refine ⟨_, rfl, ao, _, _, _, rfl, rfl, g1, at0, rfl, _, rfl, iteF ?_⟩
        refine ⟨_, rfl, ao, _, _, _, rfl, rfl, g1, at0, rfl, _, rfl, iteT ?_⟩
        refine ⟨_, rfl, ao, _, _, _, rfl, rfl, g1, at1, ?_⟩
        refine clr_eq rfl (fun _ y => ⟨_, rfl, ao, _, _, _, rfl, rfl, g1, at2, y⟩) ⟨sz (by show 3 ≤ 100000; decide), fun p fp => ?_⟩
        exact ⟨p, rfl, ExM.new fp, SqT.of upd_same⟩
      | tab m es =>
        obtain ⟨t, ps, g1, g2, g3⟩ := hoa
        refine ⟨_, rfl, ao, _, _, _, rfl, rfl, g1, at0, rfl, _, rfl, iteF ?_⟩
        refine ⟨_, rfl, ao, _, _, _, rfl, rfl, g1, at0, rfl, _, rfl, iteF ?_⟩
        refine ⟨_, rfl, ao, _, _, _, rfl, rfl, g1, at1, ?_⟩
        refine ⟨_, rfl, ao, _, _, _, rfl, rfl, g1, at2, t, rfl, ⟨_, g2.sq⟩, fun D hD => ?_⟩
        have zl := plen g3
        have sm' : es.length ≤ 1000 := sm
        refine lcF K (fun q : Addr × (Int × Int) => V.ref q.1) (ps.zip es) (fun q => decide (q.2.1 ∉ [n]) && decide (q.2.2 ∉ [n])) _ walk_tup (zip_refs g3) (by rw [List.length_map, zip_len g3]) (by rw [zip_len g3]; omega) (fun q : Addr × (Int × Int) => V.ref q.1) hD (fun H' e => Tk.all e _ _ g2.sq)
          (fun q H5 hq e R z => z) (fun _ => rfl) (fun q H5 hq e R z => ⟨_, rfl, _, rfl, q.1, _, rfl, .inr (Tk.all e _ _ (zip_all g3 q hq)), rfl, rfl, _, rfl, ?_⟩) (fun q H5 _ _ _ R z => ⟨_, rfl, z _ (ExM.refl _ _)⟩) (fun H5 e5 hd => ?_)
        · show R (!inV (V.int n) [V.int q.2.1, V.int q.2.2]) H5
          have e : (!inV (V.int n) [V.int q.2.1, V.int q.2.2]) = (decide (q.2.1 ∉ [n]) && decide (q.2.2 ∉ [n])) := by
            rw [show [V.int q.2.1, V.int q.2.2] = [q.2.1, q.2.2].map V.int from rfl, inV_int]
            by_cases c1 : q.2.1 = n
            · simp [c1]
            · by_cases c2 : q.2.2 = n
              · simp [c2]
              · simp [c1, c2, Ne.symm c1, Ne.symm c2, fun z : n = q.2.1 => c1 z.symm, fun z : n = q.2.2 => c2 z.symm]
          rw [e]; exact z _ (ExM.refl _ _)
        refine ⟨D, _, rfl, SqL.of hd, fun l2 o2 fl2 no => ⟨sz (by show 3 ≤ 100000; decide), fun p fp => ?_⟩⟩
        have np : p ≠ l2 := fun z => by rw [z, upd_same] at fp; cases fp
        have ee := (e5.put (o := .frz o2 (.tup (((ps.zip es).filter fun q => decide (q.2.1 ∉ [n]) && decide (q.2.2 ∉ [n])).map fun q => V.ref q.1))) (ExA.free e5 fl2)).trans (ExM.new (o := .tup [.str "table", .int m, .ref l2]) fp)
        refine ⟨p, rfl, ee, l2, ((ps.zip es).filter fun q => decide (q.2.1 ∉ [n]) && decide (q.2.2 ∉ [n])).map (·.1), SqT.of upd_same, SqZ.of no (by rw [upd_ne np.symm, upd_same, List.map_map]; rfl), ?_⟩
        have key : ∀ {l : List (Addr × (Int × Int))}, (∀ q ∈ l, PairAt K H4 q.1 q.2) → Paired (PairAt K H4) (l.map (·.1)) (l.map (·.2)) := fun {l} hl => by
          induction l with
          | nil => exact .nil
          | cons x r ih => exact .cons (hl x List.mem_cons_self) (ih fun q hq => hl q (List.mem_cons_of_mem _ hq))
        have k2 := key (l := (ps.zip es).filter fun q => decide (q.2.1 ∉ [n]) && decide (q.2.2 ∉ [n])) fun q hq => zip_all g3 q (List.mem_filter.mp hq).1
        rw [zip_filter g3 (fun e => decide (e.1 ∉ [n]) && decide (e.2 ∉ [n]))] at k2
        exact pmp k2 fun _ _ z => PairAt.mono (Tk.all ee) z
    · rintro σ5 H5 ⟨p, rfl, e5, hp⟩
      have hl5 := ExA.at e5 hl
      refine ⟨_, rfl, .inl ⟨rfl, _, SqL.of hl5⟩, _, rfl, l, _, _, rfl, rfl, hl5, szl (by rw [List.length_map]; omega), ?_⟩
      refine ⟨_, bs ++ [p], rfl, (e3.trans e5).put fl, by rw [upd_same, List.map_append]; rfl, ?_⟩
      rw [take_snoc hob, List.map_append]
      have tl : Tk K H5 (upd H5 l (.lst (bs.map V.ref ++ [V.ref p]))) := Tk.lst hl5
      exact psnoc (ObAt.mono tl hp) (pmp hbs fun _ _ z => ObAt.mono (Tk.trans (Tk.all e5) tl) z)
  obtain ⟨u3, bs, rfl, e3, hl, hbs⟩ := p
  rw [List.length_map, plen hobs, List.take_length] at hbs
  refine ⟨_, rfl, _, rfl, ?_⟩
  refine sl_to (i := 2) (Tk.all e3 _ _ h1) (show 2 < 6 by decide) fun p1 Ha ea hp1 => ?_
  have e3a := e3.trans ea
  have h1a := Tk.all e3a _ _ h1
  refine ⟨_, rfl, a, _, _, _, rfl, rfl, h1a, at2, r, rfl, ⟨_, Tk.all e3a _ _ h2.sq⟩, fun D hD => ?_⟩
  refine lcF K rV h.regs (fun _ => true) _ walk_tup rfl (List.length_map _) (Nat.le_trans ok.nreg (by decide)) (fun r => rV (clr [n] r)) hD (fun H' e => Tk.all (e3a.trans e) _ _ h2.sq) (fun r H5 _ _ R z => z) (fun _ => rfl) (fun r H5 _ _ R z => tyesR z)
    (fun r H5 _ _ e R z => clr_eq rfl (fun _ y => ⟨_, rfl, y⟩) (z _ (ExM.refl _ _))) (fun Hb eb hd => ?_)
  rw [filter_all] at hd
  refine ⟨D, _, rfl, SqL.of hd, fun l1 o1 fl1 no1 => ?_⟩
  have ec : ExA Ha (upd Hb l1 (.frz o1 (.tup (h.regs.map fun r => rV (clr [n] r))))) := eb.put (ExA.free eb fl1)
  have hr1 : SqZ (upd Hb l1 (.frz o1 (.tup (h.regs.map fun r => rV (clr [n] r))))) l1 ((h.regs.map (clr [n])).map rV) := SqZ.of no1 (by rw [upd_same, List.map_map]; rfl)
  generalize upd Hb l1 (.frz o1 (.tup (h.regs.map fun r => rV (clr [n] r)))) = Hc at ec hr1 ⊢
  have e3c := e3a.trans ec
  have h1c := Tk.all e3c _ _ h1
  refine ⟨_, rfl, a, _, _, _, rfl, rfl, h1c, at3, ?_⟩
  refine ⟨_, rfl, l, _, rfl, SqL.of (ExA.at (ea.trans ec) hl), fun l2 o2 fl2 no2 => ?_⟩
  have ed : ExA Hc (upd Hc l2 (.frz o2 (.tup (bs.map V.ref)))) := ExM.new fl2
  have hb2 : SqT K (upd Hc l2 (.frz o2 (.tup (bs.map V.ref)))) l2 (bs.map V.ref) := (SqZ.of no2 upd_same).sq
  generalize upd Hc l2 (.frz o2 (.tup (bs.map V.ref))) = Hd' at ed hb2 ⊢
  have e3d := e3c.trans ed
  refine ⟨_, rfl, a, _, _, _, rfl, rfl, Tk.all e3d _ _ h1, at5, ?_⟩
  refine ⟨sz (by show 4 ≤ 100000; decide), fun l3 fl3 => ?_⟩
  have ee : ExA Hd' (upd Hd' l3 (.tup [.ref l1, .ref k, .ref l2, .ref w])) := ExM.new fl3
  refine cat_any (Tk.all ((ec.trans ed).trans ee) _ _ hp1) (SqT.of upd_same) (show 2 + 4 ≤ 100000 by decide) fun pz Hz ez hz => ?_
  have ef := ee.trans ez
  have edf := ed.trans ef
  have eall := e3c.trans edf
  exact q _ pz eall ⟨l1, k, l2, w, ws, hz, hr1.mono (Tk.all (K := K) edf), Tk.all eall _ _ h3, ⟨bs, Tk.all ef _ _ hb2, pmp hbs fun _ _ z => ObAt.mono (Tk.all ((ea.trans ec).trans edf)) z⟩, Tk.all eall _ _ h5, pmp h6 fun _ _ z => PairAt.mono (Tk.all eall) z⟩
end
end Wc
namespace Wc
open PySem L2
theorem up_tupIs {K : PySem.W.Frag} {H : Hp} {t : Addr} {ns : List Int} (h : SqT K H t (ns.map V.int)) : Is K H (.tup (ns.map Dt.int)) (.ref t) := ⟨_, _, rfl, h, IsL.ints _⟩
theorem up_dep (ns : List Int) : (Dt.tup (ns.map Dt.int)).dep < 9 := by show 1 + Dt.depL (ns.map Dt.int) < 9; rw [depL_ints]; decide
theorem up_thin {ns : List Int} (h : ns.length ≤ 100000) : (Dt.tup (ns.map Dt.int)).thin := ⟨by rw [List.length_map]; exact h, thin_ints ns⟩
/-- the law's table: under each number what it retains -/
def TabD (K : PySem.W.Frag) (H : Hp) (h : Hd) (tb : Addr) (L : List Int) : Prop := ∃ kvs : List (Key × V), H tb = some (.dK kvs) ∧ kvs.map (·.1) = L.map Sum.inl ∧ ∀ n ∈ L, ∃ t ds, valV kvs (Sum.inl n) = some (.ref t) ∧ SqT K H t (ds.map V.int) ∧ UpSet ds (Dom h n)
theorem TabD.get {K : PySem.W.Frag} {H : Hp} {h : Hd} {tb : Addr} {L : List Int} (x : TabD K H h tb L) {n : Int} (hn : n ∈ L) : ∃ t ds, DGet H tb (.int n) (some (.ref t)) ∧ SqT K H t (ds.map V.int) ∧ UpSet ds (Dom h n) := by
  obtain ⟨kvs, h1, _, h3⟩ := x
  obtain ⟨t, ds, y1, y2, y3⟩ := h3 n hn
  exact ⟨t, ds, .inl ⟨kvs, Sum.inl n, .inl h1, rfl, y1.symm⟩, y2, y3⟩
theorem TabD.keep {K : PySem.W.Frag} {H H' : Hp} {h : Hd} {tb : Addr} {L : List Int} (e : ExA H H') (x : TabD K H h tb L) : TabD K H' h tb L := by
  obtain ⟨kvs, h1, h2, h3⟩ := x
  refine ⟨kvs, ExA.at e h1, h2, fun n hn => ?_⟩
  obtain ⟨t, ds, y1, y2, y3⟩ := h3 n hn
  exact ⟨t, ds, y1, Tk.all e _ _ y2, y3⟩
theorem dom_len {h : Hd} (ok : h.Ok) {n : Int} {ds : List Int} (u : UpSet ds (Dom h n)) : ds.length ≤ 50 := by
  have z1 := nd_sub (nodup_of_up u.1) fun m hm => Obt.num ok ((reach_wo ok m).mpr ((u.2 m).mp hm).1)
  have := ok.size
  unfold Hd.nums at z1
  rw [List.length_map] at z1
  omega
section
variable (K : PySem.W.Frag)
def R_law : V1 := fun x H Q => ∃ (a : Addr) (ns : List Int), x = .ref a ∧ SqL K H a (ns.map V.int) ∧ ns.length ≤ 63 ∧ ∀ H', Q (.bl true) H'
abbrev sp_law : Sp := sp1 (R_law K)
end
section
variable {P : Program} {w : World} {K : PySem.W.Frag} {mg : Str → Option Value} {base : Heap}
theorem ok_law {f : Addr} {fd : FuncData} {cd : Value} (F : Df K "law" s_law f fd cd) (T : Txt mg) (C_retained : Cal P w K mg base 6 "retained" (sp_retained K) []) (C_dominators : Cal P w K mg base 7 "dominators" (sp_dominators K) []) (C__law_box : Cal P w K mg base 3 "_law_box" (sp__law_box K) []) (C__law_heap : Cal P w K mg base 4 "_law_heap" (sp__law_heap K) []) (C__law_numbers : Cal P w K mg base 1 "_law_numbers" (sp__law_numbers K) []) (C__law_obtainable : Cal P w K mg base 2 "_law_obtainable" (sp__law_obtainable K) []) (C__law_same : Cal P w K mg base 9 "_law_same" (sp__law_same K) []) (C__law_left_out : Cal P w K mg base 1 "_law_left_out" (sp__law_left_out K) []) : FnOk P w K mg base CX0 10 f fd ["script"] (sp_law K) := by
  have nd := sc_law.nd
  refine F.ok sc_law (fun vs H Q E h => ?_) (fun A outer s H vs Q E hr h => ?_)
  · obtain ⟨_, rfl, _⟩ := h; rfl
  have hu := hu_of hr
  obtain ⟨x0, rfl, h⟩ := h
  refine ⟨_, (pss_cons (ps_set (i := 1) nd rfl (by first | exact Or.inl rfl | exact Or.inr rfl) (pe_c C__law_box hr (by first | exact Nat.le_refl _ | decide) rfl (pa_cons (pv 0) (pa_cons pe_int (pa_cons pe_int pa_nil)))))
    (pss_cons (ps_set (i := 2) nd rfl (by first | exact Or.inl rfl | exact Or.inr rfl) (pe_c C__law_heap hr (by first | exact Nat.le_refl _ | decide) rfl (pa_cons (pv 1) (pa_cons pe_int pa_nil))))
    (pss_cons (ps_set (i := 3) nd rfl (by first | exact Or.inl rfl | exact Or.inr rfl) (pe_c C__law_numbers hr (by first | exact Nat.le_refl _ | decide) rfl (pa_cons (pv 2) pa_nil)))
    (pss_cons (ps_set (i := 4) nd rfl (by first | exact Or.inl rfl | exact Or.inr rfl) (pe_c C__law_obtainable hr (by first | exact Nat.le_refl _ | decide) rfl (pa_cons (pv 2) (pa_cons (pv 3) pa_nil))))
    (pss_cons (ps_set (i := 5) nd rfl (by first | exact Or.inl rfl | exact Or.inr rfl) pe_dnewK)
    (pss_cons (ps_for PassesOwn.never rfl (show PI _ _ _ (iList K _) from pi_list (pv 3)) (pg_name (i := 6) nd rfl (by first | exact Or.inl rfl | exact Or.inr rfl))
    (pss_cons (ps_set (i := 7) nd rfl (by first | exact Or.inl rfl | exact Or.inr rfl) (pe_c C__law_obtainable hr (by first | exact Nat.le_refl _ | decide) rfl (pa_cons (pe_c C__law_left_out hr (by first | exact Nat.le_refl _ | decide) rfl (pa_cons (pv 2) (pa_cons (pv 6) pa_nil))) (pa_cons (pv 3) pa_nil))))
    (pss_cons (ps_set (i := 8) nd rfl (by first | exact Or.inl rfl | exact Or.inr rfl) (pe_tup pa_nil))
    (Evl.pss_cut (ps_if (pt_cmpR (r := rIn K false) op_in_seq (pv 6) (pv 4) (by first | exact nomark _ | rfl)) (pss_one (ps_set (i := 8) nd rfl (by first | exact Or.inl rfl | exact Or.inr rfl) (pe_callTy (r := rTupS K) call_tuple_of rfl T.tuple (by decide +kernel) (pa_cons (pe_lc (own := [("other", 9)]) rfl nd (show PI _ _ _ (iList K _) from pi_list (pv 4)) (blkOk_by (own := [("other", 9)]) (N := N_law) (sc := defScope s_law) (by decide +kernel)) (fun _ _ _ _ _ => (pg_name (i := 9) nd rfl (by first | exact Or.inl rfl | exact Or.inr rfl))) (fun _ _ _ _ _ => (pts_one (PW.pt (pw_or (pt_cmpR op_eq (pv 9) (pv 6) (nomark _)) (pw_or1 (pt_cmpR (r := rIn K true) op_notIn_seq (pv 9) (pv 7) (by first | exact nomark _ | rfl))))))) (fun _ _ _ _ _ => (pv 9))) pa_nil)))) pss_nil)
    (pss_cons (ps_dput hu (pv 5) (pv 6) (pv 8) rfl)
    (pss_one (ps_if (pt_not (pt_val (pe_c C__law_same hr (by first | exact Nat.le_refl _ | decide) rfl (pa_cons (pe_c C_retained hr (by first | exact Nat.le_refl _ | decide) rfl (pa_cons (pv 2) (pa_cons (pv 6) pa_nil))) (pa_cons (pv 8) pa_nil))))) (pss_one (ps_ret pe_bl)) pss_nil)))))))
    (pss_cons (ps_for PassesOwn.never rfl (show PI _ _ _ (iList K _) from pi_list (pv 3)) (pg_name (i := 6) nd rfl (by first | exact Or.inl rfl | exact Or.inr rfl))
    (pss_cons (ps_if (pt_not (pt_val (pe_c C__law_same hr (by first | exact Nat.le_refl _ | decide) rfl (pa_cons (pe_c C_dominators hr (by first | exact Nat.le_refl _ | decide) rfl (pa_cons (pv 2) (pa_cons (pv 6) pa_nil))) (pa_cons (pe_callTy (r := rTupS K) call_tuple_of rfl T.tuple (by decide +kernel) (pa_cons (pe_lc (own := [("other", 9)]) rfl nd (show PI _ _ _ (iList K _) from pi_list (pv 3)) (blkOk_by (own := [("other", 9)]) (N := N_law) (sc := defScope s_law) (by decide +kernel)) (fun _ _ _ _ _ => (pg_name (i := 9) nd rfl (by first | exact Or.inl rfl | exact Or.inr rfl))) (fun _ _ _ _ _ => (pts_one (pt_cmpR (r := rIn K false) op_in_seq (pv 6) (pe_dget hu (pv 5) (pv 9) (fun _ _ => rfl)) (by first | exact nomark _ | rfl)))) (fun _ _ _ _ _ => (pv 9))) pa_nil)) pa_nil))))) (pss_one (ps_ret pe_bl)) pss_nil)
    (pss_one (ps_for PassesOwn.never rfl (show PI _ _ _ (iTup K _) from pi_tup (pe_dget hu (pv 5) (pv 6) (fun _ _ => rfl))) (pg_name (i := 9) nd rfl (by first | exact Or.inl rfl | exact Or.inr rfl))
    (pss_cons (ps_if (PW.pt (pw_and (pt_cmpR op_ne (pv 9) (pv 6) (nomark _)) (pw_and1 (pt_cmpR (r := rIn K false) op_in_seq (pv 6) (pe_dget hu (pv 5) (pv 9) (fun _ _ => rfl)) (by first | exact nomark _ | rfl))))) (pss_one (ps_ret pe_bl)) pss_nil)
    (pss_one (ps_for PassesOwn.never rfl (show PI _ _ _ (iTup K _) from pi_tup (pe_dget hu (pv 5) (pv 9) (fun _ _ => rfl))) (pg_name (i := 10) nd rfl (by first | exact Or.inl rfl | exact Or.inr rfl))
    (pss_one (ps_if (pt_cmpR (r := rIn K true) op_notIn_seq (pv 10) (pe_dget hu (pv 5) (pv 6) (fun _ _ => rfl)) (by first | exact nomark _ | rfl)) (pss_one (ps_ret pe_bl)) pss_nil)))))))))
    (pss_one (ps_ret pe_bl))))))))), ?_⟩
  obtain ⟨sa, sn, rfl, hS, h63, q⟩ := h
  refine ⟨_, rfl, _, _, _, rfl, sa, sn, 0, 63, rfl, rfl, rfl, hS, by decide, by decide, by decide, fun b d ds H1 f1 e1 b1 => ?_⟩
  refine ⟨_, rfl, _, _, rfl, b, d, ds, 9, rfl, rfl, by decide, by decide, b1, fun H2 a h x2 b2 hA ok z6 => ?_⟩
  refine ⟨_, rfl, _, rfl, a, h, rfl, hA, ok, fun l H3 fl e3 hl => ?_⟩
  have hA3 := HeapAt.mono (Tk.all e3) hA
  have zn : h.nums.length ≤ 50 := by have := ok.size; unfold Hd.nums; rw [List.length_map]; omega
  -- there
  refine ⟨_, rfl, _, rfl, _, _, rfl, a, h, l, h.nums, rfl, rfl, hA3, ok, .inl (SqL.of hl), fun rs hrs th H4 f4 e4 hth => ?_⟩
  have zr := obt_len ok hrs
  have hl4 := ExA.at e4 hl
  have hA4 := HeapAt.mono (Tk.all e4) hA3
  -- table
  intro tb ftb
  have e5 : ExA H4 (upd H4 tb (.dK [])) := ExM.new ftb
  have htb5 : (upd H4 tb (.dK [])) tb = some (.dK []) := upd_same
  have nthb : th ≠ tb := ne_of_none hth ftb
  have nlb : l ≠ tb := ne_of_none hl4 ftb
  have hl5 := ExA.at e5 hl4
  have hth5 := ExA.at e5 hth
  have hA5 := HeapAt.mono (Tk.all e5) hA4
  generalize upd H4 tb (.dK []) = H5 at e5 htb5 hl5 hth5 hA5 ⊢
  refine ⟨_, rfl, l, rfl, ⟨_, SqL.of hl5⟩, ?_⟩
  have tkb : ∀ {H'}, ExM [tb] H5 H' → Tk K H5 H' := fun {H'} e => by
    have ne : ∀ a (o : HO), H5 a = some o → o ≠ .dK [] → a ∉ [tb] := fun a o z y m => by
      have m := List.mem_singleton.mp m
      rw [m, htb5] at z
      exact y (Option.some.inj z).symm
    refine ⟨fun a xs z => ?_, fun a o xs z => e a _ (ne a _ z fun y => nomatch y) z⟩
    rcases z with (z | ⟨v, z⟩) | z
    · exact .inl (.inl (e a _ (ne a _ z fun y => nomatch y) z))
    · exact .inl (.inr ⟨v, e a _ (ne a _ z fun y => nomatch y) z⟩)
    · exact .inr z
  refine for_it (walk_list (xs := h.nums.map V.int)) (fun i σ6 H6 => ∃ u6 u7 u8 u9, σ6 = [some (.ref sa), some (.ref b), some (.ref a), some (.ref l), some (.ref th), some (.ref tb), u6, u7, u8, u9, none] ∧ ExM [tb] H5 H6 ∧ TabD K H6 h tb (h.nums.take i))
    ⟨none, none, none, none, rfl, ExM.refl _ _, [], htb5, rfl, by simp⟩ (fun i σ6 H6 _ p => ?_) (fun i x σ6 H6 H7 hi p y => ?_) (fun σ6 H6 p => ?_)
  · obtain ⟨_, _, _, _, _, e, _⟩ := p
    exact SqL.of (e _ _ (by simpa using nlb) hl5)
  · obtain ⟨rfl, hx⟩ := y
    obtain ⟨u6, u7, u8, u9, rfl, x6, ht6⟩ := p
    rw [List.length_map] at hi
    obtain ⟨n, hn⟩ : ∃ n, h.nums[i]? = some n := ⟨_, List.getElem?_eq_getElem hi⟩
    rw [List.getElem?_map, hn] at hx
    obtain rfl : V.int n = x := Option.some.inj hx
    have hA7 := HeapAt.mono (tkb x6) hA5
    have hl7 : H7 l = some (.lst (h.nums.map V.int)) := x6 _ _ (by simpa using nlb) hl5
    have hth7 : H7 th = some (.lst (rs.map V.int)) := x6 _ _ (by simpa using nthb) hth5
    -- still
    refine ⟨_, rfl, _, rfl, _, _, rfl, a, h, n, rfl, rfl, hA7, ok, fun H8 lo e8 hlo => ?_⟩
    refine ⟨_, rfl, _, _, rfl, lo, leftOut h n, l, h.nums, rfl, rfl, hlo, leftOut_ok ok n, .inl (SqL.of (ExA.at e8 hl7)), fun ss hss st H9 f9 e9 hst => ?_⟩
    -- due
    refine ⟨Nat.zero_le _, fun p fp => ?_⟩
    have e10 : ExA H7 (upd H9 p (.tup [])) := (e8.trans e9).put (ExA.free (e8.trans e9) fp)
    have hst10 : (upd H9 p (.tup [])) st = some (.lst (ss.map V.int)) := ExA.at (ExM.new fp) hst
    have hp10 : SqT K (upd H9 p (.tup [])) p (([] : List Int).map V.int) := SqT.of upd_same
    generalize upd H9 p (.tup []) = H10 at e10 hst10 hp10 ⊢
    refine ⟨fun σ' H' => ∃ u9 t ds, σ' = [some (.ref sa), some (.ref b), some (.ref a), some (.ref l), some (.ref th), some (.ref tb), some (.int n), some (.ref st), some (.ref t), u9, none] ∧ ExA H10 H' ∧ SqT K H' t (ds.map V.int) ∧ UpSet ds (Dom h n), ?_, ?_⟩
    · have hth10 := ExA.at e10 hth7
      refine ⟨_, rfl, _, rfl, th, _, rfl, .inl (SqL.of hth10), rfl, flat_ints _, _, rfl, ?_⟩
      show if inV (V.int n) (rs.map V.int) = true then _ else _
      rw [inV_int]
      by_cases c : n ∈ rs
      · rw [decide_eq_true c]
        have hc : Wo h (fun _ => False) n := (reach_wo ok n).mp ((hrs.2 n).mp c)
        refine iteT ⟨_, rfl, th, rfl, ⟨_, SqL.of hth10⟩, fun D hD => ?_⟩
        refine lcF K V.int rs (fun m => decide (m = n) || decide (m ∉ ss)) _ walk_list rfl (List.length_map _) (by omega) V.int hD (fun H' e => SqL.of (ExA.at e hth10)) (fun m H5 _ _ R z => z) (fun _ => rfl)
          (fun m H5 _ e R z => or_join (decide (m = n)) (decide (m ∉ ss)) (fun Q' y => ⟨_, rfl, _, rfl, rfl, _, rfl, by
            rw [show decide (V.int m = V.int n) = decide (m = n) from decide_eq_decide.mpr ⟨V.int.inj, fun e => by rw [e]⟩]; exact y⟩) (fun _ Q' y => ⟨_, rfl, _, rfl, st, _, rfl, .inl (SqL.of (ExA.at e hst10)), rfl, flat_ints _, _, rfl, by
            show Q' (!inV _ _) _; rw [inV_int, ← decide_not]; exact y⟩) (z _ (ExM.refl _ _))) (fun m H5 _ _ _ R z => ⟨_, rfl, z _ (ExM.refl _ _)⟩) (fun H11 e11 hd => ?_)
        refine ⟨D, _, rfl, .inl ⟨SqL.of hd, fun t ft => ?_⟩⟩
        refine ⟨_, t, _, rfl, e11.trans (ExM.new ft), SqT.of upd_same, hrs.1.sublist List.filter_sublist, fun m => ?_⟩
        rw [List.mem_filter, Bool.or_eq_true, decide_eq_true_eq, decide_eq_true_eq, hrs.2, reach_wo ok, hss.2, left_wo ok, mem_one]
        constructor
        · rintro ⟨y1, y2 | y2⟩
          · subst y2; exact Dom.self y1
          · exact ⟨y1, y2⟩
        · rintro ⟨y1, y2⟩
          exact ⟨y1, .inr y2⟩
      · rw [decide_eq_false c]
        refine iteF ⟨_, p, [], rfl, ExM.refl _ _, hp10, .nil, fun m => ⟨fun z => (nomatch z), fun z => ?_⟩⟩
        exact absurd ((hrs.2 n).mpr ((reach_wo ok n).mpr (Dom.first z))) c
    · rintro σ' H' ⟨u9', t, dl, rfl, e', ht, hu⟩
      have e7' := e10.trans e'
      -- table[number] = due
      obtain ⟨kvs, k1, k2, k3⟩ := ht6.keep e7'
      have zk : kvs.length ≤ 50 := by
        have := congrArg List.length k2
        rw [List.length_map, List.length_map, List.length_take] at this
        omega
      refine ⟨_, rfl, _, rfl, _, rfl, tb, _, rfl, DPut.k (k := Sum.inl n) k1 (szl (by omega)), ?_⟩
      have t' : Tk K H' (upd H' tb (.dK (putK kvs (Sum.inl n) (.ref t)))) := Tk.dic k1
      have x' : ExM [tb] H5 (upd H' tb (.dK (putK kvs (Sum.inl n) (.ref t)))) := (x6.trans (ExM.of e7')).mem (by simp)
      have nin : n ∉ h.nums.take i := fun z => by
        obtain ⟨j, hj⟩ := List.getElem?_of_mem z
        have hlt : j < i := by
          have := (List.getElem?_eq_some_iff.mp hj).1
          rw [List.length_take] at this; omega
        rw [List.getElem?_take_of_lt hlt] at hj
        exact absurd (nd_ix (nodup_of_up ok.up) hj hn) (Nat.ne_of_lt hlt)
      have hnew : valV kvs (Sum.inl n) = none := by
        have q := key_has k2 n
        rw [decide_eq_false nin] at q
        cases e : valV kvs (Sum.inl n) with
        | none => rfl
        | some v => rw [e] at q; cases q
      have hT : TabD K (upd H' tb (.dK (putK kvs (Sum.inl n) (.ref t)))) h tb (h.nums.take (i + 1)) := by
        refine ⟨_, upd_same, ?_, fun m hm => ?_⟩
        · rw [putK_new _ hnew, List.map_append, k2, take_snoc hn, List.map_append]; rfl
        · by_cases em : m = n
          · refine ⟨t, dl, ?_, t' _ _ ht, em ▸ hu⟩
            rw [valV_put, em, if_pos rfl]
          · obtain ⟨t1, d1, y1, y2, y3⟩ := k3 m (((mem_take_snoc hn).mp hm).elim id fun z => absurd z em)
            refine ⟨t1, d1, ?_, t' _ _ y2, y3⟩
            rw [valV_put, if_neg (fun z => em (Sum.inl.inj z)), y1]
      generalize upd H' tb (.dK (putK kvs (Sum.inl n) (.ref t))) = Hx at t' x' hT
      have htx := t' _ _ ht
      have hAx := HeapAt.mono (tkb x') hA5
      refine ⟨_, rfl, _, rfl, _, _, rfl, a, h, n, rfl, rfl, hAx, ok, fun ns2 hns2 p2 Hy fp2 ey hp2 => ?_⟩
      have ed : ns2 = dl := up_same hns2.1 hu.1 fun m => (hns2.2 m).trans (hu.2 m).symm
      subst ed
      have zd := dom_len ok hu
      exact ⟨_, rfl, _, _, rfl, _, up_tupIs (SqT.of hp2), up_tupIs (Tk.all ey _ _ htx), up_dep _, up_thin (by omega), _, rfl, iteF ⟨_, _, _, _, rfl, x'.trans (ExM.of ey), hT.keep ey⟩⟩
  obtain ⟨u6, u7, u8, u9, rfl, x6, ht6⟩ := p
  rw [List.length_map, List.take_length] at ht6
  have hA6 := HeapAt.mono (tkb x6) hA5
  have hl6 : H6 l = some (.lst (h.nums.map V.int)) := x6 _ _ (by simpa using nlb) hl5
  refine ⟨_, rfl, l, rfl, ⟨_, SqL.of hl6⟩, ?_⟩
  refine for_it (walk_list (xs := h.nums.map V.int)) (fun i σ7 H7 => ∃ u6 u9 u10, σ7 = [some (.ref sa), some (.ref b), some (.ref a), some (.ref l), some (.ref th), some (.ref tb), u6, u7, u8, u9, u10] ∧ ExA H6 H7)
    ⟨_, _, _, rfl, ExM.refl _ _⟩ (fun i σ7 H7 _ p => ?_) (fun i x σ7 H7 H8 hi p y => ?_) (fun σ7 H7 p => q _)
  · obtain ⟨_, _, _, _, e⟩ := p
    exact SqL.of (ExA.at e hl6)
  · obtain ⟨rfl, hx⟩ := y
    obtain ⟨u6', u9', u10, rfl, e7⟩ := p
    rw [List.length_map] at hi
    obtain ⟨n, hn⟩ : ∃ n, h.nums[i]? = some n := ⟨_, List.getElem?_eq_getElem hi⟩
    rw [List.getElem?_map, hn] at hx
    obtain rfl : V.int n = x := Option.some.inj hx
    have mn := List.mem_of_getElem? hn
    have ht8 := ht6.keep e7
    refine ⟨_, rfl, _, rfl, _, _, rfl, a, h, n, rfl, rfl, HeapAt.mono (Tk.all e7) hA6, ok, fun ns2 hns2 p2 H9 fp2 e9 hp2 => ?_⟩
    have ht9 := ht8.keep e9
    have hl9 := ExA.at (e7.trans e9) hl6
    refine ⟨_, rfl, l, rfl, ⟨_, SqL.of hl9⟩, fun D hD => ?_⟩
    classical
    refine lcF K V.int h.nums (fun m => decide (Dom h m n)) _ walk_list rfl (List.length_map _) (by omega) V.int hD (fun H' e => SqL.of (ExA.at e hl9)) (fun m H5 _ _ R z => z) (fun _ => rfl)
      (fun m H5 hm e R z => ?_) (fun m H5 _ _ _ R z => ⟨_, rfl, z _ (ExM.refl _ _)⟩) (fun H10 e10 hd => ?_)
    · obtain ⟨t, dl, g1, g2, g3⟩ := (ht9.keep e).get hm
      refine ⟨_, rfl, _, rfl, _, rfl, tb, _, rfl, g1, t, _, rfl, .inr g2, rfl, flat_ints _, _, rfl, ?_⟩
      show R (inV _ _) _
      rw [inV_int, show decide (n ∈ dl) = decide (Dom h m n) from decide_eq_decide.mpr (g3.2 n)]
      exact z _ (ExM.refl _ _)
    refine ⟨D, _, rfl, .inl ⟨SqL.of hd, fun t ft => ?_⟩⟩
    have ex : ExA H9 (upd H10 t (.tup ((h.nums.filter fun m => decide (Dom h m n)).map V.int))) := e10.put (ExA.free e10 ft)
    have ed : ns2 = h.nums.filter fun m => decide (Dom h m n) := up_same hns2.1 (ok.up.sublist List.filter_sublist) fun m => by
      rw [hns2.2, List.mem_filter, decide_eq_true_eq]
      exact ⟨fun z => ⟨Obt.num ok ((reach_wo ok m).mpr z.first), z⟩, fun z => z.2⟩
    have zf : ns2.length ≤ h.nums.length := by rw [ed]; exact List.length_filter_le _ _
    refine ⟨_, _, rfl, _, up_tupIs (Tk.all ex _ _ (SqT.of hp2)), ?_, up_dep _, up_thin (by omega), _, rfl, iteF ?_⟩
    · rw [ed]; exact up_tupIs (SqT.of upd_same)
    have ht10 := ht9.keep ex
    have e710 := (e7.trans e9).trans ex
    generalize upd H10 t (.tup ((h.nums.filter fun m => decide (Dom h m n)).map V.int)) = Hx at ex ht10 e710
    obtain ⟨tn, dn, gn1, gn2, gn3⟩ := ht10.get mn
    have inN' : ∀ m, Dom h n m → m ∈ h.nums := fun m z => Obt.num ok ((reach_wo ok m).mpr z.1)
    refine ⟨_, rfl, _, rfl, tb, _, rfl, gn1, tn, rfl, ⟨_, gn2⟩, ?_⟩
    refine for_it (walk_tup (xs := dn.map V.int)) (fun j σ' H' => ∃ u9 u10, σ' = [some (.ref sa), some (.ref b), some (.ref a), some (.ref l), some (.ref th), some (.ref tb), some (.int n), u7, u8, u9, u10] ∧ H' = Hx) ⟨_, _, rfl, rfl⟩ (fun j σ' H' _ p => by obtain ⟨_, _, _, rfl⟩ := p; exact gn2) (fun j x σ' H' Hy hj p y => ?_) (fun σ' H' p => ?_)
    · obtain ⟨rfl, hx⟩ := y
      obtain ⟨v9, v10, rfl, rfl⟩ := p
      rw [List.length_map] at hj
      obtain ⟨m, hm⟩ : ∃ m, dn[j]? = some m := ⟨_, List.getElem?_eq_getElem hj⟩
      rw [List.getElem?_map, hm] at hx
      obtain rfl : V.int m = x := Option.some.inj hx
      have dnm : Dom h n m := (gn3.2 m).mp (List.mem_of_getElem? hm)
      obtain ⟨tm, dm, gm1, gm2, gm3⟩ := ht10.get (inN' m dnm)
      refine and_join (decide (m ≠ n)) (decide (n ∈ dm)) (fun Q' z => ⟨_, rfl, _, rfl, rfl, _, rfl, by
        rw [show (!decide (V.int m = V.int n)) = decide (m ≠ n) by rw [← decide_not]; exact decide_eq_decide.mpr ⟨fun y e => y (by rw [e]), fun y e => y (V.int.inj e)⟩]; exact z⟩) (fun _ Q' z => ⟨_, rfl, _, rfl, _, rfl, tb, _, rfl, gm1, tm, _, rfl, .inr gm2, rfl, flat_ints _, _, rfl, by
        show Q' (inV _ _) _; rw [inV_int]; exact z⟩) ?_
      have no : (decide (m ≠ n) && decide (n ∈ dm)) = false := by
        by_cases c : n ∈ dm
        · rw [(Dom.anti dnm ((gm3.2 n).mp c))]; simp
        · simp [c]
      rw [no]
      refine iteF ?_
      refine ⟨_, rfl, _, rfl, tb, _, rfl, gm1, tm, rfl, ⟨_, gm2⟩, ?_⟩
      refine for_it (walk_tup (xs := dm.map V.int)) (fun k σ' H' => ∃ u10, σ' = [some (.ref sa), some (.ref b), some (.ref a), some (.ref l), some (.ref th), some (.ref tb), some (.int n), u7, u8, some (.int m), u10] ∧ H' = Hy) ⟨_, rfl, rfl⟩ (fun k σ' H' _ p => by obtain ⟨_, _, rfl⟩ := p; exact gm2) (fun k x σ' H' Hz hk p y => ?_) (fun σ' H' p => ?_)
      · obtain ⟨rfl, hx⟩ := y
        obtain ⟨w10, rfl, rfl⟩ := p
        rw [List.length_map] at hk
        obtain ⟨c, hc⟩ : ∃ c, dm[k]? = some c := ⟨_, List.getElem?_eq_getElem hk⟩
        rw [List.getElem?_map, hc] at hx
        obtain rfl : V.int c = x := Option.some.inj hx
        have dmc : Dom h m c := (gm3.2 c).mp (List.mem_of_getElem? hc)
        refine ⟨_, rfl, _, rfl, _, rfl, tb, _, rfl, gn1, tn, _, rfl, .inr gn2, rfl, flat_ints _, _, rfl, ?_⟩
        show if (!inV (V.int c) (dn.map V.int)) = true then _ else _
        rw [inV_int, decide_eq_true ((gn3.2 c).mpr (dnm.trans dmc))]
        exact iteF ⟨_, rfl, rfl⟩
      · obtain ⟨w10, rfl, rfl⟩ := p
        exact ⟨_, _, rfl, rfl⟩
    · obtain ⟨v9, v10, rfl, rfl⟩ := p
      exact ⟨_, _, _, rfl, e710⟩
end
end Wc
namespace Wc
open PySem L2
theorem all_mk {l : PySem.W.OpenLaw} {w : World} {K : PySem.W.Frag} {h : Heap} {mg : Str → Option Value} {fa : Addr} (X : K.In h) (G : h.Ns mainGlobals mg) (hfa : mg "law" = some (.ref fa))
    {f1 f2 f3 f4 f5 f6 f7 f8 f9 f10 f11 f12 f13 f14 f15 f16 f17 f18 f19 f20 f21 f22 f23 f24 f25 f26 : Addr} {od1 an1 od2 an2 od3 an3 od4 an4 od5 an5 od6 an6 od7 an7 od8 an8 od9 an9 od10 an10 od11 an11 od12 an12 od13 an13 od14 an14 od15 an15 od16 an16 od17 an17 od18 an18 od19 an19 od20 an20 od21 an21 od22 an22 od23 an23 od24 an24 od25 an25 od26 an26 : Option Addr} {sl1 sl2 sl3 sl4 sl5 sl6 sl7 sl8 sl9 sl10 sl11 sl12 sl13 sl14 sl15 sl16 sl17 sl18 sl19 sl20 sl21 sl22 sl23 sl24 sl25 sl26 : Array (Option Value)} {oc1 kV1 dc1 pm1 cd1 ct1 oc2 kV2 dc2 pm2 cd2 ct2 oc3 kV3 dc3 pm3 cd3 ct3 oc4 kV4 dc4 pm4 cd4 ct4 oc5 kV5 dc5 pm5 cd5 ct5 oc6 kV6 dc6 pm6 cd6 ct6 oc7 kV7 dc7 pm7 cd7 ct7 oc8 kV8 dc8 pm8 cd8 ct8 oc9 kV9 dc9 pm9 cd9 ct9 oc10 kV10 dc10 pm10 cd10 ct10 oc11 kV11 dc11 pm11 cd11 ct11 oc12 kV12 dc12 pm12 cd12 ct12 oc13 kV13 dc13 pm13 cd13 ct13 oc14 kV14 dc14 pm14 cd14 ct14 oc15 kV15 dc15 pm15 cd15 ct15 oc16 kV16 dc16 pm16 cd16 ct16 oc17 kV17 dc17 pm17 cd17 ct17 oc18 kV18 dc18 pm18 cd18 ct18 oc19 kV19 dc19 pm19 cd19 ct19 oc20 kV20 dc20 pm20 cd20 ct20 oc21 kV21 dc21 pm21 cd21 ct21 oc22 kV22 dc22 pm22 cd22 ct22 oc23 kV23 dc23 pm23 cd23 ct23 oc24 kV24 dc24 pm24 cd24 ct24 oc25 kV25 dc25 pm25 cd25 ct25 oc26 kV26 dc26 pm26 cd26 ct26 : Value}
    (a1 : PySem.W.nsIn K mainGlobals "registers_of" = some (some (.ref f1))) (l1 : K.lookup f1 = some ⟨oc1, od1, .func (PySem.W.fnOf "registers_of" "registers_of" (defArgs s_registers_of) (defBody s_registers_of) (defScope s_registers_of) .none kV1 dc1 pm1 an1 cd1 ct1), sl1⟩) (c1 : PySem.W.codeIn K cd1 "registers_of" = true) (k1 : PySem.W.keepIn K (.ref f1) = true)
    (a2 : PySem.W.nsIn K mainGlobals "objects_of" = some (some (.ref f2))) (l2 : K.lookup f2 = some ⟨oc2, od2, .func (PySem.W.fnOf "objects_of" "objects_of" (defArgs s_objects_of) (defBody s_objects_of) (defScope s_objects_of) .none kV2 dc2 pm2 an2 cd2 ct2), sl2⟩) (c2 : PySem.W.codeIn K cd2 "objects_of" = true) (k2 : PySem.W.keepIn K (.ref f2) = true)
    (a3 : PySem.W.nsIn K mainGlobals "numbers_of" = some (some (.ref f3))) (l3 : K.lookup f3 = some ⟨oc3, od3, .func (PySem.W.fnOf "numbers_of" "numbers_of" (defArgs s_numbers_of) (defBody s_numbers_of) (defScope s_numbers_of) .none kV3 dc3 pm3 an3 cd3 ct3), sl3⟩) (c3 : PySem.W.codeIn K cd3 "numbers_of" = true) (k3 : PySem.W.keepIn K (.ref f3) = true)
    (a4 : PySem.W.nsIn K mainGlobals "by_number" = some (some (.ref f4))) (l4 : K.lookup f4 = some ⟨oc4, od4, .func (PySem.W.fnOf "by_number" "by_number" (defArgs s_by_number) (defBody s_by_number) (defScope s_by_number) .none kV4 dc4 pm4 an4 cd4 ct4), sl4⟩) (c4 : PySem.W.codeIn K cd4 "by_number" = true) (k4 : PySem.W.keepIn K (.ref f4) = true)
    (a5 : PySem.W.nsIn K mainGlobals "objects_among" = some (some (.ref f5))) (l5 : K.lookup f5 = some ⟨oc5, od5, .func (PySem.W.fnOf "objects_among" "objects_among" (defArgs s_objects_among) (defBody s_objects_among) (defScope s_objects_among) .none kV5 dc5 pm5 an5 cd5 ct5), sl5⟩) (c5 : PySem.W.codeIn K cd5 "objects_among" = true) (k5 : PySem.W.keepIn K (.ref f5) = true)
    (a6 : PySem.W.nsIn K mainGlobals "without" = some (some (.ref f6))) (l6 : K.lookup f6 = some ⟨oc6, od6, .func (PySem.W.fnOf "without" "without" (defArgs s_without) (defBody s_without) (defScope s_without) .none kV6 dc6 pm6 an6 cd6 ct6), sl6⟩) (c6 : PySem.W.codeIn K cd6 "without" = true) (k6 : PySem.W.keepIn K (.ref f6) = true)
    (a7 : PySem.W.nsIn K mainGlobals "dropping" = some (some (.ref f7))) (l7 : K.lookup f7 = some ⟨oc7, od7, .func (PySem.W.fnOf "dropping" "dropping" (defArgs s_dropping) (defBody s_dropping) (defScope s_dropping) .none kV7 dc7 pm7 an7 cd7 ct7), sl7⟩) (c7 : PySem.W.codeIn K cd7 "dropping" = true) (k7 : PySem.W.keepIn K (.ref f7) = true)
    (a8 : PySem.W.nsIn K mainGlobals "led_to" = some (some (.ref f8))) (l8 : K.lookup f8 = some ⟨oc8, od8, .func (PySem.W.fnOf "led_to" "led_to" (defArgs s_led_to) (defBody s_led_to) (defScope s_led_to) .none kV8 dc8 pm8 an8 cd8 ct8), sl8⟩) (c8 : PySem.W.codeIn K cd8 "led_to" = true) (k8 : PySem.W.keepIn K (.ref f8) = true)
    (a9 : PySem.W.nsIn K mainGlobals "rounds" = some (some (.ref f9))) (l9 : K.lookup f9 = some ⟨oc9, od9, .func (PySem.W.fnOf "rounds" "rounds" (defArgs s_rounds) (defBody s_rounds) (defScope s_rounds) .none kV9 dc9 pm9 an9 cd9 ct9), sl9⟩) (c9 : PySem.W.codeIn K cd9 "rounds" = true) (k9 : PySem.W.keepIn K (.ref f9) = true)
    (a10 : PySem.W.nsIn K mainGlobals "obtainable" = some (some (.ref f10))) (l10 : K.lookup f10 = some ⟨oc10, od10, .func (PySem.W.fnOf "obtainable" "obtainable" (defArgs s_obtainable) (defBody s_obtainable) (defScope s_obtainable) .none kV10 dc10 pm10 an10 cd10 ct10), sl10⟩) (c10 : PySem.W.codeIn K cd10 "obtainable" = true) (k10 : PySem.W.keepIn K (.ref f10) = true)
    (a11 : PySem.W.nsIn K mainGlobals "reachable" = some (some (.ref f11))) (l11 : K.lookup f11 = some ⟨oc11, od11, .func (PySem.W.fnOf "reachable" "reachable" (defArgs s_reachable) (defBody s_reachable) (defScope s_reachable) .none kV11 dc11 pm11 an11 cd11 ct11), sl11⟩) (c11 : PySem.W.codeIn K cd11 "reachable" = true) (k11 : PySem.W.keepIn K (.ref f11) = true)
    (a12 : PySem.W.nsIn K mainGlobals "retained" = some (some (.ref f12))) (l12 : K.lookup f12 = some ⟨oc12, od12, .func (PySem.W.fnOf "retained" "retained" (defArgs s_retained) (defBody s_retained) (defScope s_retained) .none kV12 dc12 pm12 an12 cd12 ct12), sl12⟩) (c12 : PySem.W.codeIn K cd12 "retained" = true) (k12 : PySem.W.keepIn K (.ref f12) = true)
    (a13 : PySem.W.nsIn K mainGlobals "dominators" = some (some (.ref f13))) (l13 : K.lookup f13 = some ⟨oc13, od13, .func (PySem.W.fnOf "dominators" "dominators" (defArgs s_dominators) (defBody s_dominators) (defScope s_dominators) .none kV13 dc13 pm13 an13 cd13 ct13), sl13⟩) (c13 : PySem.W.codeIn K cd13 "dominators" = true) (k13 : PySem.W.keepIn K (.ref f13) = true)
    (a14 : PySem.W.nsIn K mainGlobals "_law_cell" = some (some (.ref f14))) (l14 : K.lookup f14 = some ⟨oc14, od14, .func (PySem.W.fnOf "_law_cell" "_law_cell" (defArgs s__law_cell) (defBody s__law_cell) (defScope s__law_cell) .none kV14 dc14 pm14 an14 cd14 ct14), sl14⟩) (c14 : PySem.W.codeIn K cd14 "_law_cell" = true) (k14 : PySem.W.keepIn K (.ref f14) = true)
    (a15 : PySem.W.nsIn K mainGlobals "_law_digits" = some (some (.ref f15))) (l15 : K.lookup f15 = some ⟨oc15, od15, .func (PySem.W.fnOf "_law_digits" "_law_digits" (defArgs s__law_digits) (defBody s__law_digits) (defScope s__law_digits) .none kV15 dc15 pm15 an15 cd15 ct15), sl15⟩) (c15 : PySem.W.codeIn K cd15 "_law_digits" = true) (k15 : PySem.W.keepIn K (.ref f15) = true)
    (a16 : PySem.W.nsIn K mainGlobals "_law_box" = some (some (.ref f16))) (l16 : K.lookup f16 = some ⟨oc16, od16, .func (PySem.W.fnOf "_law_box" "_law_box" (defArgs s__law_box) (defBody s__law_box) (defScope s__law_box) .none kV16 dc16 pm16 an16 cd16 ct16), sl16⟩) (c16 : PySem.W.codeIn K cd16 "_law_box" = true) (k16 : PySem.W.keepIn K (.ref f16) = true)
    (a17 : PySem.W.nsIn K mainGlobals "_law_draw" = some (some (.ref f17))) (l17 : K.lookup f17 = some ⟨oc17, od17, .func (PySem.W.fnOf "_law_draw" "_law_draw" (defArgs s__law_draw) (defBody s__law_draw) (defScope s__law_draw) .none kV17 dc17 pm17 an17 cd17 ct17), sl17⟩) (c17 : PySem.W.codeIn K cd17 "_law_draw" = true) (k17 : PySem.W.keepIn K (.ref f17) = true)
    (a18 : PySem.W.nsIn K mainGlobals "_law_number" = some (some (.ref f18))) (l18 : K.lookup f18 = some ⟨oc18, od18, .func (PySem.W.fnOf "_law_number" "_law_number" (defArgs s__law_number) (defBody s__law_number) (defScope s__law_number) .none kV18 dc18 pm18 an18 cd18 ct18), sl18⟩) (c18 : PySem.W.codeIn K cd18 "_law_number" = true) (k18 : PySem.W.keepIn K (.ref f18) = true)
    (a19 : PySem.W.nsIn K mainGlobals "_law_object" = some (some (.ref f19))) (l19 : K.lookup f19 = some ⟨oc19, od19, .func (PySem.W.fnOf "_law_object" "_law_object" (defArgs s__law_object) (defBody s__law_object) (defScope s__law_object) .none kV19 dc19 pm19 an19 cd19 ct19), sl19⟩) (c19 : PySem.W.codeIn K cd19 "_law_object" = true) (k19 : PySem.W.keepIn K (.ref f19) = true)
    (a20 : PySem.W.nsIn K mainGlobals "_law_heap" = some (some (.ref f20))) (l20 : K.lookup f20 = some ⟨oc20, od20, .func (PySem.W.fnOf "_law_heap" "_law_heap" (defArgs s__law_heap) (defBody s__law_heap) (defScope s__law_heap) .none kV20 dc20 pm20 an20 cd20 ct20), sl20⟩) (c20 : PySem.W.codeIn K cd20 "_law_heap" = true) (k20 : PySem.W.keepIn K (.ref f20) = true)
    (a21 : PySem.W.nsIn K mainGlobals "_law_numbers" = some (some (.ref f21))) (l21 : K.lookup f21 = some ⟨oc21, od21, .func (PySem.W.fnOf "_law_numbers" "_law_numbers" (defArgs s__law_numbers) (defBody s__law_numbers) (defScope s__law_numbers) .none kV21 dc21 pm21 an21 cd21 ct21), sl21⟩) (c21 : PySem.W.codeIn K cd21 "_law_numbers" = true) (k21 : PySem.W.keepIn K (.ref f21) = true)
    (a22 : PySem.W.nsIn K mainGlobals "_law_follows" = some (some (.ref f22))) (l22 : K.lookup f22 = some ⟨oc22, od22, .func (PySem.W.fnOf "_law_follows" "_law_follows" (defArgs s__law_follows) (defBody s__law_follows) (defScope s__law_follows) .none kV22 dc22 pm22 an22 cd22 ct22), sl22⟩) (c22 : PySem.W.codeIn K cd22 "_law_follows" = true) (k22 : PySem.W.keepIn K (.ref f22) = true)
    (a23 : PySem.W.nsIn K mainGlobals "_law_obtainable" = some (some (.ref f23))) (l23 : K.lookup f23 = some ⟨oc23, od23, .func (PySem.W.fnOf "_law_obtainable" "_law_obtainable" (defArgs s__law_obtainable) (defBody s__law_obtainable) (defScope s__law_obtainable) .none kV23 dc23 pm23 an23 cd23 ct23), sl23⟩) (c23 : PySem.W.codeIn K cd23 "_law_obtainable" = true) (k23 : PySem.W.keepIn K (.ref f23) = true)
    (a24 : PySem.W.nsIn K mainGlobals "_law_same" = some (some (.ref f24))) (l24 : K.lookup f24 = some ⟨oc24, od24, .func (PySem.W.fnOf "_law_same" "_law_same" (defArgs s__law_same) (defBody s__law_same) (defScope s__law_same) .none kV24 dc24 pm24 an24 cd24 ct24), sl24⟩) (c24 : PySem.W.codeIn K cd24 "_law_same" = true) (k24 : PySem.W.keepIn K (.ref f24) = true)
    (a25 : PySem.W.nsIn K mainGlobals "_law_left_out" = some (some (.ref f25))) (l25 : K.lookup f25 = some ⟨oc25, od25, .func (PySem.W.fnOf "_law_left_out" "_law_left_out" (defArgs s__law_left_out) (defBody s__law_left_out) (defScope s__law_left_out) .none kV25 dc25 pm25 an25 cd25 ct25), sl25⟩) (c25 : PySem.W.codeIn K cd25 "_law_left_out" = true) (k25 : PySem.W.keepIn K (.ref f25) = true)
    (a26 : PySem.W.nsIn K mainGlobals "law" = some (some (.ref f26))) (l26 : K.lookup f26 = some ⟨oc26, od26, .func (PySem.W.fnOf "law" "law" (defArgs s_law) (defBody s_law) (defScope s_law) .none kV26 dc26 pm26 an26 cd26 ct26), sl26⟩) (c26 : PySem.W.codeIn K cd26 "law" = true) (k26 : PySem.W.keepIn K (.ref f26) = true)
    (z_bool : PySem.W.nsIn K mainGlobals "bool" = some none)
    (z_int : PySem.W.nsIn K mainGlobals "int" = some none)
    (z_isinstance : PySem.W.nsIn K mainGlobals "isinstance" = some none)
    (z_len : PySem.W.nsIn K mainGlobals "len" = some none)
    (z_range : PySem.W.nsIn K mainGlobals "range" = some none)
    (z_sorted : PySem.W.nsIn K mainGlobals "sorted" = some none)
    (z_str : PySem.W.nsIn K mainGlobals "str" = some none)
    (z_tuple : PySem.W.nsIn K mainGlobals "tuple" = some none)
    : ∃ fd : FuncData, (∀ (s : Shared) (v : Value), BindsTo s fd ⟨[v], []⟩ [("script", v)]) ∧ ∀ base : Heap, K.In base → base.Ns mainGlobals mg → FnOk l.prog w K mg base CX0 10 fa fd ["script"] (sp_law K) := by
  have e := hfa.symm.trans (PySem.W.mg_of X G a26)
  cases e
  have T : Txt mg := ⟨PySem.W.mg_none_of X G z_bool, PySem.W.mg_none_of X G z_int, PySem.W.mg_none_of X G z_isinstance, PySem.W.mg_none_of X G z_len, PySem.W.mg_none_of X G z_range, PySem.W.mg_none_of X G z_sorted, PySem.W.mg_none_of X G z_str, PySem.W.mg_none_of X G z_tuple⟩
  have F1 := Df.of (st := s_registers_of) l1 c1
  have G1 := fun_mk (st := s_registers_of) l1 c1 k1
  have F2 := Df.of (st := s_objects_of) l2 c2
  have G2 := fun_mk (st := s_objects_of) l2 c2 k2
  have F3 := Df.of (st := s_numbers_of) l3 c3
  have G3 := fun_mk (st := s_numbers_of) l3 c3 k3
  have F4 := Df.of (st := s_by_number) l4 c4
  have G4 := fun_mk (st := s_by_number) l4 c4 k4
  have F5 := Df.of (st := s_objects_among) l5 c5
  have G5 := fun_mk (st := s_objects_among) l5 c5 k5
  have F6 := Df.of (st := s_without) l6 c6
  have G6 := fun_mk (st := s_without) l6 c6 k6
  have F7 := Df.of (st := s_dropping) l7 c7
  have G7 := fun_mk (st := s_dropping) l7 c7 k7
  have F8 := Df.of (st := s_led_to) l8 c8
  have G8 := fun_mk (st := s_led_to) l8 c8 k8
  have F9 := Df.of (st := s_rounds) l9 c9
  have G9 := fun_mk (st := s_rounds) l9 c9 k9
  have F10 := Df.of (st := s_obtainable) l10 c10
  have G10 := fun_mk (st := s_obtainable) l10 c10 k10
  have F11 := Df.of (st := s_reachable) l11 c11
  have G11 := fun_mk (st := s_reachable) l11 c11 k11
  have F12 := Df.of (st := s_retained) l12 c12
  have G12 := fun_mk (st := s_retained) l12 c12 k12
  have F13 := Df.of (st := s_dominators) l13 c13
  have G13 := fun_mk (st := s_dominators) l13 c13 k13
  have F14 := Df.of (st := s__law_cell) l14 c14
  have G14 := fun_mk (st := s__law_cell) l14 c14 k14
  have F15 := Df.of (st := s__law_digits) l15 c15
  have G15 := fun_mk (st := s__law_digits) l15 c15 k15
  have F16 := Df.of (st := s__law_box) l16 c16
  have G16 := fun_mk (st := s__law_box) l16 c16 k16
  have F17 := Df.of (st := s__law_draw) l17 c17
  have G17 := fun_mk (st := s__law_draw) l17 c17 k17
  have F18 := Df.of (st := s__law_number) l18 c18
  have G18 := fun_mk (st := s__law_number) l18 c18 k18
  have F19 := Df.of (st := s__law_object) l19 c19
  have G19 := fun_mk (st := s__law_object) l19 c19 k19
  have F20 := Df.of (st := s__law_heap) l20 c20
  have G20 := fun_mk (st := s__law_heap) l20 c20 k20
  have F21 := Df.of (st := s__law_numbers) l21 c21
  have G21 := fun_mk (st := s__law_numbers) l21 c21 k21
  have F22 := Df.of (st := s__law_follows) l22 c22
  have G22 := fun_mk (st := s__law_follows) l22 c22 k22
  have F23 := Df.of (st := s__law_obtainable) l23 c23
  have G23 := fun_mk (st := s__law_obtainable) l23 c23 k23
  have F24 := Df.of (st := s__law_same) l24 c24
  have G24 := fun_mk (st := s__law_same) l24 c24 k24
  have F25 := Df.of (st := s__law_left_out) l25 c25
  have G25 := fun_mk (st := s__law_left_out) l25 c25 k25
  have F26 := Df.of (st := s_law) l26 c26
  have G26 := fun_mk (st := s_law) l26 c26 k26
  refine ⟨PySem.W.fnOf "law" "law" (defArgs s_law) (defBody s_law) (defScope s_law) .none kV26 dc26 pm26 an26 cd26 ct26, fun s v => .of_eq rfl, fun base _ _ => ?_⟩
  have b1 := G1.binds (ps := ["heap"]) fun _ _ _ _ _ _ us hl => match us, hl with | [_], _ => rfl
  have C_registers_of : Cal l.prog w K mg base 1 "registers_of" (sp_registers_of K) [] := Cal.mk0 (ok_registers_of F1 T) (PySem.W.mg_of X G a1) k1 b1
  have b2 := G2.binds (ps := ["heap"]) fun _ _ _ _ _ _ us hl => match us, hl with | [_], _ => rfl
  have C_objects_of : Cal l.prog w K mg base 1 "objects_of" (sp_objects_of K) [] := Cal.mk0 (ok_objects_of F2 T) (PySem.W.mg_of X G a2) k2 b2
  have b5 := G5.binds (ps := ["references"]) fun _ _ _ _ _ _ us hl => match us, hl with | [_], _ => rfl
  have C_objects_among : Cal l.prog w K mg base 1 "objects_among" (sp_objects_among K) [] := Cal.mk0 (ok_objects_among F5 T) (PySem.W.mg_of X G a5) k5 b5
  have b6 := G6.binds (ps := ["thing", "gone"]) fun _ _ _ _ _ _ us hl => match us, hl with | [_, _], _ => rfl
  have C_without : Cal l.prog w K mg base 1 "without" (sp_without K) [] := Cal.mk0 (ok_without F6 T) (PySem.W.mg_of X G a6) k6 b6
  have b14 := G14.binds (ps := ["script", "k"]) fun _ _ _ _ _ _ us hl => match us, hl with | [_, _], _ => rfl
  have C__law_cell : Cal l.prog w K mg base 1 "_law_cell" (sp__law_cell K) [] := Cal.mk0 (ok__law_cell F14 T) (PySem.W.mg_of X G a14) k14 b14
  have b17 := G17.binds (ps := ["box", "many"]) fun _ _ _ _ _ _ us hl => match us, hl with | [_, _], _ => rfl
  have C__law_draw : Cal l.prog w K mg base 1 "_law_draw" (sp__law_draw K) [] := Cal.mk0 (ok__law_draw F17 T) (PySem.W.mg_of X G a17) k17 b17
  have b21 := G21.binds (ps := ["heap"]) fun _ _ _ _ _ _ us hl => match us, hl with | [_], _ => rfl
  have C__law_numbers : Cal l.prog w K mg base 1 "_law_numbers" (sp__law_numbers K) [] := Cal.mk0 (ok__law_numbers F21 T) (PySem.W.mg_of X G a21) k21 b21
  have b22 := G22.binds (ps := ["row", "got", "gone"]) fun _ _ _ _ _ _ us hl => match us, hl with | [_, _, _], _ => rfl
  have C__law_follows : Cal l.prog w K mg base 1 "_law_follows" (sp__law_follows K) [] := Cal.mk0 (ok__law_follows F22 T) (PySem.W.mg_of X G a22) k22 b22
  have b25 := G25.binds (ps := ["heap", "number"]) fun _ _ _ _ _ _ us hl => match us, hl with | [_, _], _ => rfl
  have C__law_left_out : Cal l.prog w K mg base 1 "_law_left_out" (sp__law_left_out K) [] := Cal.mk0 (ok__law_left_out F25 T) (PySem.W.mg_of X G a25) k25 b25
  have b3 := G3.binds (ps := ["heap"]) fun _ _ _ _ _ _ us hl => match us, hl with | [_], _ => rfl
  have C_numbers_of : Cal l.prog w K mg base 2 "numbers_of" (sp_numbers_of K) [] := Cal.mk0 (ok_numbers_of F3 T C_objects_of) (PySem.W.mg_of X G a3) k3 b3
  have b4 := G4.binds (ps := ["heap"]) fun _ _ _ _ _ _ us hl => match us, hl with | [_], _ => rfl
  have C_by_number : Cal l.prog w K mg base 2 "by_number" (sp_by_number K) [] := Cal.mk0 (ok_by_number F4 T C_objects_of) (PySem.W.mg_of X G a4) k4 b4
  have b7 := G7.binds (ps := ["heap", "gone"]) fun _ _ _ _ _ _ us hl => match us, hl with | [_, _], _ => rfl
  have C_dropping : Cal l.prog w K mg base 2 "dropping" (sp_dropping K) [] := Cal.mk0 (ok_dropping F7 T C_without) (PySem.W.mg_of X G a7) k7 b7
  have b8 := G8.binds (ps := ["thing", "got", "condemned"]) fun _ _ _ _ _ _ us hl => match us, hl with | [_, _, _], _ => rfl
  have C_led_to : Cal l.prog w K mg base 2 "led_to" (sp_led_to K) [] := Cal.mk0 (ok_led_to F8 T C_objects_among) (PySem.W.mg_of X G a8) k8 b8
  have b15 := G15.binds (ps := ["script", "first", "last"]) fun _ _ _ _ _ _ us hl => match us, hl with | [_, _, _], _ => rfl
  have C__law_digits : Cal l.prog w K mg base 2 "_law_digits" (sp__law_digits K) [] := Cal.mk0 (ok__law_digits F15 T C__law_cell) (PySem.W.mg_of X G a15) k15 b15
  have b18 := G18.binds (ps := ["box", "numbers"]) fun _ _ _ _ _ _ us hl => match us, hl with | [_, _], _ => rfl
  have C__law_number : Cal l.prog w K mg base 2 "_law_number" (sp__law_number K) [] := Cal.mk0 (ok__law_number F18 T C__law_draw) (PySem.W.mg_of X G a18) k18 b18
  have b23 := G23.binds (ps := ["heap", "gone"]) fun _ _ _ _ _ _ us hl => match us, hl with | [_, _], _ => rfl
  have C__law_obtainable : Cal l.prog w K mg base 2 "_law_obtainable" (sp__law_obtainable K) [] := Cal.mk0 (ok__law_obtainable F23 T C__law_numbers C__law_follows) (PySem.W.mg_of X G a23) k23 b23
  have b9 := G9.binds (ps := ["heap", "condemned"]) fun _ _ _ _ _ _ us hl => match us, hl with | [_, _], _ => rfl
  have C_rounds : Cal l.prog w K mg base 3 "rounds" (sp_rounds K) [] := Cal.mk0 (ok_rounds F9 T C_registers_of C_by_number C_objects_among C_led_to) (PySem.W.mg_of X G a9) k9 b9
  have b16 := G16.binds (ps := ["script", "first", "last"]) fun _ _ _ _ _ _ us hl => match us, hl with | [_, _, _], _ => rfl
  have C__law_box : Cal l.prog w K mg base 3 "_law_box" (sp__law_box K) [] := Cal.mk0 (ok__law_box F16 T C__law_digits) (PySem.W.mg_of X G a16) k16 b16
  have b19 := G19.binds (ps := ["box", "number", "numbers"]) fun _ _ _ _ _ _ us hl => match us, hl with | [_, _, _], _ => rfl
  have C__law_object : Cal l.prog w K mg base 3 "_law_object" (sp__law_object K) [] := Cal.mk0 (ok__law_object F19 T C__law_draw C__law_number) (PySem.W.mg_of X G a19) k19 b19
  have b10 := G10.binds (ps := ["heap", "condemned"]) fun _ _ _ _ _ _ us hl => match us, hl with | [_, _], _ => rfl
  have C_obtainable : Cal l.prog w K mg base 4 "obtainable" (sp_obtainable K) [] := Cal.mk0 (ok_obtainable F10 T C_rounds) (PySem.W.mg_of X G a10) k10 b10
  have b20 := G20.binds (ps := ["box", "most"]) fun _ _ _ _ _ _ us hl => match us, hl with | [_, _], _ => rfl
  have C__law_heap : Cal l.prog w K mg base 4 "_law_heap" (sp__law_heap K) [] := Cal.mk0 (ok__law_heap F20 T C__law_draw C__law_number C__law_object) (PySem.W.mg_of X G a20) k20 b20
  have b11 := G11.binds (ps := ["heap"]) fun _ _ _ _ _ _ us hl => match us, hl with | [_], _ => rfl
  have C_reachable : Cal l.prog w K mg base 5 "reachable" (sp_reachable K) [] := Cal.mk0 (ok_reachable F11 T C_numbers_of C_obtainable) (PySem.W.mg_of X G a11) k11 b11
  have b12 := G12.binds (ps := ["heap", "number"]) fun _ _ _ _ _ _ us hl => match us, hl with | [_, _], _ => rfl
  have C_retained : Cal l.prog w K mg base 6 "retained" (sp_retained K) [] := Cal.mk0 (ok_retained F12 T C_dropping C_reachable) (PySem.W.mg_of X G a12) k12 b12
  have b13 := G13.binds (ps := ["heap", "number"]) fun _ _ _ _ _ _ us hl => match us, hl with | [_, _], _ => rfl
  have C_dominators : Cal l.prog w K mg base 7 "dominators" (sp_dominators K) [] := Cal.mk0 (ok_dominators F13 T C_reachable C_retained) (PySem.W.mg_of X G a13) k13 b13
  have b24 := G24.binds (ps := ["actual", "expected"]) fun _ _ _ _ _ _ us hl => match us, hl with | [_, _], _ => rfl
  have C__law_same : Cal l.prog w K mg base 9 "_law_same" (sp__law_same K) [] := ok__law_same F24 T b24 (PySem.W.mg_of X G a24) k24
  exact ok_law F26 T C_retained C_dominators C__law_box C__law_heap C__law_numbers C__law_obtainable C__law_same C__law_left_out
theorem walk {l : PySem.W.OpenLaw} {q : Program} {loose : List Str} {XP : (Str → Option Value) → Heap → Prop} {YP : World → Heap → Prop} {d : DefRec} {K : Params → PySem.W.Frag} (hn : l.most = some 63) (hdf : d.params.defaults = [])
    (hY : ∀ (w : World) (h : Heap), YP w h → (K w.params).In h)
    (F : ∀ (w : World) (mg : Str → Option Value) (fa : Addr) (h : Heap), (K w.params).In h → h.Ns mainGlobals mg → mg d.name = some (.ref fa) →
      ∃ fd : FuncData, (∀ (s : Shared) (u : Value), BindsTo s fd ⟨[u], []⟩ [("script", u)]) ∧ ∀ base : Heap, (K w.params).In base → base.Ns mainGlobals mg → FnOk l.prog w (K w.params) mg base CX0 10 fa fd ["script"] (sp_law (K w.params))) :
    PySem.W.WalkO q loose XP YP l.row.toRowW d [] (fun f vs => PySem.call f vs) :=
  L2.walk_of (n := 63) (k := 10) (x := "script") (CX := fun _ => CX0) (sp := fun w => sp_law (K w.params)) hn (by decide) hdf ⟨rfl, by decide, by decide⟩ hY F (fun _ _ a ns hl _ hS => ⟨_, rfl, a, ns, rfl, hS, hl, fun _ => rfl⟩) fun _ _ _ _ _ z => z
end Wc
open PySem PySem.W PyProof.Rows
set_option maxRecDepth 100000 in
set_option maxHeartbeats 0 in
theorem PySem.Challenge.cw_weakcourt_k23_what_objects_retain_holds : PySem.Challenge.rw_weakcourt_k23_what_objects_retain.Holds := by
  w_on; o_law; k_head; (case hw => w_witness2)
  k_fill
  refine Wc.walk (l := PySem.Challenge.rw_weakcourt_k23_what_objects_retain) rfl rfl (fun w h Y => PySem.W.kIn_of Y) ?F
  case F =>
    intro w mg fa h KX G hmg
    refine' Wc.all_mk KX G hmg ?a1 ?l1 ?c1 ?k1 ?a2 ?l2 ?c2 ?k2 ?a3 ?l3 ?c3 ?k3 ?a4 ?l4 ?c4 ?k4 ?a5 ?l5 ?c5 ?k5 ?a6 ?l6 ?c6 ?k6 ?a7 ?l7 ?c7 ?k7 ?a8 ?l8 ?c8 ?k8 ?a9 ?l9 ?c9 ?k9 ?a10 ?l10 ?c10 ?k10 ?a11 ?l11 ?c11 ?k11 ?a12 ?l12 ?c12 ?k12 ?a13 ?l13 ?c13 ?k13 ?a14 ?l14 ?c14 ?k14 ?a15 ?l15 ?c15 ?k15 ?a16 ?l16 ?c16 ?k16 ?a17 ?l17 ?c17 ?k17 ?a18 ?l18 ?c18 ?k18 ?a19 ?l19 ?c19 ?k19 ?a20 ?l20 ?c20 ?k20 ?a21 ?l21 ?c21 ?k21 ?a22 ?l22 ?c22 ?k22 ?a23 ?l23 ?c23 ?k23 ?a24 ?l24 ?c24 ?k24 ?a25 ?l25 ?c25 ?k25 ?a26 ?l26 ?c26 ?k26 ?z_bool ?z_int ?z_isinstance ?z_len ?z_range ?z_sorted ?z_str ?z_tuple
    (case a1 => k_is); (case l1 => k_is); (case c1 => k_is); (case k1 => k_is)
    (case a2 => k_is); (case l2 => k_is); (case c2 => k_is); (case k2 => k_is)
    (case a3 => k_is); (case l3 => k_is); (case c3 => k_is); (case k3 => k_is)
    (case a4 => k_is); (case l4 => k_is); (case c4 => k_is); (case k4 => k_is)
    (case a5 => k_is); (case l5 => k_is); (case c5 => k_is); (case k5 => k_is)
    (case a6 => k_is); (case l6 => k_is); (case c6 => k_is); (case k6 => k_is)
    (case a7 => k_is); (case l7 => k_is); (case c7 => k_is); (case k7 => k_is)
    (case a8 => k_is); (case l8 => k_is); (case c8 => k_is); (case k8 => k_is)
    (case a9 => k_is); (case l9 => k_is); (case c9 => k_is); (case k9 => k_is)
    (case a10 => k_is); (case l10 => k_is); (case c10 => k_is); (case k10 => k_is)
    (case a11 => k_is); (case l11 => k_is); (case c11 => k_is); (case k11 => k_is)
    (case a12 => k_is); (case l12 => k_is); (case c12 => k_is); (case k12 => k_is)
    (case a13 => k_is); (case l13 => k_is); (case c13 => k_is); (case k13 => k_is)
    (case a14 => k_is); (case l14 => k_is); (case c14 => k_is); (case k14 => k_is)
    (case a15 => k_is); (case l15 => k_is); (case c15 => k_is); (case k15 => k_is)
    (case a16 => k_is); (case l16 => k_is); (case c16 => k_is); (case k16 => k_is)
    (case a17 => k_is); (case l17 => k_is); (case c17 => k_is); (case k17 => k_is)
    (case a18 => k_is); (case l18 => k_is); (case c18 => k_is); (case k18 => k_is)
    (case a19 => k_is); (case l19 => k_is); (case c19 => k_is); (case k19 => k_is)
    (case a20 => k_is); (case l20 => k_is); (case c20 => k_is); (case k20 => k_is)
    (case a21 => k_is); (case l21 => k_is); (case c21 => k_is); (case k21 => k_is)
    (case a22 => k_is); (case l22 => k_is); (case c22 => k_is); (case k22 => k_is)
    (case a23 => k_is); (case l23 => k_is); (case c23 => k_is); (case k23 => k_is)
    (case a24 => k_is); (case l24 => k_is); (case c24 => k_is); (case k24 => k_is)
    (case a25 => k_is); (case l25 => k_is); (case c25 => k_is); (case k25 => k_is)
    (case a26 => k_is); (case l26 => k_is); (case c26 => k_is); (case k26 => k_is)
    (case z_bool => k_is)
    (case z_int => k_is)
    (case z_isinstance => k_is)
    (case z_len => k_is)
    (case z_range => k_is)
    (case z_sorted => k_is)
    (case z_str => k_is)
    (case z_tuple => k_is)
#print axioms PySem.Challenge.cw_weakcourt_k23_what_objects_retain_holds
