import PyProof.Rows.All
import Wide.All
import OpenK.AllK
import Wide.FinOn
import HandS.ForMost
import HandS.Codes
import HandS.Evl
import HandS.Walk
import HandS.DictComp
import HandS.SortInts
import HandS.IsInst
import HandS.TupAny
import HandS.Conv
import HandS.Strs
import HandS.SetFor
import HandS.More
import HandS.Deep
import PyProof.P3In
import PyProof.TupleOfSeq
import HandS.Iter
import KE.GoesEnumKw
import KE.GoesMore
import HandS.NoneIn
import HandS.Style
import HandS.Ends
import PyProof.ReprRoads
import PyProof.ReprBulk
import HandS.List
import PySem.Challenge.RW_weakcourt_k24_canonical_heaps
set_option Elab.async false
set_option linter.all false
set_option maxRecDepth 100000
set_option maxHeartbeats 4000000
/-! Weakcourt's proofs, the common part: the data of a heap as it stands in the model's memory, relations between memories, readings of comprehensions. -/
namespace Wc
open PySem L2
theorem u20 {k : Nat} {A : Around} (r : Room k A) : A.units + 20 < cLine := by have := r.un; omega
/-! ### promises by their number of arguments -/
abbrev V1 := V → Hp → VK → Prop
abbrev V2 := V → V → Hp → VK → Prop
abbrev V3 := V → V → V → Hp → VK → Prop
abbrev V4 := V → V → V → V → Hp → VK → Prop
abbrev V5 := V → V → V → V → V → Hp → VK → Prop
abbrev sp1 (R : V1) : Sp := fun vs H Q _ => ∃ x, vs = [x] ∧ R x H Q
abbrev sp2 (R : V2) : Sp := fun vs H Q _ => ∃ x y, vs = [x, y] ∧ R x y H Q
abbrev sp3 (R : V3) : Sp := fun vs H Q _ => ∃ x y z, vs = [x, y, z] ∧ R x y z H Q
abbrev sp4 (R : V4) : Sp := fun vs H Q _ => ∃ x y z u, vs = [x, y, z, u] ∧ R x y z u H Q
abbrev sp5 (R : V5) : Sp := fun vs H Q _ => ∃ x y z u v, vs = [x, y, z, u, v] ∧ R x y z u v H Q
/-! ### a def where it stands, with its code object: the rule for its body -/
structure Df (K : PySem.W.Frag) (x : Str) (st : Stmt) (f : Addr) (fd : FuncData) (cd : Value) : Prop where
  ok : ∀ {P : Program} {w : World} {mg : Str → Option Value} {base : PySem.Heap} {N ps : List Str} {k : Nat} {sp : Sp}, FnScope N ps (defScope st) → (∀ vs H Q E, sp vs H Q E → vs.length = ps.length) →
    (∀ (A : Around) (outer : List Env) (s : Shared) (H : Hp) (vs : List V) (Q : VK) (E : XK), Room k (A.deeper (PyProof.Rows.envOfC x (defScope st) s.heap.objs.size f cd)) → sp vs H Q E →
      ∃ t, PSs (cxOf CX0 P w K mg base N x (defScope st) f cd A outer s H E).nox (defBody st) t ∧ t { nx := fun _ H' => Q .non H', rt := Q } (start N vs) H) → FnOk P w K mg base CX0 (k + 1) f fd ps sp
theorem Df.of {K : PySem.W.Frag} {x : Str} {st : Stmt} {f : Addr} {oc : Value} {od an : Option Addr} {dV kV doc pm cd ct : Value} {osl : Array (Option Value)}
    (lk : K.lookup f = some ⟨oc, od, .func (PySem.W.fnOf x x (defArgs st) (defBody st) (defScope st) dV kV doc pm an cd ct), osl⟩) (hcd : PySem.W.codeIn K cd x = true) :
    Df K x st f (PySem.W.fnOf x x (defArgs st) (defBody st) (defScope st) dV kV doc pm an cd ct) cd :=
  ⟨fun S len hb => fn_of lk hcd S len fun A outer s H vs Q E hr hsp => let ⟨t, h, q⟩ := hb A outer s H vs Q E hr hsp; ⟨t, h.nox, q⟩⟩
/-! ### a def that may be called by its name: its promise, where it stands, how arguments bind -/
structure Cal (P : Program) (w : World) (K : PySem.W.Frag) (mg : Str → Option Value) (base : PySem.Heap) (k : Nat) (x : Str) (sp : Sp) (dvs : List V) : Prop where
  all : ∃ (f : Addr) (fd : FuncData) (ps : List Str) (ds : List Value), FnOk P w K mg base CX0 k f fd ps sp ∧ mg x = some (.ref f) ∧
    PySem.W.keepIn K (.ref f) = true ∧ Binds K fd ps ds ∧ Vals dvs ds
theorem Cal.mk0 {P : Program} {w : World} {K : PySem.W.Frag} {mg : Str → Option Value} {base : PySem.Heap} {k : Nat} {x : Str} {sp : Sp} {f : Addr} {fd : FuncData} {ps : List Str}
    (h : FnOk P w K mg base CX0 k f fd ps sp) (m : mg x = some (.ref f)) (kp : PySem.W.keepIn K (.ref f) = true) (b : Binds K fd ps []) : Cal P w K mg base k x sp [] := ⟨f, fd, ps, [], h, m, kp, b, .nil⟩
theorem pe_c {X : Cx} {j k : Nat} {x : Str} {sp : Sp} {dvs : List V} {e : Expr} {es : List Expr} {p pos : Pos} {t : TA}
    (c : Cal X.prog X.w X.K X.mg X.base k x sp dvs) (hr : Room j X.A) (hk : k ≤ j) (hg : Gl X x) (ha : PA X (e :: es) t)
    (h1 : (x == ("__debug__" : Str)) = false := by decide) (h2 : starEach (e :: es) X.env = (false, eval e X.env) :: starEach es X.env := by rfl)
    (h3 : (backTo pos (starEach es X.env)).any (·.1) = false := by rfl) : PE X (.Call (.Name x p) (e :: es) [] pos) (tCall sp dvs E0 t) :=
  let ⟨_, _, _, _, F, hm, kp, b, d⟩ := c.all
  pe_call F (hr.mono hk) hg hm kp b d pass0 ha h1 h2 h3
/-- tuple(xs) -/
def rTupS (K : PySem.W.Frag) : List V → Hp → VK → Prop := fun xs H Q => ∃ p ys, xs = [.ref p] ∧ ((SqL K H p ys ∧ ∀ l, H l = none → Q (.ref l) (upd H l (.tup ys))) ∨ (SqT K H p ys ∧ Q (.ref p) H))
/-- a comprehension without a test -/
theorem tyes {σ : L2.St} {H : Hp} {F G : Hp → Prop} (h : F H) : tYes σ H fun c H4 => if c = true then F H4 else G H4 := by
  show if true = true then F H else G H
  rw [if_pos rfl]
  exact h
/-- a number among numbers -/
theorem inV_int (n : Int) (ns : List Int) : inV (.int n) (ns.map V.int) = decide (n ∈ ns) := by
  induction ns with
  | nil => rfl
  | cons k r ih =>
    show (eqV (.int k) (.int n) || inV (.int n) (r.map V.int)) = _
    rw [ih]
    show (k == n || decide (n ∈ r)) = _
    by_cases e : k = n
    · subst e; simp
    · have e3 : ¬ n = k := fun z => e z.symm
      simp [e, e3]
theorem flat_ints (ns : List Int) : (ns.map V.int).all flatV = true := by
  rw [List.all_eq_true]
  intro x hx
  obtain ⟨n, _, rfl⟩ := List.mem_map.mp hx
  rfl
/-! ### memories -/
/-- all but what stands at M is as it was -/
def ExM (M : List Addr) (H H' : Hp) : Prop := ∀ a o, a ∉ M → H a = some o → H' a = some o
abbrev ExA (H H' : Hp) : Prop := ExM [] H H'
/-- every tuple is as it was; so are those of which the object is known -/
structure Tk (K : PySem.W.Frag) (H H' : Hp) : Prop where
  sq : ∀ a xs, SqT K H a xs → SqT K H' a xs
  zq : ∀ a (o : Obj) xs, H a = some (.frz o (.tup xs)) → H' a = some (.frz o (.tup xs))
instance {K : PySem.W.Frag} {H H' : Hp} : CoeFun (Tk K H H') fun _ => ∀ a xs, SqT K H a xs → SqT K H' a xs := ⟨Tk.sq⟩
/-- a tuple of which it is known that its object has no dict -/
def SqZ (H : Hp) (a : Addr) (xs : List V) : Prop := ∃ o : Obj, o.dict = none ∧ H a = some (.frz o (.tup xs))
theorem SqZ.sq {K : PySem.W.Frag} {H : Hp} {a : Addr} {xs : List V} (h : SqZ H a xs) : SqT K H a xs := let ⟨o, _, e⟩ := h; .inl (.inr ⟨o, e⟩)
theorem SqZ.mono {K : PySem.W.Frag} {H H' : Hp} {a : Addr} {xs : List V} (t : Tk K H H') (h : SqZ H a xs) : SqZ H' a xs := let ⟨o, n, e⟩ := h; ⟨o, n, t.zq _ _ _ e⟩
section
variable {K : PySem.W.Frag} {M : List Addr} {H H' H1 H2 : Hp} {a b p D : Addr} {o u : HO} {xs ys : List V}
theorem ExM.refl (M : List Addr) (H : Hp) : ExM M H H := fun _ _ _ h => h
theorem ExM.trans (h1 : ExM M H H1) (h2 : ExM M H1 H2) : ExM M H H2 := fun a o n h => h2 a o n (h1 a o n h)
theorem ExM.of (h : ExA H H') : ExM M H H' := fun a o _ e => h a o (by simp) e
theorem ExA.at (h : ExA H H') (e : H a = some o) : H' a = some o := h a o (by simp) e
theorem ExM.new (n : H p = none) : ExM M H (upd H p o) := fun a u _ e => by
  rw [upd_ne (ne_of_none e n)]; exact e
theorem ExM.put (h : ExM M H H') (n : H p = none) : ExM M H (upd H' p o) := fun a u m e => by
  rw [upd_ne (ne_of_none e n)]; exact h a u m e
theorem ExM.mem (h : ExM M H H') (n : p ∈ M) : ExM M H (upd H' p o) := fun a u m e => by
  rw [upd_ne (fun z => m (by rw [z]; exact n))]; exact h a u m e
theorem ExM.free (h : ExM M H H') (m : p ∉ M) (n : H' p = none) : H p = none := by
  cases q : H p with
  | none => rfl
  | some u => rw [h p u m q] at n; cases n
theorem ExA.free (h : ExA H H') (n : H' p = none) : H p = none := ExM.free h (by simp) n
theorem Tk.refl : Tk K H H := ⟨fun _ _ h => h, fun _ _ _ h => h⟩
theorem Tk.trans (h1 : Tk K H H1) (h2 : Tk K H1 H2) : Tk K H H2 := ⟨fun a xs h => h2.sq a xs (h1.sq a xs h), fun a o xs h => h2.zq a o xs (h1.zq a o xs h)⟩
theorem Tk.new (n : H p = none) : Tk K H (upd H p o) := ⟨fun a xs h => by
  rcases h with (h | ⟨v, h⟩) | h
  · exact .inl (.inl (by rw [upd_ne (ne_of_none h n)]; exact h))
  · exact .inl (.inr ⟨v, by rw [upd_ne (ne_of_none h n)]; exact h⟩)
  · exact .inr h, fun a v xs h => by rw [upd_ne (ne_of_none h n)]; exact h⟩
theorem Tk.all (h : ExA H H') : Tk K H H' := ⟨fun a xs e => by
  rcases e with (e | ⟨v, e⟩) | e
  · exact .inl (.inl (h.at e))
  · exact .inl (.inr ⟨v, h.at e⟩)
  · exact .inr e, fun a v xs e => h.at e⟩
/-- what is no tuple, and no tuple locked, may be written -/
theorem Tk.upd (n : ∀ xs, H p ≠ some (.tup xs)) (n2 : ∀ v xs, H p ≠ some (.frz v (.tup xs))) : Tk K H (L2.upd H p o) := ⟨fun a xs h => by
  rcases h with (h | ⟨v, h⟩) | h
  · exact .inl (.inl (by rw [upd_ne (fun z => n xs (by rw [← z]; exact h))]; exact h))
  · exact .inl (.inr ⟨v, by rw [upd_ne (fun z => n2 v xs (by rw [← z]; exact h))]; exact h⟩)
  · exact .inr h, fun a v xs h => by rw [upd_ne (fun z => n2 v xs (by rw [← z]; exact h))]; exact h⟩
theorem Tk.lst (h : H p = some (.lst xs)) : Tk K H (L2.upd H p o) := Tk.upd (fun _ q => by rw [h] at q; cases q) (fun _ _ q => by rw [h] at q; cases q)
theorem Tk.dic {kvs : List (Key × V)} (h : H p = some (.dK kvs)) : Tk K H (L2.upd H p o) := Tk.upd (fun _ q => by rw [h] at q; cases q) (fun _ _ q => by rw [h] at q; cases q)
theorem Tk.frz {kvs : List (Key × V)} {v : Obj} (h : H p = some (.frz v (.dK kvs))) : Tk K H (L2.upd H p o) := Tk.upd (fun _ q => by rw [h] at q; cases q) (fun _ _ q => by rw [h] at q; cases q)
theorem SqL.all (h : ExA H H') (e : SqL K H a xs) : SqL K H' a xs := by
  rcases e with (e | ⟨v, e⟩) | e
  · exact .inl (.inl (h.at e))
  · exact .inl (.inr ⟨v, h.at e⟩)
  · exact .inr e
end
/-- tuple(xs), a new object without a dict -/
def rTupZ (K : PySem.W.Frag) : List V → Hp → VK → Prop := fun xs H Q => ∃ p ys, xs = [.ref p] ∧ SqL K H p ys ∧ ∀ l (o : Obj), H l = none → o.dict = none → Q (.ref l) (upd H l (.frz o (.tup ys)))
theorem SqZ.of {H : Hp} {a : Addr} {xs : List V} {o : Obj} (n : o.dict = none) (h : H a = some (.frz o (.tup xs))) : SqZ H a xs := ⟨o, n, h⟩
/-! ### a heap of the program, as data -/
abbrev Rf := Option Int
def rV : Rf → V
  | none => .non
  | some i => .int i
inductive Ob where
  | rcd (n : Int) (fs : List Rf)
  | weak (n : Int) (t : Rf)
  | tab (n : Int) (es : List (Int × Int))
def Ob.num : Ob → Int
  | .rcd n _ => n
  | .weak n _ => n
  | .tab n _ => n
structure Hd where
  nx : Int
  regs : List Rf
  kept : List Int
  obs : List Ob
  wat : List (Int × Int)
def Hd.nums (h : Hd) : List Int := h.obs.map Ob.num
def Rf.ok (S : List Int) (r : Rf) : Prop := ∀ i, r = some i → i ∈ S
def Ob.ok (S : List Int) : Ob → Prop
  | .rcd _ fs => fs.length ≤ 1000 ∧ ∀ r ∈ fs, Rf.ok S r
  | .weak _ t => Rf.ok S t
  | .tab _ es => es.length ≤ 1000 ∧ (es.map (·.1)).Nodup ∧ ∀ e ∈ es, e.1 ∈ S ∧ e.2 ∈ S
structure Hd.Ok (h : Hd) : Prop where
  up : h.nums.Pairwise (· < ·)
  size : h.obs.length ≤ 50
  nreg : h.regs.length ≤ 1000
  regs : ∀ r ∈ h.regs, Rf.ok h.nums r
  obs : ∀ o ∈ h.obs, o.ok h.nums
  kept : ∀ i ∈ h.kept, i ∈ h.nums
  wat : ∀ e ∈ h.wat, e.1 ∈ h.nums
  low : ∀ n ∈ h.nums, 0 ≤ n ∧ n < h.nx
  nxl : 0 ≤ h.nx ∧ h.nx ≤ 999
  kup : h.kept.Pairwise (· < ·)
  tok : ∀ e ∈ h.wat, 0 ≤ e.2 ∧ e.2 ≤ 999
  nwat : h.wat.length ≤ 50
  rpos : h.regs ≠ []
/-- what an object leads to -/
def ledTo (o : Ob) (got gone : List Int) : List Int := match o with
  | .rcd _ fs => fs.filterMap id
  | .weak _ none => []
  | .weak _ (some t) => if t ∈ gone then [] else [t]
  | .tab _ es => (es.filter fun e => decide (e.1 ∈ got)).map (·.2)
/-! ### .. as it stands in memory: tuples all through -/
section
variable (K : PySem.W.Frag) (H : Hp)
def PairAt (a : Addr) (p : Int × Int) : Prop := SqT K H a [.int p.1, .int p.2]
def ObAt (a : Addr) : Ob → Prop
  | .rcd n fs => ∃ t, SqT K H a [.str "record", .int n, .ref t] ∧ SqZ H t (fs.map rV)
  | .weak n r => SqT K H a [.str "weak", .int n, rV r]
  | .tab n es => ∃ t ps, SqT K H a [.str "table", .int n, .ref t] ∧ SqZ H t (ps.map .ref) ∧ Paired (PairAt K H) ps es
def ObsAt (o : Addr) (h : Hd) : Prop := ∃ os, SqT K H o (os.map V.ref) ∧ Paired (ObAt K H) os h.obs
def HeapAt (a : Addr) (h : Hd) : Prop := ∃ r k o w ws, SqT K H a [.str "heap", .int h.nx, .ref r, .ref k, .ref o, .ref w] ∧ SqZ H r (h.regs.map rV) ∧ SqT K H k (h.kept.map .int) ∧
  ObsAt K H o h ∧ SqT K H w (ws.map .ref) ∧ Paired (PairAt K H) ws h.wat
end
section
variable {K : PySem.W.Frag} {H H' : Hp} {a : Addr}
theorem pmp {α β : Type} {F G : α → β → Prop} {l : List α} {m : List β} (h : Paired F l m) (f : ∀ a b, F a b → G a b) : Paired G l m := Paired.mapP h f
theorem PairAt.mono (t : Tk K H H') {p : Int × Int} (h : PairAt K H a p) : PairAt K H' a p := t _ _ h
theorem ObAt.mono (t : Tk K H H') {o : Ob} (h : ObAt K H a o) : ObAt K H' a o := by
  cases o with
  | rcd n fs => obtain ⟨q, h1, h2⟩ := h; exact ⟨q, t _ _ h1, h2.mono t⟩
  | weak n r => exact t _ _ h
  | tab n es => obtain ⟨q, ps, h1, h2, h3⟩ := h; exact ⟨q, ps, t _ _ h1, h2.mono t, pmp h3 fun _ _ z => PairAt.mono t z⟩
theorem ObsAt.mono (t : Tk K H H') {h : Hd} (x : ObsAt K H a h) : ObsAt K H' a h := by
  obtain ⟨os, h1, h2⟩ := x
  exact ⟨os, t _ _ h1, pmp h2 fun _ _ z => ObAt.mono t z⟩
theorem HeapAt.mono (t : Tk K H H') {h : Hd} (x : HeapAt K H a h) : HeapAt K H' a h := by
  obtain ⟨r, k, o, w, ws, h1, h2, h3, h4, h5, h6⟩ := x
  exact ⟨r, k, o, w, ws, t _ _ h1, h2.mono t, t _ _ h3, h4.mono t, t _ _ h5, pmp h6 fun _ _ z => PairAt.mono t z⟩
theorem pget {α β : Type} {F : α → β → Prop} : ∀ {l : List α} {m : List β} {i : Nat} {x : α}, Paired F l m → l[i]? = some x → ∃ y, m[i]? = some y ∧ F x y
  | _, _, _, _, .nil, e => by simp at e
  | _, _, 0, _, .cons r _, e => by simp at e; subst e; exact ⟨_, rfl, r⟩
  | _, _, i + 1, x, .cons _ t, e => by
    obtain ⟨u, h1, h2⟩ := pget (i := i) (x := x) t (by simpa using e)
    exact ⟨u, by simpa using h1, h2⟩
theorem pget' {α β : Type} {F : α → β → Prop} : ∀ {l : List α} {m : List β} {i : Nat} {y : β}, Paired F l m → m[i]? = some y → ∃ x, l[i]? = some x ∧ F x y
  | _, _, _, _, .nil, e => by simp at e
  | _, _, 0, _, .cons r _, e => by simp at e; subst e; exact ⟨_, rfl, r⟩
  | _, _, i + 1, y, .cons _ t, e => by
    obtain ⟨u, h1, h2⟩ := pget' (i := i) (y := y) t (by simpa using e)
    exact ⟨u, by simpa using h1, h2⟩
theorem plen {α β : Type} {F : α → β → Prop} : ∀ {l : List α} {m : List β}, Paired F l m → l.length = m.length
  | _, _, .nil => rfl
  | _, _, .cons _ t => by rw [List.length_cons, List.length_cons, plen t]
theorem psnoc {α β : Type} {F : α → β → Prop} {x : α} {y : β} (q : F x y) : ∀ {l : List α} {m : List β}, Paired F l m → Paired F (l ++ [x]) (m ++ [y])
  | _, _, .nil => .cons q .nil
  | _, _, .cons r t => .cons r (psnoc q t)
/-- the number of an object, at its place -/
theorem ObAt.num {o : Ob} (h : ObAt K H a o) : ∃ k v, SqT K H a [.str k, .int o.num, v] := by
  cases o with
  | rcd n fs => obtain ⟨q, h1, h2⟩ := h; exact ⟨_, _, h1⟩
  | weak n r => exact ⟨_, _, h⟩
  | tab n es => obtain ⟨q, ps, h1, h2, h3⟩ := h; exact ⟨_, _, h1⟩
end
/-! ### items of short rows -/
theorem at0 {x : V} {r : List V} : atI (x :: r) (0 : Int) = some x := atI_nat (j := 0) rfl
theorem at1 {x y : V} {r : List V} : atI (x :: y :: r) (1 : Int) = some y := atI_nat (j := 1) rfl
theorem at2 {x y z : V} {r : List V} : atI (x :: y :: z :: r) (2 : Int) = some z := atI_nat (j := 2) rfl
theorem at3 {x y z w : V} {r : List V} : atI (x :: y :: z :: w :: r) (3 : Int) = some w := atI_nat (j := 3) rfl
theorem at4 {x y z w v : V} {r : List V} : atI (x :: y :: z :: w :: v :: r) (4 : Int) = some v := atI_nat (j := 4) rfl
theorem at5 {x y z w v u : V} {r : List V} : atI (x :: y :: z :: w :: v :: u :: r) (5 : Int) = some u := atI_nat (j := 5) rfl
theorem sz {n : Nat} (h : n ≤ 100000) : n ≤ sizeLine := Nat.le_trans h (by decide)
theorem szl {n : Nat} (h : n ≤ 100000) : n < sizeLine := Nat.lt_of_le_of_lt h (by decide)
/-! ### data of any depth: tuples of tuples of numbers, texts, None -/
inductive Dt where
  | non
  | bl (b : Bool)
  | int (i : Int)
  | str (s : Str)
  | tup (ds : List Dt)
mutual
def Is (K : PySem.W.Frag) (H : Hp) : Dt → V → Prop
  | .non, v => v = .non
  | .bl b, v => v = .bl b
  | .int i, v => v = .int i
  | .str s, v => v = .str s
  | .tup ds, v => ∃ a xs, v = .ref a ∧ SqT K H a xs ∧ IsL K H ds xs
def IsL (K : PySem.W.Frag) (H : Hp) : List Dt → List V → Prop
  | [], xs => xs = []
  | d :: ds, xs => ∃ x r, xs = x :: r ∧ Is K H d x ∧ IsL K H ds r
end
mutual
def Dt.dep : Dt → Nat
  | .tup ds => 1 + Dt.depL ds
  | _ => 0
def Dt.depL : List Dt → Nat
  | [] => 0
  | d :: ds => max d.dep (Dt.depL ds)
end
mutual
/-- rows that are not too long -/
def Dt.thin : Dt → Prop
  | .tup ds => ds.length ≤ 100000 ∧ Dt.thinL ds
  | _ => True
def Dt.thinL : List Dt → Prop
  | [] => True
  | d :: ds => d.thin ∧ Dt.thinL ds
end
theorem thin_get : ∀ {ds : List Dt} {i : Nat} {d : Dt}, Dt.thinL ds → ds[i]? = some d → d.thin
  | [], i, d, _, e => by simp at e
  | d :: ds, 0, d', h, e => by
    have e : d = d' := by simpa using e
    subst e
    exact h.1
  | d :: ds, i + 1, d', h, e => thin_get (i := i) h.2 (by simpa using e)
theorem thin_ints : ∀ ns : List Int, Dt.thinL (ns.map Dt.int)
  | [] => trivial
  | _ :: ns => ⟨trivial, thin_ints ns⟩
theorem IsL.len {K : PySem.W.Frag} {H : Hp} : ∀ {ds : List Dt} {xs : List V}, IsL K H ds xs → xs.length = ds.length
  | [], xs, h => by
    have e : xs = [] := h
    rw [e]; rfl
  | d :: ds, xs, h => by
    obtain ⟨x, r, e, _, h2⟩ := h
    rw [e, List.length_cons, List.length_cons, IsL.len h2]
theorem IsL.get {K : PySem.W.Frag} {H : Hp} : ∀ {ds : List Dt} {xs : List V} {i : Nat} {d : Dt}, IsL K H ds xs → ds[i]? = some d → ∃ x, xs[i]? = some x ∧ Is K H d x
  | [], xs, i, d, h, e => by simp at e
  | d :: ds, xs, 0, d', h, e => by
    obtain ⟨x, r, e1, h1, _⟩ := h
    have e : d = d' := by simpa using e
    subst e
    rw [e1]; exact ⟨x, rfl, h1⟩
  | d :: ds, xs, i + 1, d', h, e => by
    obtain ⟨x, r, e1, _, h2⟩ := h
    obtain ⟨y, h3, h4⟩ := IsL.get (i := i) h2 (by simpa using e)
    rw [e1]; exact ⟨y, by simpa using h3, h4⟩
theorem dep_get : ∀ {ds : List Dt} {i : Nat} {d : Dt}, ds[i]? = some d → d.dep ≤ Dt.depL ds
  | [], i, d, e => by simp at e
  | d :: ds, 0, d', e => by
    have e : d = d' := by simpa using e
    subst e
    exact Nat.le_max_left _ _
  | d :: ds, i + 1, d', e => Nat.le_trans (dep_get (i := i) (by simpa using e)) (Nat.le_max_right _ _)
theorem IsL.ints {K : PySem.W.Frag} {H : Hp} : ∀ ns : List Int, IsL K H (ns.map Dt.int) (ns.map V.int)
  | [] => rfl
  | n :: ns => ⟨_, _, rfl, rfl, IsL.ints ns⟩
theorem depL_ints : ∀ ns : List Int, Dt.depL (ns.map Dt.int) = 0
  | [] => rfl
  | n :: ns => by
    show max 0 (Dt.depL (ns.map Dt.int)) = 0
    rw [depL_ints ns]; rfl
theorem tyx_tup {K : PySem.W.Frag} {H : Hp} {a : Addr} {xs : List V} (h : SqT K H a xs) : TyX K H (.ref a) (.type "tuple") := by
  rcases h with (h | ⟨o, h⟩) | ⟨o, its, n, h1, h2, _⟩
  · exact .base (.tup h)
  · exact .fTuple h
  · exact .kTuple h1 h2
/-! ### a list or a tuple that is walked -/
def iSeq (K : PySem.W.Frag) (tl : TE) : TI := fun σ H R => iList K tl σ H R ∨ iTup K tl σ H R
theorem pi_seq {X : Cx} {tg l : Expr} {tl : TE} (hl : PE X l tl) : PI X tg l (iSeq X.K tl) :=
  ⟨fun pins s σ H R I h => h.elim ((pi_list hl).run pins s σ H R I) ((pi_tup hl).run pins s σ H R I)⟩
/-- a list or a tuple -/
def SqS (K : PySem.W.Frag) (H : Hp) (a : Addr) (xs : List V) : Prop := SqL K H a xs ∨ SqT K H a xs
theorem SqS.all {K : PySem.W.Frag} {H H' : Hp} {a : Addr} {xs : List V} (e : ExA H H') (h : SqS K H a xs) : SqS K H' a xs := h.elim (fun z => .inl (SqL.all e z)) fun z => .inr (Tk.all e _ _ z)
theorem seq_at {K : PySem.W.Frag} {tl : TE} {σ : L2.St} {H : Hp} {R : It → Hp → Prop} {c : Addr} {xs : List V} (h : SqS K H c xs) (ht : ∀ Q : VK, Q (.ref c) H → tl σ H Q)
    (k : ∀ J G, Walk J xs.length G (YAt xs) → (∀ H', ExA H H' → G H') → R J H) : iSeq K tl σ H R := by
  rcases h with h | h
  · exact .inl (ht _ ⟨c, rfl, ⟨xs, h⟩, k _ _ walk_list fun H' e => SqL.all e h⟩)
  · exact .inr (ht _ ⟨c, rfl, ⟨xs, h⟩, k _ _ walk_tup fun H' e => Tk.all e _ _ h⟩)
/-! ### what stands beside a list that may change -/
theorem SqL.exm {K : PySem.W.Frag} {M : List Addr} {H H' : Hp} {a : Addr} {xs : List V} (h : ExM M H H') (m : a ∉ M) (e : SqL K H a xs) : SqL K H' a xs := by
  rcases e with (e | ⟨v, e⟩) | e
  · exact .inl (.inl (h a _ m e))
  · exact .inl (.inr ⟨v, h a _ m e⟩)
  · exact .inr e
theorem Tk.exm {K : PySem.W.Frag} {b : Addr} {H H' : Hp} {xs : List V} (h : ExM [b] H H') (hb : H b = some (.lst xs)) : Tk K H H' := by
  have ne : ∀ a o, H a = some o → o ≠ .lst xs → a ∉ [b] := fun a o q z m => by
    have e : a = b := by simpa using m
    rw [e, hb] at q
    exact z (Option.some.inj q).symm
  refine ⟨fun a ys e => ?_, fun a o ys e => h a _ (ne a _ e (fun z => nomatch z)) e⟩
  rcases e with (e | ⟨v, e⟩) | e
  · exact .inl (.inl (h a _ (ne a _ e (fun z => nomatch z)) e))
  · exact .inl (.inr ⟨v, h a _ (ne a _ e (fun z => nomatch z)) e⟩)
  · exact .inr e
/-- the law's source of numbers: a list of a list of numbers and a place in it -/
def Bx (H : Hp) (b d : Addr) (ds : List Int) : Prop := (∃ n : Nat, H b = some (.lst [.ref d, .int (n : Int)])) ∧ H d = some (.lst (ds.map V.int)) ∧ d ≠ b
section
variable {K : PySem.W.Frag} {H H' H0 : Hp} {b d p : Addr} {ds : List Int} {o : HO}
theorem Bx.tk (x : Bx H b d ds) (h : ExM [b] H H') : Tk K H H' := let ⟨⟨_, e⟩, _, _⟩ := x; Tk.exm h e
theorem Bx.keep (x : Bx H b d ds) (h : ExA H H') : Bx H' b d ds := let ⟨⟨n, e⟩, e2, e3⟩ := x; ⟨⟨n, ExA.at h e⟩, ExA.at h e2, e3⟩
theorem Bx.put (x : Bx H b d ds) (x0 : Bx H0 b d ds) (n : H0 p = none) : Bx (upd H p o) b d ds := by
  obtain ⟨⟨k, e⟩, e2, e3⟩ := x
  obtain ⟨⟨k0, f⟩, f2, _⟩ := x0
  exact ⟨⟨k, by rw [upd_ne (ne_of_none f n)]; exact e⟩, by rw [upd_ne (ne_of_none f2 n)]; exact e2, e3⟩
theorem Bx.new (x : Bx H b d ds) (n : H p = none) : Bx (upd H p o) b d ds := x.put x n
theorem Bx.ne (x : Bx H b d ds) (n : H p = none) : p ∉ [b] := fun m => by
  have e : p = b := by simpa using m
  obtain ⟨⟨k, q⟩, _⟩ := x
  rw [e, q] at n; cases n
end
/-- a list of numbers, apart from the source -/
def Nm (K : PySem.W.Frag) (H : Hp) (b a : Addr) (ns : List Int) : Prop := SqL K H a (ns.map V.int) ∧ a ∉ [b]
theorem Nm.keep {K : PySem.W.Frag} {H H' : Hp} {b a : Addr} {ns : List Int} (x : Nm K H b a ns) (h : ExM [b] H H') : Nm K H' b a ns := ⟨SqL.exm h x.2 x.1, x.2⟩
/-! ### comprehensions: what holds of the turn, of the row made so far and of the memory -/
def LcP (M : List Addr) (H : Hp) (D : Addr) (Acc : Nat → List V → Hp → Prop) (i : Nat) (H' : Hp) : Prop := ExM M H H' ∧ ∃ acc, H' D = some (.lst acc) ∧ acc.length ≤ i ∧ Acc i acc H'
section
variable {M : List Addr} {H H1 H5 : Hp} {D : Addr} {Acc : Nat → List V → Hp → Prop} {i : Nat} {acc : List V} {y : V}
theorem LcP.yes (hD : H D = none) (hM : D ∉ M) (hi : i ≤ 40000) (e : ExM M H H1) (h1 : H1 D = some (.lst acc)) (h2 : acc.length ≤ i) (e2 : ExM M H1 H5) (h : Acc (i + 1) (acc ++ [y]) (upd H5 D (.lst (acc ++ [y])))) :
    ∃ acc', H5 D = some (.lst acc') ∧ acc'.length < sizeLine ∧ LcP M H D Acc (i + 1) (upd H5 D (.lst (acc' ++ [y]))) :=
  ⟨acc, e2 D _ hM h1, szl (by omega), (e.trans e2).put hD, acc ++ [y], upd_same, by rw [List.length_append, List.length_singleton]; omega, h⟩
theorem LcP.no (hM : D ∉ M) (e : ExM M H H1) (h1 : H1 D = some (.lst acc)) (h2 : acc.length ≤ i) (e2 : ExM M H1 H5) (h : Acc (i + 1) acc H5) : LcP M H D Acc (i + 1) H5 :=
  ⟨e.trans e2, acc, e2 D _ hM h1, by omega, h⟩
end
theorem lcM (M : List Addr) {J : It} {n : Nat} {G : Hp → Prop} {Y : Nat → Hp → V → Hp → Prop} (w : Walk J n G Y) {g : TG} {tt : TT} {te : TE} {vs : List Nat} {σ : L2.St} {H : Hp} {D : Addr} {Qd : Hp → Prop}
    (hD : H D = none) (Acc : Nat → List V → Hp → Prop) (h0 : Acc 0 [] (upd H D (.lst []))) (hG : ∀ H', ExM M H H' → G H')
    (hs : ∀ i x H1 H2 acc, i < n → ExM M H H1 → H1 D = some (.lst acc) → acc.length ≤ i → Acc i acc H1 → Y i H1 x H2 → g x (wipe σ vs) H2 fun σ2 H3 => wipe σ2 vs = wipe σ vs ∧ tt σ2 H3 fun c H4 =>
      if c = true then te σ2 H4 fun y H5 => ∃ acc', H5 D = some (.lst acc') ∧ acc'.length < sizeLine ∧ LcP M H D Acc (i + 1) (upd H5 D (.lst (acc' ++ [y]))) else LcP M H D Acc (i + 1) H4)
    (hd : ∀ H' acc, ExM M H H' → H' D = some (.lst acc) → acc.length ≤ n → Acc n acc H' → Qd H') :
    ∃ W : Nat → Nat → Hp → Prop, (∃ m, W 0 m (upd H D (.lst []))) ∧ ∀ i m H, W i m H →
      (J.stop i H ∧ Qd H) ∨ (J.go i H ∧ ∃ Nx : Hp → Prop, (∀ H', Nx H' → ∃ m', m' < m ∧ W (i + 1) m' H') ∧ ∀ x H', J.yld i H x H' → g x (wipe σ vs) H' fun σ2 H2 => wipe σ2 vs = wipe σ vs ∧ tt σ2 H2 fun b H3 =>
        if b = true then te σ2 H3 fun y H4 => ∃ acc, H4 D = some (.lst acc) ∧ acc.length < sizeLine ∧ Nx (upd H4 D (.lst (acc ++ [y]))) else Nx H3) := by
  refine lc_it w (LcP M H D Acc) ⟨ExM.new hD, [], upd_same, Nat.le_refl _, h0⟩ (fun i H' _ p => hG H' p.1) (fun i x H1 H2 hi p y => ?_)
    fun H' p => by obtain ⟨e, acc, h1, h2, h3⟩ := p; exact hd H' acc e h1 h2 h3
  obtain ⟨e, acc, h1, h2, h3⟩ := p
  exact hs i x H1 H2 acc hi e h1 h2 h3 y
/-! ### the same of dicts with number keys -/
def DcP (M : List Addr) (H : Hp) (D : Addr) (Acc : Nat → List (Key × V) → Hp → Prop) (i : Nat) (H' : Hp) : Prop := ExM M H H' ∧ ∃ acc, H' D = some (.dK acc) ∧ acc.length ≤ i ∧ Acc i acc H'
theorem DcP.yes {M : List Addr} {H H1 H5 : Hp} {D : Addr} {Acc : Nat → List (Key × V) → Hp → Prop} {i : Nat} {acc : List (Key × V)} {k : Key} {y z : V} (hD : H D = none) (hM : D ∉ M) (hi : i ≤ 40000) (e : ExM M H H1) (h1 : H1 D = some (.dK acc)) (h2 : acc.length ≤ i)
    (ek : y = kV k) (e2 : ExM M H1 H5) (h : Acc (i + 1) (putK acc k z) (upd H5 D (.dK (putK acc k z)))) :
    ∃ kvs k, y = kV k ∧ H5 D = some (.dK kvs) ∧ kvs.length < sizeLine ∧ DcP M H D Acc (i + 1) (upd H5 D (.dK (putK kvs k z))) :=
  ⟨acc, k, ek, e2 D _ hM h1, szl (by omega), (e.trans e2).put hD, putK acc k z, upd_same, Nat.le_trans (length_putK _ _ _) (by omega), h⟩
theorem dcM (M : List Addr) {J : It} {n : Nat} {G : Hp → Prop} {Y : Nat → Hp → V → Hp → Prop} (w : Walk J n G Y) {g : TG} {tt : TT} {tk tv : TE} {vs : List Nat} {σ : L2.St} {H : Hp} {D : Addr} {Qd : Hp → Prop}
    (hD : H D = none) (Acc : Nat → List (Key × V) → Hp → Prop) (h0 : Acc 0 [] (upd H D (.dK []))) (hG : ∀ H', ExM M H H' → G H')
    (hs : ∀ i x H1 H2 acc, i < n → ExM M H H1 → H1 D = some (.dK acc) → acc.length ≤ i → Acc i acc H1 → Y i H1 x H2 → g x (wipe σ vs) H2 fun σ2 H3 => wipe σ2 vs = wipe σ vs ∧ tt σ2 H3 fun c H4 =>
      if c = true then tk σ2 H4 fun y H5 => tv σ2 H5 fun z H6 => ∃ kvs k, y = kV k ∧ H6 D = some (.dK kvs) ∧ kvs.length < sizeLine ∧ DcP M H D Acc (i + 1) (upd H6 D (.dK (putK kvs k z))) else DcP M H D Acc (i + 1) H4)
    (hd : ∀ H' acc, ExM M H H' → H' D = some (.dK acc) → acc.length ≤ n → Acc n acc H' → Qd H') :
    ∃ W : Nat → Nat → Hp → Prop, (∃ m, W 0 m (upd H D (.dK []))) ∧ ∀ i m H, W i m H →
      (J.stop i H ∧ Qd H) ∨ (J.go i H ∧ ∃ Nx : Hp → Prop, (∀ H', Nx H' → ∃ m', m' < m ∧ W (i + 1) m' H') ∧ ∀ x H', J.yld i H x H' → g x (wipe σ vs) H' fun σ2 H2 => wipe σ2 vs = wipe σ vs ∧ tt σ2 H2 fun b H3 =>
        if b = true then tk σ2 H3 fun y H4 => tv σ2 H4 fun z H5 => ∃ kvs k, y = kV k ∧ H5 D = some (.dK kvs) ∧ kvs.length < sizeLine ∧ Nx (upd H5 D (.dK (putK kvs k z))) else Nx H3) := by
  refine ⟨fun i m H' => m + i = n ∧ DcP M H D Acc i H', ⟨n, rfl, ExM.new hD, [], upd_same, Nat.le_refl _, h0⟩, ?_⟩
  rintro i m H' ⟨hm, p⟩
  obtain ⟨e, acc, h1, h2, h3⟩ := id p
  have q := hG H' e
  by_cases hi : i < n
  · exact .inr ⟨w.goes i H' hi q, DcP M H D Acc (i + 1), fun H2 p2 => ⟨m - 1, by omega, by omega, p2⟩, fun x H2 y => hs i x H' H2 acc hi e h1 h2 h3 (w.yields i H' x H2 hi q y)⟩
  · have en : i = n := by omega
    subst en
    exact .inl ⟨w.stops H' q, hd H' acc e h1 h2 h3⟩
end Wc
/-! Comprehensions whose turns change nothing that stood before: what they make, at once. -/
namespace Wc
open PySem L2
theorem tsnoc {α : Type} {l : List α} {i : Nat} {x : α} (h : l[i]? = some x) : l.take (i + 1) = l.take i ++ [x] := by
  rw [List.take_add_one, h]; rfl
theorem zip_all {α β : Type} {F : α → β → Prop} : ∀ {l : List α} {m : List β}, Paired F l m → ∀ p ∈ l.zip m, F p.1 p.2
  | _, _, .nil, p, hp => by simp at hp
  | _, _, .cons r t, p, hp => by
    rcases List.mem_cons.mp hp with e | e
    · rw [e]; exact r
    · exact zip_all t p e
theorem zip_fst {α β : Type} {F : α → β → Prop} : ∀ {l : List α} {m : List β}, Paired F l m → (l.zip m).map (·.1) = l
  | _, _, .nil => rfl
  | _, _, .cons r t => congrArg (_ :: ·) (zip_fst t)
theorem zip_snd {α β : Type} {F : α → β → Prop} : ∀ {l : List α} {m : List β}, Paired F l m → (l.zip m).map (·.2) = m
  | _, _, .nil => rfl
  | _, _, .cons r t => congrArg (_ :: ·) (zip_snd t)
theorem filter_snd {α β : Type} (f : β → Bool) : ∀ l : List (α × β), (l.filter fun p => f p.2).map (·.2) = (l.map (·.2)).filter f
  | [] => rfl
  | p :: l => by
    rw [List.filter_cons, List.map_cons, List.filter_cons]
    split
    · rw [List.map_cons, filter_snd f l]
    · exact filter_snd f l
theorem paired_map {α β γ : Type} {F : α → γ → Prop} (g : β → α) : ∀ {l : List β} {m : List γ}, Paired (fun x y => F (g x) y) l m → Paired F (l.map g) m
  | _, _, .nil => .nil
  | _, _, .cons r t => .cons r (paired_map g t)
theorem paired_mapR {α β γ : Type} {F : γ → α → Prop} (g : β → α) : ∀ {l : List β} {m : List γ}, Paired (fun y x => F y (g x)) m l → Paired F m (l.map g)
  | _, _, .nil => .nil
  | _, _, .cons r t => .cons r (paired_mapR g t)
theorem papp {α β : Type} {F : α → β → Prop} {l2 : List α} {m2 : List β} (q : Paired F l2 m2) : ∀ {l : List α} {m : List β}, Paired F l m → Paired F (l ++ l2) (m ++ m2)
  | _, _, .nil => q
  | _, _, .cons r t => .cons r (papp q t)
theorem zip_refs {β : Type} {F : Addr → β → Prop} {l : List Addr} {m : List β} (h : Paired F l m) : l.map V.ref = (l.zip m).map fun q => V.ref q.1 := by
  have e := congrArg (List.map V.ref) (zip_fst h)
  rw [List.map_map] at e
  exact e.symm
theorem zip_len {α β : Type} {F : α → β → Prop} {l : List α} {m : List β} (h : Paired F l m) : (l.zip m).length = l.length := by
  have e := congrArg List.length (zip_fst h)
  rwa [List.length_map] at e
theorem filter_all {α : Type} : ∀ l : List α, l.filter (fun _ => true) = l := fun l => List.filter_eq_self.mpr fun _ _ => rfl
theorem paired_swap {α β : Type} {F : α → β → Prop} : ∀ {l : List α} {m : List β}, Paired F l m → Paired (fun y x => F x y) m l
  | _, _, .nil => .nil
  | _, _, .cons r t => .cons r (paired_swap t)
/-- values that are references -/
theorem paired_refs {α : Type} {F : Addr → α → Prop} : ∀ {l : List α} {ys : List V}, Paired (fun x y => ∃ a, y = V.ref a ∧ F a x) l ys → ∃ as : List Addr, ys = as.map V.ref ∧ Paired F as l
  | _, _, .nil => ⟨[], rfl, .nil⟩
  | _, _, .cons r t => by
    obtain ⟨a, rfl, h⟩ := r
    obtain ⟨as, rfl, h2⟩ := paired_refs t
    exact ⟨a :: as, rfl, .cons h h2⟩
/-- values that are known -/
theorem paired_vals {α : Type} {f : α → V} : ∀ {l : List α} {ys : List V}, Paired (fun x y => y = f x) l ys → ys = l.map f
  | _, _, .nil => rfl
  | _, _, .cons r t => by rw [paired_vals t, r]; rfl
theorem zip_filter {α β : Type} {F : α → β → Prop} {l : List α} {m : List β} (h : Paired F l m) (f : β → Bool) : ((l.zip m).filter fun q => f q.2).map (fun q => q.2) = m.filter f :=
  (filter_snd f (l.zip m)).trans (by rw [zip_snd h])
theorem zip_filter_map {α β γ : Type} {F : α → β → Prop} {l : List α} {m : List β} (h : Paired F l m) (f : β → Bool) (g : β → γ) : ((l.zip m).filter fun q => f q.2).map (fun q => g q.2) = (m.filter f).map g := by
  have e := congrArg (List.map g) ((filter_snd f (l.zip m)).trans (by rw [zip_snd h]))
  rw [List.map_map] at e
  exact e
theorem lcR {α : Type} (K : PySem.W.Frag) (e : α → V) (xs : List α) (f : α → Bool) (rel : α → V → Hp → Prop) (st : α → L2.St) {J : It} {G : Hp → Prop} {n : Nat} {zs : List V} (wk : Walk J n G (YAt zs)) (hzs : zs = xs.map e) (hn : n = xs.length) (hz : xs.length ≤ 40000)
    {g : TG} {tt : TT} {te : TE} {vs : List Nat} {σ : L2.St} {H : Hp} {D : Addr} {Qd : Hp → Prop} (hD : H D = none) (hG : ∀ H', ExA H H' → G H') (mono : ∀ x y H1 H2, Tk K H1 H2 → rel x y H1 → rel x y H2)
    (hg : ∀ x H1, x ∈ xs → ExA H H1 → ∀ R : L2.St → Hp → Prop, R (st x) H1 → g (e x) (wipe σ vs) H1 R) (hw : ∀ x, wipe (st x) vs = wipe σ vs)
    (ht : ∀ x H1, x ∈ xs → ExA H H1 → ∀ R : Bool → Hp → Prop, (∀ H2, ExA H1 H2 → R (f x) H2) → tt (st x) H1 R)
    (he : ∀ x H1, x ∈ xs → f x = true → ExA H H1 → ∀ R : VK, (∀ y H2, ExA H1 H2 → rel x y H2 → R y H2) → te (st x) H1 R)
    (hd : ∀ H' ys, ExA H H' → H' D = some (.lst ys) → Paired (fun x y => rel x y H') (xs.filter f) ys → Qd H') :
    ∃ W : Nat → Nat → Hp → Prop, (∃ m, W 0 m (upd H D (.lst []))) ∧ ∀ i m H, W i m H →
      (J.stop i H ∧ Qd H) ∨ (J.go i H ∧ ∃ Nx : Hp → Prop, (∀ H', Nx H' → ∃ m', m' < m ∧ W (i + 1) m' H') ∧ ∀ x H', J.yld i H x H' → g x (wipe σ vs) H' fun σ2 H2 => wipe σ2 vs = wipe σ vs ∧ tt σ2 H2 fun b H3 =>
        if b = true then te σ2 H3 fun y H4 => ∃ acc, H4 D = some (.lst acc) ∧ acc.length < sizeLine ∧ Nx (upd H4 D (.lst (acc ++ [y]))) else Nx H3) := by
  subst hzs hn
  refine lcM [] wk hD (fun i acc H' => Paired (fun x y => rel x y H') ((xs.take i).filter f) acc) .nil (fun H' x => hG H' x) (fun i x H1 H2 acc hi e1 k1 k2 hacc y => ?_) (fun H' acc e1 k1 k2 hacc => ?_)
  · obtain ⟨rfl, hx⟩ := y
    obtain ⟨u, hu⟩ : ∃ u, xs[i]? = some u := ⟨_, List.getElem?_eq_getElem hi⟩
    rw [List.getElem?_map, hu] at hx
    obtain rfl : e u = x := Option.some.inj hx
    have mu := List.mem_of_getElem? hu
    refine hg u H2 mu e1 _ ⟨hw u, ht u H2 mu e1 _ fun H3 e3 => ?_⟩
    have htk := tsnoc hu
    cases c : f u with
    | false =>
      refine iteF (LcP.no (by simp) e1 k1 k2 e3 ?_)
      rw [htk, List.filter_append, List.filter_cons, c]
      simp only [List.filter_nil, List.append_nil, Bool.false_eq_true, if_false]
      exact pmp hacc fun x y z => mono x y _ _ (Tk.all e3) z
    | true =>
      refine iteT (he u H3 mu c (e1.trans e3) _ fun y H4 e4 hr => LcP.yes hD (by simp) (by omega) e1 k1 k2 (e3.trans e4) ?_)
      have hk : H4 D = some (.lst acc) := ExA.at (e3.trans e4) k1
      rw [htk, List.filter_append, List.filter_cons, c]
      simp only [List.filter_nil, if_true]
      have h2 : Paired (fun x b => rel x b (upd H4 D (.lst (acc ++ [y])))) ((xs.take i).filter f) acc := pmp hacc fun a b z => mono a b _ _ (Tk.trans (Tk.all (e3.trans e4)) (Tk.lst hk)) z
      have h3 : rel u y (upd H4 D (.lst (acc ++ [y]))) := mono _ _ _ _ (Tk.lst hk) hr
      exact psnoc (α := α) (β := V) (F := fun (x : α) (b : V) => rel x b (upd H4 D (.lst (acc ++ [y])))) (x := u) (y := y) h3 (l := (xs.take i).filter f) (m := acc) h2
  · rw [List.take_length] at hacc
    exact hd H' acc e1 k1 hacc
/-- [x for x in xs if t] -/
theorem lcF {α : Type} (K : PySem.W.Frag) (e : α → V) (xs : List α) (f : α → Bool) (st : α → L2.St) {J : It} {G : Hp → Prop} {n : Nat} {zs : List V} (wk : Walk J n G (YAt zs)) (hzs : zs = xs.map e) (hn : n = xs.length) (hz : xs.length ≤ 40000)
    {g : TG} {tt : TT} {te : TE} {vs : List Nat} {σ : L2.St} {H : Hp} {D : Addr} {Qd : Hp → Prop} (v : α → V) (hD : H D = none) (hG : ∀ H', ExA H H' → G H')
    (hg : ∀ x H1, x ∈ xs → ExA H H1 → ∀ R : L2.St → Hp → Prop, R (st x) H1 → g (e x) (wipe σ vs) H1 R) (hw : ∀ x, wipe (st x) vs = wipe σ vs)
    (ht : ∀ x H1, x ∈ xs → ExA H H1 → ∀ R : Bool → Hp → Prop, (∀ H2, ExA H1 H2 → R (f x) H2) → tt (st x) H1 R)
    (he : ∀ x H1, x ∈ xs → f x = true → ExA H H1 → ∀ R : VK, (∀ H2, ExA H1 H2 → R (v x) H2) → te (st x) H1 R)
    (hd : ∀ H', ExA H H' → H' D = some (.lst ((xs.filter f).map v)) → Qd H') :
    ∃ W : Nat → Nat → Hp → Prop, (∃ m, W 0 m (upd H D (.lst []))) ∧ ∀ i m H, W i m H →
      (J.stop i H ∧ Qd H) ∨ (J.go i H ∧ ∃ Nx : Hp → Prop, (∀ H', Nx H' → ∃ m', m' < m ∧ W (i + 1) m' H') ∧ ∀ x H', J.yld i H x H' → g x (wipe σ vs) H' fun σ2 H2 => wipe σ2 vs = wipe σ vs ∧ tt σ2 H2 fun b H3 =>
        if b = true then te σ2 H3 fun y H4 => ∃ acc, H4 D = some (.lst acc) ∧ acc.length < sizeLine ∧ Nx (upd H4 D (.lst (acc ++ [y]))) else Nx H3) :=
  lcR K e xs f (fun x y _ => y = v x) st wk hzs hn hz hD hG (fun _ _ _ _ _ z => z) hg hw ht (fun x H1 m c e R q => he x H1 m c e R fun H2 e2 => q _ H2 e2 rfl)
    fun H' ys e k p => hd H' e (by rw [k, paired_vals p])
theorem tyesR {σ : L2.St} {H : Hp} {R : Bool → Hp → Prop} (h : ∀ H2, ExA H H2 → R true H2) : tYes σ H R := h H (ExM.refl _ _)
/-! ### two clauses -/
def flat2 {α β : Type} (xs : List α) (ys : α → List β) (f : α → β → Bool) : List (α × β) := xs.flatMap fun x => ((ys x).filter (f x)).map fun y => (x, y)
theorem flat2_snoc {α β : Type} (xs : List α) (x : α) (ys : α → List β) (f : α → β → Bool) : flat2 (xs ++ [x]) ys f = flat2 xs ys f ++ ((ys x).filter (f x)).map fun y => (x, y) := by
  unfold flat2; rw [List.flatMap_append, List.flatMap_cons, List.flatMap_nil, List.append_nil]
theorem lc2R {α β : Type} (K : PySem.W.Frag) (e : α → V) (xs : List α) (e1 : β → V) (ys : α → List β) (f : α → β → Bool) (rel : α → β → V → Hp → Prop) (st : α → L2.St) (st1 : α → β → L2.St) {J : It} {G : Hp → Prop} {n : Nat} {zs : List V}
    (wk : Walk J n G (YAt zs)) (hzs : zs = xs.map e) (hn : n = xs.length) (hz : xs.length ≤ 100) (hy : ∀ x ∈ xs, (ys x).length ≤ 1000)
    {g g1 : TG} {tt tt1 : TT} {wi1 : TI} {te : TE} {vs vs1 : List Nat} {σ : L2.St} {H : Hp} {D : Addr} {Qd : Hp → Prop} (hD : H D = none) (hG : ∀ H', ExA H H' → G H') (mono : ∀ x y v H1 H2, Tk K H1 H2 → rel x y v H1 → rel x y v H2)
    (hg : ∀ x H1, x ∈ xs → ExA H H1 → ∀ R : L2.St → Hp → Prop, R (st x) H1 → g (e x) (wipe σ vs) H1 R) (hw : ∀ x, wipe (st x) vs = wipe σ vs) (ht : ∀ x H1, ∀ R : Bool → Hp → Prop, R true H1 → tt (st x) H1 R)
    (hi1 : ∀ x H1, x ∈ xs → ExA H H1 → ∀ R : It → Hp → Prop, (∀ J G, Walk J (ys x).length G (YAt ((ys x).map e1)) → (∀ H', ExA H H' → G H') → R J H1) → wi1 (st x) H1 R)
    (hg1 : ∀ x y H1, x ∈ xs → y ∈ ys x → ExA H H1 → ∀ R : L2.St → Hp → Prop, R (st1 x y) H1 → g1 (e1 y) (wipe (st x) vs1) H1 R) (hw1 : ∀ x y, wipe (st1 x y) vs1 = wipe (st x) vs1)
    (ht1 : ∀ x y H1, x ∈ xs → y ∈ ys x → ExA H H1 → ∀ R : Bool → Hp → Prop, R (f x y) H1 → tt1 (st1 x y) H1 R)
    (he : ∀ x y H1, x ∈ xs → y ∈ ys x → f x y = true → ExA H H1 → ∀ R : VK, (∀ v H2, ExA H1 H2 → rel x y v H2 → R v H2) → te (st1 x y) H1 R)
    (hd : ∀ H' vs, ExA H H' → H' D = some (.lst vs) → Paired (fun p v => rel p.1 p.2 v H') (flat2 xs ys f) vs → Qd H') :
    ∃ W : Nat → Nat → Hp → Prop, (∃ m, W 0 m (upd H D (.lst []))) ∧ ∀ i m H, W i m H →
      (J.stop i H ∧ Qd H) ∨ (J.go i H ∧ ∃ Nx : Hp → Prop, (∀ H', Nx H' → ∃ m', m' < m ∧ W (i + 1) m' H') ∧ ∀ x H', J.yld i H x H' → g x (wipe σ vs) H' fun σ2 H2 => wipe σ2 vs = wipe σ vs ∧ tt σ2 H2 fun b H3 =>
        if b = true then wi1 σ2 H3 fun J1 H4 => ∃ W1 : Nat → Nat → Hp → Prop, (∃ m, W1 0 m H4) ∧ ∀ j k H, W1 j k H →
          (J1.stop j H ∧ Nx H) ∨ (J1.go j H ∧ ∃ Nx1 : Hp → Prop, (∀ H', Nx1 H' → ∃ k', k' < k ∧ W1 (j + 1) k' H') ∧ ∀ x H', J1.yld j H x H' → g1 x (wipe σ2 vs1) H' fun σ3 H5 => wipe σ3 vs1 = wipe σ2 vs1 ∧ tt1 σ3 H5 fun b H6 =>
            if b = true then te σ3 H6 fun y H7 => ∃ acc, H7 D = some (.lst acc) ∧ acc.length < sizeLine ∧ Nx1 (upd H7 D (.lst (acc ++ [y]))) else Nx1 H6)
        else Nx H3) := by
  subst hzs hn
  let Pv : Nat → Hp → Prop := fun i H' => ExA H H' ∧ ∃ acc, H' D = some (.lst acc) ∧ acc.length ≤ 1000 * i ∧ Paired (fun p v => rel p.1 p.2 v H') (flat2 (xs.take i) ys f) acc
  refine ⟨fun i m H' => m + i = xs.length ∧ Pv i H', ⟨xs.length, rfl, ExM.new hD, [], upd_same, Nat.zero_le _, .nil⟩, ?_⟩
  rintro i m H1 ⟨hm, ex1, acc, k1, k2, hacc⟩
  by_cases hi : i < xs.length
  · refine .inr ⟨wk.goes i H1 hi (hG _ ex1), Pv (i + 1), fun H2 p => ⟨m - 1, by omega, by omega, p⟩, fun xv H2 yy => ?_⟩
    obtain ⟨rfl, hx⟩ := wk.yields i H1 xv H2 hi (hG _ ex1) yy
    obtain ⟨x, hxi⟩ : ∃ x, xs[i]? = some x := ⟨_, List.getElem?_eq_getElem hi⟩
    rw [List.getElem?_map, hxi] at hx
    obtain rfl : e x = xv := Option.some.inj hx
    have mx := List.mem_of_getElem? hxi
    have tki := tsnoc hxi
    refine hg x _ mx ex1 _ ⟨hw x, ht x _ _ (iteT (hi1 x _ mx ex1 _ fun J1 G1 w1 hG1 => ?_))⟩
    let Pi : Nat → Hp → Prop := fun j H' => ExA H H' ∧ ∃ acc, H' D = some (.lst acc) ∧ acc.length ≤ 1000 * i + j ∧ Paired (fun p v => rel p.1 p.2 v H') (flat2 (xs.take i) ys f ++ (((ys x).take j).filter (f x)).map fun y => (x, y)) acc
    refine ⟨fun j k H' => k + j = (ys x).length ∧ Pi j H', ⟨(ys x).length, rfl, ex1, acc, k1, k2, by rw [List.take_zero, List.filter_nil, List.map_nil, List.append_nil]; exact hacc⟩, ?_⟩
    rintro j k H3 ⟨hk, ex3, ac, c1, c2, hac⟩
    by_cases hj : j < (ys x).length
    · refine .inr ⟨w1.goes j H3 hj (hG1 _ ex3), Pi (j + 1), fun H4 p => ⟨k - 1, by omega, by omega, p⟩, fun yv H4 yy => ?_⟩
      obtain ⟨rfl, hyv⟩ := w1.yields j H3 yv H4 hj (hG1 _ ex3) yy
      obtain ⟨y, hyj⟩ : ∃ y, (ys x)[j]? = some y := ⟨_, List.getElem?_eq_getElem hj⟩
      rw [List.getElem?_map, hyj] at hyv
      obtain rfl : e1 y = yv := Option.some.inj hyv
      have my := List.mem_of_getElem? hyj
      have tkj := tsnoc hyj
      refine hg1 x y _ mx my ex3 _ ⟨hw1 x y, ht1 x y _ mx my ex3 _ ?_⟩
      cases c : f x y with
      | false =>
        refine iteF ⟨ex3, ac, c1, by omega, ?_⟩
        rw [tkj, List.filter_append, List.filter_cons, c]
        simp only [List.filter_nil, List.append_nil, Bool.false_eq_true, if_false]
        exact hac
      | true =>
        refine iteT (he x y _ mx my c ex3 _ fun v H5 e5 hr => ?_)
        have c15 : H5 D = some (.lst ac) := ExA.at e5 c1
        have zy := hy x mx
        refine ⟨ac, c15, szl (by omega), (ex3.trans e5).put hD, ac ++ [v], upd_same, by rw [List.length_append, List.length_singleton]; omega, ?_⟩
        rw [tkj, List.filter_append, List.filter_cons, c]
        simp only [List.filter_nil, if_true]
        rw [List.map_append, ← List.append_assoc]
        have tt := Tk.lst (K := K) (o := .lst (ac ++ [v])) c15
        have h2 : Paired (fun (p : α × β) (b : V) => rel p.1 p.2 b (upd H5 D (.lst (ac ++ [v])))) (flat2 (xs.take i) ys f ++ (((ys x).take j).filter (f x)).map fun y => (x, y)) ac := pmp hac fun a b z => mono _ _ _ _ _ (Tk.trans (Tk.all e5) tt) z
        exact psnoc (F := fun (p : α × β) (b : V) => rel p.1 p.2 b (upd H5 D (.lst (ac ++ [v])))) (x := (x, y)) (mono _ _ _ _ _ tt hr) h2
    · have ej : j = (ys x).length := by omega
      subst ej
      have zy := hy x mx
      refine .inl ⟨w1.stops H3 (hG1 _ ex3), ex3, ac, c1, by omega, ?_⟩
      rw [tki, flat2_snoc]
      rw [List.take_length] at hac
      exact hac
  · have en : i = xs.length := by omega
    subst en
    rw [List.take_length] at hacc
    exact .inl ⟨wk.stops H1 (hG _ ex1), hd H1 acc ex1 k1 hacc⟩
end Wc
/-! A dict comprehension of two clauses: {k: v for a in x if .. for b in y if ..}. -/
namespace Wc
open PySem PySem.Spec PyProof.Rows L2
abbrev dd (kx vx ta ia : Expr) (ca : List Expr) (tb ib : Expr) (cb : List Expr) (sc : Scope) (ps : Pos) : Expr :=
  .DictComp kx vx [⟨ta, ia, ca, 0⟩, ⟨tb, ib, cb, 0⟩] sc ps
abbrev tsts (cs : List Expr) (env : Env) : Sem Bool :=
  forIn cs true fun c r =>
    if r = true then do
      let ok ← isTrue c env (eval c env)
      pure (ForInStep.yield ok)
    else pure (ForInStep.yield r)
section
variable {kx vx ta ia tb ib : Expr} {ca cb : List Expr} {sc : Scope} {ps : Pos} {it : Value} {Da : Addr} {env : Env}
theorem dd_out {acc : Value} : compTurn (dd kx vx ta ia ca tb ib cb sc ps) 0 it acc env = (do
        standAt ia.pos
        match ← pyNext it with
        | none =>
          pure (.done .next)
        | some u =>
          letOwnedTupleGo ta it u
          assign ta env u
          let mut ok := true
          for c in ca do
            if ok then ok ← isTrue c env (eval c env)
          if ok then
            let y ← eval ib env
            standAt ib.pos
            let y ← foldedSetIterable ib env y
            let _ ← runOwn (.compStart (dd kx vx ta ia ca tb ib cb sc ps) 1 (← holding [y] (pyIter y)) acc env) env
          again (.compLoop (dd kx vx ta ia ca tb ib cb sc ps) 0 it acc env)) := by rfl
theorem dd_in : compTurn (dd kx vx ta ia ca tb ib cb sc ps) 1 it (.ref Da) env = (do
        standAt ib.pos
        match ← pyNext it with
        | none =>
          pure (.done .next)
        | some u =>
          letOwnedTupleGo tb it u
          assign tb env u
          let mut ok := true
          for c in cb do
            if ok then ok ← isTrue c env (eval c env)
          if ok then
            (do
              let k ← eval kx env
              let u ← holding [k] (eval vx env)
              standAt { kx.pos with endLine := vx.pos.endLine, endCol := vx.pos.endCol }
              holding [k, u] (dictSet Da k u))
          again (.compLoop (dd kx vx ta ia ca tb ib cb sc ps) 1 it (.ref Da) env)) := by rfl
end
section
variable {P : Program} {w : World} {A : Around} {R : Result → Shared → Prop} {s : Shared}
variable {kx vx ta ia tb ib : Expr} {ca cb : List Expr} {sc : Scope} {ps : Pos} {it acc : Value} {Da : Addr} {env : Env}
/-- what is wanted of an error in a turn -/
abbrev bad (P : Program) (w : World) (A : Around) (env : Env) (R : Result → Shared → Prop) := notedBy (model P w) A env fun e s' => R (.error e) s'
theorem dd_loop0 (fold : ∀ x, foldedSetIterable ib env x = pure x) (I : Nat → Shared → Prop)
    (turn : ∀ n s, I n s → wpAny (model P w) A (pyNext it) (fun r s1 =>
      match r with
      | none => R (.ok .next) s1
      | some v => wpAny (model P w) A (letOwnedTupleGo ta it v) (fun _ s2 =>
          wpAny (model P w) A (assign ta env v) (fun _ s3 =>
            wpAny (model P w) A (tsts ca env) (fun ok s4 =>
              if ok = true then
                wpAny (model P w) A (eval ib env) (fun x s5 =>
                  wpAny (model P w) A (pyIter x) (fun jt s6 =>
                    codeAny (model P w) A (.compStart (dd kx vx ta ia ca tb ib cb sc ps) 1 jt acc env) (fun r s7 =>
                      match r with
                      | .ok _ => ∃ m, m < n ∧ I m s7
                      | .error _ => False) s6) (bad P w A env R) s5) (bad P w A env R) s4
              else ∃ m, m < n ∧ I m s4) (bad P w A env R) s3) (bad P w A env R) s2) (bad P w A env R) s1) (bad P w A env R) s)
    (n : Nat) (h : I n s) : codeAny (model P w) A (.compLoop (dd kx vx ta ia ca tb ib cb sc ps) 0 it acc env) R s := by
  refine codeAny_loop rfl I (fun n s hI => ?_) n h
  show wpAny _ A ((compTurn (dd kx vx ta ia ca tb ib cb sc ps) 0 it acc env).onRaise fun x => do noteFrame x env; theTreesLotGoes x) _ _ s
  refine wpAny_noted ?_
  rw [dd_out]
  refine wpAny_bind <| wpAny_standAt <| wpAny_bind <| wpAny_mono (turn n s hI) (fun r s1 h1 => ?_) fun _ _ z => z
  match r, h1 with
  | none, h1 => exact wpAny_pure h1
  | some v, h1 =>
    refine wpAny_bind <| wpAny_mono h1 (fun _ s2 h2 => ?_) fun _ _ z => z
    refine wpAny_bind <| wpAny_mono h2 (fun _ s3 h3 => ?_) fun _ _ z => z
    refine wpAny_bind <| wpAny_mono h3 (fun ok s4 h4 => ?_) fun _ _ z => z
    match ok, h4 with
    | false, h4 => exact wpAny_pure ⟨rfl, h4⟩
    | true, h4 =>
      refine wpAny_bind <| wpAny_mono h4 (fun x s5 h5 => ?_) fun _ _ z => z
      refine wpAny_bind <| wpAny_standAt <| wpAny_bind <| wpAny_of_eq (fold x) <| wpAny_bind <| wpAny_holding <| wpAny_mono h5 (fun jt s6 h6 => ?_) fun _ _ z => z
      refine wpAny_bind <| wpAny_runOwn ?_
      rw [Around.mark_none]
      refine codeAny_mono h6 fun r s7 hr => ?_
      match r, hr with
      | .ok f, hr => first | exact wpAny_pure ⟨rfl, hr⟩ | exact wpAny_bind (wpAny_pure (wpAny_pure ⟨rfl, hr⟩))
      | .error e, hr => exact hr.elim
theorem dd_loop1 (I : Nat → Shared → Prop)
    (turn : ∀ n s, I n s → wpAny (model P w) A (pyNext it) (fun r s1 =>
      match r with
      | none => R (.ok .next) s1
      | some v => wpAny (model P w) A (letOwnedTupleGo tb it v) (fun _ s2 =>
          wpAny (model P w) A (assign tb env v) (fun _ s3 =>
            wpAny (model P w) A (tsts cb env) (fun ok s4 =>
              if ok = true then
                wpAny (model P w) A (eval kx env) (fun k s5 =>
                  wpAny (model P w) A (eval vx env) (fun u s6 =>
                    wpAny (model P w) A (dictSet Da k u) (fun _ s7 => ∃ m, m < n ∧ I m s7) (bad P w A env R) s6) (bad P w A env R) s5) (bad P w A env R) s4
              else ∃ m, m < n ∧ I m s4) (bad P w A env R) s3) (bad P w A env R) s2) (bad P w A env R) s1) (bad P w A env R) s)
    (n : Nat) (h : I n s) : codeAny (model P w) A (.compLoop (dd kx vx ta ia ca tb ib cb sc ps) 1 it (.ref Da) env) R s := by
  refine codeAny_loop rfl I (fun n s hI => ?_) n h
  show wpAny _ A ((compTurn (dd kx vx ta ia ca tb ib cb sc ps) 1 it (.ref Da) env).onRaise fun x => do noteFrame x env; theTreesLotGoes x) _ _ s
  refine wpAny_noted ?_
  rw [dd_in]
  refine wpAny_bind <| wpAny_standAt <| wpAny_bind <| wpAny_mono (turn n s hI) (fun r s1 h1 => ?_) fun _ _ z => z
  match r, h1 with
  | none, h1 => exact wpAny_pure h1
  | some v, h1 =>
    refine wpAny_bind <| wpAny_mono h1 (fun _ s2 h2 => ?_) fun _ _ z => z
    refine wpAny_bind <| wpAny_mono h2 (fun _ s3 h3 => ?_) fun _ _ z => z
    refine wpAny_bind <| wpAny_mono h3 (fun ok s4 h4 => ?_) fun _ _ z => z
    match ok, h4 with
    | false, h4 => exact wpAny_pure ⟨rfl, h4⟩
    | true, h4 =>
      refine wpAny_bind <| wpAny_bind <| wpAny_mono h4 (fun k s5 h5 => ?_) fun _ _ z => z
      refine wpAny_bind <| wpAny_holding <| wpAny_mono h5 (fun u s6 h6 => ?_) fun _ _ z => z
      exact wpAny_bind <| wpAny_standAt <| wpAny_holding <| wpAny_mono h6 (fun _ s7 h7 => wpAny_pure ⟨rfl, h7⟩) fun _ _ z => z
/-- the second clause begins -/
theorem dd_start1 (h0 : codeAny (model P w) A (.compLoop (dd kx vx ta ia ca tb ib cb sc ps) 1 it acc env) R s)
    (h : wpAny (model P w) A (pyIter it) (fun jt s' => codeAny (model P w) A (.compLoop (dd kx vx ta ia ca tb ib cb sc ps) 1 jt acc env) R s')
      (notedBy (model P w) A env fun x s' => R (.error x) s') s) :
    codeAny (model P w) A (.compStart (dd kx vx ta ia ca tb ib cb sc ps) 1 it acc env) R s := by
  refine codeAny_of_tree ?_
  show wpAny _ _ ((compStart (dd kx vx ta ia ca tb ib cb sc ps) 1 it acc env).onRaise fun x => do noteFrame x env; standAt theWindowsPlace) _ _ s
  refine wpAny_notedAt ?_
  unfold compStart
  show wpAny _ _ (ask >>= _) _ _ s
  refine wpAny_bind <| wpAny_askSetting <| wpAny_ite ?_
  split
  · first | exact wpAny_bind (wpAny_pure (wpAny_pure ⟨rfl, h0⟩)) | exact wpAny_pure ⟨rfl, h0⟩
  · first
      | exact wpAny_bind <| wpAny_rule <| wpAny_bind <| wpAny_standAt <| wpAny_bind <| wpAny_mono h (fun jt s' h' => wpAny_pure ⟨rfl, h'⟩) fun _ _ x => x
      | (refine wpAny_bind <| wpAny_rule ?_
         show wpAny _ _ (standAt ib.pos >>= _) _ _ s
         exact wpAny_bind <| wpAny_standAt <| wpAny_bind <| wpAny_mono h (fun jt s' h' => wpAny_pure ⟨rfl, h'⟩) fun _ _ x => x)
end
/-- the reading: behind the first clause's store and tests the second source's own loop. vs: the block's names; vb: those of the second target -/
def tDd (wa : TI) (ga : TG) (ua : TT) (wb : TI) (gb : TG) (ub : TT) (tk tv : TE) (vs vb : List Nat) : TE := fun σ H Q => wa σ H fun J H1 => ∀ D, H1 D = none →
  ∃ W : Nat → Nat → Hp → Prop, (∃ m, W 0 m (upd H1 D (.dK []))) ∧ ∀ i m H, W i m H →
    (J.stop i H ∧ Q (.ref D) H) ∨
    (J.go i H ∧ ∃ Nx : Hp → Prop, (∀ H', Nx H' → ∃ m', m' < m ∧ W (i + 1) m' H') ∧
      ∀ x H', J.yld i H x H' → ga x (wipe σ vs) H' fun σ2 H2 => wipe σ2 vs = wipe σ vs ∧ ua σ2 H2 fun c H3 =>
        if c = true then
          wb σ2 H3 fun J1 H4 => ∃ W1 : Nat → Nat → Hp → Prop, (∃ m, W1 0 m H4) ∧ ∀ j k H, W1 j k H →
            (J1.stop j H ∧ Nx H) ∨
            (J1.go j H ∧ ∃ Ny : Hp → Prop, (∀ H', Ny H' → ∃ k', k' < k ∧ W1 (j + 1) k' H') ∧
              ∀ x H', J1.yld j H x H' → gb x (wipe σ2 vb) H' fun σ3 H5 => wipe σ3 vb = wipe σ2 vb ∧ ub σ3 H5 fun c H6 =>
                if c = true then tk σ3 H6 fun y H7 => tv σ3 H7 fun z H8 => ∃ kvs k, y = kV k ∧ H8 D = some (.dK kvs) ∧ kvs.length < sizeLine ∧ Ny (upd H8 D (.dK (putK kvs k z)))
                else Ny H6)
        else Nx H3)
section
variable {X : Cx}
/-- everywhere in a block -/
abbrev Blk (X : Cx) (sc : Scope) (F : Cx → Prop) : Prop := ∀ (s : Shared) (H : Hp) (C : Addr) (cl : List (Str × Addr)) (fp : List Addr), F (X.blk s H sc (compEnvC sc cl C X.env) fp)
theorem pe_dc2 {kx vx ta ia tb ib : Expr} {ca cb : List Expr} {sc : Scope} {own : List (Str × Nat)} {vs1 : List Nat} {ps : Pos} {wa wb : TI} {ga gb : TG} {ua ub : TT} {tk tv : TE}
    (hc : X.calm = true) (hN : X.N.Nodup) (hia : PI X ta ia wa) (ok : BlkOk X.N X.env.scope sc own) (hv : ∀ i ∈ vs1, i ∈ own.map (·.2))
    (hga : Blk X sc fun B => PG B ta ga) (hua : Blk X sc fun B => PTs B ca ua) (hib : Blk X sc fun B => PI B tb ib wb) (hgb : Blk X sc fun B => PG B tb gb) (hub : Blk X sc fun B => PTs B cb ub)
    (hk : Blk X sc fun B => PE B kx tk) (he : Blk X sc fun B => PE B vx tv) (fa : ∀ x, foldedSetIterable ia X.env x = pure x := by intro _; rfl) (fb : ∀ env x, foldedSetIterable ib env x = pure x := by intro _ _; rfl) :
    PE X (dd kx vx ta ia ca tb ib cb sc ps) (tDd wa ga ua wb gb ub tk tv (own.map (·.2)) vs1) := by
  refine ⟨fun pins s σ H Q I h => ?_⟩
  rw [arm_eval_DictComp]
  have hfree : ∀ y ∈ sc.names, y.2 = .free → ∃ c, X.env.cells.lookup y.1 = some c := fun y hy e => (ok.free y hy e).elim (fun k => I.ok.has _ (.inl k)) fun k => I.ok.has _ (.inr k)
  refine wpAny_comprehension_free rfl fa (closure_ok hfree) ok.kind (fun y hy e => by rw [ok.uniq y hy, e]) ?_
  refine thn (hia.run pins s σ H _ I h) fun xv s1 hx => thn hx fun itv s2 hh => ?_
  obtain ⟨it, fp, tn, J, H2, rfl, I2, T, st2, f2, q⟩ := hh
  refine wpAny_newObj_type (newEnv_comp ?_)
  generalize hD : s2.heap.objs.size = D
  have hDn : H2 D = none := I2.hok.fresh (Nat.le_of_eq hD)
  obtain ⟨W, ⟨m0, w0⟩, turn⟩ := q D hDn
  -- the new dict is laid
  generalize hs3 : ({ s2 with heap := s2.heap.push { cls := .type "dict", data := .dict #[] } } : Shared) = s3
  have h3 : s3.heap = s2.heap.push { cls := .type "dict", data := .dict #[] } := by rw [← hs3]
  have I3 : Inv X pins σ (upd H2 D (.dK [])) s3 := by
    rw [← hs3]
    exact I2.laid (t' := s2.toks) (fun b o e => Heap.get?_push_of_some _ e) (Nat.le_of_eq hD) (by rw [← hD]; exact dk_empty s2.heap I2.big)
  have low : ∀ b ∈ fp, b < s2.heap.objs.size := fun b hb => let ⟨_, e, _⟩ := T.obj _ _ st2 b hb; Heap.lt_size e
  have f3 : ∀ b ∈ fp, FpOk X pins (upd H2 D (.dK [])) b ∧ b < s3.heap.objs.size := fun b hb =>
    ⟨⟨by rw [upd_ne (by rw [← hD]; exact Nat.ne_of_lt (low b hb))]; exact (f2 b hb).1, (f2 b hb).2⟩, by rw [h3, Heap.size_push]; exact Nat.lt_succ_of_lt (low b hb)⟩
  have st3 : tn 0 s3.heap := T.keep _ _ _ st2 fun b _ o e => by rw [h3]; exact Heap.get?_push_of_some _ e
  have I4 := block_start I3 ok hN f3
  have qg := hga s3 (upd H2 D (.dK [])) s3.heap.objs.size (cellsFrom (s3.heap.objs.size + 1) sc.names (cloFrom X.env.cells sc.names [])) fp
  have qt := hua s3 (upd H2 D (.dK [])) s3.heap.objs.size (cellsFrom (s3.heap.objs.size + 1) sc.names (cloFrom X.env.cells sc.names [])) fp
  have qi1 := hib s3 (upd H2 D (.dK [])) s3.heap.objs.size (cellsFrom (s3.heap.objs.size + 1) sc.names (cloFrom X.env.cells sc.names [])) fp
  have qg1 := hgb s3 (upd H2 D (.dK [])) s3.heap.objs.size (cellsFrom (s3.heap.objs.size + 1) sc.names (cloFrom X.env.cells sc.names [])) fp
  have qt1 := hub s3 (upd H2 D (.dK [])) s3.heap.objs.size (cellsFrom (s3.heap.objs.size + 1) sc.names (cloFrom X.env.cells sc.names [])) fp
  have qk := hk s3 (upd H2 D (.dK [])) s3.heap.objs.size (cellsFrom (s3.heap.objs.size + 1) sc.names (cloFrom X.env.cells sc.names [])) fp
  have qe := he s3 (upd H2 D (.dK [])) s3.heap.objs.size (cellsFrom (s3.heap.objs.size + 1) sc.names (cloFrom X.env.cells sc.names [])) fp
  show codeAny _ _ (.compStart (dd kx vx ta ia ca tb ib cb sc ps) 0 (.ref it) (.ref D) (compEnvC sc (cellsFrom (s3.heap.objs.size + 1) sc.names (cloFrom X.env.cells sc.names [])) s3.heap.objs.size X.env))
    (compPost (model X.prog X.w) X.A X.xe none (EP X pins σ Q) (.ref D) s3.heap.objs.size) { s3 with heap := pushCells (s3.heap.push { cls := .type "dict", data := .dict #[] }) sc.names }
  have nfp : ∀ b ∈ fp, (upd H2 D (.dK [])) b = none := fun b hb => (f3 b hb).1.1
  generalize hce : compEnvC sc (cellsFrom (s3.heap.objs.size + 1) sc.names (cloFrom X.env.cells sc.names [])) s3.heap.objs.size X.env = ce at I4 qg qt qi1 qg1 qt1 qk qe ⊢
  have cL : ce.locals = s3.heap.objs.size := by subst hce; rfl
  generalize hH3 : upd H2 D (.dK []) = H3 at I3 I4 qg qt qi1 qg1 qt1 qk qe w0 nfp f3
  generalize hs4 : ({ s3 with heap := pushCells (s3.heap.push { cls := .type "dict", data := .dict #[] }) sc.names } : Shared) = s4 at I4 ⊢
  have st4 : tn 0 s4.heap := T.keep _ _ _ st3 fun b _ o e => by rw [← hs4]; exact pushCells_keeps _ _ _ _ (Heap.get?_push_of_some _ e)
  have stat : ∀ {σ' : L2.St} {H' : Hp} {s' : Shared}, Inv (X.blk s3 H3 sc ce fp) [] σ' H' s' → (∀ b ∈ fp, H' b = none) → ∀ b ∈ fp, FpOk (X.blk s3 H3 sc ce fp) [] H' b := fun {σ' H' s'} I' hn b hb =>
    ⟨hn b hb, (I'.ok.exf b hb).1, I'.ok.exfs b hb, .inl hb, fun x c e => (I'.ok.exf b hb).2 x c e, fun p hp => by cases (show p ∈ ([] : List (Addr × Obj)) ++ [] from hp)⟩
  have lp : codeAny (model X.prog X.w) X.A (.compLoop (dd kx vx ta ia ca tb ib cb sc ps) 0 (.ref it) (.ref D) ce) (compPost (model X.prog X.w) X.A X.xe none (EP X pins σ Q) (.ref D) s3.heap.objs.size) s4 := by
    refine dd_loop0 (fb ce) (fun n s' => ∃ i H', Inv (X.blk s3 H3 sc ce fp) [] (wipe σ (own.map (·.2))) H' s' ∧ tn i s'.heap ∧ (∀ b ∈ fp, H' b = none) ∧ W i n H') (fun n s5 hn5 => ?_) m0 ⟨0, H3, I4, st4, nfp, w0⟩
    obtain ⟨i, H5, I5, st5, n5, w5⟩ := hn5
    rcases turn i n H5 w5 with ⟨stop, qq⟩ | ⟨go, Nx, hNx, step⟩
    · refine thnF (T.done (X.blk s3 H3 sc ce fp) rfl rfl rfl hc i [] s5 _ H5 (fun _ _ => False) I5 (stat I5 n5) st5 stop) fun r s6 hr6 => ?_
      obtain ⟨rfl, I6⟩ := hr6
      have I7 : Inv X pins σ H5 s6 := I3.call' (ch := fp) I6.os I6.base I6.hok I6.bare fun b hb => let z := (f3 b hb).1; ⟨z.2.2.2.1, z.2.1, z.2.2.2.2.1, z.2.2.2.2.2⟩
      have nC : H5 s3.heap.objs.size = none := by have z : H5 ce.locals = none := I6.free; rwa [cL] at z
      obtain ⟨m, hm, _⟩ := I6.loc
      have hm : s6.heap.Ns ce.locals m := hm
      rw [cL] at hm
      refine ⟨m, hm, fun h'' sb => ?_⟩
      obtain ⟨g0, g1, g2, g3, g4, g5⟩ := I3.fpOk (Nat.le_refl _) nC
      exact ⟨.ref D, H5, I7.turned (t' := s6.toks) (fun b o hb e => (sb.2 b hb).trans e) g0 g1 g3 g4 g5, rfl, qq⟩
    · refine thnF (T.item (X.blk s3 H3 sc ce fp) rfl rfl rfl hc i [] s5 _ H5 (fun _ _ => False) I5 (stat I5 n5) st5 go) fun r s6 hr6 => ?_
      obtain ⟨u, rfl, h6⟩ := hr6
      refine thnF h6 fun _ s7 hh7 => ?_
      obtain ⟨x, H7, I7, r7, y7, st7, n7⟩ := hh7
      have I7' := I7.pinned (stat I7 n7) (T.obj _ _ st7)
      refine thnF (qg.run _ s7 _ H7 x u _ I7' r7 (step x H7 y7)) fun _ s8 hh8 => ?_
      obtain ⟨σ8, H8, I8, hw8, q8⟩ := hh8
      refine thnF (qt.run _ s8 σ8 H8 _ I8 q8) fun c s9 hh9 => ?_
      obtain ⟨H9, I9, q9⟩ := hh9
      -- where a turn of the outer loop ends
      have fin : ∀ {σ9 : L2.St} {s' : Shared} {H' : Hp}, Inv (X.blk s3 H3 sc ce fp) ([] ++ pinsAt fp s7.heap) σ9 H' s' → (wipe σ (own.map (·.2))).length = σ9.length →
          (∀ (j : Nat) v, (wipe σ (own.map (·.2)))[j]? = some (some v) → σ9[j]? = some (some v)) → Nx H' →
          ∃ m, m < n ∧ ∃ i H', Inv (X.blk s3 H3 sc ce fp) [] (wipe σ (own.map (·.2))) H' s' ∧ tn i s'.heap ∧ (∀ b ∈ fp, H' b = none) ∧ W i m H' := fun {σ9 s' H'} I' hl hk nx => by
        obtain ⟨m', hm, w'⟩ := hNx H' nx
        have pin' : ∀ b ∈ fp, ∀ o, s7.heap.get? b = some o → s'.heap.get? b = some o ∧ H' b = none := fun b hb o e =>
          let z := I'.pin (b, o) (List.mem_append_right _ (List.mem_append_right _ (mem_pinsAt hb e))); ⟨z.1, z.2.1⟩
        exact ⟨m', hm, i + 1, H', (I'.unpinned (pins := [])).weak hl hk, T.keep _ _ _ st7 fun b hb o e => (pin' b hb o e).1, fun b hb => let ⟨o, e, _⟩ := T.obj _ _ st7 b hb; (pin' b hb o e).2, w'⟩
      have hl8 : (wipe σ (own.map (·.2))).length = σ8.length := by rw [← hw8, wipe_length]
      have hk8 : ∀ (j : Nat) v, (wipe σ (own.map (·.2)))[j]? = some (some v) → σ8[j]? = some (some v) := fun j v e => by rw [← hw8] at e; exact (wipe_some e).1
      have hk9 : ∀ (j : Nat) v, (wipe σ (own.map (·.2)))[j]? = some (some v) → (wipe σ8 vs1)[j]? = some (some v) := fun j v e => by
        rw [← hw8] at e
        rw [wipe_out fun z => (wipe_some e).2 (hv j z)]
        exact (wipe_some e).1
      match c, q9 with
      | false, q9 => exact fin I9 hl8 hk8 (by simpa using q9)
      | true, q9 =>
        simp only [if_true] at q9 ⊢
        refine thnF (qi1.run _ s9 σ8 H9 _ I9 q9) fun xv s10 hx => thnF hx fun itv s11 hh => ?_
        obtain ⟨jt, fq, tm, J1, H11, rfl, I11, T1, st11, f11, W1, ⟨m1, w1⟩, turn1⟩ := hh
        have stat1 : ∀ {H' : Hp}, (∀ b ∈ fq, H' b = none) → ∀ b ∈ fq, FpOk (X.blk s3 H3 sc ce fp) ([] ++ pinsAt fp s7.heap) H' b := fun hn b hb => ⟨hn b hb, (f11 b hb).2⟩
        have lq : codeAny (model X.prog X.w) X.A (.compLoop (dd kx vx ta ia ca tb ib cb sc ps) 1 (.ref jt) (.ref D) ce) (fun r s' =>
            match r with
            | .ok _ => ∃ m, m < n ∧ ∃ i H', Inv (X.blk s3 H3 sc ce fp) [] (wipe σ (own.map (·.2))) H' s' ∧ tn i s'.heap ∧ (∀ b ∈ fp, H' b = none) ∧ W i m H'
            | .error _ => False) s11 := by
          refine dd_loop1 (fun k s' => ∃ j H', Inv (X.blk s3 H3 sc ce fp) ([] ++ pinsAt fp s7.heap) (wipe σ8 vs1) H' s' ∧ tm j s'.heap ∧ (∀ b ∈ fq, H' b = none) ∧ W1 j k H') (fun k s12 hh12 => ?_) m1
            ⟨0, H11, I11.weak (wipe_length _ _) (fun j v e => (wipe_some e).1), st11, fun b hb => (f11 b hb).1, w1⟩
          obtain ⟨j, H12, I12, st12, n12, w12⟩ := hh12
          rcases turn1 j k H12 w12 with ⟨stop1, nx1⟩ | ⟨go1, Ny, hNy, step1⟩
          · refine thnF (T1.done (X.blk s3 H3 sc ce fp) rfl rfl rfl hc j _ s12 (wipe σ8 vs1) H12 (fun _ _ => False) I12 (stat1 n12) st12 stop1) fun r s13 hr => ?_
            obtain ⟨rfl, I13⟩ := hr
            exact fin I13 (hl8.trans (wipe_length σ8 vs1).symm) hk9 nx1
          · refine thnF (T1.item (X.blk s3 H3 sc ce fp) rfl rfl rfl hc j _ s12 (wipe σ8 vs1) H12 (fun _ _ => False) I12 (stat1 n12) st12 go1) fun r s13 hr => ?_
            obtain ⟨u1, rfl, h13⟩ := hr
            refine thnF h13 fun _ s14 hh => ?_
            obtain ⟨x1, H14, I14, r14, y14, st14, n14⟩ := hh
            have I14' := I14.pinned (stat1 n14) (T1.obj _ _ st14)
            refine thnF (qg1.run _ s14 (wipe σ8 vs1) H14 x1 u1 _ I14' r14 (step1 x1 H14 y14)) fun _ s15 hh => ?_
            obtain ⟨σ15, H15, I15, hw15, q15⟩ := hh
            refine thnF (qt1.run _ s15 σ15 H15 _ I15 q15) fun c1 s16 hh => ?_
            obtain ⟨H16, I16, q16⟩ := hh
            have fin1 : ∀ {s' : Shared} {H' : Hp}, Inv (X.blk s3 H3 sc ce fp) (([] ++ pinsAt fp s7.heap) ++ pinsAt fq s14.heap) σ15 H' s' → Ny H' →
                ∃ m, m < k ∧ ∃ j H', Inv (X.blk s3 H3 sc ce fp) ([] ++ pinsAt fp s7.heap) (wipe σ8 vs1) H' s' ∧ tm j s'.heap ∧ (∀ b ∈ fq, H' b = none) ∧ W1 j m H' := fun {s' H'} I' nx => by
              obtain ⟨m', hm, w'⟩ := hNy H' nx
              have pin' : ∀ b ∈ fq, ∀ o, s14.heap.get? b = some o → s'.heap.get? b = some o ∧ H' b = none := fun b hb o e =>
                let z := I'.pin (b, o) (List.mem_append_right _ (List.mem_append_right _ (mem_pinsAt hb e))); ⟨z.1, z.2.1⟩
              exact ⟨m', hm, j + 1, H', I'.unpinned.weak (by rw [← hw15, wipe_length]) (fun j v e => by rw [← hw15] at e; exact (wipe_some e).1), T1.keep _ _ _ st14 fun b hb o e => (pin' b hb o e).1,
                fun b hb => let ⟨o, e, _⟩ := T1.obj _ _ st14 b hb; (pin' b hb o e).2, w'⟩
            match c1, q16 with
            | false, q16 => exact fin1 I16 (by simpa using q16)
            | true, q16 =>
              simp only [if_true] at q16 ⊢
              refine thnF (qk.run _ s16 σ15 H16 _ I16 q16) fun z s17 hh => ?_
              obtain ⟨yk, H17, I17, r17, q17⟩ := hh
              refine thnF (qe.run _ s17 σ15 H17 _ I17 q17) fun z2 s18 hh => ?_
              obtain ⟨yv, H18, I18, r18, kvs, k', rfl, hD18, hz18, ny⟩ := hh
              exact d_dictSet (X := X.blk s3 H3 sc ce fp) I18 hD18 hz18 r17 r18 fun s19 I19 => fin1 I19 ny
        exact dd_start1 lq (T1.self X.A 0 _ _ _ st11 lq)
  exact codeAny_compStart_dict lp (T.self X.A 0 _ _ _ st4 lp)
end
end Wc
/-! What can be obtained: rounds, the mathematics. -/
namespace Wc
/-- n follows from objects of S by another reason than a register -/
def Ob.fol (cs : List Int) (S : Int → Prop) (n : Int) : Ob → Prop
  | .rcd _ fs => some n ∈ fs
  | .weak _ t => t = some n ∧ n ∉ cs
  | .tab _ es => ∃ k, (k, n) ∈ es ∧ S k
def Fol (h : Hd) (cs : List Int) (S : Int → Prop) (n : Int) : Prop := ∃ o ∈ h.obs, S o.num ∧ o.fol cs S n
/-- obtainable within so many rounds -/
def In (h : Hd) (cs : List Int) : Nat → Int → Prop
  | 0 => fun n => some n ∈ h.regs
  | k + 1 => fun n => In h cs k n ∨ Fol h cs (In h cs k) n
def Obt (h : Hd) (cs : List Int) (n : Int) : Prop := ∃ k, In h cs k n
section
variable {h : Hd} {cs ds : List Int} {S S' : Int → Prop} {n : Int}
theorem Ob.fol_mono (hs : ∀ n, S n → S' n) {o : Ob} (x : o.fol cs S n) : o.fol cs S' n := by
  cases o with
  | rcd _ _ => exact x
  | weak _ _ => exact x
  | tab _ _ => obtain ⟨k, h1, h2⟩ := x; exact ⟨k, h1, hs k h2⟩
theorem Fol.mono (hs : ∀ n, S n → S' n) (x : Fol h cs S n) : Fol h cs S' n := by
  obtain ⟨o, h1, h2, h3⟩ := x
  exact ⟨o, h1, hs _ h2, Ob.fol_mono hs h3⟩
theorem In.succ {k : Nat} (x : In h cs k n) : In h cs (k + 1) n := .inl x
theorem In.le {k j : Nat} (hk : k ≤ j) (x : In h cs k n) : In h cs j n := by
  induction hk with
  | refl => exact x
  | step _ ih => exact .inl ih
theorem Ob.fol_in {S : List Int} {T : Int → Prop} {o : Ob} (ok : o.ok S) (x : o.fol cs T n) : n ∈ S := by
  cases o with
  | rcd m fs => exact ok.2 _ x n rfl
  | weak m t => exact ok n x.1
  | tab m es => obtain ⟨k, h1, _⟩ := x; exact (ok.2.2 _ h1).2
theorem In.num (ok : h.Ok) : ∀ {k : Nat} {n : Int}, In h cs k n → n ∈ h.nums
  | 0, n, x => ok.regs _ x n rfl
  | k + 1, n, .inl x => In.num ok x
  | k + 1, n, .inr ⟨o, ho, _, hf⟩ => Ob.fol_in (ok.obs o ho) hf
theorem Obt.num (ok : h.Ok) (x : Obt h cs n) : n ∈ h.nums := let ⟨_, y⟩ := x; In.num ok y
/-- fewer condemned, more is obtained -/
theorem Ob.fol_less (hc : ∀ n, n ∈ ds → n ∈ cs) {o : Ob} (x : o.fol cs S n) : o.fol ds S n := by
  cases o with
  | rcd _ _ => exact x
  | weak _ _ => exact ⟨x.1, fun z => x.2 (hc _ z)⟩
  | tab _ _ => exact x
theorem In.less (hc : ∀ n, n ∈ ds → n ∈ cs) : ∀ {k : Nat} {n : Int}, In h cs k n → In h ds k n
  | 0, _, x => x
  | _ + 1, _, .inl x => .inl (In.less hc x)
  | _ + 1, _, .inr ⟨o, ho, h2, h3⟩ => .inr ⟨o, ho, In.less hc h2, Ob.fol_mono (fun _ z => In.less hc z) (Ob.fol_less hc h3)⟩
theorem Obt.less (hc : ∀ n, n ∈ ds → n ∈ cs) (x : Obt h cs n) : Obt h ds n := let ⟨k, y⟩ := x; ⟨k, In.less hc y⟩
/-- what is closed has all that is obtained -/
theorem Obt.closed (h0 : ∀ n, some n ∈ h.regs → S n) (h1 : ∀ n, Fol h cs S n → S n) (x : Obt h cs n) : S n := by
  obtain ⟨k, x⟩ := x
  induction k generalizing n with
  | zero => exact h0 n x
  | succ k ih =>
    rcases x with x | x
    · exact ih x
    · exact h1 n (x.mono fun m z => ih z)
theorem Obt.reg (x : some n ∈ h.regs) : Obt h cs n := ⟨0, x⟩
theorem two {k j : Nat} {m : Int} (x : In h cs k n) (y : In h cs j m) : ∃ i, In h cs i n ∧ In h cs i m := ⟨max k j, x.le (Nat.le_max_left _ _), y.le (Nat.le_max_right _ _)⟩
theorem Obt.fol (x : Fol h cs (Obt h cs) n) : Obt h cs n := by
  obtain ⟨o, ho, ⟨k, hk⟩, hf⟩ := x
  cases o with
  | rcd m fs => exact ⟨k + 1, .inr ⟨_, ho, hk, hf⟩⟩
  | weak m t => exact ⟨k + 1, .inr ⟨_, ho, hk, hf⟩⟩
  | tab m es =>
    obtain ⟨q, h1, j, hj⟩ := hf
    obtain ⟨i, a, b⟩ := two hk hj
    exact ⟨i + 1, .inr ⟨_, ho, a, q, h1, b⟩⟩
end
/-- what an object leads to, and what follows from it -/
theorem mem_ledTo {o : Ob} {gs cs : List Int} {n : Int} : n ∈ ledTo o gs cs ↔ o.fol cs (· ∈ gs) n := by
  cases o with
  | rcd m fs => simp [ledTo, Ob.fol]
  | weak m t =>
    cases t with
    | none => simp [ledTo, Ob.fol]
    | some i =>
      show n ∈ (if i ∈ cs then [] else [i]) ↔ (some i = some n ∧ n ∉ cs)
      by_cases c : i ∈ cs
      · rw [if_pos c]
        constructor
        · intro z; cases z
        · rintro ⟨e, z⟩; exact absurd (Option.some.inj e ▸ c) z
      · rw [if_neg c]
        constructor
        · intro z
          have e : n = i := by simpa using z
          subst e; exact ⟨rfl, c⟩
        · rintro ⟨e, _⟩
          have e := Option.some.inj e
          subst e; simp
  | tab m es =>
    show n ∈ ((es.filter fun e => decide (e.1 ∈ gs)).map (·.2)) ↔ ∃ k, (k, n) ∈ es ∧ k ∈ gs
    rw [List.mem_map]
    constructor
    · rintro ⟨e, he, rfl⟩
      obtain ⟨h1, h2⟩ := List.mem_filter.mp he
      exact ⟨e.1, h1, of_decide_eq_true h2⟩
    · rintro ⟨k, h1, h2⟩
      exact ⟨(k, n), List.mem_filter.mpr ⟨h1, decide_eq_true h2⟩, rfl⟩
/-! ### rows without repetition -/
theorem nd_sub {l m : List Int} (h : l.Nodup) (s : ∀ n ∈ l, n ∈ m) : l.length ≤ m.length := by
  induction l generalizing m with
  | nil => exact Nat.zero_le _
  | cons x r ih =>
    have hx : x ∈ m := s x List.mem_cons_self
    obtain ⟨nx, nr⟩ := List.nodup_cons.mp h
    have q := ih (m := m.erase x) nr fun n hn => (List.mem_erase_of_ne (fun e => nx (by rw [← e]; exact hn))).mpr (s n (List.mem_cons_of_mem _ hn))
    rw [List.length_erase_of_mem hx] at q
    have : 0 < m.length := List.length_pos_of_mem hx
    rw [List.length_cons]
    omega
/-- two rising rows with the same members are one -/
theorem up_same : ∀ {l m : List Int}, l.Pairwise (· < ·) → m.Pairwise (· < ·) → (∀ n, n ∈ l ↔ n ∈ m) → l = m
  | [], [], _, _, _ => rfl
  | [], y :: m, _, _, h => absurd ((h y).mpr List.mem_cons_self) (by simp)
  | x :: l, [], _, _, h => absurd ((h x).mp List.mem_cons_self) (by simp)
  | x :: l, y :: m, hl, hm, h => by
    obtain ⟨hx, hl'⟩ := List.pairwise_cons.mp hl
    obtain ⟨hy, hm'⟩ := List.pairwise_cons.mp hm
    have e : x = y := by
      rcases List.mem_cons.mp ((h x).mp List.mem_cons_self) with e | e
      · exact e
      · rcases List.mem_cons.mp ((h y).mpr List.mem_cons_self) with e2 | e2
        · exact e2.symm
        · have := hx y e2
          have := hy x e
          omega
    subst e
    have hh : ∀ n, n ∈ l ↔ n ∈ m := fun n => by
      constructor
      · intro z
        rcases List.mem_cons.mp ((h n).mp (List.mem_cons_of_mem _ z)) with e | e
        · subst e; exact absurd (hx n z) (by omega)
        · exact e
      · intro z
        rcases List.mem_cons.mp ((h n).mpr (List.mem_cons_of_mem _ z)) with e | e
        · subst e; exact absurd (hy n z) (by omega)
        · exact e
    rw [up_same hl' hm' hh]
theorem up_of {l : List Int} (h : l.Pairwise (· ≤ ·)) (nd : l.Nodup) : l.Pairwise (· < ·) := by
  induction l with
  | nil => exact .nil
  | cons x r ih =>
    obtain ⟨h1, h2⟩ := List.pairwise_cons.mp h
    obtain ⟨n1, n2⟩ := List.nodup_cons.mp nd
    exact List.pairwise_cons.mpr ⟨fun y hy => by
      have := h1 y hy
      have : x ≠ y := fun e => n1 (by rw [e]; exact hy)
      omega, ih h2 n2⟩
/-! ### the rounds as they are found, one behind the other -/
structure RI (h : Hd) (cs : List Int) (d : Nat) (G : List (Int × Int)) (W : List Int) : Prop where
  ndG : (G.map (·.1)).Nodup
  ndW : W.Nodup
  mem : ∀ n, n ∈ G.map (·.1) ↔ ∃ j, j < d ∧ In h cs j n
  new : ∀ n, n ∈ W ↔ In h cs d n ∧ ¬ ∃ j, j < d ∧ In h cs j n
  val : ∀ n v, (n, v) ∈ G → ∃ k : Nat, v = k ∧ In h cs k n ∧ ∀ j, j < k → ¬ In h cs j n
structure RoundsOf (h : Hd) (cs : List Int) (G : List (Int × Int)) : Prop where
  nd : (G.map (·.1)).Nodup
  all : ∀ n, n ∈ G.map (·.1) ↔ Obt h cs n
  val : ∀ n v, (n, v) ∈ G → ∃ k : Nat, v = k ∧ In h cs k n ∧ ∀ j, j < k → ¬ In h cs j n
def addW (G : List (Int × Int)) (W : List Int) (d : Nat) : List (Int × Int) := G ++ W.map fun n => (n, (d : Int))
section
variable {h : Hd} {cs : List Int} {d : Nat} {G : List (Int × Int)} {W : List Int}
theorem addW_keys : (addW G W d).map (·.1) = G.map (·.1) ++ W := by
  unfold addW
  rw [List.map_append, List.map_map]
  congr 1
  exact List.map_id' W
theorem RI.dis (r : RI h cs d G W) {n : Int} (hn : n ∈ W) : n ∉ G.map (·.1) := fun z => ((r.new n).mp hn).2 ((r.mem n).mp z)
theorem RI.ndA (r : RI h cs d G W) : ((addW G W d).map (·.1)).Nodup := by
  rw [addW_keys]
  exact List.nodup_append.mpr ⟨r.ndG, r.ndW, fun a ha b hb e => r.dis hb (e ▸ ha)⟩
theorem RI.memA (r : RI h cs d G W) (n : Int) : n ∈ (addW G W d).map (·.1) ↔ In h cs d n := by
  rw [addW_keys, List.mem_append, r.mem, r.new]
  constructor
  · rintro (⟨j, hj, x⟩ | x)
    · exact x.le (by omega)
    · exact x.1
  · intro x
    by_cases c : ∃ j, j < d ∧ In h cs j n
    · exact .inl c
    · exact .inr ⟨x, c⟩
theorem RI.size (r : RI h cs d G W) (ok : h.Ok) : (addW G W d).length ≤ h.nums.length := by
  have q := nd_sub r.ndA fun n hn => In.num ok ((r.memA n).mp hn)
  rwa [List.length_map] at q
theorem RI.more (hw : W ≠ []) : G.length < (addW G W d).length := by
  unfold addW
  rw [List.length_append, List.length_map]
  have := List.length_pos_iff.mpr hw
  omega
/-- a round: who is asked, and what is found -/
theorem RI.step (r : RI h cs d G W) {as W' : List Int} (ha : ∀ n ∈ as, n ∈ (addW G W d).map (·.1)) (hb : ∀ n, n ∈ (addW G W d).map (·.1) → (n ∈ W ∨ ∃ m es, Ob.tab m es ∈ h.obs ∧ m = n) → n ∈ as)
    (nd : W'.Nodup) (hw : ∀ n, n ∈ W' ↔ n ∉ (addW G W d).map (·.1) ∧ ∃ o ∈ h.obs, o.num ∈ as ∧ o.fol cs (· ∈ (addW G W d).map (·.1)) n) : RI h cs (d + 1) (addW G W d) W' := by
  refine ⟨r.ndA, nd, fun n => ?_, fun n => ?_, fun n v hv => ?_⟩
  · rw [r.memA]
    exact ⟨fun x => ⟨d, by omega, x⟩, fun ⟨j, hj, x⟩ => x.le (by omega)⟩
  · rw [hw n]
    have e1 : (∃ j, j < d + 1 ∧ In h cs j n) ↔ In h cs d n := ⟨fun ⟨j, hj, x⟩ => x.le (by omega), fun x => ⟨d, by omega, x⟩⟩
    rw [e1, r.memA]
    constructor
    · rintro ⟨hn, o, ho, hoa, hf⟩
      exact ⟨.inr ⟨o, ho, (r.memA _).mp (ha _ hoa), Ob.fol_mono (fun m z => (r.memA m).mp z) hf⟩, hn⟩
    · rintro ⟨x, hn⟩
      refine ⟨hn, ?_⟩
      rcases x with x | ⟨o, ho, h1, hf⟩
      · exact absurd x hn
      · refine ⟨o, ho, ?_, Ob.fol_mono (fun m z => (r.memA m).mpr z) hf⟩
        refine hb _ ((r.memA _).mpr h1) ?_
        by_cases c : o.num ∈ W
        · exact .inl c
        · refine .inr ?_
          -- found before the last round: then n would have been found, but for a table
          have h2 : ∃ j, j < d ∧ In h cs j o.num := by
            by_cases c2 : ∃ j, j < d ∧ In h cs j o.num
            · exact c2
            · exact absurd ((r.new _).mpr ⟨h1, c2⟩) c
          obtain ⟨j, hj, x⟩ := h2
          cases o with
          | rcd m fs => exact absurd (In.le (by omega : j + 1 ≤ d) (.inr ⟨_, ho, x, hf⟩)) hn
          | weak m t => exact absurd (In.le (by omega : j + 1 ≤ d) (.inr ⟨_, ho, x, hf⟩)) hn
          | tab m es => exact ⟨m, es, ho, rfl⟩
  · rcases List.mem_append.mp hv with z | z
    · exact r.val n v z
    · obtain ⟨m, hm, e⟩ := List.mem_map.mp z
      cases e
      have q := (r.new _).mp hm
      exact ⟨d, rfl, q.1, fun j hj x => q.2 ⟨j, hj, x⟩⟩
theorem RI.first {W : List Int} (nd : W.Nodup) (hw : ∀ n, n ∈ W ↔ some n ∈ h.regs) : RI h cs 0 [] W :=
  ⟨List.nodup_nil, nd, fun n => ⟨fun z => by simp at z, fun ⟨j, hj, _⟩ => absurd hj (by omega)⟩, fun n => (hw n).trans ⟨fun z => ⟨z, fun ⟨j, hj, _⟩ => absurd hj (by omega)⟩, fun z => z.1⟩, fun n v z => by simp at z⟩
theorem RI.done (r : RI h cs d G []) : RoundsOf h cs G := by
  refine ⟨r.ndG, fun n => ⟨fun z => let ⟨j, _, x⟩ := (r.mem n).mp z; ⟨j, x⟩, fun x => ?_⟩, r.val⟩
  have stop : ∀ n, In h cs d n → ∃ j, j < d ∧ In h cs j n := fun n y => by
    by_cases c : ∃ j, j < d ∧ In h cs j n
    · exact c
    · exact absurd ((r.new n).mpr ⟨y, c⟩) (by simp)
  refine Obt.closed (S := fun n => n ∈ G.map (·.1)) (fun n z => (r.mem n).mpr (stop n (In.le (Nat.zero_le d) z))) (fun n z => ?_) x
  have hd : ∀ m, m ∈ G.map (·.1) → In h cs (d - 1) m := fun m hm => let ⟨j, hj, y⟩ := (r.mem m).mp hm; y.le (by omega)
  by_cases d0 : d = 0
  · obtain ⟨o, _, h1, _⟩ := z
    obtain ⟨j, hj, _⟩ := (r.mem _).mp h1
    omega
  · have y : In h cs (d - 1 + 1) n := .inr (z.mono hd)
    exact (r.mem n).mpr (stop n (y.le (by omega)))
end
end Wc
/-! A heap without some of its objects; what is reached without one: the mathematics. -/
namespace Wc
open PySem L2
def hit (gs : List Int) : Rf → Bool
  | none => false
  | some m => decide (m ∈ gs)
def clr (gs : List Int) (r : Rf) : Rf := if hit gs r = true then none else r
def dropOb (gs : List Int) : Ob → Ob
  | .rcd n fs => .rcd n (fs.map (clr gs))
  | .weak n t => .weak n (clr gs t)
  | .tab n es => .tab n (es.filter fun e => decide (e.1 ∉ gs) && decide (e.2 ∉ gs))
def drop (h : Hd) (gs : List Int) : Hd :=
  ⟨h.nx, h.regs.map (clr gs), h.kept.filter fun n => decide (n ∉ gs), (h.obs.filter fun o => decide (o.num ∉ gs)).map (dropOb gs), h.wat.filter fun e => decide (e.1 ∉ gs)⟩
/-- .. the object itself stays, without what leads to it -/
def leftOut (h : Hd) (n : Int) : Hd := ⟨h.nx, h.regs.map (clr [n]), h.kept, h.obs.map (dropOb [n]), h.wat⟩
theorem dropOb_num (gs : List Int) (o : Ob) : (dropOb gs o).num = o.num := by cases o <;> rfl
theorem clr_some {gs : List Int} {r : Rf} {m : Int} : clr gs r = some m ↔ r = some m ∧ m ∉ gs := by
  cases r with
  | none => simp [clr, hit]
  | some k =>
    show (if decide (k ∈ gs) = true then none else some k) = some m ↔ _
    by_cases c : k ∈ gs
    · rw [decide_eq_true c, if_pos rfl]
      exact ⟨fun z => (nomatch z), fun ⟨z, y⟩ => absurd (Option.some.inj z ▸ c) y⟩
    · rw [decide_eq_false c, if_neg (by simp)]
      exact ⟨fun z => ⟨z, fun y => c (Option.some.inj z ▸ y)⟩, fun z => z.1⟩
theorem drop_nums (h : Hd) (gs : List Int) : (drop h gs).nums = h.nums.filter fun n => decide (n ∉ gs) := by
  have key : ∀ l : List Ob, ((l.filter fun o => decide (o.num ∉ gs)).map (dropOb gs)).map Ob.num = (l.map Ob.num).filter fun n => decide (n ∉ gs) := fun l => by
    induction l with
    | nil => rfl
    | cons o r ih =>
      rw [List.map_cons, List.filter_cons, List.filter_cons]
      split
      · rw [List.map_cons, List.map_cons, ih, dropOb_num]
      · exact ih
  exact key h.obs
theorem leftOut_nums (h : Hd) (n : Int) : (leftOut h n).nums = h.nums := by
  show (h.obs.map (dropOb [n])).map Ob.num = h.obs.map Ob.num
  rw [List.map_map]
  exact List.map_congr_left fun o _ => dropOb_num _ _
theorem dropOb_ok {S gs : List Int} {o : Ob} (h : o.ok S) : (dropOb gs o).ok (S.filter fun n => decide (n ∉ gs)) := by
  have cl : ∀ r, Rf.ok S r → Rf.ok (S.filter fun n => decide (n ∉ gs)) (clr gs r) := fun r hr i e => by
    obtain ⟨e1, e2⟩ := clr_some.mp e
    exact List.mem_filter.mpr ⟨hr i e1, decide_eq_true e2⟩
  cases o with
  | rcd n fs =>
    refine ⟨by rw [List.length_map]; exact h.1, fun r hr => ?_⟩
    obtain ⟨q, hq, rfl⟩ := List.mem_map.mp hr
    exact cl q (h.2 q hq)
  | weak n t => exact cl t h
  | tab n es =>
    refine ⟨Nat.le_trans (List.length_filter_le _ _) h.1, (List.Sublist.map _ List.filter_sublist).nodup h.2.1, fun e he => ?_⟩
    obtain ⟨e1, e2⟩ := List.mem_filter.mp he
    obtain ⟨y1, y2⟩ := Bool.and_eq_true_iff.mp e2
    exact ⟨List.mem_filter.mpr ⟨(h.2.2 e e1).1, y1⟩, List.mem_filter.mpr ⟨(h.2.2 e e1).2, y2⟩⟩
theorem Ob.ok.sub {S S' : List Int} {o : Ob} (h : o.ok S) (s : ∀ n ∈ S, n ∈ S') : o.ok S' := by
  cases o with
  | rcd n fs => exact ⟨h.1, fun r hr i e => s i (h.2 r hr i e)⟩
  | weak n t => exact fun i e => s i (h i e)
  | tab n es => exact ⟨h.1, h.2.1, fun e he => ⟨s _ (h.2.2 e he).1, s _ (h.2.2 e he).2⟩⟩
theorem drop_ok {h : Hd} (ok : h.Ok) (gs : List Int) : (drop h gs).Ok := by
  have en := drop_nums h gs
  refine ⟨by rw [en]; exact ok.up.sublist List.filter_sublist, ?_, ?_, fun r hr i e => ?_, fun o ho => ?_, fun i hi => ?_, fun e he => ?_, fun n hn => ?_, ok.nxl, ok.kup.sublist List.filter_sublist, fun e he => ok.tok e (List.mem_filter.mp he).1, Nat.le_trans (List.length_filter_le _ _) ok.nwat, fun z => ?_⟩
  · show ((h.obs.filter fun o => decide (o.num ∉ gs)).map (dropOb gs)).length ≤ 50
    rw [List.length_map]; exact Nat.le_trans (List.length_filter_le _ _) ok.size
  · show (h.regs.map (clr gs)).length ≤ 1000
    rw [List.length_map]; exact ok.nreg
  · rw [en]
    obtain ⟨q, hq, rfl⟩ := List.mem_map.mp hr
    obtain ⟨e1, e2⟩ := clr_some.mp e
    exact List.mem_filter.mpr ⟨ok.regs q hq i e1, decide_eq_true e2⟩
  · rw [en]
    obtain ⟨q, hq, rfl⟩ := List.mem_map.mp ho
    exact dropOb_ok (ok.obs q (List.mem_filter.mp hq).1)
  · rw [en]
    obtain ⟨y1, y2⟩ := List.mem_filter.mp hi
    exact List.mem_filter.mpr ⟨ok.kept i y1, y2⟩
  · rw [en]
    obtain ⟨y1, y2⟩ := List.mem_filter.mp he
    exact List.mem_filter.mpr ⟨ok.wat e y1, y2⟩
  · rw [en] at hn
    exact ok.low n (List.mem_filter.mp hn).1
  · exact ok.rpos (List.map_eq_nil_iff.mp z)
theorem leftOut_ok {h : Hd} (ok : h.Ok) (n : Int) : (leftOut h n).Ok := by
  have en := leftOut_nums h n
  refine ⟨by rw [en]; exact ok.up, ?_, ?_, fun r hr i e => ?_, fun o ho => ?_, fun i hi => ?_, fun e he => ?_, fun n hn => ?_, ok.nxl, ok.kup, fun e he => ok.tok e he, ok.nwat, fun z => ?_⟩
  · show (h.obs.map (dropOb [n])).length ≤ 50
    rw [List.length_map]; exact ok.size
  · show (h.regs.map (clr [n])).length ≤ 1000
    rw [List.length_map]; exact ok.nreg
  · rw [en]
    obtain ⟨q, hq, rfl⟩ := List.mem_map.mp hr
    exact ok.regs q hq i (clr_some.mp e).1
  · rw [en]
    obtain ⟨q, hq, rfl⟩ := List.mem_map.mp ho
    exact (dropOb_ok (ok.obs q hq)).sub fun n hn => (List.mem_filter.mp hn).1
  · rw [en]; exact ok.kept i hi
  · rw [en]; exact ok.wat e he
  · rw [en] at hn; exact ok.low n hn
  · exact ok.rpos (List.map_eq_nil_iff.mp z)
/-! ### what is reached without some objects -/
inductive Wo (h : Hd) (ex : Int → Prop) : Int → Prop
  | reg {m : Int} : some m ∈ h.regs → ¬ ex m → Wo h ex m
  | fld {k m : Int} {fs : List Rf} : Ob.rcd k fs ∈ h.obs → Wo h ex k → some m ∈ fs → ¬ ex m → Wo h ex m
  | ent {k q m : Int} {es : List (Int × Int)} : Ob.tab k es ∈ h.obs → Wo h ex k → (q, m) ∈ es → Wo h ex q → ¬ ex m → Wo h ex m
section
variable {h : Hd} {ex ex' : Int → Prop} {m b : Int}
theorem Wo.not (x : Wo h ex m) : ¬ ex m := by cases x <;> assumption
theorem Wo.mono (s : ∀ n, ex' n → ex n) (x : Wo h ex m) : Wo h ex' m := by
  induction x with
  | reg h1 h2 => exact .reg h1 fun z => h2 (s _ z)
  | fld h1 _ h2 h3 ih => exact .fld h1 ih h2 fun z => h3 (s _ z)
  | ent h1 _ h2 _ h3 ih1 ih2 => exact .ent h1 ih1 h2 ih2 fun z => h3 (s _ z)
/-- an object that is not reached so is not needed -/
theorem Wo.spare (nb : ¬ Wo h ex b) (x : Wo h ex m) : Wo h (fun n => ex n ∨ n = b) m := by
  have ne : ∀ {k}, Wo h ex k → k ≠ b := fun y e => nb (e ▸ y)
  induction x with
  | reg h1 h2 => exact .reg h1 fun z => z.elim h2 fun e => ne (Wo.reg h1 h2) e
  | fld h1 y h2 h3 ih => exact .fld h1 ih h2 fun z => z.elim h3 fun e => ne (Wo.fld h1 y h2 h3) e
  | ent h1 y h2 y2 h3 ih1 ih2 => exact .ent h1 ih1 h2 ih2 fun z => z.elim h3 fun e => ne (Wo.ent h1 y h2 y2 h3) e
/-- reached, and not without n -/
def Dom (h : Hd) (n m : Int) : Prop := Wo h (fun _ => False) m ∧ ¬ Wo h (· = n) m
theorem Dom.self (x : Wo h (fun _ => False) m) : Dom h m m := ⟨x, fun z => z.not rfl⟩
theorem Dom.first {n : Int} (x : Dom h n m) : Wo h (fun _ => False) n := Classical.byContradiction fun no => x.2 ((Wo.spare no x.1).mono fun _ e => .inr e)
theorem Dom.trans {a b c : Int} (x : Dom h a b) (y : Dom h b c) : Dom h a c := ⟨y.1, fun z => y.2 ((Wo.spare x.2 z).mono fun _ e => .inr e)⟩
theorem Dom.anti {a b : Int} (x : Dom h a b) (y : Dom h b a) : a = b := by
  refine Classical.byContradiction fun ne => ?_
  have key : ∀ {m}, Wo h (fun _ => False) m → Wo h (fun k => k = a ∨ k = b) m ∨ Wo h (· = b) a ∨ Wo h (· = a) b := fun z => by
    have sA : ∀ {k}, Wo h (fun k => k = a ∨ k = b) k → Wo h (· = b) k := fun w => w.mono fun _ e => .inr e
    have sB : ∀ {k}, Wo h (fun k => k = a ∨ k = b) k → Wo h (· = a) k := fun w => w.mono fun _ e => .inl e
    induction z with
    | @reg m h1 h2 =>
      by_cases ea : m = a
      · subst ea; exact .inr (.inl (.reg h1 ne))
      by_cases eb : m = b
      · subst eb; exact .inr (.inr (.reg h1 fun e => ne e.symm))
      exact .inl (.reg h1 fun z => z.elim ea eb)
    | @fld k m fs h1 _ h2 h3 ih =>
      rcases ih with ih | ih
      · by_cases ea : m = a
        · subst ea; exact .inr (.inl (.fld h1 (sA ih) h2 ne))
        by_cases eb : m = b
        · subst eb; exact .inr (.inr (.fld h1 (sB ih) h2 fun e => ne e.symm))
        exact .inl (.fld h1 ih h2 fun z => z.elim ea eb)
      · exact .inr ih
    | @ent k q m es h1 _ h2 _ h3 ih1 ih2 =>
      rcases ih1 with ih1 | ih1
      · rcases ih2 with ih2 | ih2
        · by_cases ea : m = a
          · subst ea; exact .inr (.inl (.ent h1 (sA ih1) h2 (sA ih2) ne))
          by_cases eb : m = b
          · subst eb; exact .inr (.inr (.ent h1 (sB ih1) h2 (sB ih2) fun e => ne e.symm))
          exact .inl (.ent h1 ih1 h2 ih2 fun z => z.elim ea eb)
        · exact .inr ih2
      · exact .inr ih1
  rcases key y.1 with z | z | z
  · exact z.not (.inl rfl)
  · exact y.2 z
  · exact x.2 z
end
/-- .. as what is obtainable without any target -/
theorem wo_obt {g h : Hd} {cs gs : List Int} (hr : ∀ m, some m ∈ g.regs ↔ some m ∈ h.regs ∧ m ∉ gs) (hf : ∀ k m, (∃ fs, Ob.rcd k fs ∈ g.obs ∧ some m ∈ fs) → (∃ fs, Ob.rcd k fs ∈ h.obs ∧ some m ∈ fs) ∧ m ∉ gs)
    (he : ∀ k q m, (∃ es, Ob.tab k es ∈ g.obs ∧ (q, m) ∈ es) → (∃ es, Ob.tab k es ∈ h.obs ∧ (q, m) ∈ es) ∧ m ∉ gs) (hw : ∀ k t, Ob.weak k (some t) ∈ g.obs → t ∈ cs)
    (bf : ∀ k m, k ∉ gs → (∃ fs, Ob.rcd k fs ∈ h.obs ∧ some m ∈ fs) → m ∉ gs → ∃ fs, Ob.rcd k fs ∈ g.obs ∧ some m ∈ fs)
    (be : ∀ k q m, k ∉ gs → q ∉ gs → (∃ es, Ob.tab k es ∈ h.obs ∧ (q, m) ∈ es) → m ∉ gs → ∃ es, Ob.tab k es ∈ g.obs ∧ (q, m) ∈ es) (m : Int) : Obt g cs m ↔ Wo h (· ∈ gs) m := by
  constructor
  · refine Obt.closed (S := fun m => Wo h (· ∈ gs) m) (fun m z => ?_) (fun m ⟨o, h1, h2, h3⟩ => ?_)
    · obtain ⟨z1, z2⟩ := (hr m).mp z; exact .reg z1 z2
    · cases o with
      | rcd k fs =>
        obtain ⟨⟨fs', y1, y2⟩, y3⟩ := hf k m ⟨fs, h1, h3⟩
        exact .fld y1 h2 y2 y3
      | weak k t =>
        obtain ⟨e, no⟩ := h3
        subst e
        exact absurd (hw k m h1) no
      | tab k es =>
        obtain ⟨q, h3, h4⟩ := h3
        obtain ⟨⟨es', y1, y2⟩, y3⟩ := he k q m ⟨es, h1, h3⟩
        exact .ent y1 h2 y2 h4 y3
  · intro x
    induction x with
    | reg h1 h2 => exact Obt.reg ((hr _).mpr ⟨h1, h2⟩)
    | @fld k m fs h1 y h2 h3 ih =>
      obtain ⟨fs', y1, y2⟩ := bf k m y.not ⟨fs, h1, h2⟩ h3
      exact Obt.fol ⟨_, y1, ih, y2⟩
    | @ent k q m es h1 y h2 y2 h3 ih1 ih2 =>
      obtain ⟨es', z1, z2⟩ := be k q m y.not y2.not ⟨es, h1, h2⟩ h3
      exact Obt.fol ⟨_, z1, ih1, q, z2, ih2⟩
section
variable {h : Hd}
theorem clr_mem {gs : List Int} {fs : List Rf} {m : Int} : some m ∈ fs.map (clr gs) ↔ some m ∈ fs ∧ m ∉ gs := by
  rw [List.mem_map]
  constructor
  · rintro ⟨r, hr, e⟩
    obtain ⟨e1, e2⟩ := clr_some.mp e
    subst e1
    exact ⟨hr, e2⟩
  · rintro ⟨h1, h2⟩
    exact ⟨_, h1, clr_some.mpr ⟨rfl, h2⟩⟩
theorem rcd_drop {l : List Ob} {gs : List Int} {k : Int} {m : Int} : (∃ fs, Ob.rcd k fs ∈ l.map (dropOb gs) ∧ some m ∈ fs) ↔ (∃ fs, Ob.rcd k fs ∈ l ∧ some m ∈ fs) ∧ m ∉ gs := by
  constructor
  · rintro ⟨fs, h1, h2⟩
    obtain ⟨o, ho, e⟩ := List.mem_map.mp h1
    cases o with
    | rcd n fs' =>
      cases e
      obtain ⟨y1, y2⟩ := clr_mem.mp h2
      exact ⟨⟨fs', ho, y1⟩, y2⟩
    | weak n t => cases e
    | tab n es => cases e
  · rintro ⟨⟨fs, h1, h2⟩, h3⟩
    exact ⟨_, List.mem_map_of_mem (f := dropOb gs) h1, clr_mem.mpr ⟨h2, h3⟩⟩
theorem tab_drop {l : List Ob} {gs : List Int} {k q m : Int} : (∃ es, Ob.tab k es ∈ l.map (dropOb gs) ∧ (q, m) ∈ es) ↔ (∃ es, Ob.tab k es ∈ l ∧ (q, m) ∈ es) ∧ q ∉ gs ∧ m ∉ gs := by
  constructor
  · rintro ⟨es, h1, h2⟩
    obtain ⟨o, ho, e⟩ := List.mem_map.mp h1
    cases o with
    | tab n es' =>
      cases e
      obtain ⟨y1, y2⟩ := List.mem_filter.mp h2
      obtain ⟨y2, y3⟩ := Bool.and_eq_true_iff.mp y2
      exact ⟨⟨es', ho, y1⟩, of_decide_eq_true y2, of_decide_eq_true y3⟩
    | weak n t => cases e
    | rcd n es => cases e
  · rintro ⟨⟨es, h1, h2⟩, h3, h4⟩
    exact ⟨_, List.mem_map_of_mem (f := dropOb gs) h1, List.mem_filter.mpr ⟨h2, Bool.and_eq_true_iff.mpr ⟨decide_eq_true h3, decide_eq_true h4⟩⟩⟩
theorem reach_wo (ok : h.Ok) (m : Int) : Obt h h.nums m ↔ Wo h (fun _ => False) m := by
  refine (wo_obt (gs := []) (h := h) (fun m => ⟨fun z => ⟨z, by simp⟩, fun z => z.1⟩) (fun k m z => ⟨z, by simp⟩) (fun k q m z => ⟨z, by simp⟩) (fun k t z => ok.obs _ z t rfl) (fun k m _ z _ => z) (fun k q m _ _ z _ => z) m).trans ?_
  exact ⟨fun z => z.mono fun _ y => y.elim, fun z => z.mono fun _ y => by cases y⟩
theorem drop_wo (ok : h.Ok) (gs : List Int) (m : Int) : Obt (drop h gs) (drop h gs).nums m ↔ Wo h (· ∈ gs) m := by
  have inF : ∀ {o : Ob}, o ∈ h.obs.filter (fun o => decide (o.num ∉ gs)) → o ∈ h.obs := fun z => (List.mem_filter.mp z).1
  refine wo_obt (fun m => clr_mem) (fun k m z => ?_) (fun k q m z => ?_) (fun k t z => (drop_ok ok gs).obs _ z t rfl) (fun k m nk z nm => ?_) (fun k q m nk nq z nm => ?_) m
  · obtain ⟨⟨fs, y1, y2⟩, y3⟩ := rcd_drop.mp z
    exact ⟨⟨fs, inF y1, y2⟩, y3⟩
  · obtain ⟨⟨fs, y1, y2⟩, y3⟩ := tab_drop.mp z
    exact ⟨⟨fs, inF y1, y2⟩, y3.2⟩
  · obtain ⟨fs, y1, y2⟩ := z
    exact rcd_drop.mpr ⟨⟨fs, List.mem_filter.mpr ⟨y1, decide_eq_true nk⟩, y2⟩, nm⟩
  · obtain ⟨fs, y1, y2⟩ := z
    exact tab_drop.mpr ⟨⟨fs, List.mem_filter.mpr ⟨y1, decide_eq_true nk⟩, y2⟩, nq, nm⟩
theorem left_wo (ok : h.Ok) (n m : Int) : Obt (leftOut h n) h.nums m ↔ Wo h (· ∈ [n]) m := by
  refine wo_obt (fun m => clr_mem) (fun k m z => rcd_drop.mp z) (fun k q m z => ?_) (fun k t z => ?_) (fun k m nk z nm => rcd_drop.mpr ⟨z, nm⟩) (fun k q m nk nq z nm => tab_drop.mpr ⟨z, nq, nm⟩) m
  · obtain ⟨y1, y2⟩ := tab_drop.mp z
    exact ⟨y1, y2.2⟩
  · have := (leftOut_ok ok n).obs _ z t rfl
    rwa [leftOut_nums] at this
theorem mem_one {n : Int} : (· ∈ [n]) = (· = n) := by funext k; simp
end
end Wc
namespace Wc
open PySem PySem.Spec PyProof.Rows L2
/-- t.index(x): the first place, items of any flat kinds -/
def rIndexT (K : PySem.W.Frag) : V → List V → Hp → VK → Prop := fun x xs H Q => ∃ (a : Addr) (ys : List V) (y : V) (j : Nat) (z : V), x = V.ref a ∧ xs = [y] ∧ SqT K H a ys ∧ flatV y = true ∧ ys.all flatV = true ∧ ys[j]? = some z ∧ eqV z y = true ∧
  (∀ (m : Nat) (z' : V), m < j → ys[m]? = some z' → eqV z' y = false) ∧ Q (.int (j : Nat)) H
theorem mt_indexT {X : Cx} : MtR X "tuple.index" (rIndexT X.K) := by
  intro pins s σ H x xs v us Q I rx rxs h
  obtain ⟨a, ys, y, j, z, rfl, rfl, hq, fy, fys, hz, hzj, hno, q⟩ := h
  cases rx
  cases rxs with
  | cons ry rt =>
    rename_i uy ut
    cases rt
    obtain ⟨its, rv, pl, hsz⟩ := I.tuple hq
    obtain ⟨⟨cls, dd, dt, sl⟩, ho, hc, n, hd⟩ := pl
    simp only at hc hd
    subst hc
    subst hd
    obtain ⟨u, hu, ru⟩ := rv.get hz
    obtain ⟨hjl, hje⟩ := List.getElem?_eq_some_iff.mp hu
    have hvl := rv.length
    have hj : j < its.toArray.size := by simpa using hjl
    refine call_meets PySem.F.slot_tuple_index ⟨_, ho, rfl⟩ PySem.F.entry_tuple_index (PySem.F.args_tuple_index_2 _ _) (TI.tuple_indexAt a its.toArray n dd sl uy (eqU y) j hj ?_ ?_)
      ⟨ho, fun u' hu' => mem_eqAt ry fy rv fys u' (by simpa using hu'), ⟨.int (j : Nat), H, I.tok _, ⟨_, rfl⟩, q⟩⟩
    · have e1 : its.toArray[j] = u := by simpa using hje
      rw [e1, eqU_of ru (flat_at fys hz)]
      exact hzj
    · intro m hm hmj
      have hml : m < its.length := by simpa using hm
      have hmy : m < ys.length := by omega
      have hy' : ys[m]? = some ys[m] := List.getElem?_eq_getElem hmy
      obtain ⟨u2, hu2, ru2⟩ := rv.get hy'
      obtain ⟨_, hme⟩ := List.getElem?_eq_some_iff.mp hu2
      have e1 : its.toArray[m] = u2 := by simpa using hme
      rw [e1, eqU_of ru2 (flat_at fys hy')]
      exact hno m _ hmj hy'
section
open PySem.Calls
theorem call_tupleZ {X : Cx} : CallR X (.type "tuple") (rTupZ X.K) := by
  intro pins s σ H xs us Q I r h
  obtain ⟨p, ys, rfl, hq, q⟩ := h
  obtain ⟨u, rfl, rx⟩ := vals1 r
  cases rx
  obtain ⟨its, r', pl, hz⟩ := I.list hq
  have hlen := r'.length
  refine call_tuple_list pl.isList (fun h' kp => ?_) (by simp only [List.size_toArray] <;> omega)
  have I1 : Inv X pins σ H { s with heap := h' } := I.kept (t' := s.toks) kp
  have I2 : Inv X pins σ (upd H h'.objs.size (.frz { cls := .type "tuple", data := .seq its.toArray } (.tup ys))) { s with heap := h'.push { cls := .type "tuple", data := .seq its.toArray } } :=
    I1.laid (t' := s.toks) (fun b o e => Heap.get?_push_of_some _ e) (Nat.le_refl _) (show ObjOk X.prog X.w _ _ _ (.frz _ (.tup ys)) from ⟨Heap.get?_push_size _ rfl, hz, its, r', IsTup.new _ _⟩)
  exact ⟨.ref h'.objs.size, _, I2, rfl, q _ _ (I1.hok.fresh (Nat.le_refl _)) rfl⟩
/-- a method of a tuple of which it is known that its object has no dict -/
def tBMZ (r : V → List V → Hp → VK → Prop) (to : TE) (t : TA) : TE := fun σ H Q => to σ H fun x H1 => (∃ p xs, x = .ref p ∧ SqZ H1 p xs) ∧ t σ H1 fun xs H2 => r x xs H2 Q
theorem pe_bmZ {X : Cx} {o e : Expr} {es : List Expr} {to : TE} {t : TA} {name : Str} {apos cpos : Pos} {id : String} {r : V → List V → Hp → VK → Prop} (pa : PlainAttrs "tuple") (slot : Slot "tuple" name id) (hty : typeOf (.builtin id) = pure (.type "method_descriptor")) (hm : MtR X id r) (ho : PE X o to) (ha : PA X (e :: es) t)
    (hbase : attributeBase o name X.env (eval o X.env) = eval o X.env := by rfl)
    (hfew : ((backTo cpos (starEach (e :: es) X.env)).all (fun x => !x.1) && (backToKw cpos (keywordEach [] X.env)).all (fun x => x.1.isSome)
      && decide ((e :: es).length + ([] : List Keyword).length + (if ([] : List Keyword).isEmpty then 0 else 1) < 30)) = true := by rfl)
    (hline : (apos.endLine == cpos.line) = true := by rfl) (hs : starEach (e :: es) X.env = (false, eval e X.env) :: starEach es X.env := by rfl) (hplain : (backTo cpos (starEach es X.env)).any (·.1) = false := by rfl) :
    PE X (.Call (.Attribute o name apos) (e :: es) [] cpos) (tBMZ r to t) := by
  refine ⟨fun pins s σ H Q I h => ?_⟩
  refine wpAny_Call_method_late hbase hfew hline rfl (thn (ho.run pins s σ H _ I h) fun v s1 ⟨x, H1, I1, r1, ty, q1⟩ => ?_)
  obtain ⟨p, xs, rfl, ob, hd, hz⟩ := ty
  cases r1
  obtain ⟨e1, _, its, _, ho2, e2, hc, _⟩ := I1.hok p _ hz
  rw [e1] at e2
  cases e2
  refine ⟨"tuple", id, pa, slot, hty, ⟨ob, e1, hc⟩, fun a e => ?_, ?_⟩
  · cases e
    exact ⟨ob, e1, hd⟩
  have hA := ha.run cpos pins s1 σ H1 _ I1 q1
  rw [hs] at hA ⊢
  refine Calls.callWith_builtin (by show (false || (backTo cpos (starEach es X.env)).any (·.1)) = false; rw [hplain] <;> rfl) (Calls.evalArgs_plain ?_)
  exact thn hA fun us s2 ⟨vs, H2, I2, r2, q2⟩ => hm pins s2 σ H2 (.ref p) vs _ us Q I2 rfl r2 q2
end
/-- the first place of a number among numbers and None -/
def ixR (rs : List Rf) (n : Int) : Nat := rs.findIdx (· == some n)
theorem flat_rfs (rs : List Rf) : (rs.map rV).all flatV = true := by
  rw [List.all_eq_true]
  intro x hx
  obtain ⟨r, _, rfl⟩ := List.mem_map.mp hx
  cases r <;> rfl
theorem eqV_rf (r : Rf) (n : Int) : eqV (rV r) (.int n) = (r == some n) := by
  cases r with
  | none => rfl
  | some i =>
    show (i == n) = (some i == some n)
    by_cases e : i = n
    · subst e; simp
    · simp [e]
theorem inV_rf (n : Int) (rs : List Rf) : inV (.int n) (rs.map rV) = decide (some n ∈ rs) := by
  induction rs with
  | nil => rfl
  | cons k r ih =>
    show (eqV (rV k) (.int n) || inV (.int n) (r.map rV)) = _
    rw [ih, eqV_rf]
    by_cases e : k = some n
    · subst e; simp
    · have e3 : ¬ some n = k := fun z => e z.symm
      simp [e, e3]
theorem indexT_ok {K : PySem.W.Frag} {H : Hp} {a : Addr} {rs : List Rf} {n : Int} {Q : VK} (h : SqT K H a (rs.map rV)) (m : some n ∈ rs) (q : Q (.int (ixR rs n : Nat)) H) : rIndexT K (.ref a) [.int n] H Q := by
  have hl : ixR rs n < rs.length := List.findIdx_lt_length_of_exists ⟨_, m, by simp⟩
  refine ⟨a, _, .int n, ixR rs n, rV rs[ixR rs n], rfl, rfl, h, rfl, flat_rfs rs, ?_, ?_, ?_, q⟩
  · rw [List.getElem?_map, List.getElem?_eq_getElem hl]; rfl
  · rw [eqV_rf]; exact List.findIdx_getElem (p := (· == some n)) (w := hl)
  · intro k z' hk hz'
    have hkl : k < rs.length := Nat.lt_trans hk hl
    rw [List.getElem?_map, List.getElem?_eq_getElem hkl] at hz'
    obtain rfl : rV rs[k] = z' := Option.some.inj hz'
    rw [eqV_rf]
    exact List.not_of_lt_findIdx (p := (· == some n)) hk
end Wc
/-! set(xs) of a list or a tuple of numbers; sorted of such a set is the layer's. -/
namespace L2
open PySem PySem.Spec PyProof.Rows
section
variable {P : Program} {w : World} {A : Around} {E : Value → Shared → Prop} {s : Shared}
abbrev newSet (w : World) : Obj := { cls := .type "set", dict := none, data := .set #[] 0 (.fresh 0 0 (!w.params.followText "set-order")) }
set_option maxHeartbeats 6400000 in
/-- the loop of set.__init__ over a list of numbers -/
theorem setInitL {B : Around} {l : Addr} {its : Array Value} (ns : List Int) {R : Result → Shared → Prop} (hh : B.in1.handled = none) (hl : s.heap.IsList l its) (hi : IntsAre its.toList ns) (hb : ns.length + 1 < scanBound)
    (hR : ∀ (h' : Heap) (tk c : Nat), SetR w h' s.heap.objs.size (fun j => decide (j ∈ ns)) c → c ≤ ns.length → (∀ b o, s.heap.get? b = some o → h'.get? b = some o) → R (.ok (.ret .none)) { s with heap := h', toks := tk }) :
    codeAny (model P w) B (.builtin "set.update.loop" ⟨[.ref s.heap.objs.size, .ref (s.heap.push (newSet w)).objs.size], []⟩) R { s with heap := (s.heap.push (newSet w)).push { cls := .type "list_iterator", data := .fields #[.ref l, .int 0 0] } } := by
  have hz : its.size = ns.length := (Array.length_toList (xs := its)).symm.trans (IntsAre.length hi)
  obtain ⟨o, ho, hcl, n, hdt⟩ := id hl
  have lt : l < s.heap.objs.size := Heap.lt_size ho
  have sz1 : (s.heap.push (newSet w)).objs.size = s.heap.objs.size + 1 := Heap.size_push ..
  have at1 : (s.heap.push (newSet w)).get? s.heap.objs.size = some (newSet w) := Heap.get?_push_size _ rfl
  have nl : l ≠ (s.heap.push (newSet w)).objs.size := by rw [sz1]; exact Nat.ne_of_lt (Nat.lt_succ_of_lt lt)
  have nS : s.heap.objs.size ∉ [(s.heap.push (newSet w)).objs.size, l] := by
    rw [sz1]; intro z
    rcases List.mem_cons.mp z with z | z
    · exact absurd z (Nat.ne_of_lt (Nat.lt_succ_self _))
    · exact absurd (List.mem_singleton.mp z) (Nat.ne_of_gt lt)
  refine set_update_ints (n := its.size) ((Walks.list (A := B.in1) hh _ l nl its).toS) _ nS ns hz hb (fun i v hv => ?_) (its.size - 0) 0 _ rfl (Nat.zero_le _)
    ⟨⟨_, Heap.get?_push_size _ rfl, rfl, rfl⟩, (hl.push _).push _⟩ ⟨0, Nat.le_refl 0, setR_new_at (Heap.get?_push_of_some _ at1)⟩ fun s2 c mv hc hS => ?_
  · have hlt : i < ns.length := hz ▸ (Array.getElem?_eq_some_iff.mp hv).1
    obtain ⟨t, e⟩ := PyProof.Rows.IntsAre.int_at hi i v (Array.getElem?_toList.trans hv)
    exact ⟨ns[i], t, List.getElem?_eq_getElem hlt, by rw [e, List.getD_eq_getElem?_getD, List.getElem?_eq_getElem hlt]; rfl⟩
  · obtain ⟨h2, g2, d2, tk2, os2⟩ := s2
    have eg : g2 = s.gens := mv.gens
    have ed : d2 = s.drawn := mv.drawn
    have eo : os2 = s.os := mv.os
    subst eg ed eo
    refine hR h2 tk2 c hS (hz ▸ hc) fun b u e => mv.heap b u (fun z => ?_) (Heap.get?_push_of_some _ (Heap.get?_push_of_some _ e))
    have lb : b < s.heap.objs.size := Heap.lt_size e
    rcases List.mem_cons.mp z with z | z
    · exact absurd z (Nat.ne_of_lt lb)
    · have z := List.mem_singleton.mp z; rw [sz1] at z; exact absurd z (Nat.ne_of_lt (Nat.lt_succ_of_lt lb))
set_option maxHeartbeats 6400000 in
theorem call_set_listI {l : Addr} {its : Array Value} (ns : List Int) {Q : Value → Shared → Prop} (hh : A.handled = none) (hl : s.heap.IsList l its) (hi : IntsAre its.toList ns) (hb : ns.length + 1 < scanBound)
    (h : ∀ (h' : Heap) (tk c : Nat), SetR w h' s.heap.objs.size (fun j => decide (j ∈ ns)) c → c ≤ ns.length → (∀ b o, s.heap.get? b = some o → h'.get? b = some o) → Q (.ref s.heap.objs.size) { s with heap := h', toks := tk }) :
    wpAny (model P w) A (call (.type "set") [.ref l]) Q E s := by
  have ⟨c, tl, hmro⟩ := F.called_set.mro
  have f1 := F.called_set.made; have f2 := F.called_set.sub; have f3 := F.called_set.notType; have f4 := F.called_set.canCreate; have f5 := F.typeCall_set_1 (.ref l)
  refine wpAny_call (codeAny_of_tree ?_); show wpAny _ _ (callAny (.type "set") _) _ _ _
  refine wpAny_pure ⟨Code.quiet_builtin _ (by decide +kernel), codeAny_builtin F.entry_type_call ?_⟩; rw [Around.under_plain (weight_type_call_type "set" [.ref l] []) rfl]
  repeat (any_goals (first | assumption | wp_step))
  refine codeAny_mono (code_set_led1 (.ref l) (E := E) (Q₁ := fun v t => v = .ref s.heap.objs.size ∧ t = { s with heap := s.heap.push (newSet w) }) ⟨rfl, rfl⟩) fun r t hr => ?_
  cases r with
  | error e => exact hr
  | ok fl =>
    cases fl with
    | ret v =>
      obtain ⟨rfl, rfl⟩ := hr
      have at1 : (s.heap.push (newSet w)).get? s.heap.objs.size = some (newSet w) := Heap.get?_push_size _ rfl
      have ty1 : Shared.TypeIs { s with heap := s.heap.push (newSet w) } (.ref s.heap.objs.size) "set" := ⟨_, at1, rfl⟩
      have f6 := F.called_set.init.lookup; have f7 := F.called_set.init.bind (.ref s.heap.objs.size)
      repeat (any_goals (first | assumption | wp_step))
      refine codeAny_mono (codeAny_call_builtin (R := wants (fun v t => v = .none ∧ ∃ h' tk c, t = { s with heap := h', toks := tk } ∧ SetR w h' s.heap.objs.size (fun j => decide (j ∈ ns)) c ∧ c ≤ ns.length ∧
          (∀ b o, s.heap.get? b = some o → h'.get? b = some o)) E) F.called_set.init.plain F.entry_set_init (check_set_init_1 ty1 ?_)) fun r t hr => ?_
      · have hl0 := hl
        obtain ⟨⟨oc, od, odt, osl⟩, ho, hcl, n, hdt⟩ := hl; simp only at hcl hdt; subst hcl hdt
        have ho1 : (s.heap.push (newSet w)).get? l = some { cls := .type "list", dict := od, data := .seq its n, slots := osl } := Heap.get?_push_of_some _ ho
        have hl1 : (s.heap.push (newSet w)).IsList l its := hl0.push _
        have g1 := F.sub_list_set; have g2 := F.sub_list_frozenset; have g3 : (Value.type "list" == Value.type "dict") = false := by decide
        unfold Builtin.«set.__init__» noKeywords Builtin.Frozenset.updateFrom
        generalize hPI : pyIter = PI; wp_walk; subst hPI
        refine wpAny_pyIter_list hl1 ?_; refine wpAny_bind (wpAny_runValue ?_)
        refine setInitL ns (by simp [hh]) hl0 hi hb fun h' tk c hS hc hk => ?_
        refine wpAny_pure ?_; show wpAny _ _ (ret Value.none) _ _ _
        exact wpAny_pure ⟨rfl, h', tk, c, rfl, hS, hc, hk⟩
      · cases r with
        | error e => exact hr
        | ok fl2 =>
          cases fl2 with
          | ret v =>
            obtain ⟨rfl, h', tk, c, rfl, hS, hc, hk⟩ := hr
            repeat (any_goals (first | assumption | wp_step))
            exact h _ _ _ hS hc hk
          | _ => exact hr.elim
    | _ => exact hr.elim
end
/-- set(xs), xs a list or a tuple of numbers -/
def rSetI (K : PySem.W.Frag) (w : World) : List V → Hp → VK → Prop := fun xs H Q => ∃ (p : Addr) (ns : List Int), xs = [.ref p] ∧ (SqL K H p (ns.map V.int) ∨ SqT K H p (ns.map V.int)) ∧ ns.length ≤ 1000 ∧
  ∀ (q : Addr) (c : Nat), H q = none → c ≤ ns.length → Q (.ref q) (upd H q (SetO w q (fun j => decide (j ∈ ns)) c))
theorem call_setI {X : Cx} (hc : X.calm = true) : CallR X (.type "set") (rSetI X.K X.w) := by
  intro pins s σ H vs us Q I r h
  obtain ⟨p, ns, rfl, hq, hl, q⟩ := h
  rw [Vals.ref1 r]
  have hd := I.ok.hd hc
  have zb : ns.length + 1 < scanBound := by unfold scanBound; omega
  rcases hq with hq | hq
  · obtain ⟨its, rv, pt, hz⟩ := I.list hq
    refine call_set_listI ns hd (let ⟨o, n, ho, hc, _, hd⟩ := pt; ⟨o, ho, hc, n, hd⟩) (ints_of_vals rv) zb fun h' tk c hR hn hk => ?_
    exact ⟨.ref _, upd H s.heap.objs.size (SetO X.w s.heap.objs.size (fun j => decide (j ∈ ns)) c), I.laid (t' := tk) hk (Nat.le_refl _) (setO_new hR), rfl, q _ c (I.hok.fresh (Nat.le_refl _)) hn⟩
  · obtain ⟨its, rv, pt, hz⟩ := I.tuple hq
    refine call_set_tupI ns hd (show s.heap.IsTuple p its.toArray from pt) (ints_of_vals rv) zb fun h' tk c hR hn hk => ?_
    exact ⟨.ref _, upd H s.heap.objs.size (SetO X.w s.heap.objs.size (fun j => decide (j ∈ ns)) c), I.laid (t' := tk) hk (Nat.le_refl _) (setO_new hR), rfl, q _ c (I.hok.fresh (Nat.le_refl _)) hn⟩
end L2
/-! sorted(t), t a tuple of fewer than 64 numbers; a tuple of numbers among such tuples. -/
namespace Wc
open PySem PySem.Spec PyProof.Rows L2
def rSortT (K : PySem.W.Frag) : List V → Hp → VK → Prop := fun xs H Q => ∃ (a : Addr) (ns : List Int), xs = [.ref a] ∧ SqT K H a (ns.map V.int) ∧ ns.length < 64 ∧
  ∀ (ys : List Int) (p : Addr), ys.Perm ns → ys.Pairwise (· ≤ ·) → H p = none → Q (.ref p) (upd H p (.lst (ys.map V.int)))
theorem call_sortT {X : Cx} : CallR X (.builtin "sorted") (rSortT X.K) := by
  intro pins s σ H xs us Q I r h
  obtain ⟨a, ns, rfl, hs, h64, q⟩ := h
  rw [Vals.ref1 r]
  obtain ⟨its, rv, pt, hz⟩ := I.tuple hs
  obtain ⟨o, ho, hc, n, hd⟩ := (show s.heap.IsTuple a its.toArray from pt)
  have hi : IntsAre its ns := ints_of_vals rv
  have hn : its.length = ns.length := IntsAre.length hi
  refine Calls.call_function_entry PyProof.Rows.kind_sorted PyProof.Rows.plain_sorted PyProof.Rows.entry_sorted (PyProof.Rows.args_sorted1 _) ?_
  unfold Builtin.«sorted»; refine wpAny_bind (m := checkCount "sorted" 1 1 _) (wpAny_pure ?_)
  refine wpAny_bind (wpAny_collect_seq a (.inr rfl) ho hc hd (fun h' hk => ?_) (by rw [List.size_toArray, hn, sizeLine_eq]; omega))
  have I1 : Inv X pins σ H { s with heap := h', toks := s.toks } := I.kept hk
  have et : its.toArray.toList = its := by simp
  rw [et]
  refine wpAny_bind (wpAny_newList ?_ (by rw [hn, sizeLine_eq]; omega))
  have hL : (h'.push (seqObj "list" its.toArray 0)).get? h'.objs.size = some (seqObj "list" its.toArray 0) := Heap.get?_push_size _ rfl
  show wpAny _ _ _ _ _ { s with heap := h'.push (seqObj "list" its.toArray 0) }
  refine wpAny_bind (wpAny_holding (wpAny_call_entry PyProof.Rows.slot_list_sort ⟨_, hL, rfl⟩ PyProof.Rows.entry_list_sort (PyProof.Rows.list_sort_tree (s := { s with heap := h'.push (seqObj "list" its.toArray 0) }) hL hi (by rw [hn]; exact h64) fun out ys g1 g2 g3 => ⟨_, rfl, ?_⟩) (PyProof.Rows.args_list_sort _)))
  obtain ⟨e', he'⟩ := PyProof.Rows.sortedHeap_at (vs := its) (out := out) hL
  have hlen : (ys.map V.int).length ≤ sizeLine := by rw [List.length_map, g2.length_eq]; exact Nat.le_trans (Nat.le_of_lt h64) (by decide)
  refine wpAny_pure ⟨_, rfl, .ref h'.objs.size, upd H h'.objs.size (.lst (ys.map V.int)), I1.laid (t' := s.toks) (fun b u e => ?_) (Nat.le_refl _)
    (show ObjOk X.prog X.w _ _ _ (.lst (ys.map V.int)) from ⟨hlen, out.toList, e', vals_of_ints g1, he'⟩), rfl, q ys _ g2 g3 (I1.hok.fresh (Nat.le_refl _))⟩
  have lb : b < h'.objs.size := Heap.lt_size e
  rw [PyProof.Rows.sortedHeap_old (Nat.ne_of_lt lb) (by rw [size_push']; exact Nat.lt_succ_of_lt lb)]; exact Heap.get?_push_of_some _ e
/-! ### a tuple of numbers among such tuples -/
def tD (e : List Int) : PyData := .tuple (e.map .int)
def TupAt (K : PySem.W.Frag) (H : Hp) (a : Addr) (e : List Int) : Prop := SqT K H a (e.map V.int)
theorem ints_dp {K : PySem.W.Frag} {H : Hp} : ∀ ns : List Int, DpAll K H (ns.map V.int) (ns.map PyData.int)
  | [] => .nil
  | n :: ns => .cons (.int n) (ints_dp ns)
theorem tup_dp {K : PySem.W.Frag} {H : Hp} {a : Addr} {e : List Int} (h : TupAt K H a e) : Dp K H (.ref a) (tD e) := .tup h (ints_dp e)
theorem tups_dp {K : PySem.W.Frag} {H : Hp} : ∀ {ps : List Addr} {es : List (List Int)}, Paired (TupAt K H) ps es → DpAll K H (ps.map V.ref) (es.map tD)
  | _, _, .nil => .nil
  | _, _, .cons r t => .cons (tup_dp r) (tups_dp t)
theorem eqv_ints : ∀ e d : List Int, PyData.eqvAll (e.map .int) (d.map .int) = decide (d = e)
  | [], [] => by simp [PyData.eqvAll]
  | [], y :: d => by simp [PyData.eqvAll]
  | x :: e, [] => by simp [PyData.eqvAll]
  | x :: e, y :: d => by
    have h : PyData.eqvAll ((x :: e).map .int) ((y :: d).map .int) = ((x == y) && PyData.eqvAll (e.map .int) (d.map .int)) := by simp [PyData.eqvAll, PyData.eqv]
    rw [h, eqv_ints e d]
    by_cases e1 : x = y
    · subst e1; by_cases e2 : d = e
      · subst e2; simp
      · simp [e2]
    · have : ¬ (y = x) := fun z => e1 z.symm
      simp [e1, this]
theorem tD_eqv (e d : List Int) : PyData.eqv (tD e) (tD d) = decide (d = e) := by
  rw [← eqv_ints e d]; simp [tD, PyData.eqv]
theorem any_tD (d : List Int) : ∀ es : List (List Int), ((es.map tD).any fun z => PyData.eqv z (tD d)) = decide (d ∈ es)
  | [] => rfl
  | e :: es => by
    rw [List.map_cons, List.any_cons, any_tD d es, tD_eqv]
    by_cases c1 : d = e
    · subst c1; simp
    · simp [c1]
theorem ints_lay : ∀ e : List Int, PyData.canLayAll0 (e.map .int) = true
  | [] => by simp [PyData.canLayAll0]
  | n :: e => by rw [List.map_cons]; simp only [PyData.canLayAll0, PyData.canLay0, ints_lay e, Bool.and_self]
theorem tD_lay (e : List Int) : (tD e).canLay0 = true := by
  show PyData.canLay0 (.tuple (e.map .int)) = true
  simp only [PyData.canLay0]; exact ints_lay e
theorem tD_lays : ∀ es : List (List Int), PyData.canLayAll0 (es.map tD) = true
  | [] => by simp [PyData.canLayAll0]
  | e :: r => by rw [List.map_cons]; simp only [PyData.canLayAll0, tD_lay e, tD_lays r, Bool.and_self]
theorem tD_depth (e : List Int) : (tD e).depth ≤ 4 := by
  have h : ∀ l : List Int, PyData.depthAll (l.map .int) ≤ 2 := fun l => by
    induction l with
    | nil => simp [PyData.depthAll]
    | cons x r ih => simp only [List.map_cons, PyData.depthAll, PyData.depth]; omega
  have := h e
  simp only [tD, PyData.depth]; omega
/-- x in l, x not in l -/
def rInT (K : PySem.W.Frag) (neg : Bool) : R2 := fun x y H Q => ∃ (a t : Addr) (e : List Int) (ps : List Addr) (es : List (List Int)), x = .ref a ∧ y = .ref t ∧ TupAt K H a e ∧ SqL K H t (ps.map V.ref) ∧ Paired (TupAt K H) ps es ∧
  Q (.bl (if neg then !decide (e ∈ es) else decide (e ∈ es))) H
theorem op_inT {X : Cx} (hu : X.A.units + 20 < cLine) : OpR X (compareOp .In) (rInT X.K false) := by
  intro pins s σ H x y v u Q I rx ry h
  obtain ⟨a, t, e, ps, es, rfl, rfl, ha, ht, hp, q⟩ := h
  obtain ⟨as, r1⟩ := Dp.reads I (tD e) (.ref a) v (tup_dp ha) rx
  obtain ⟨bs, r2⟩ := Dp.reads I (.list (es.map tD)) (.ref t) u (.lst ht (tups_dp hp)) ry
  refine SeqAt.in_list_reads r2 r1 (tD_lays es) (tD_lay e) ?_ ⟨.bl _, H, I, rfl, ?_⟩
  · have := tD_depth e
    omega
  · rw [any_tD]; exact q
theorem op_notInT {X : Cx} (hu : X.A.units + 20 < cLine) : OpR X (compareOp .NotIn) (rInT X.K true) := by
  intro pins s σ H x y v u Q I rx ry h
  obtain ⟨a, t, e, ps, es, rfl, rfl, ha, ht, hp, q⟩ := h
  obtain ⟨as, r1⟩ := Dp.reads I (tD e) (.ref a) v (tup_dp ha) rx
  obtain ⟨bs, r2⟩ := Dp.reads I (.list (es.map tD)) (.ref t) u (.lst ht (tups_dp hp)) ry
  refine SeqAt.notIn_list_reads r2 r1 (tD_lays es) (tD_lay e) ?_ ⟨.bl _, H, I, rfl, ?_⟩
  · have := tD_depth e
    omega
  · rw [any_tD]; exact q
end Wc
namespace Wc
open PySem L2
/-! ### tuples joined, cut -/
theorem cat_any {K : PySem.W.Frag} {H : Hp} {a b : Addr} {xs ys : List V} {Q : VK} (ha : SqT K H a xs) (hb : SqT K H b ys) (hz : xs.length + ys.length ≤ 100000) (q : ∀ p H', ExA H H' → SqT K H' p (xs ++ ys) → Q (.ref p) H') : rCatA K (.ref a) (.ref b) H Q := by
  refine ⟨a, b, xs, ys, rfl, rfl, ha, hb, sz hz, fun e => ?_, fun _ e => ?_, fun _ _ p fp => q p _ (ExM.new fp) (SqT.of upd_same)⟩
  · subst e; exact q b H (ExM.refl _ _) hb
  · subst e; exact q a H (ExM.refl _ _) (by rw [List.append_nil]; exact ha)
theorem cut_to {xs : List V} {i : Nat} (h : i ≤ xs.length) : cutV xs none (some (i : Int)) = xs.take i := by
  unfold cutV
  rw [HT.sIx_nat, HT.sIx_none, Nat.min_eq_left h]
  simp
theorem cut_from {xs : List V} {i : Nat} (h : i ≤ xs.length) : cutV xs (some (i : Int)) none = xs.drop i := by
  unfold cutV
  rw [HT.sIx_nat, HT.sIx_none, Nat.min_eq_left h]
  rw [List.take_of_length_le (by rw [List.length_drop]; omega)]
theorem sl_to {K : PySem.W.Frag} {H : Hp} {a : Addr} {xs : List V} {i : Nat} {Q : VK} (ha : SqT K H a xs) (h : i < xs.length) (q : ∀ p H', ExA H H' → SqT K H' p (xs.take i) → Q (.ref p) H') : rSlT K (.ref a) none (some (i : Int)) H Q := by
  refine ⟨a, xs, rfl, ha, fun z => ?_, fun p fp => q p _ (ExM.new fp) (by rw [cut_to (by omega)]; exact SqT.of upd_same)⟩
  have z2 := z.2
  rw [HT.sIx_nat, Nat.min_eq_left (by omega)] at z2
  omega
theorem sl_from {K : PySem.W.Frag} {H : Hp} {a : Addr} {xs : List V} {i : Nat} {Q : VK} (ha : SqT K H a xs) (h0 : 0 < i) (h : i ≤ xs.length) (q : ∀ p H', ExA H H' → SqT K H' p (xs.drop i) → Q (.ref p) H') : rSlT K (.ref a) (some (i : Int)) none H Q := by
  refine ⟨a, xs, rfl, ha, fun z => ?_, fun p fp => q p _ (ExM.new fp) (by rw [cut_from h]; exact SqT.of upd_same)⟩
  have z2 := z.1
  rw [HT.sIx_nat, Nat.min_eq_left h] at z2
  omega
end Wc
/-! for k, .. in enumerate(xs, start=c), xs a tuple -/
namespace Wc
open PySem PySem.Spec PyProof.Rows L2
/-- a tuple at a, each item in a new pair behind its count -/
def IteS (K : PySem.W.Frag) (a : Addr) (c : Int) : It :=
  ⟨fun i H => ∃ (xs : List V) (x : V), SqT K H a xs ∧ xs[i]? = some x, fun i H v H' => ∃ T x, v = .ref T ∧ H T = none ∧ H' = upd H T (.tup [.int (c + ((i : Nat) : Int)), x]) ∧ ∀ xs, SqT K H a xs → xs[i]? = some x, fun i H => ∃ xs : List V, SqT K H a xs ∧ xs.length ≤ i⟩
theorem enumT_end {prog : Program} {w : World} {A : Around} {E : Value → Shared → Prop} {s : Shared} {e it l : Addr} {i : Nat} {c : Int} {items : Array Value} {old : Value} {Q : Option Value → Shared → Prop} (hh : A.handled = none)
    (he : IsEnum s.heap e it c old) (hit : s.heap.IsTupleIter it l i) (hl : s.heap.IsTuple l items) (hx : items[i]? = none)
    (hQ : ∀ h', Heap.ExtBut it s.heap h' → Q none { s with heap := h' }) : wpAny (model prog w) A (pyNext (.ref e)) Q E s := by
  have hT : s.TypeIs (.ref e) "enumerate" := ⟨_, he, rfl⟩
  unfold pyNext
  refine wpAny_bind (wpAny_attempt (wpAny_callSpecial?_slot (name := Str.ofString "__next__") hT F.slot_enumerate_next
    (wpAny_call_entry F.slot_enumerate_next hT F.entry_enumerate_next ?_ (F.args_enumerate_next_1 _))))
  show wpAny _ _ (field (.ref e) 2 >>= _) _ _ _
  refine wpAny_bind (wpAny_field he rfl (x := .ref it) rfl ?_)
  refine wpAny_bind (wpAny_nextOf_tuple_end hh hit hl hx fun h' x he' hx' => ?_)
  obtain ⟨o, ho, hc⟩ := hx'
  refine wpAny_bind (wpAny_isInstance (T := "StopIteration") (b := true) ⟨o, ho, hc⟩ isSubtype_stop ?_)
  exact wpAny_pure (hQ _ he')
theorem turn_enumS {P : Program} {w : World} {K : PySem.W.Frag} {elts : List Expr} {kk : Nat} {tpos : Pos} (a e it : Addr) (c : Int) :
    Turn P w K (.Tuple elts kk tpos) (IteS K a c) [e, it] e (fun i h => (∃ old, IsEnum h e it (c + ((i : Nat) : Int)) old) ∧ h.IsTupleIter it a i ∧ e ≠ it ∧ a ≠ it ∧ e ≠ a) where
  mem := by simp
  obj := fun i h st b hb => by
    obtain ⟨⟨old, he⟩, ⟨o, ho, hc, hd⟩, _⟩ := st
    have e' : b = e ∨ b = it := by simpa using hb
    rcases e' with z | z
    · rw [z]; exact ⟨_, he, fun v q => nomatch q⟩
    · rw [z]; exact ⟨o, ho, fun v q => by rw [hd] at q; cases q⟩
  keep := fun i h h' st k => let ⟨⟨old, he⟩, hi, hne⟩ := st; ⟨⟨old, k e (by simp) _ he⟩, hi.at fun o q => k it (by simp) o q, hne⟩
  item := by
    intro X hP hw hK hc i pins s σ H E I hf st hg
    subst hP hw hK
    obtain ⟨⟨old, he⟩, hit, hne, hai, hea⟩ := st
    obtain ⟨xs, x, hq, hx⟩ := hg
    obtain ⟨its, rv, p, hz⟩ := I.tuple hq
    obtain ⟨u, hu, ru⟩ := rv.get hx
    have hel : e < s.heap.objs.size := Heap.lt_size he
    have hil : it < s.heap.objs.size := by obtain ⟨_, q, _⟩ := hit; exact Heap.lt_size q
    have hlt : i < its.toArray.size := by
      have := (List.getElem?_eq_some_iff.mp hu).1
      simpa using this
    refine wpAny_pyNext_enum_itemC (Draws.tuple (prog := X.prog) (w := X.w) (A := X.A.in1) (I.ok.hd hc) it a hai its.toArray) he ⟨hit, p⟩ hlt hne (by simp [hne, hea]) fun y h' tk hP ho st' hT hsz hk => ?_
    have ey : y = u := by
      have z : its.toArray[i]? = some y := hP
      rw [List.getElem?_toArray, hu] at z
      exact (Option.some.inj z).symm
    subst ey
    refine ⟨_, rfl, wpAny_letOwnedTupleGo_enum (s := { s with heap := h', toks := tk + 1 }) ho fun h'' he' sb => ?_⟩
    have hT2 : h''.get? s.heap.objs.size = some { cls := .type "tuple", data := .seq #[.int (c + ((i : Nat) : Int)) tk, y] } := (sb.2 _ (Nat.ne_of_gt hel)).trans hT
    have new : ObjOk X.prog X.w (upd H s.heap.objs.size (.tup [.int (c + ((i : Nat) : Int)), x])) h'' s.heap.objs.size (.tup [.int (c + ((i : Nat) : Int)), x]) :=
      ⟨by show 2 ≤ sizeLine; decide, [.int (c + ((i : Nat) : Int)) tk, y], .cons ⟨_, rfl⟩ (.cons ru .nil), ⟨_, hT2, rfl, _, rfl⟩⟩
    have I1 : Inv X pins σ (upd H s.heap.objs.size (.tup [.int (c + ((i : Nat) : Int)), x])) { s with heap := h'', toks := tk + 1 } :=
      I.turnedNew (ch := [e, it]) (fun b ob hb q => (sb.2 b (fun z => hb (by simp [z]))).trans (hk b ob (fun z => hb (by simp [z])) (fun z => hb (by simp [z])) q)) hf (Nat.le_refl _) new
    refine ⟨.ref s.heap.objs.size, _, I1, rfl, ⟨_, x, rfl, I.hok.fresh (Nat.le_refl _), rfl, fun ys hy => by rw [I.tuple_inj hy hq]; exact hx⟩, ⟨⟨y, ?_⟩, st'.1.at fun o q => (sb.2 it (Ne.symm hne)).trans q, hne, hai, hea⟩, fun b hb => ?_⟩
    · have e1 : c + ((i + 1 : Nat) : Int) = c + (i : Int) + 1 := by omega
      rw [e1]; exact he'
    · have hb' : b < s.heap.objs.size := by
        have e' : b = e ∨ b = it := by simpa using hb
        rcases e' with z | z
        · rw [z]; exact hel
        · rw [z]; exact hil
      rw [upd_ne (Nat.ne_of_lt hb')]
      exact (hf b hb).1
  done := by
    intro X hP hw hK hc i pins s σ H E I hf st hg
    subst hP hw hK
    obtain ⟨⟨old, he⟩, hit, hne, hai, hea⟩ := st
    obtain ⟨xs, hq, hx⟩ := hg
    obtain ⟨its, rv, p, hz⟩ := I.tuple hq
    obtain ⟨f0, f1, f2, f3, f4, f5⟩ := hf it (by simp)
    have hl := rv.length
    exact enumT_end (I.ok.hd hc) he hit p (by simp; omega) fun h' eb => ⟨rfl, I.turned (t' := s.toks) (fun b o hb q => eb b o hb q) f0 f1 f3 f4 f5⟩
  self := fun A i s Q E st h => let ⟨⟨_, he⟩, _⟩ := st; wpAny_pyIter_enum he h
theorem callWith_typeKw {M : Model} {A : Around} {E : Value → Shared → Prop} {s : Shared} {env : Env} {pos : Pos} {T : String} {e : Expr} {rest : List Expr} {kws : List Keyword} {Q : Value → Shared → Prop}
    (h : wpAny M A (spliced (backTo pos (starEach (e :: rest) env))) (fun vs s₁ => wpAny M A (evalAll ((backToKw pos (keywordEach kws env)).map (·.2)))
      (fun kvs s₂ => wpAny M A (call (.type T) vs (((backToKw pos (keywordEach kws env)).filterMap (·.1)).zip kvs)) Q E s₂) E s₁) E s)
    (he : backTo pos (starEach (e :: rest) env) = (false, eval e env) :: backTo pos (starEach rest env) := by rfl)
    (hplain : (backTo pos (starEach (e :: rest) env)).any (·.1) = false := by rfl)
    (hall : (backToKw pos (keywordEach kws env)).all (·.1.isSome) = true := by rfl)
    (hkw : (backToKw pos (keywordEach kws env)).any (·.1.isNone) = false := by rfl) :
    wpAny M A (callWith pos (.type T) [] (backTo pos (starEach (e :: rest) env)) (backToKw pos (keywordEach kws env))) Q E s := by
  have h2 : wpAny M A (evalArgs (.type T) true (backTo pos (starEach (e :: rest) env)) (backToKw pos (keywordEach kws env))) (fun a s₁ => wpAny M A (call (.type T) ([] ++ a.pos) a.kw) Q E s₁) E s := by
    rw [he] at h ⊢
    exact evalArgs_kwB hall h
  unfold callWith
  refine wpAny_bind (wpAny_holding (wpAny_mono h2 (fun a s₁ h₁ => wpAny_bind (wpAny_standAt ?_)) fun _ _ x => x))
  simp only [hplain, hkw, Bool.or_false]
  refine wpAny_bind (wpAny_pure ?_)
  exact wpAny_bind (wpAny_mono h₁ (fun r s₂ hr => wpAny_bind (wpAny_holding (wpAny_point (wpAny_pure hr)))) fun _ _ x => x)
def iEnumS (K : PySem.W.Frag) (ta tk : TA) : TI := fun σ H R => ta σ H fun vs H1 => tk σ H1 fun zs H2 => ∃ (a : Addr) (xs : List V) (c : Int), vs = [.ref a] ∧ zs = [.int c] ∧ SqT K H2 a xs ∧ -(2 ^ 63) ≤ c ∧ c < 2 ^ 63 ∧ R (IteS K a c) H2
theorem pi_enumS {X : Cx} {e k : Expr} {ta tk : TA} {p kp pos tpos : Pos} {elts : List Expr} {kk : Nat} (hg : Gl X "enumerate") (hm : X.mg "enumerate" = none) (ha : PA X [e] ta) (hk : PK X [⟨some "start", k, kp⟩] tk)
    (hse : backTo pos (starEach [e] X.env) = (false, eval e X.env) :: backTo pos (starEach [] X.env) := by rfl) (hpl : (backTo pos (starEach [e] X.env)).any (·.1) = false := by rfl)
    (hks : (backToKw pos (keywordEach [⟨some "start", k, kp⟩] X.env)).filterMap (·.1) = [("start" : Str)] := by rfl) :
    PI X (.Tuple elts kk tpos) (.Call (.Name "enumerate" p) [e] [⟨some "start", k, kp⟩] pos) (iEnumS X.K ta tk) := by
  refine ⟨fun pins s σ H R I h => ?_⟩
  refine wpAny_Call_Name_kw (ld_blt I hg hm boot_enumerate ?_)
  refine callWith_typeKw (thn (ha.run pos pins s σ H _ I h) fun us s1 ⟨vs, H1, I1, r1, q1⟩ => thn (hk.run pos pins s1 σ H1 _ I1 q1) fun ws s2 ⟨zs, H2, I2, r2, q2⟩ => ?_) hse hpl (by rfl) (by rfl)
  rw [hks]
  obtain ⟨a, xs, c, rfl, rfl, hq, h1, h2, q⟩ := q2
  obtain ⟨u, rfl, ru⟩ := vals1 r1
  obtain ⟨z, rfl, rz⟩ := vals1 r2
  cases ru
  obtain ⟨t, rfl⟩ := rz
  obtain ⟨its, rv, p', hz⟩ := I2.tuple hq
  refine enum_begins_start (begins_tuple a its.toArray) p' h1 h2 fun h' he hit hsz hk' => wpAny_pyIter_enum he ?_
  have I3 : Inv X pins σ H2 { s2 with heap := h' } := I2.kept (t' := s2.toks) hk'
  have hal : a < s2.heap.objs.size := by obtain ⟨o, e, _⟩ := p'; exact Heap.lt_size e
  refine ⟨s2.heap.objs.size + 1, [s2.heap.objs.size + 1, s2.heap.objs.size], _, _, H2, rfl, I3, turn_enumS a (s2.heap.objs.size + 1) s2.heap.objs.size c, ⟨⟨.none, by simpa using he⟩, ⟨_, hit, rfl, rfl⟩, Nat.succ_ne_self _, Nat.ne_of_lt hal, Nat.ne_of_gt (Nat.lt_succ_of_lt hal)⟩, fun b hb => ?_, q⟩
  have e' : b = s2.heap.objs.size + 1 ∨ b = s2.heap.objs.size := by simpa using hb
  have hle : s2.heap.objs.size ≤ b := by
    rcases e' with z | z
    · rw [z]; exact Nat.le_add_right _ _
    · rw [z]; exact Nat.le_refl _
  exact I2.fpOk hle (I2.hok.fresh hle)
def YEnS (xs : List V) (c : Int) : Nat → Hp → V → Hp → Prop := fun i H v H' => ∃ T x, v = .ref T ∧ H T = none ∧ H' = upd H T (.tup [.int (c + ((i : Nat) : Int)), x]) ∧ xs[i]? = some x
theorem walk_enumS {K : PySem.W.Frag} {a : Addr} {c : Int} {xs : List V} : Walk (IteS K a c) xs.length (fun H => SqT K H a xs) (YEnS xs c) :=
  ⟨fun i _ hi q => ⟨xs, xs[i], q, by simp [hi]⟩, fun _ q => ⟨xs, q, Nat.le_refl _⟩, fun _ _ _ _ _ q y => let ⟨T, x, h1, h2, h3, h4⟩ := y; ⟨T, x, h1, h2, h3, h4 xs q⟩⟩
end Wc
/-! for k, .. in enumerate(xs), xs a tuple; d.get(None). -/
namespace PySem
open Sem (wp)
set_option maxHeartbeats 1000000 in
theorem meets_enumerate_new0 {v : Value} {o : Obj} {H : Heap → Prop} (B : Begins v o H) :
    Meets (Builtin.«enumerate.__new__» ⟨[.type "enumerate", v], []⟩) (fun _ R s => H s.heap ∧
      R (.ok (.ret (.ref (s.heap.push o).objs.size))) { s with heap := (s.heap.push o).push { cls := .type "enumerate", data := .fields #[.none, .bool false, .ref s.heap.objs.size, rawInt 0, .none, .none] } }) :=
  .of_wp fun prog w A R s h => by
    obtain ⟨hp, g, d, tk, os⟩ := s; obtain ⟨h1, h⟩ := h
    have hsub := sub_enumerate
    have q1 : ∀ {A' : Around} {E : Value → Shared → Prop} {Q : Value → Shared → Prop}, Q (.ref hp.objs.size) ⟨hp.push o, g, d, tk, os⟩ → wpAny (model prog w) A' (pyIter v) Q E ⟨hp, g, d, tk, os⟩ :=
      fun q => B.iter prog w _ _ ⟨hp, g, d, tk, os⟩ _ h1 q
    wp_walk using q1
    refine wpAny_stack_any fun st => wpAny_pure ?_
    split
    · rename_i c _ _ _ _ _
      cases (c == Value.type "enumerate")
      · wp_walk using q1
        exact ⟨_, rfl, h⟩
      · wp_walk using q1
        exact ⟨_, rfl, h⟩
    · wp_walk using q1
      exact ⟨_, rfl, h⟩
section
variable {prog : Program} {w : World} {A : Around} {E : Value → Shared → Prop} {s : Shared}
theorem enum_begins0 {v : Value} {o : Obj} {H : Heap → Prop} {Q : Value → Shared → Prop} (B : Begins v o H) (h1 : H s.heap)
    (h : ∀ h', IsEnum h' (s.heap.objs.size + 1) s.heap.objs.size 0 .none → h'.get? s.heap.objs.size = some o → h'.objs.size = s.heap.objs.size + 2 →
      (∀ b o, s.heap.get? b = some o → h'.get? b = some o) → Q (.ref (s.heap.objs.size + 1)) { s with heap := h' }) :
    wpAny (model prog w) A (call (.type "enumerate") [v]) Q E s := by
  refine callType_new F.called_enumerate (by decide) (F.typeCall_enumerate_1 _) (F.newCall_enumerate_1 _) (fun obj => F.args_object_init_2 obj _) F.entry_enumerate_new
    (meets_enumerate_new0 B) ⟨h1, ?_⟩
  have hz : (s.heap.push o).objs.size = s.heap.objs.size + 1 := Heap.size_push ..
  show _ ∧ _
  rw [hz]
  have he : IsEnum ((s.heap.push o).push { cls := .type "enumerate", data := .fields #[.none, .bool false, .ref s.heap.objs.size, rawInt 0, .none, .none] }) (s.heap.objs.size + 1) s.heap.objs.size 0 .none := by
    have := Heap.get?_push_size (s.heap.push o) (o := { cls := .type "enumerate", data := .fields #[.none, .bool false, .ref s.heap.objs.size, rawInt 0, .none, .none] }) rfl
    rw [hz] at this; exact this
  refine ⟨⟨_, he, rfl⟩, h _ he (Heap.get?_push_of_some _ (Heap.get?_push_size _ B.free)) (by rw [Heap.size_push, hz]) fun b o x => Heap.get?_push_of_some _ (Heap.get?_push_of_some _ x)⟩
end
end PySem
namespace Wc
open PySem PySem.Spec PyProof.Rows L2
def iEnumT (K : PySem.W.Frag) (ta : TA) : TI := fun σ H R => ta σ H fun vs H1 => ∃ (a : Addr) (xs : List V), vs = [.ref a] ∧ SqT K H1 a xs ∧ R (IteS K a 0) H1
theorem pi_enumT {X : Cx} {e : Expr} {ta : TA} {p pos tpos : Pos} {elts : List Expr} {kk : Nat} (hg : Gl X "enumerate") (hm : X.mg "enumerate" = none) (ha : PA X [e] ta) (hs : starEach [e] X.env = [(false, eval e X.env)] := by rfl) :
    PI X (.Tuple elts kk tpos) (.Call (.Name "enumerate" p) [e] [] pos) (iEnumT X.K ta) := by
  refine ⟨fun pins s σ H R I h => ?_⟩
  refine Call_ (ld_blt I hg hm boot_enumerate (PyProof.Rows.callWith_type1 (thn (ha.run pos pins s σ H _ I h) fun us s2 ⟨vs, H2, I2, r1, q1⟩ => ?_) hs rfl))
  obtain ⟨a, xs, rfl, hq, q⟩ := q1
  obtain ⟨u, rfl, ru⟩ := vals1 r1
  cases ru
  obtain ⟨its, rv, p', hz⟩ := I2.tuple hq
  refine enum_begins0 (begins_tuple a its.toArray) p' fun h' he hit hsz hk' => wpAny_pyIter_enum he ?_
  have I3 : Inv X pins σ H2 { s2 with heap := h' } := I2.kept (t' := s2.toks) hk'
  have hal : a < s2.heap.objs.size := by obtain ⟨o, e, _⟩ := p'; exact Heap.lt_size e
  refine ⟨s2.heap.objs.size + 1, [s2.heap.objs.size + 1, s2.heap.objs.size], _, _, H2, rfl, I3, turn_enumS a (s2.heap.objs.size + 1) s2.heap.objs.size 0, ⟨⟨.none, by simpa using he⟩, ⟨_, hit, rfl, rfl⟩, Nat.succ_ne_self _, Nat.ne_of_lt hal, Nat.ne_of_gt (Nat.lt_succ_of_lt hal)⟩, fun b hb => ?_, q⟩
  have e' : b = s2.heap.objs.size + 1 ∨ b = s2.heap.objs.size := by simpa using hb
  have hle : s2.heap.objs.size ≤ b := by
    rcases e' with z | z
    · rw [z]; exact Nat.le_add_right _ _
    · rw [z]; exact Nat.le_refl _
  exact I2.fpOk hle (I2.hok.fresh hle)
/-- d.get(y), y None or a key -/
def tDGetN (td ty : TE) : TE := fun σ H Q => td σ H fun x H1 => ∃ a, x = .ref a ∧ IsD H1 a ∧ ty σ H1 fun y H2 => (∃ o, DGet H2 a y o ∧ Q (o.getD .non) H2) ∨ (∃ kvs, y = .non ∧ H2 a = some (.dK kvs) ∧ Q .non H2)
theorem pe_dgetN {X : Cx} {o e : Expr} {apos cpos : Pos} {td ty : TE} (hu : X.A.units + 1 < cLine) (ho : PE X o td) (he : PE X e ty) (m : M1 X o "get" apos e cpos) : PE X (.Call (.Attribute o "get" apos) [e] [] cpos) (tDGetN td ty) := by
  refine ⟨fun pins s σ H Q I h => ?_⟩
  refine wpAny_Call_method m.base m.few m.line PySem.F.plainAttrs_dict PySem.F.slot_dict_get PySem.F.type_dict_get (thn (ho.run pins s σ H _ I h) fun u s1 ⟨x, H1, I1, rx, a, ex, d, q1⟩ => ?_)
  subst ex
  obtain rfl : u = Value.ref a := rx
  obtain ⟨t1, t2, _⟩ := isD_at I1 d
  refine ⟨t1, t2, ?_⟩
  rw [m.trees]
  refine Calls.callWith_builtin rfl (Calls.evalArgs_plain (Calls.spliced_cons (thn (he.run pins s1 σ H1 _ I1 q1) fun iv s2 ⟨y, H2, I2, ry, q2⟩ => Calls.spliced_nil ?_)))
  rcases q2 with ⟨ov, g, q2⟩ | ⟨kvs, rfl, hk, q2⟩
  · exact d_get1 hu I2 g ry fun w' s3 I3 rw' => ⟨_, H2, I3, rw', q2⟩
  · cases ry
    obtain ⟨z, hd, vs, rel, dd⟩ := dk_rd I2.hok (.inl hk)
    obtain ⟨f, mo, fn⟩ := none_map dd
    refine call_meetsIn PySem.F.slot_dict_get dd.typeIs PySem.F.entry_dict_get (PySem.F.args_dict_get_2 _ _) (meets_dict_get (noneKind X.prog X.w) (k := none) a rfl hd) ⟨f, mo, ?_⟩
    rw [fn]
    exact ⟨.non, H2, I2.tok _, rfl, q2⟩
end Wc
/-! The law's def where it is called: nothing is being shown there (repr). -/
namespace L2
open PySem PySem.Spec PyProof.Rows
/-- a promise of a def that is called by the row itself -/
def FnAt (P : Program) (w : World) (K : PySem.W.Frag) (mg : Str → Option Value) (base : Heap) (CX : CXT) (f : Addr) (fd : FuncData) (ps : List Str) (sp : Sp) : Prop :=
  ∀ (s : Shared) (H : Hp) (args : Args) (us : List Value) (vs : List V) (Q : VK) (E : XK), Env0 P w K mg base callerA [] s H → BindsTo s fd args (ps.zip us) → Vals vs us → sp vs H Q E →
    codeAny (model P w) callerA (.call (.ref f) args) (CR CX [] P w H s Q E) s
section
variable {CX : CXT} {P : Program} {w : World} {K : PySem.W.Frag} {mg : Str → Option Value} {base : Heap} {k : Nat} {f : Addr}
theorem fnAt_of {name qual : Str} {params : Arguments} {body : List Stmt} {sco : Scope} {dV kV doc pm cd ct oc : Value} {an od : Option Addr} {osl : Array (Option Value)} {N ps : List Str} {sp : Sp}
    (lk : K.lookup f = some ⟨oc, od, .func (PySem.W.fnOf name qual params body sco dV kV doc pm an cd ct), osl⟩) (hcd : PySem.W.codeIn K cd qual = true) (S : FnScope N ps sco) (len : ∀ vs H Q E, sp vs H Q E → vs.length = ps.length) (hr : Room (k + 1) callerA)
    (hbody : ∀ (s : Shared) (H : Hp) (vs : List V) (Q : VK) (E : XK), Room k (callerA.deeper (envOfC qual sco s.heap.objs.size f cd)) → sp vs H Q E →
      ∃ t, PSs (cxOf CX P w K mg base N qual sco f cd callerA [] s H E) body t ∧ t { nx := fun _ H' => Q .non H', rt := Q } (start N vs) H) :
    FnAt P w K mg base CX f (PySem.W.fnOf name qual params body sco dV kV doc pm an cd ct) ps sp := fun s H args us vs Q E e0 hb r hsp => by
  have kin : K.In s.heap := e0.mod.kin.keeps fun b o e => (e0.bs b o e).1
  have nol : s.heap.NoLimit := e0.mod.nolimit.keeps fun b o e => (e0.bs b o e).1
  have par : ∀ y ∈ ps.zip us, sco.names.lookup y.1 = some .local ∨ (sco.names.lookup y.1 = some .cell ∧ ((cellsFrom (s.heap.objs.size + 1) sco.names []).lookup y.1).isSome = true) := fun ⟨n, v⟩ hy =>
    (S.par n (List.of_mem_zip hy).1).elim .inl fun q => .inr ⟨q, PySem.W.cellsFrom_some _ _ _ (.inl q)⟩
  refine codeAny_call_function hr.depth (kin _ _ lk) rfl S.co S.gen rfl (PySem.W.codeRec_of kin hcd) (hb _ _ _ _ (wpAny_newFunctionEnv_cells S.kind par fun env he s1 x => ?_)); subst he
  obtain ⟨t, ht, hq⟩ := hbody s H vs Q E (hr.deeper _) hsp
  refine ⟨nol.keeps x.toInCall.keep, codeAny_func (wpAny_mono (ht.run [] s1 (start N vs) H _ (inv_start S hr.hd e0 (len _ _ _ _ hsp) r x) hq) (fun fl s' hs => ?_) fun e s' hs => hs)⟩
  have fin : ∀ {σ' : St} {H' : Hp} {v : V} {u : Value}, Inv (cxOf CX P w K mg base N qual sco f cd callerA [] s H E) [] σ' H' s' → RelV v u → Q v H' → CE [] P w H s Q u s' := fun {σ' H' v u} J rv q => ⟨v, H', J.os, J.bare, J.base, J.hok, rv, q⟩
  cases fl with
  | ret u => exact let ⟨v, σ', H', J, rv, q⟩ := hs; fin J rv q
  | next => exact let ⟨σ', H', J, q⟩ := hs; fin (v := V.non) (u := Value.none) J rfl q
  | brk => exact let ⟨_, _, _, q⟩ := hs; False.elim q
  | cont => exact let ⟨_, _, _, q⟩ := hs; False.elim q
theorem callG {mb : Str → Option Value} {fa a : Addr} {fd : FuncData} {x : Str} {sp : Sp} {s₁ : Shared} {vs : List Value} {ns : List Int} (KX : K.In s₁.heap) (hns : s₁.heap.Ns mainGlobals mg) (hb : s₁.heap.Ns builtinsNs mb)
    (hbb : ∀ x : Str, x ≠ "__name__" → mb x = bootBuiltins x) (hlim : s₁.heap.NoLimit) (hg : s₁.gens = #[]) (ha : s₁.heap.get? a = some { cls := .type "list", data := .seq vs.toArray }) (hi : IntsAre vs ns) (hl : ns.length ≤ sizeLine)
    (F : ∀ base : Heap, K.In base → base.Ns mainGlobals mg → FnAt P w K mg base CX fa fd [x] sp) (hbind : ∀ (s : Shared) (u : Value), BindsTo s fd ⟨[u], []⟩ [(x, u)])
    (hsp : ∀ H : Hp, Only H → SqL K H a (ns.map V.int) → sp [.ref a] H (fun v _ => v = .bl true) fun _ _ _ => False) (hCX : ∀ H e s', CX [] H s₁ (fun _ _ _ => False) e s' → False) :
    codeAny (model P w) callerA (.call (.ref fa) ⟨[.ref a], []⟩) (fun r s' => r = .ok (.ret (.bool true)) ∧ OldK s₁.heap s'.heap ∧ s'.os = s₁.os ∧ AllBare s'.gens) s₁ := by
  have main : ∀ H : Hp, Only H → SqL K H a (ns.map V.int) → HOk P w H s₁.heap → (∀ b, H b ≠ none → b = a) → (H a ≠ none → K.lookup a = none) →
      codeAny (model P w) callerA (.call (.ref fa) ⟨[.ref a], []⟩) (fun r s' => r = .ok (.ret (.bool true)) ∧ OldK s₁.heap s'.heap ∧ s'.os = s₁.os ∧ AllBare s'.gens) s₁ := fun H hO hS hok hA hK => by
    have free : ∀ {b : Addr}, (b = a → False) → H b = none := fun {b} n => by
      cases q : H b with
      | none => rfl
      | some u => exact (n (hA b (by rw [q]; simp))).elim
    have dic : ∀ {b : Addr} {o : Obj} {es : Array DictEntry} {ep : Nat}, s₁.heap.get? b = some o → o.data = .dict es ep → H b = none := fun {b o es ep} e d => free fun z => by
      subst z; rw [ha] at e; cases e; cases (show Data.seq vs.toArray _ = Data.dict es ep from d)
    have nsH : ∀ {b : Addr} {m : Str → Option Value}, s₁.heap.Ns b m → (hidT s₁.heap H).Ns b m := fun {b m} ⟨o, es, ep, e, d, r⟩ => ⟨o, es, ep, hidT_get e (dic e d), d, r⟩
    have inH : K.In (hidT s₁.heap H) := fun b o e => hidT_get (KX b o e) (by
      cases q : H b with
      | none => rfl
      | some u =>
        have z := hA b (by rw [q]; simp)
        subst z; rw [hK (by rw [q]; simp)] at e; cases e)
    have md : Mod K mg (hidT s₁.heap H) := ⟨inH, nsH hns, ⟨mb, nsH hb, hbb⟩, let ⟨mc, h1, h2⟩ := hlim; ⟨mc, nsH h1, h2⟩⟩
    have e0 : Env0 P w K mg (hidT s₁.heap H) callerA [] s₁ H := ⟨rfl, md, fun b o e => of_hidT e, Nat.le_of_eq (hidT_size _ _), trivial, (fun b z => nomatch (show b ∈ ([] : List Addr) from z)), hok, .of_eq hg⟩
    refine codeAny_mono (F _ inH (nsH hns) s₁ H ⟨[.ref a], []⟩ [.ref a] [.ref a] _ _ e0 (hbind s₁ (.ref a)) (.cons rfl .nil) (hsp H hO hS)) fun r s' h => ?_
    match r, h with
    | .error e, h => exact (hCX H e s' h).elim
    | .ok (.ret u), h =>
      obtain ⟨v, H', os, bare, un, hok', rv, rfl⟩ := h
      obtain rfl : u = Value.bool true := rv
      refine ⟨rfl, OldK.of_keep fun b o e => ?_, os, bare⟩
      cases q : H b with
      | none => exact un.keep b o e q (fun z => nomatch (show b ∈ ([] : List Addr) from z)) (by simp)
      | some u =>
        rcases hO b with z | ⟨ob, xs, z⟩
        · rw [q] at z; cases z
        · obtain ⟨y1, _⟩ := hok b _ z; obtain ⟨y2, _⟩ := hok' b _ (un.frzs b ob _ z)
          rw [e] at y1; cases y1; exact y2
  cases hk : K.lookup a with
  | some o =>
    have e := KX a o hk
    rw [ha] at e; cases e
    exact main (fun _ => none) (fun _ => .inl rfl) (.inr ⟨_, vs.toArray, _, hk, rfl, rfl, rfl, by rw [List.size_toArray, hi.length]; exact hl, by simpa using vals_ints hi⟩) (fun b u z => nomatch (show (none : Option HO) = some u from z)) (fun b z => absurd rfl z) fun z => absurd rfl z
  | none =>
    have at_ : ∀ b, (fun b => if b = a then some (HO.frz { cls := .type "list", data := .seq vs.toArray } (.lst (ns.map V.int))) else none) b = none ∨ b = a := fun b => if c : b = a then .inr c else .inl (if_neg c)
    refine main (fun b => if b = a then some (.frz { cls := .type "list", data := .seq vs.toArray } (.lst (ns.map V.int))) else none) (fun b => (at_ b).elim .inl fun c => .inr ⟨_, _, if_pos c⟩) (.inl (.inr ⟨_, if_pos rfl⟩)) (fun b u z => ?_) (fun b z => (at_ b).elim (fun y => absurd y z) id) fun _ => hk
    rcases at_ b with y | c
    · rw [y] at z; cases z
    · subst c
      cases (if_pos rfl).symm.trans z
      exact ⟨ha, by rw [List.length_map]; exact hl, vs, _, vals_ints hi, ha⟩
end
theorem walkG {l : PySem.W.OpenLaw} {n : Nat} {q : Program} {loose : List Str} {XP : (Str → Option Value) → Heap → Prop} {YP : World → Heap → Prop} {d : DefRec} {K : Params → PySem.W.Frag} {CX : CXT} {sp : PySem.W.Frag → Sp} {x : Str} (hn : l.most = some n) (hn2 : n ≤ sizeLine)
    (hdf : d.params.defaults = []) (hY : ∀ (w : World) (h : Heap), YP w h → (K w.params).In h)
    (F : ∀ (w : World) (mg : Str → Option Value) (fa : Addr) (h : Heap), (K w.params).In h → h.Ns mainGlobals mg → mg d.name = some (.ref fa) →
      ∃ fd : FuncData, (∀ (s : Shared) (u : Value), BindsTo s fd ⟨[u], []⟩ [(x, u)]) ∧ ∀ base : Heap, (K w.params).In base → base.Ns mainGlobals mg → FnAt l.prog w (K w.params) mg base CX fa fd [x] (sp (K w.params)))
    (hsp : ∀ (K : PySem.W.Frag) (H : Hp) (a : Addr) (ns : List Int), ns.length ≤ n → Only H → SqL K H a (ns.map V.int) → sp K [.ref a] H (fun v _ => v = .bl true) fun _ _ _ => False)
    (hCX : ∀ (H : Hp) (s : Shared) (e : Value) (s' : Shared), CX [] H s (fun _ _ _ => False) e s' → False) : PySem.W.WalkO q loose XP YP l.row.toRowW d [] (fun f vs => PySem.call f vs) := by
  refine Att.attach_call hn hdf fun w s₀ s₁ mg mb fa o pm cd doc a vs ns G Y ho hd hcd hmg hobj hints hlen hg => ?_
  obtain ⟨fd, hb, hF⟩ := F w mg fa _ (hY w _ Y) G.T.g hmg
  exact callG (hY w _ Y) G.T.g G.T.b G.T.builtins G.T.nolimit hg hobj hints (Nat.le_trans hlen hn2) hF hb (fun H hO hS => hsp _ H a ns hlen hO hS) fun H e s' => hCX H s₁ e s'
/-- repr of data, where nothing is being shown -/
def rRepr (X : Cx) : List V → Hp → VK → Prop := fun xs H Q => ∃ (a : Addr) (d : PyData), xs = [.ref a] ∧ Dp X.K H (.ref a) d ∧ d.showable = true ∧ d.hasDict = false ∧ d.shown.length ≤ sizeLine ∧ X.A.units + (d.depth + 1) < cLine ∧ Q (.str d.shown) H
theorem call_repr {X : Cx} (hg : X.A.guards = some []) : CallR X (.builtin "repr") (rRepr X) := by
  intro pins s σ H xs us Q I r h
  obtain ⟨a, d, rfl, hd, h1, h2, h3, h4, q⟩ := h
  rw [Vals.ref1 r]
  obtain ⟨as, rd⟩ := Dp.reads I d (.ref a) (.ref a) hd rfl
  exact repr_of_reads' rd h1 (PyData.noDict_hsm h2) hg h4 (fun _ _ e => e) (fun h' u tk hk => ⟨.str d.shown, H, I.kept (t' := tk) hk, ⟨u, rfl⟩, q⟩) h3
end L2
namespace Wc
open PySem L2
/-- a def where it stands, called by the row itself -/
structure DfG (K : PySem.W.Frag) (x : Str) (st : Stmt) (f : Addr) (fd : FuncData) (cd : Value) : Prop where
  ok : ∀ {P : Program} {w : World} {mg : Str → Option Value} {base : PySem.Heap} {N ps : List Str} {k : Nat} {sp : Sp}, Room (k + 1) callerA → FnScope N ps (defScope st) → (∀ vs H Q E, sp vs H Q E → vs.length = ps.length) →
    (∀ (s : Shared) (H : Hp) (vs : List V) (Q : VK) (E : XK), Room k (callerA.deeper (PyProof.Rows.envOfC x (defScope st) s.heap.objs.size f cd)) → sp vs H Q E →
      ∃ t, PSs (cxOf CX0 P w K mg base N x (defScope st) f cd callerA [] s H E).nox (defBody st) t ∧ t { nx := fun _ H' => Q .non H', rt := Q } (start N vs) H) → FnAt P w K mg base CX0 f fd ps sp
theorem DfG.of {K : PySem.W.Frag} {x : Str} {st : Stmt} {f : Addr} {oc : Value} {od an : Option Addr} {dV kV doc pm cd ct : Value} {osl : Array (Option Value)}
    (lk : K.lookup f = some ⟨oc, od, .func (PySem.W.fnOf x x (defArgs st) (defBody st) (defScope st) dV kV doc pm an cd ct), osl⟩) (hcd : PySem.W.codeIn K cd x = true) : DfG K x st f (PySem.W.fnOf x x (defArgs st) (defBody st) (defScope st) dV kV doc pm an cd ct) cd :=
  ⟨fun hr S len hb => fnAt_of lk hcd S len hr fun s H vs Q E r h => let ⟨t, h1, q⟩ := hb s H vs Q E r h; ⟨t, h1.nox, q⟩⟩
end Wc
namespace Wc
open PySem L2
def topS (i : Nat) : Stmt := PySem.Challenge.pw_weakcourt_k24_canonical_heaps.main.body.getD i (.Pass ⟨0, 0, 0, 0⟩)
abbrev s_registers_of : Stmt := topS 1
abbrev N_registers_of : List Str := ["heap"]
theorem sc_registers_of : FnScope N_registers_of ["heap"] (defScope s_registers_of) := ⟨rfl, rfl, rfl, by decide +kernel, rfl, by decide +kernel, by decide +kernel⟩
abbrev s_kept_of : Stmt := topS 2
abbrev N_kept_of : List Str := ["heap"]
theorem sc_kept_of : FnScope N_kept_of ["heap"] (defScope s_kept_of) := ⟨rfl, rfl, rfl, by decide +kernel, rfl, by decide +kernel, by decide +kernel⟩
abbrev s_objects_of : Stmt := topS 3
abbrev N_objects_of : List Str := ["heap"]
theorem sc_objects_of : FnScope N_objects_of ["heap"] (defScope s_objects_of) := ⟨rfl, rfl, rfl, by decide +kernel, rfl, by decide +kernel, by decide +kernel⟩
abbrev s_watches_of : Stmt := topS 4
abbrev N_watches_of : List Str := ["heap"]
theorem sc_watches_of : FnScope N_watches_of ["heap"] (defScope s_watches_of) := ⟨rfl, rfl, rfl, by decide +kernel, rfl, by decide +kernel, by decide +kernel⟩
abbrev s_by_number : Stmt := topS 5
abbrev N_by_number : List Str := ["heap", "thing"]
theorem sc_by_number : FnScope N_by_number ["heap"] (defScope s_by_number) := ⟨rfl, rfl, rfl, by decide +kernel, rfl, by decide +kernel, by decide +kernel⟩
abbrev s_objects_among : Stmt := topS 6
abbrev N_objects_among : List Str := ["references", "number"]
theorem sc_objects_among : FnScope N_objects_among ["references"] (defScope s_objects_among) := ⟨rfl, rfl, rfl, by decide +kernel, rfl, by decide +kernel, by decide +kernel⟩
abbrev s_marking : Stmt := topS 8
abbrev N_marking : List Str := ["heap", "things", "order", "number", "scanned", "found"]
theorem sc_marking : FnScope N_marking ["heap"] (defScope s_marking) := ⟨rfl, rfl, rfl, by decide +kernel, rfl, by decide +kernel, by decide +kernel⟩
abbrev s_found_by_scanning : Stmt := topS 9
abbrev N_found_by_scanning : List Str := ["things", "number", "scanned", "thing", "found", "table", "other", "key", "value"]
theorem sc_found_by_scanning : FnScope N_found_by_scanning ["things", "number", "scanned"] (defScope s_found_by_scanning) := ⟨rfl, rfl, rfl, by decide +kernel, rfl, by decide +kernel, by decide +kernel⟩
abbrev s_canonical : Stmt := topS 10
abbrev N_canonical : List Str := ["heap", "things", "order", "places", "place", "number", "registers", "held", "kept", "objects", "watches", "token"]
theorem sc_canonical : FnScope N_canonical ["heap"] (defScope s_canonical) := ⟨rfl, rfl, rfl, by decide +kernel, rfl, by decide +kernel, by decide +kernel⟩
abbrev s_renumbered : Stmt := topS 11
abbrev N_renumbered : List Str := ["thing", "places", "kind", "number", "inside", "held", "entries", "key", "value"]
theorem sc_renumbered : FnScope N_renumbered ["thing", "places"] (defScope s_renumbered) := ⟨rfl, rfl, rfl, by decide +kernel, rfl, by decide +kernel, by decide +kernel⟩
abbrev s__law_of : Stmt := topS 13
abbrev N__law_of : List Str := ["heap", "number", "row"]
theorem sc__law_of : FnScope N__law_of ["heap", "number"] (defScope s__law_of) := ⟨rfl, rfl, rfl, by decide +kernel, rfl, by decide +kernel, by decide +kernel⟩
abbrev s__law_cell : Stmt := topS 14
abbrev N__law_cell : List Str := ["script", "k"]
theorem sc__law_cell : FnScope N__law_cell ["script", "k"] (defScope s__law_cell) := ⟨rfl, rfl, rfl, by decide +kernel, rfl, by decide +kernel, by decide +kernel⟩
abbrev s__law_digits : Stmt := topS 15
abbrev N__law_digits : List Str := ["script", "first", "last", "digits", "k", "cell", "turn", "seed"]
theorem sc__law_digits : FnScope N__law_digits ["script", "first", "last"] (defScope s__law_digits) := ⟨rfl, rfl, rfl, by decide +kernel, rfl, by decide +kernel, by decide +kernel⟩
abbrev s__law_box : Stmt := topS 16
abbrev N__law_box : List Str := ["script", "first", "last"]
theorem sc__law_box : FnScope N__law_box ["script", "first", "last"] (defScope s__law_box) := ⟨rfl, rfl, rfl, by decide +kernel, rfl, by decide +kernel, by decide +kernel⟩
abbrev s__law_draw : Stmt := topS 17
abbrev N__law_draw : List Str := ["box", "many", "at"]
theorem sc__law_draw : FnScope N__law_draw ["box", "many"] (defScope s__law_draw) := ⟨rfl, rfl, rfl, by decide +kernel, rfl, by decide +kernel, by decide +kernel⟩
abbrev s__law_number : Stmt := topS 18
abbrev N__law_number : List Str := ["box", "numbers"]
theorem sc__law_number : FnScope N__law_number ["box", "numbers"] (defScope s__law_number) := ⟨rfl, rfl, rfl, by decide +kernel, rfl, by decide +kernel, by decide +kernel⟩
abbrev s__law_object : Stmt := topS 19
abbrev N__law_object : List Str := ["box", "number", "numbers", "kind", "k", "entries", "key", "value", "entry"]
theorem sc__law_object : FnScope N__law_object ["box", "number", "numbers"] (defScope s__law_object) := ⟨rfl, rfl, rfl, by decide +kernel, rfl, by decide +kernel, by decide +kernel⟩
abbrev s__law_heap : Stmt := topS 20
abbrev N__law_heap : List Str := ["box", "most", "many", "numbers", "at", "k", "objects", "number", "registers", "kept", "watches"]
theorem sc__law_heap : FnScope N__law_heap ["box", "most"] (defScope s__law_heap) := ⟨rfl, rfl, rfl, by decide +kernel, rfl, by decide +kernel, by decide +kernel⟩
abbrev s__law_same : Stmt := topS 21
abbrev N__law_same : List Str := ["actual", "expected", "k"]
theorem sc__law_same : FnScope N__law_same ["actual", "expected"] (defScope s__law_same) := ⟨rfl, rfl, rfl, by decide +kernel, rfl, by decide +kernel, by decide +kernel⟩
abbrev s__law_marked : Stmt := topS 22
abbrev N__law_marked : List Str := ["heap", "order", "number", "at", "turn", "row", "more", "table", "entry"]
theorem sc__law_marked : FnScope N__law_marked ["heap"] (defScope s__law_marked) := ⟨rfl, rfl, rfl, by decide +kernel, rfl, by decide +kernel, by decide +kernel⟩
abbrev s__law_place : Stmt := topS 23
abbrev N__law_place : List Str := ["order", "number"]
theorem sc__law_place : FnScope N__law_place ["order", "number"] (defScope s__law_place) := ⟨rfl, rfl, rfl, by decide +kernel, rfl, by decide +kernel, by decide +kernel⟩
abbrev s__law_canonical : Stmt := topS 24
abbrev N__law_canonical : List Str := ["heap", "order", "objects", "k", "row", "number", "entries", "entry", "registers", "kept", "watches", "watch"]
theorem sc__law_canonical : FnScope N__law_canonical ["heap", "order"] (defScope s__law_canonical) := ⟨rfl, rfl, rfl, by decide +kernel, rfl, by decide +kernel, by decide +kernel⟩
abbrev s__law_numbers : Stmt := topS 25
abbrev N__law_numbers : List Str := ["heap", "row"]
theorem sc__law_numbers : FnScope N__law_numbers ["heap"] (defScope s__law_numbers) := ⟨rfl, rfl, rfl, by decide +kernel, rfl, by decide +kernel, by decide +kernel⟩
abbrev s__law_watched : Stmt := topS 26
abbrev N__law_watched : List Str := ["box", "heap", "numbers", "watches", "k"]
theorem sc__law_watched : FnScope N__law_watched ["box", "heap"] (defScope s__law_watched) := ⟨rfl, rfl, rfl, by decide +kernel, rfl, by decide +kernel, by decide +kernel⟩
abbrev s_law : Stmt := topS 27
abbrev N_law : List Str := ["script", "box", "heap", "order", "due"]
theorem sc_law : FnScope N_law ["script"] (defScope s_law) := ⟨rfl, rfl, rfl, by decide +kernel, rfl, by decide +kernel, by decide +kernel⟩
structure Txt (mg : Str → Option Value) : Prop where
  bool : mg "bool" = none
  enumerate : mg "enumerate" = none
  int : mg "int" = none
  isinstance : mg "isinstance" = none
  len : mg "len" = none
  list : mg "list" = none
  range : mg "range" = none
  sorted : mg "sorted" = none
  str : mg "str" = none
  tuple : mg "tuple" = none
/-! ### dicts with number keys -/
def dictOf (os : List Addr) (obs : List Ob) : List (Key × V) := List.zipWith (fun a o => ((Sum.inl o.num : Key), V.ref a)) os obs
theorem key_has {kvs : List (Key × V)} {ks : List Int} (h : kvs.map (·.1) = ks.map Sum.inl) (n : Int) : (valV kvs (Sum.inl n)).isSome = decide (n ∈ ks) := by
  rw [← valV_any]
  induction kvs generalizing ks with
  | nil =>
    cases ks with
    | nil => rfl
    | cons k r => simp at h
  | cons p r ih =>
    cases ks with
    | nil => simp at h
    | cons k t =>
      simp only [List.map_cons, List.cons.injEq] at h
      rw [List.any_cons, ih h.2, h.1]
      by_cases e : k = n
      · subst e; simp
      · have e2 : ¬ ((Sum.inl k : Key) = Sum.inl n) := fun z => e (Sum.inl.inj z)
        have e3 : ¬ n = k := fun z => e z.symm
        simp [e2, e3]
theorem dictOf_keys : ∀ {os : List Addr} {obs : List Ob}, os.length = obs.length → (dictOf os obs).map (·.1) = (obs.map Ob.num).map Sum.inl
  | [], [], _ => rfl
  | [], _ :: _, h => by simp at h
  | _ :: _, [], h => by simp at h
  | a :: os, o :: obs, h => by
    show (Sum.inl o.num : Key) :: (dictOf os obs).map (·.1) = _
    rw [dictOf_keys (by simpa using h)]
    rfl
theorem dictOf_len {os : List Addr} {obs : List Ob} (h : os.length = obs.length) : (dictOf os obs).length = obs.length := by
  unfold dictOf; rw [List.length_zipWith, h, Nat.min_self]
theorem dictOf_at {os : List Addr} {obs : List Ob} {i : Nat} {a : Addr} {o : Ob} (h1 : os[i]? = some a) (h2 : obs[i]? = some o) : (dictOf os obs)[i]? = some (Sum.inl o.num, .ref a) := by
  unfold dictOf; rw [List.getElem?_zipWith, h1, h2]
/-- looked up by its number -/
theorem dictOf_get {K : PySem.W.Frag} {H : Hp} : ∀ {os : List Addr} {obs : List Ob} {n : Int}, Paired (ObAt K H) os obs → n ∈ obs.map Ob.num →
    ∃ a o, valV (dictOf os obs) (Sum.inl n) = some (.ref a) ∧ o ∈ obs ∧ o.num = n ∧ ObAt K H a o
  | _, _, n, .nil, h => by simp at h
  | a :: os, o :: obs, n, .cons r t, h => by
    by_cases e : o.num = n
    · exact ⟨a, o, valV_pos (by show (Sum.inl o.num : Key) = _; rw [e]), List.mem_cons_self, e, r⟩
    · have h' : n ∈ obs.map Ob.num := by
        rcases List.mem_cons.mp h with z | z
        · exact absurd z.symm e
        · exact z
      obtain ⟨a', o', h1, h2, h3, h4⟩ := dictOf_get t h'
      refine ⟨a', o', ?_, List.mem_cons_of_mem _ h2, h3, h4⟩
      show valV ((Sum.inl o.num, V.ref a) :: dictOf os obs) (Sum.inl n) = _
      rw [valV_neg (fun z => e (Sum.inl.inj z))]
      exact h1
theorem take_snoc {α : Type} {l : List α} {i : Nat} {x : α} (h : l[i]? = some x) : l.take (i + 1) = l.take i ++ [x] := by
  rw [List.take_add_one, h]; rfl
theorem num_notin {obs : List Ob} {os : List Addr} {i : Nat} {o : Ob} (hl : os.length = obs.length) (nd : (obs.map Ob.num).Nodup) (h : obs[i]? = some o) : valV ((dictOf os obs).take i) (Sum.inl o.num) = none := by
  have hk : ((dictOf os obs).take i).map (·.1) = ((obs.map Ob.num).take i).map Sum.inl := by
    rw [List.map_take, dictOf_keys hl, List.map_take]
  have q := key_has hk o.num
  cases e : valV ((dictOf os obs).take i) (Sum.inl o.num) with
  | none => rfl
  | some v =>
    rw [e] at q
    have m : o.num ∈ (obs.map Ob.num).take i := of_decide_eq_true q.symm
    obtain ⟨j, hj⟩ := List.getElem?_of_mem m
    have hlt : j < i := by
      have := (List.getElem?_eq_some_iff.mp hj).1
      rw [List.length_take] at this; omega
    rw [List.getElem?_take_of_lt hlt] at hj
    have hi : (obs.map Ob.num)[i]? = some o.num := by rw [List.getElem?_map, h]; rfl
    exact absurd (nd_ix nd hj hi) (Nat.ne_of_lt hlt)
theorem nodup_of_up {l : List Int} (h : l.Pairwise (· < ·)) : l.Nodup := h.imp fun h => Int.ne_of_lt h
section
variable (K : PySem.W.Frag)
def R_registers_of : V1 := fun x H Q => ∃ a h, x = .ref a ∧ HeapAt K H a h ∧ ∀ r, SqZ H r (h.regs.map rV) → Q (.ref r) H
abbrev sp_registers_of : Sp := sp1 (R_registers_of K)
def R_objects_of : V1 := fun x H Q => ∃ a h, x = .ref a ∧ HeapAt K H a h ∧ ∀ o, ObsAt K H o h → Q (.ref o) H
abbrev sp_objects_of : Sp := sp1 (R_objects_of K)
def R_by_number : V1 := fun x H Q => ∃ a h, x = .ref a ∧ HeapAt K H a h ∧ h.Ok ∧ ∀ p H' os, H p = none → ExA H H' → Paired (ObAt K H') os h.obs → H' p = some (.dK (dictOf os h.obs)) → Q (.ref p) H'
abbrev sp_by_number : Sp := sp1 (R_by_number K)
/-- a new list of numbers -/
def NewL (ns : List Int) (H : Hp) (Q : VK) : Prop := ∀ p H', H p = none → ExA H H' → H' p = some (.lst (ns.map .int)) → Q (.ref p) H'
/-- a new tuple of numbers -/
def NewT (ns : List Int) (H : Hp) (Q : VK) : Prop := ∀ p H', H p = none → ExA H H' → H' p = some (.tup (ns.map .int)) → Q (.ref p) H'
def R_objects_among : V1 := fun x H Q => ∃ (a : Addr) (rs : List Rf), x = .ref a ∧ SqT K H a (rs.map rV) ∧ rs.length ≤ 1000 ∧ NewL (rs.filterMap id) H Q
abbrev sp_objects_among : Sp := sp1 (R_objects_among K)
def Ob.small : Ob → Prop
  | .rcd _ fs => fs.length ≤ 1000
  | .weak _ _ => True
  | .tab _ es => es.length ≤ 1000
theorem Ob.ok.small {S : List Int} {o : Ob} (h : o.ok S) : o.small := by
  cases o with
  | rcd n fs => exact h.1
  | weak n t => trivial
  | tab n es => exact h.1
/-- a dict whose keys are these numbers -/
def KeysAt (H : Hp) (g : Addr) (gs : List Int) : Prop := ∃ kvs, H g = some (.dK kvs) ∧ kvs.map (·.1) = gs.map Sum.inl
def R_led_to : V3 := fun x y z H Q => ∃ (a : Addr) (o : Ob) (g : Addr) (gs : List Int) (c : Addr) (cs : List Int), x = .ref a ∧ y = .ref g ∧ z = .ref c ∧ ObAt K H a o ∧ o.small ∧ KeysAt H g gs ∧ KeysAt H c cs ∧ NewL (ledTo o gs cs) H Q
abbrev sp_led_to : Sp := sp3 (R_led_to K)
end
section
variable {P : Program} {w : World} {K : PySem.W.Frag} {mg : Str → Option Value} {base : Heap}
theorem ok_registers_of {f : Addr} {fd : FuncData} {cd : Value} (F : Df K "registers_of" s_registers_of f fd cd) (T : Txt mg) : FnOk P w K mg base CX0 1 f fd ["heap"] (sp_registers_of K) := by
  have nd := sc_registers_of.nd
  refine F.ok sc_registers_of (fun vs H Q E h => ?_) (fun A outer s H vs Q E hr h => ?_)
  · obtain ⟨_, rfl, _⟩ := h; rfl
  have hu := hu_of hr
  obtain ⟨x0, rfl, h⟩ := h
  refine ⟨_, (pss_one (ps_ret (pe_ix (r := rIxT K) ix_tup (pv 0) pe_int (fun _ _ => rfl)))), ?_⟩
  obtain ⟨a, h, rfl, ⟨r, k, o, w, ws, h1, h2, _⟩, q⟩ := h
  exact ⟨_, rfl, a, _, _, _, rfl, rfl, h1, at2, q r h2⟩
theorem ok_objects_of {f : Addr} {fd : FuncData} {cd : Value} (F : Df K "objects_of" s_objects_of f fd cd) (T : Txt mg) : FnOk P w K mg base CX0 1 f fd ["heap"] (sp_objects_of K) := by
  have nd := sc_objects_of.nd
  refine F.ok sc_objects_of (fun vs H Q E h => ?_) (fun A outer s H vs Q E hr h => ?_)
  · obtain ⟨_, rfl, _⟩ := h; rfl
  have hu := hu_of hr
  obtain ⟨x0, rfl, h⟩ := h
  refine ⟨_, (pss_one (ps_ret (pe_ix (r := rIxT K) ix_tup (pv 0) pe_int (fun _ _ => rfl)))), ?_⟩
  obtain ⟨a, h, rfl, ⟨r, k, o, w, ws, h1, h2, h3, h4, _⟩, q⟩ := h
  exact ⟨_, rfl, a, _, _, _, rfl, rfl, h1, at4, q o h4⟩
theorem ok_by_number {f : Addr} {fd : FuncData} {cd : Value} (F : Df K "by_number" s_by_number f fd cd) (T : Txt mg) (C_objects_of : Cal P w K mg base 1 "objects_of" (sp_objects_of K) []) : FnOk P w K mg base CX0 2 f fd ["heap"] (sp_by_number K) := by
  have nd := sc_by_number.nd
  refine F.ok sc_by_number (fun vs H Q E h => ?_) (fun A outer s H vs Q E hr h => ?_)
  · obtain ⟨_, rfl, _⟩ := h; rfl
  have hu := hu_of hr
  obtain ⟨x0, rfl, h⟩ := h
  refine ⟨_, (pss_one (ps_ret (pe_dc (own := [("thing", 1)]) rfl nd (show PI _ _ _ (iTup K _) from pi_tup (pe_c C_objects_of hr (by first | exact Nat.le_refl _ | decide) rfl (pa_cons (pv 0) pa_nil))) (blkOk_by (own := [("thing", 1)]) (N := N_by_number) (sc := defScope s_by_number) (by decide +kernel)) (fun _ _ _ _ _ => (pg_name (i := 1) nd rfl (by first | exact Or.inl rfl | exact Or.inr rfl))) (fun _ _ _ _ _ => pts_nil) (fun _ _ _ _ _ => (pe_ix (r := rIxT K) ix_tup (pv 1) pe_int (fun _ _ => rfl))) (fun _ _ _ _ _ => (pv 1))))), ?_⟩
  obtain ⟨a, h, rfl, hA, ok, q⟩ := h
  refine ⟨_, rfl, _, rfl, a, h, rfl, hA, fun o hO => ?_⟩
  obtain ⟨os, ho, hp⟩ := hO
  have hl := plen hp
  refine ⟨o, rfl, ⟨_, ho⟩, fun D hD => ?_⟩
  refine dcM [] (walk_tup (xs := os.map V.ref)) hD (fun i acc _ => acc = (dictOf os h.obs).take i) rfl (fun H' e => Tk.all e _ _ ho) (fun i x H1 H2 acc hi e h1 h2 hacc y => ?_) (fun H' acc e h1 h2 hacc => ?_)
  · obtain ⟨rfl, hx⟩ := y
    rw [List.getElem?_map] at hx
    cases hos : os[i]? with
    | none => rw [hos] at hx; cases hx
    | some a1 =>
      rw [hos] at hx
      obtain ⟨o1, ho1, hob⟩ := pget hp hos
      obtain rfl : V.ref a1 = x := Option.some.inj hx
      obtain ⟨kn, vn, hn⟩ := (ObAt.mono (Tk.all e) hob).num
      refine ⟨rfl, tyes ⟨_, rfl, a1, _, _, _, rfl, rfl, hn, at1, _, rfl, ?_⟩⟩
      have hi' : i < 50 := by
        have z := (List.getElem?_eq_some_iff.mp ho1).1
        have := ok.size
        omega
      refine DcP.yes (k := Sum.inl o1.num) hD (by simp) (by omega) e h1 h2 rfl (ExM.refl _ _) ?_
      rw [hacc, putK_new _ (num_notin hl (nodup_of_up ok.up) ho1), take_snoc (dictOf_at hos ho1)]
  · refine q D H' os hD e (pmp hp fun _ _ z => ObAt.mono (Tk.all e) z) ?_
    rw [h1, hacc, List.length_map, hl, ← dictOf_len hl, List.take_length]
theorem ok_objects_among {f : Addr} {fd : FuncData} {cd : Value} (F : Df K "objects_among" s_objects_among f fd cd) (T : Txt mg) : FnOk P w K mg base CX0 1 f fd ["references"] (sp_objects_among K) := by
  have nd := sc_objects_among.nd
  refine F.ok sc_objects_among (fun vs H Q E h => ?_) (fun A outer s H vs Q E hr h => ?_)
  · obtain ⟨_, rfl, _⟩ := h; rfl
  have hu := hu_of hr
  obtain ⟨x0, rfl, h⟩ := h
  refine ⟨_, (pss_one (ps_ret (pe_lc (own := [("number", 1)]) rfl nd (show PI _ _ _ (iTup K _) from pi_tup (pv 0)) (blkOk_by (own := [("number", 1)]) (N := N_objects_among) (sc := defScope s_objects_among) (by decide +kernel)) (fun _ _ _ _ _ => (pg_name (i := 1) nd rfl (by first | exact Or.inl rfl | exact Or.inr rfl))) (fun _ _ _ _ _ => (pts_one (pt_cmpR op_notN (pv 1) pe_non (nomark _)))) (fun _ _ _ _ _ => (pv 1))))), ?_⟩
  obtain ⟨a, rs, rfl, hA, hz, q⟩ := h
  refine ⟨_, rfl, a, rfl, ⟨_, hA⟩, fun D hD => ?_⟩
  refine lcM [] (walk_tup (xs := rs.map rV)) hD (fun i acc _ => acc = ((rs.take i).filterMap id).map V.int) rfl (fun H' e => Tk.all e _ _ hA) (fun i x H1 H2 acc hi e h1 h2 hacc y => ?_) (fun H' acc e h1 h2 hacc => ?_)
  · obtain ⟨rfl, hx⟩ := y
    rw [List.length_map] at hi
    obtain ⟨r, hr⟩ : ∃ r, rs[i]? = some r := ⟨rs[i], List.getElem?_eq_getElem hi⟩
    rw [List.getElem?_map, hr] at hx
    obtain rfl : rV r = x := Option.some.inj hx
    refine ⟨rfl, _, rfl, rfl, _, rfl, ?_⟩
    have ht := take_snoc hr
    cases r with
    | none => exact iteF (LcP.no (by simp) e h1 h2 (ExM.refl _ _) (by rw [hacc, ht, List.filterMap_append]; simp))
    | some n => exact iteT ⟨_, rfl, LcP.yes hD (by simp) (by omega) e h1 h2 (ExM.refl _ _) (by rw [hacc, ht, List.filterMap_append, List.map_append]; rfl)⟩
  · refine q D H' hD e ?_
    rw [h1, hacc, List.length_map, List.take_length]
end
end Wc
/-! A heap of the program as data that is shown; as data that is compared. -/
namespace Wc
open PySem L2
/-- shown in few signs -/
structure Nice (c k : Nat) (d : PyData) : Prop where
  nd : d.hasDict = false
  sh : d.showable = true
  ls : d.leavesShort 8 = true
  bk : d.bulk ≤ c
  dp : d.depth ≤ k
structure NiceL (c k : Nat) (l : List PyData) : Prop where
  nd : PyData.hasDictAll l = false
  sh : PyData.showableAll l = true
  ls : PyData.leavesShortAll 8 l = true
  bk : PyData.bulkAll l ≤ c
  dp : PyData.depthAll l ≤ k
theorem NiceL.nil {k : Nat} : NiceL 0 k [] := ⟨rfl, rfl, rfl, Nat.le_refl _, Nat.zero_le _⟩
theorem NiceL.cons {c c' k : Nat} {d : PyData} {l : List PyData} (x : Nice c k d) (y : NiceL c' k l) : NiceL (c + 1 + c') k (d :: l) :=
  ⟨by simp only [PyData.hasDictAll, x.nd, y.nd, Bool.or_self], by simp only [PyData.showableAll, x.sh, y.sh, Bool.and_self], by simp only [PyData.leavesShortAll, x.ls, y.ls, Bool.and_self],
    by have := x.bk; have := y.bk; simp only [PyData.bulkAll]; omega, by have := x.dp; have := y.dp; simp only [PyData.depthAll]; omega⟩
theorem NiceL.tup {c k : Nat} {l : List PyData} (x : NiceL c k l) : Nice c (k + 1) (.tuple l) :=
  ⟨by simp only [PyData.hasDict, x.nd], by simp only [PyData.showable, x.sh], by simp only [PyData.leavesShort, x.ls], by simp only [PyData.bulk]; exact x.bk, by simp only [PyData.depth]; have := x.dp; omega⟩
theorem NiceL.map {α : Type} {f : α → PyData} {c k : Nat} : ∀ {l : List α}, (∀ x ∈ l, Nice c k (f x)) → NiceL ((c + 1) * l.length) k (l.map f)
  | [], _ => .nil
  | x :: l, h => by
    have y := NiceL.cons (h x List.mem_cons_self) (NiceL.map (l := l) fun z hz => h z (List.mem_cons_of_mem _ hz))
    rw [List.length_cons, Nat.mul_add, Nat.mul_one, Nat.add_comm ((c + 1) * l.length)]
    exact y
theorem Nice.mono {c c' k k' : Nat} {d : PyData} (x : Nice c k d) (h : c ≤ c') (h2 : k ≤ k') : Nice c' k' d := ⟨x.nd, x.sh, x.ls, Nat.le_trans x.bk h, Nat.le_trans x.dp h2⟩
theorem NiceL.mono {c c' k k' : Nat} {d : List PyData} (x : NiceL c k d) (h : c ≤ c') (h2 : k ≤ k') : NiceL c' k' d := ⟨x.nd, x.sh, x.ls, Nat.le_trans x.bk h, Nat.le_trans x.dp h2⟩
theorem Nice.int {i : Int} (h0 : 0 ≤ i) (h : i ≤ 999) : Nice 0 0 (.int i) := by
  refine ⟨rfl, ?_, ?_, Nat.le_refl _, Nat.le_refl _⟩
  · simp only [PyData.showable, decide_eq_true_eq]
    have z : i.natAbs < 2 ^ 10 := by omega
    by_cases e : i.natAbs = 0
    · rw [e]; decide
    · have := (Nat.log2_lt e).mpr z
      omega
  · have z := int_text_length_le10 (a := i) (k := 3) (by decide) (by omega)
    have e : (PyData.shown (.int i)).length ≤ 8 := by
      have e2 : (PyData.shown (.int i)) = Str.ofString (toString i) := by simp only [PyData.shown]
      rw [e2, ofString_length]; omega
    simp only [PyData.leavesShort]
    exact decide_eq_true e
theorem Nice.non : Nice 0 0 .none := ⟨rfl, rfl, rfl, Nat.le_refl _, Nat.le_refl _⟩
def rfPy : Rf → PyData
  | none => .none
  | some i => .int i
def prPy (e : Int × Int) : PyData := .tuple [.int e.1, .int e.2]
def obPy : Ob → PyData
  | .rcd n fs => .tuple [.str "record", .int n, .tuple (fs.map rfPy)]
  | .weak n t => .tuple [.str "weak", .int n, rfPy t]
  | .tab n es => .tuple [.str "table", .int n, .tuple (es.map prPy)]
def hdPy (h : Hd) : PyData := .tuple [.str "heap", .int h.nx, .tuple (h.regs.map rfPy), .tuple (h.kept.map PyData.int), .tuple (h.obs.map obPy), .tuple (h.wat.map prPy)]
theorem nice_rf {r : Rf} (h : ∀ i, r = some i → 0 ≤ i ∧ i ≤ 999) : Nice 0 0 (rfPy r) := by
  cases r with
  | none => exact Nice.non
  | some i => exact Nice.int (h i rfl).1 (h i rfl).2
theorem nice_pr {e : Int × Int} (h1 : 0 ≤ e.1 ∧ e.1 ≤ 999) (h2 : 0 ≤ e.2 ∧ e.2 ≤ 999) : Nice 2 1 (prPy e) :=
  ((NiceL.nil.cons (Nice.int h2.1 h2.2)).cons (Nice.int h1.1 h1.2)).tup
theorem nice_str {x : Str} (h : (x.cps.toList.all fun c => decide (c < 16 ^ 8)) = true) (z : x.cps.size ≤ 9) : Nice 9 0 (.str x) := ⟨rfl, rfl, h, z, Nat.le_refl _⟩
theorem nice_ob {S : List Int} {o : Ob} (ok : o.ok S) (hn : 0 ≤ o.num ∧ o.num ≤ 999) (hS : ∀ n ∈ S, 0 ≤ n ∧ n ≤ 999) : Nice 3100 3 (obPy o) := by
  cases o with
  | rcd n fs =>
    have y := (NiceL.map (f := rfPy) (l := fs) (c := 0) (k := 0) fun r hr => nice_rf fun i e => hS i (ok.2 r hr i e)).tup
    have z := (((NiceL.nil.cons (y.mono (c' := 1000) (k' := 1) (by have := ok.1; omega) (by omega))).cons ((Nice.int (i := n) hn.1 hn.2).mono (c' := 0) (k' := 1) (by omega) (by omega))).cons ((nice_str (x := "record") (by decide +kernel) (by decide +kernel)).mono (c' := 9) (k' := 1) (by omega) (by omega))).tup
    exact z.mono (by omega) (by omega)
  | weak n t =>
    have y := nice_rf (r := t) fun i e => hS i (ok i e)
    have z := (((NiceL.nil.cons y).cons (Nice.int (i := n) hn.1 hn.2)).cons (nice_str (x := "weak") (by decide +kernel) (by decide +kernel))).tup
    exact z.mono (by omega) (by omega)
  | tab n es =>
    have y := (NiceL.map (f := prPy) (l := es) (c := 2) (k := 1) fun e he => nice_pr (hS _ (ok.2.2 e he).1) (hS _ (ok.2.2 e he).2)).tup
    have z := (((NiceL.nil.cons (y.mono (c' := 3000) (k' := 2) (by have := ok.1; omega) (by omega))).cons ((Nice.int (i := n) hn.1 hn.2).mono (c' := 0) (k' := 2) (by omega) (by omega))).cons ((nice_str (x := "table") (by decide +kernel) (by decide +kernel)).mono (c' := 9) (k' := 2) (by omega) (by omega))).tup
    exact z.mono (by omega) (by omega)
theorem nice_hd {h : Hd} (ok : h.Ok) (hk : h.kept.length ≤ 1000) : Nice 200000 5 (hdPy h) := by
  have hS : ∀ n ∈ h.nums, 0 ≤ n ∧ n ≤ 999 := fun n hn => by have := ok.low n hn; have := ok.nxl; omega
  have y1 := (NiceL.map (f := rfPy) (l := h.regs) (c := 0) (k := 0) fun r hr => nice_rf fun i e => hS i (ok.regs r hr i e)).tup
  have y2 := (NiceL.map (f := PyData.int) (l := h.kept) (c := 0) (k := 0) fun n hn => Nice.int (hS n (ok.kept n hn)).1 (hS n (ok.kept n hn)).2).tup
  have y3 := (NiceL.map (f := obPy) (l := h.obs) (c := 3100) (k := 3) fun o ho => nice_ob (ok.obs o ho) (hS _ (List.mem_map_of_mem ho)) hS).tup
  have y4 := (NiceL.map (f := prPy) (l := h.wat) (c := 2) (k := 1) fun e he => nice_pr (hS _ (ok.wat e he)) (ok.tok e he)).tup
  have z1 := y1.mono (c' := 1000) (k' := 4) (by have := ok.nreg; omega) (by omega)
  have z2 := y2.mono (c' := 1000) (k' := 4) (by omega) (by omega)
  have z3 := y3.mono (c' := 155100) (k' := 4) (by have := ok.size; omega) (by omega)
  have z4 := y4.mono (c' := 3000) (k' := 4) (by have := ok.nwat; omega) (by omega)
  have z5 := (Nice.int (i := h.nx) ok.nxl.1 ok.nxl.2).mono (c' := 0) (k' := 4) (by omega) (by omega)
  have z6 := (nice_str (x := "heap") (by decide +kernel) (by decide +kernel)).mono (c' := 9) (k' := 4) (by omega) (by omega)
  exact ((((((NiceL.nil.cons z4).cons z3).cons z2).cons z1).cons z5).cons z6).tup.mono (by omega) (by omega)
section
variable {K : PySem.W.Frag} {H : Hp}
theorem dp_rf (r : Rf) : Dp K H (rV r) (rfPy r) := by
  cases r with
  | none => exact .non
  | some i => exact .int i
theorem dpAll_map {α : Type} {e : α → V} {f : α → PyData} : ∀ {l : List α}, (∀ x ∈ l, Dp K H (e x) (f x)) → DpAll K H (l.map e) (l.map f)
  | [], _ => .nil
  | x :: l, h => .cons (h x List.mem_cons_self) (dpAll_map fun y hy => h y (List.mem_cons_of_mem _ hy))
theorem dpAll_refs {α : Type} {f : α → PyData} : ∀ {as : List Addr} {ms : List α}, Paired (fun a m => Dp K H (.ref a) (f m)) as ms → DpAll K H (as.map V.ref) (ms.map f)
  | _, _, .nil => .nil
  | _, _, .cons r t => .cons r (dpAll_refs t)
theorem dp_pr {a : Addr} {e : Int × Int} (h : PairAt K H a e) : Dp K H (.ref a) (prPy e) := .tup h (.cons (.int _) (.cons (.int _) .nil))
theorem dp_ob {a : Addr} {o : Ob} (h : ObAt K H a o) : Dp K H (.ref a) (obPy o) := by
  cases o with
  | rcd n fs =>
    obtain ⟨t, h1, h2⟩ := h
    exact .tup h1 (.cons (.str _) (.cons (.int _) (.cons (.tup h2.sq (dpAll_map fun r _ => dp_rf r)) .nil)))
  | weak n r => exact .tup (show SqT K H a [.str "weak", .int n, rV r] from h) (.cons (.str _) (.cons (.int _) (.cons (dp_rf r) .nil)))
  | tab n es =>
    obtain ⟨t, ps, h1, h2, h3⟩ := h
    exact .tup h1 (.cons (.str _) (.cons (.int _) (.cons (.tup h2.sq (dpAll_refs (pmp h3 fun _ _ z => dp_pr z))) .nil)))
theorem dp_hd {a : Addr} {h : Hd} (x : HeapAt K H a h) : Dp K H (.ref a) (hdPy h) := by
  obtain ⟨r, k, o, w, ws, h1, h2, h3, ⟨os, h4, h4'⟩, h5, h6⟩ := x
  exact .tup h1 (.cons (.str _) (.cons (.int _) (.cons (.tup h2.sq (dpAll_map fun r _ => dp_rf r)) (.cons (.tup h3 (dpAll_map fun n _ => .int n)) (.cons (.tup h4 (dpAll_refs (pmp h4' fun _ _ z => dp_ob z))) (.cons (.tup h5 (dpAll_refs (pmp h6 fun _ _ z => dp_pr z))) .nil))))))
end
/-- the heap can be shown -/
theorem repr_hd {A : Around} {k : Nat} {h : Hd} (hr : Room k A) (ok : h.Ok) (hk : h.kept.length ≤ 1000) : (hdPy h).showable = true ∧ (hdPy h).hasDict = false ∧ (hdPy h).shown.length ≤ sizeLine ∧ A.units + ((hdPy h).depth + 1) < cLine := by
  have n := nice_hd ok hk
  have e : (2 : Nat) ^ 20 = 1048576 := by decide
  exact ⟨n.sh, n.nd, PyData.shown_fits_bulk (B := 8) (by decide) (by decide) n.ls (Nat.le_trans n.bk (by omega)), by have := n.dp; have := hr.units; omega⟩
/-! ### lists of numbers, compared -/
theorem lay_ints (ns : List Int) : PyData.canLayAll0 (ns.map PyData.int) = true := by
  induction ns with
  | nil => rfl
  | cons n r ih => rw [List.map_cons]; simp only [PyData.canLayAll0, PyData.canLay0, ih, Bool.and_self]
theorem dpt_ints (ns : List Int) : PyData.depthAll (ns.map PyData.int) = 0 := by
  induction ns with
  | nil => rfl
  | cons n r ih => rw [List.map_cons]; simp only [PyData.depthAll, PyData.depth, ih, Nat.max_self]
theorem ne_same {K : PySem.W.Frag} {H : Hp} {a b : Addr} {ns : List Int} {Q : VK} (ha : SqL K H a (ns.map V.int)) (hb : SqL K H b (ns.map V.int)) (q : Q (.bl false) H) : rNeD K (.ref a) (.ref b) H Q := by
  have s : SeqAt.shaped (.list (ns.map PyData.int)) = true := by
    unfold SeqAt.shaped
    simp only [PyData.canLay0, PyData.depth, lay_ints, dpt_ints, Bool.true_and]
    decide
  refine ⟨.list (ns.map PyData.int), .list (ns.map PyData.int), .lst ha (dpAll_map fun n _ => .int n), .lst hb (dpAll_map fun n _ => .int n), s, s, ?_⟩
  rw [SeqAt.eqv_refl _ (SeqAt.canLay_of_shaped s)]
  exact q
/-! ### .. as data that the law compares -/
def rfDt : Rf → Dt
  | none => .non
  | some i => .int i
def prDt (e : Int × Int) : Dt := .tup [.int e.1, .int e.2]
def obDt : Ob → Dt
  | .rcd n fs => .tup [.str "record", .int n, .tup (fs.map rfDt)]
  | .weak n t => .tup [.str "weak", .int n, rfDt t]
  | .tab n es => .tup [.str "table", .int n, .tup (es.map prDt)]
def hdDt (h : Hd) : Dt := .tup [.str "heap", .int h.nx, .tup (h.regs.map rfDt), .tup (h.kept.map Dt.int), .tup (h.obs.map obDt), .tup (h.wat.map prDt)]
theorem rf_is {K : PySem.W.Frag} {H : Hp} (r : Rf) : Is K H (rfDt r) (rV r) := by cases r <;> rfl
theorem isL_rfs {K : PySem.W.Frag} {H : Hp} : ∀ rs : List Rf, IsL K H (rs.map rfDt) (rs.map rV)
  | [] => rfl
  | r :: rs => ⟨_, _, rfl, rf_is r, isL_rfs rs⟩
theorem isL_refs {α : Type} {K : PySem.W.Frag} {H : Hp} {f : α → Dt} : ∀ {as : List Addr} {ms : List α}, Paired (fun a m => Is K H (f m) (.ref a)) as ms → IsL K H (ms.map f) (as.map V.ref)
  | _, _, .nil => rfl
  | _, _, .cons r t => ⟨_, _, rfl, r, isL_refs t⟩
theorem pr_is {K : PySem.W.Frag} {H : Hp} {a : Addr} {e : Int × Int} (h : PairAt K H a e) : Is K H (prDt e) (.ref a) := ⟨a, _, rfl, h, _, _, rfl, rfl, _, _, rfl, rfl, rfl⟩
theorem ob_is {K : PySem.W.Frag} {H : Hp} {a : Addr} {o : Ob} (h : ObAt K H a o) : Is K H (obDt o) (.ref a) := by
  cases o with
  | rcd n fs =>
    obtain ⟨t, h1, h2⟩ := h
    exact ⟨a, _, rfl, h1, _, _, rfl, rfl, _, _, rfl, rfl, _, _, rfl, ⟨t, _, rfl, h2.sq, isL_rfs fs⟩, rfl⟩
  | weak n r => exact ⟨a, _, rfl, h, _, _, rfl, rfl, _, _, rfl, rfl, _, _, rfl, rf_is r, rfl⟩
  | tab n es =>
    obtain ⟨t, ps, h1, hz2, h3⟩ := h; have h2 := hz2.sq (K := K)
    exact ⟨a, _, rfl, h1, _, _, rfl, rfl, _, _, rfl, rfl, _, _, rfl, ⟨t, _, rfl, h2, isL_refs (pmp h3 fun _ _ z => pr_is z)⟩, rfl⟩
theorem hd_is {K : PySem.W.Frag} {H : Hp} {a : Addr} {h : Hd} (x : HeapAt K H a h) : Is K H (hdDt h) (.ref a) := by
  obtain ⟨r, k, o, w, ws, h1, h2, h3, ⟨os, h4, h4'⟩, h5, h6⟩ := x
  exact ⟨a, _, rfl, h1, _, _, rfl, rfl, _, _, rfl, rfl, _, _, rfl, ⟨r, _, rfl, h2.sq, isL_rfs _⟩, _, _, rfl, ⟨k, _, rfl, h3, IsL.ints _⟩, _, _, rfl, ⟨o, _, rfl, h4, isL_refs (pmp h4' fun _ _ z => ob_is z)⟩, _, _, rfl, ⟨w, _, rfl, h5, isL_refs (pmp h6 fun _ _ z => pr_is z)⟩, rfl⟩
theorem depL_map {α : Type} {f : α → Dt} {n : Nat} (hf : ∀ x, (f x).dep ≤ n) : ∀ l : List α, Dt.depL (l.map f) ≤ n
  | [] => Nat.zero_le _
  | x :: l => by
    show max (f x).dep (Dt.depL (l.map f)) ≤ n
    have := hf x
    have := depL_map hf l
    omega
theorem rf_dep (r : Rf) : (rfDt r).dep ≤ 0 := by cases r <;> exact Nat.le_refl _
theorem pr_dep (e : Int × Int) : (prDt e).dep ≤ 1 := Nat.le_refl _
theorem ob_dep (o : Ob) : (obDt o).dep ≤ 3 := by
  cases o with
  | rcd n fs =>
    show 1 + max 0 (max 0 (max (1 + Dt.depL (fs.map rfDt)) 0)) ≤ 3
    have := depL_map rf_dep fs
    omega
  | weak n r =>
    show 1 + max 0 (max 0 (max (rfDt r).dep 0)) ≤ 3
    have := rf_dep r
    omega
  | tab n es =>
    show 1 + max 0 (max 0 (max (1 + Dt.depL (es.map prDt)) 0)) ≤ 3
    have := depL_map pr_dep es
    omega
theorem hd_dep (h : Hd) : (hdDt h).dep < 9 := by
  show 1 + max 0 (max 0 (max (1 + Dt.depL (h.regs.map rfDt)) (max (1 + Dt.depL (h.kept.map Dt.int)) (max (1 + Dt.depL (h.obs.map obDt)) (max (1 + Dt.depL (h.wat.map prDt)) 0))))) < 9
  have a := depL_map rf_dep h.regs
  have b := depL_ints h.kept
  have c := depL_map ob_dep h.obs
  have d := depL_map pr_dep h.wat
  omega
theorem thinL_map {α : Type} {f : α → Dt} : ∀ {l : List α}, (∀ x ∈ l, (f x).thin) → Dt.thinL (l.map f)
  | [], _ => trivial
  | x :: l, hf => ⟨hf x List.mem_cons_self, thinL_map fun y hy => hf y (List.mem_cons_of_mem _ hy)⟩
theorem rf_thin (r : Rf) : (rfDt r).thin := by cases r <;> exact trivial
theorem pr_thin (e : Int × Int) : (prDt e).thin := ⟨by show 2 ≤ 100000; decide, trivial, trivial, trivial⟩
theorem ob_thin {o : Ob} (s : o.small) : (obDt o).thin := by
  cases o with
  | rcd n fs => exact ⟨by show 3 ≤ 100000; decide, trivial, trivial, ⟨by rw [List.length_map]; exact Nat.le_trans s (by decide), thinL_map fun x _ => rf_thin x⟩, trivial⟩
  | weak n r => exact ⟨by show 3 ≤ 100000; decide, trivial, trivial, rf_thin r, trivial⟩
  | tab n es => exact ⟨by show 3 ≤ 100000; decide, trivial, trivial, ⟨by rw [List.length_map]; exact Nat.le_trans s (by decide), thinL_map fun x _ => pr_thin x⟩, trivial⟩
theorem hd_thin {h : Hd} (z1 : h.regs.length ≤ 100000) (z2 : h.kept.length ≤ 100000) (z3 : h.obs.length ≤ 100000) (z4 : h.wat.length ≤ 100000) (so : ∀ o ∈ h.obs, o.small) : (hdDt h).thin :=
  ⟨by show 6 ≤ 100000; decide, trivial, trivial, ⟨by rw [List.length_map]; exact z1, thinL_map fun x _ => rf_thin x⟩, ⟨by rw [List.length_map]; exact z2, thinL_map fun x _ => trivial⟩, ⟨by rw [List.length_map]; exact z3, thinL_map fun x hx => ob_thin (so x hx)⟩,
    ⟨by rw [List.length_map]; exact z4, thinL_map fun x _ => pr_thin x⟩, trivial⟩
end Wc
namespace Wc
open PySem L2
/-! ### comprehensions of two clauses into a dict -/
abbrev dIn (gb : TG) (ub : TT) (tk tv : TE) (vb : List Nat) (σ2 : L2.St) (D : Addr) (Nx : Hp → Prop) (J1 : It) (H4 : Hp) : Prop :=
  ∃ W1 : Nat → Nat → Hp → Prop, (∃ m, W1 0 m H4) ∧ ∀ j k H, W1 j k H →
            (J1.stop j H ∧ Nx H) ∨
            (J1.go j H ∧ ∃ Ny : Hp → Prop, (∀ H', Ny H' → ∃ k', k' < k ∧ W1 (j + 1) k' H') ∧
              ∀ x H', J1.yld j H x H' → gb x (wipe σ2 vb) H' fun σ3 H5 => wipe σ3 vb = wipe σ2 vb ∧ ub σ3 H5 fun c H6 =>
                if c = true then tk σ3 H6 fun y H7 => tv σ3 H7 fun z H8 => ∃ kvs k, y = kV k ∧ H8 D = some (.dK kvs) ∧ kvs.length < sizeLine ∧ Ny (upd H8 D (.dK (putK kvs k z)))
                else Ny H6)
theorem ddI {J1 : It} {n1 : Nat} {G1 : Hp → Prop} {Y1 : Nat → Hp → V → Hp → Prop} (w1 : Walk J1 n1 G1 Y1) {gb : TG} {ub : TT} {tk tv : TE} {vb : List Nat} {σ2 : L2.St} {D : Addr} {Nx : Hp → Prop} {H5 : Hp}
    (Pv : Nat → Hp → Prop) (h0 : Pv 0 H5) (hG : ∀ j H, j ≤ n1 → Pv j H → G1 H)
    (hs : ∀ j x H1 H2, j < n1 → Pv j H1 → Y1 j H1 x H2 → gb x (wipe σ2 vb) H2 fun σ3 H5 => wipe σ3 vb = wipe σ2 vb ∧ ub σ3 H5 fun c H6 =>
      if c = true then tk σ3 H6 fun y H7 => tv σ3 H7 fun z H8 => ∃ kvs k, y = kV k ∧ H8 D = some (.dK kvs) ∧ kvs.length < sizeLine ∧ Pv (j + 1) (upd H8 D (.dK (putK kvs k z))) else Pv (j + 1) H6)
    (hd : ∀ H, Pv n1 H → Nx H) : dIn gb ub tk tv vb σ2 D Nx J1 H5 := by
  refine ⟨fun j k H => k + j = n1 ∧ Pv j H, ⟨n1, rfl, h0⟩, fun j k H q => ?_⟩
  obtain ⟨e, p⟩ := q
  have g := hG j H (by omega) p
  by_cases hj : j < n1
  · exact .inr ⟨w1.goes j H hj g, Pv (j + 1), fun H' p' => ⟨k - 1, by omega, by omega, p'⟩, fun x H' y => hs j x H H' hj p (w1.yields j H x H' hj g y)⟩
  · have ej : j = n1 := by omega
    subst ej
    exact .inl ⟨w1.stops H g, hd H p⟩
theorem ddM {J : It} {n : Nat} {G : Hp → Prop} {Y : Nat → Hp → V → Hp → Prop} (w : Walk J n G Y) {ga gb : TG} {ua ub : TT} {wb : TI} {tk tv : TE} {vs vb : List Nat} {σ : L2.St} {H5 : Hp} {D : Addr} {Qd : Hp → Prop}
    (Pv : Nat → Hp → Prop) (h0 : Pv 0 H5) (hG : ∀ j H, j ≤ n → Pv j H → G H)
    (hs : ∀ i x H1 H2, i < n → Pv i H1 → Y i H1 x H2 → ga x (wipe σ vs) H2 fun σ2 H3 => wipe σ2 vs = wipe σ vs ∧ ua σ2 H3 fun c H4 =>
      if c = true then wb σ2 H4 fun J1 H5 => dIn gb ub tk tv vb σ2 D (Pv (i + 1)) J1 H5 else Pv (i + 1) H4)
    (hd : ∀ H, Pv n H → Qd H) :
    ∃ W : Nat → Nat → Hp → Prop, (∃ m, W 0 m H5) ∧ ∀ i m H, W i m H →
      (J.stop i H ∧ Qd H) ∨
      (J.go i H ∧ ∃ Nx : Hp → Prop, (∀ H', Nx H' → ∃ m', m' < m ∧ W (i + 1) m' H') ∧
        ∀ x H', J.yld i H x H' → ga x (wipe σ vs) H' fun σ2 H2 => wipe σ2 vs = wipe σ vs ∧ ua σ2 H2 fun c H3 =>
          if c = true then wb σ2 H3 fun J1 H4 => dIn gb ub tk tv vb σ2 D Nx J1 H4 else Nx H3) := by
  refine ⟨fun j k H => k + j = n ∧ Pv j H, ⟨n, rfl, h0⟩, fun j k H q => ?_⟩
  obtain ⟨e, p⟩ := q
  have g := hG j H (by omega) p
  by_cases hj : j < n
  · exact .inr ⟨w.goes j H hj g, Pv (j + 1), fun H' p' => ⟨k - 1, by omega, by omega, p'⟩, fun x H' y => hs j x H H' hj p (w.yields j H x H' hj g y)⟩
  · have ej : j = n := by omega
    subst ej
    exact .inl ⟨w.stops H g, hd H p⟩
/-! ### dicts of numbers, of marks -/
def dI (G : List (Int × Int)) : List (Key × V) := G.map fun q => ((Sum.inl q.1 : Key), V.int q.2)
def dB (W : List Int) : List (Key × V) := W.map fun n => ((Sum.inl n : Key), V.bl true)
theorem dI_keys (G : List (Int × Int)) : (dI G).map (·.1) = (G.map (·.1)).map Sum.inl := by unfold dI; rw [List.map_map, List.map_map]; rfl
theorem dB_keys (W : List Int) : (dB W).map (·.1) = W.map Sum.inl := by unfold dB; rw [List.map_map]; rfl
def addK (W : List Int) (n : Int) : List Int := if n ∈ W then W else W ++ [n]
theorem dB_put (W : List Int) (n : Int) : putK (dB W) (Sum.inl n) (.bl true) = dB (addK W n) := by
  have q := key_has (dB_keys W) n
  unfold addK
  by_cases m : n ∈ W
  · rw [if_pos m]
    rw [decide_eq_true m] at q
    unfold putK
    rw [valV_any, q, if_pos rfl]
    unfold dB
    rw [List.map_map]
    refine List.map_congr_left fun k _ => ?_
    show (if (Sum.inl k : Key) = Sum.inl n then ((Sum.inl k : Key), V.bl true) else (Sum.inl k, V.bl true)) = _
    split <;> rfl
  · rw [if_neg m]
    rw [decide_eq_false m] at q
    rw [putK_new _ (by cases e : valV (dB W) (Sum.inl n) with | none => rfl | some v => rw [e] at q; cases q)]
    unfold dB
    rw [List.map_append]
    rfl
theorem dI_put {G : List (Int × Int)} {n d : Int} (h : n ∉ G.map (·.1)) : putK (dI G) (Sum.inl n) (.int d) = dI (G ++ [(n, d)]) := by
  have q := key_has (dI_keys G) n
  rw [decide_eq_false h] at q
  rw [putK_new _ (by cases e : valV (dI G) (Sum.inl n) with | none => rfl | some v => rw [e] at q; cases q)]
  unfold dI
  rw [List.map_append]
  rfl
theorem addK_nd {W : List Int} {n : Int} (h : W.Nodup) : (addK W n).Nodup := by
  unfold addK
  split
  · exact h
  · rename_i m
    exact List.nodup_append.mpr ⟨h, by simp, fun a ha b hb e => m (by have : b = n := by simpa using hb
                                                                      subst this; rw [← e]; exact ha)⟩
theorem mem_addK {W : List Int} {n k : Int} : k ∈ addK W n ↔ k ∈ W ∨ k = n := by
  unfold addK
  split
  · rename_i m
    constructor
    · exact Or.inl
    · rintro (z | rfl)
      · exact z
      · exact m
  · simp
theorem mem_take_snoc {α : Type} {l : List α} {i : Nat} {x y : α} (h : l[i]? = some x) : y ∈ l.take (i + 1) ↔ y ∈ l.take i ∨ y = x := by
  rw [take_snoc h]; simp
theorem dI_len (G : List (Int × Int)) : (dI G).length = G.length := by unfold dI; rw [List.length_map]
theorem dB_len (W : List Int) : (dB W).length = W.length := by unfold dB; rw [List.length_map]
section
variable (K : PySem.W.Frag)
def R_rounds : V2 := fun x y H Q => ∃ (a : Addr) (h : Hd) (c : Addr) (cs : List Int), x = .ref a ∧ y = .ref c ∧ HeapAt K H a h ∧ h.Ok ∧ SqS K H c (cs.map .int) ∧ cs.length ≤ 1000 ∧
  ∀ p H' G, RoundsOf h cs G → H p = none → ExA H H' → H' p = some (.dK (dI G)) → Q (.ref p) H'
abbrev sp_rounds : Sp := sp2 (R_rounds K)
end
/-- what rounds keeps through its loop: the dicts things, gone, got; newest -/
structure Rw (K : PySem.W.Frag) (H0 H : Hp) (h : Hd) (cs : List Int) (th gn gt nw : Addr) (G : List (Int × Int)) (W : List Int) : Prop where
  ex : ExA H0 H
  fg : H0 gt = none
  fw : H0 nw = none
  aT : ∃ os, Paired (ObAt K H) os h.obs ∧ H th = some (.dK (dictOf os h.obs))
  aN : H gn = some (.dK (dB cs))
  aG : H gt = some (.dK (dI G))
  aW : H nw = some (.dK (dB W))
  n1 : th ≠ gt
  n2 : gn ≠ gt
  n3 : th ≠ nw
  n4 : gn ≠ nw
  n5 : gt ≠ nw
/-- .. while one of the two is locked -/
structure Rk (K : PySem.W.Frag) (H0 H : Hp) (h : Hd) (cs : List Int) (th gn gt nw : Addr) (gd wd : HO) : Prop where
  ex : ExA H0 H
  fg : H0 gt = none
  fw : H0 nw = none
  aT : ∃ os, Paired (ObAt K H) os h.obs ∧ H th = some (.dK (dictOf os h.obs))
  aN : H gn = some (.dK (dB cs))
  aG : H gt = some gd
  aW : H nw = some wd
  n1 : th ≠ gt
  n2 : gn ≠ gt
  n3 : th ≠ nw
  n4 : gn ≠ nw
  n5 : gt ≠ nw
section
variable {K : PySem.W.Frag} {H0 H H' : Hp} {h : Hd} {cs : List Int} {th gn gt nw : Addr} {gd wd u : HO} {G : List (Int × Int)} {W : List Int}
theorem Rw.rk (r : Rw K H0 H h cs th gn gt nw G W) : Rk K H0 H h cs th gn gt nw (.dK (dI G)) (.dK (dB W)) := ⟨r.ex, r.fg, r.fw, r.aT, r.aN, r.aG, r.aW, r.n1, r.n2, r.n3, r.n4, r.n5⟩
theorem Rk.rw (r : Rk K H0 H h cs th gn gt nw (.dK (dI G)) (.dK (dB W))) : Rw K H0 H h cs th gn gt nw G W := ⟨r.ex, r.fg, r.fw, r.aT, r.aN, r.aG, r.aW, r.n1, r.n2, r.n3, r.n4, r.n5⟩
theorem Rk.setG (r : Rk K H0 H h cs th gn gt nw gd wd) (t : Tk K H (upd H gt u)) : Rk K H0 (upd H gt u) h cs th gn gt nw u wd := by
  obtain ⟨os, h1, h2⟩ := r.aT
  exact ⟨r.ex.put r.fg, r.fg, r.fw, ⟨os, pmp h1 fun _ _ z => ObAt.mono t z, by rw [upd_ne r.n1]; exact h2⟩, by rw [upd_ne r.n2]; exact r.aN, upd_same, by rw [upd_ne r.n5.symm]; exact r.aW, r.n1, r.n2, r.n3, r.n4, r.n5⟩
theorem Rk.setW (r : Rk K H0 H h cs th gn gt nw gd wd) (t : Tk K H (upd H nw u)) : Rk K H0 (upd H nw u) h cs th gn gt nw gd u := by
  obtain ⟨os, h1, h2⟩ := r.aT
  exact ⟨r.ex.put r.fw, r.fg, r.fw, ⟨os, pmp h1 fun _ _ z => ObAt.mono t z, by rw [upd_ne r.n3]; exact h2⟩, by rw [upd_ne r.n4]; exact r.aN, by rw [upd_ne r.n5]; exact r.aG, upd_same, r.n1, r.n2, r.n3, r.n4, r.n5⟩
theorem Rk.keep (r : Rk K H0 H h cs th gn gt nw gd wd) (e : ExA H H') : Rk K H0 H' h cs th gn gt nw gd wd := by
  obtain ⟨os, h1, h2⟩ := r.aT
  exact ⟨r.ex.trans e, r.fg, r.fw, ⟨os, pmp h1 fun _ _ z => ObAt.mono (Tk.all e) z, ExA.at e h2⟩, ExA.at e r.aN, ExA.at e r.aG, ExA.at e r.aW, r.n1, r.n2, r.n3, r.n4, r.n5⟩
/-- the object of a number, by things -/
theorem Rk.look (r : Rk K H0 H h cs th gn gt nw gd wd) {n : Int} (hn : n ∈ h.nums) : ∃ a o, DGet H th (.int n) (some (.ref a)) ∧ o ∈ h.obs ∧ o.num = n ∧ ObAt K H a o := by
  obtain ⟨os, h1, h2⟩ := r.aT
  obtain ⟨a, o, q, q1, q2, q3⟩ := dictOf_get h1 hn
  exact ⟨a, o, .inl ⟨_, Sum.inl n, .inl h2, rfl, q.symm⟩, q1, q2, q3⟩
end
theorem ob_uniq {h : Hd} (ok : h.Ok) {o p : Ob} (ho : o ∈ h.obs) (hp : p ∈ h.obs) (e : o.num = p.num) : o = p := by
  have key : ∀ (l : List Ob), (l.map Ob.num).Pairwise (· < ·) → o ∈ l → p ∈ l → o = p := by
    intro l
    induction l with
    | nil => intro _ z _; cases z
    | cons x r ih =>
      intro up h1 h2
      obtain ⟨u1, u2⟩ := List.pairwise_cons.mp (show (x.num :: r.map Ob.num).Pairwise (· < ·) from up)
      rcases List.mem_cons.mp h1 with e1 | m1
      · rcases List.mem_cons.mp h2 with e2 | m2
        · rw [e1, e2]
        · have := u1 _ (List.mem_map_of_mem (f := Ob.num) m2); rw [← e1] at this; omega
      · rcases List.mem_cons.mp h2 with e2 | m2
        · have := u1 _ (List.mem_map_of_mem (f := Ob.num) m1); rw [← e2] at this; omega
        · exact ih u2 m1 m2
  exact key h.obs ok.up ho hp
theorem In.same {h : Hd} {cs ds : List Int} (e : ∀ n, n ∈ cs ↔ n ∈ ds) (k : Nat) (n : Int) : In h cs k n ↔ In h ds k n := ⟨In.less fun m z => (e m).mpr z, In.less fun m z => (e m).mp z⟩
theorem RoundsOf.same {h : Hd} {cs ds : List Int} {G : List (Int × Int)} (e : ∀ n, n ∈ cs ↔ n ∈ ds) (r : RoundsOf h cs G) : RoundsOf h ds G :=
  ⟨r.nd, fun n => (r.all n).trans ⟨fun ⟨k, x⟩ => ⟨k, (In.same e k n).mp x⟩, fun ⟨k, x⟩ => ⟨k, (In.same e k n).mpr x⟩⟩, fun n v z => let ⟨k, a, b, c⟩ := r.val n v z; ⟨k, a, (In.same e k n).mp b, fun j hj x => c j hj ((In.same e j n).mpr x)⟩⟩
section
variable {P : Program} {w : World} {K : PySem.W.Frag} {mg : Str → Option Value} {base : Heap}
end
end Wc
namespace Wc
open PySem L2
/-! ### {x: True for x in xs} -/
def dedup (xs : List Int) : List Int := xs.foldl addK []
theorem dedup_snoc (xs : List Int) (n : Int) : dedup (xs ++ [n]) = addK (dedup xs) n := by unfold dedup; rw [List.foldl_append]; rfl
theorem mem_foldK (xs : List Int) : ∀ acc n, n ∈ xs.foldl addK acc ↔ n ∈ acc ∨ n ∈ xs := by
  induction xs with
  | nil => intro acc n; simp
  | cons x r ih => intro acc n; rw [List.foldl_cons, ih, mem_addK, List.mem_cons]; exact ⟨fun z => z.elim (fun z => z.elim .inl fun e => .inr (.inl e)) fun z => .inr (.inr z), fun z => z.elim (fun z => .inl (.inl z)) fun z => z.elim (fun e => .inl (.inr e)) .inr⟩
theorem mem_dedup {xs : List Int} {n : Int} : n ∈ dedup xs ↔ n ∈ xs := by unfold dedup; rw [mem_foldK]; simp
theorem nd_foldK (xs : List Int) : ∀ acc, acc.Nodup → (xs.foldl addK acc).Nodup := by
  induction xs with
  | nil => intro acc h; exact h
  | cons x r ih => intro acc h; exact ih _ (addK_nd h)
theorem nd_dedup (xs : List Int) : (dedup xs).Nodup := nd_foldK xs [] (by simp)
theorem dedup_self {xs : List Int} (h : xs.Nodup) : dedup xs = xs := by
  have key : ∀ (l acc : List Int), (acc ++ l).Nodup → l.foldl addK acc = acc ++ l := fun l => by
    induction l with
    | nil => intro acc _; rw [List.append_nil]; rfl
    | cons x r ih =>
      intro acc h
      have nx : x ∉ acc := fun z => (List.nodup_append.mp h).2.2 x z x List.mem_cons_self rfl
      rw [List.foldl_cons, show addK acc x = acc ++ [x] by unfold addK; rw [if_neg nx], ih _ (by rw [List.append_assoc]; exact h), List.append_assoc]; rfl
  exact key xs [] (by simpa using h)
theorem dcB {J : It} {G : Hp → Prop} {n : Nat} {zs : List V} (wk : Walk J n G (YAt zs)) (xs : List Int) (hzs : zs = xs.map V.int) (hn : n = xs.length) (hz : xs.length ≤ 40000) (st : Int → L2.St) {g : TG} {tt : TT} {tk tv : TE} {vs : List Nat} {σ : L2.St} {H : Hp} {D : Addr} {Qd : Hp → Prop}
    (hD : H D = none) (hG : ∀ H', ExA H H' → G H') (hg : ∀ x H1, ∀ R : L2.St → Hp → Prop, R (st x) H1 → g (V.int x) (wipe σ vs) H1 R) (hw : ∀ x, wipe (st x) vs = wipe σ vs) (ht : ∀ x H1, ∀ R : Bool → Hp → Prop, R true H1 → tt (st x) H1 R)
    (hk : ∀ x H1, ∀ R : VK, R (V.int x) H1 → tk (st x) H1 R) (hv : ∀ x H1, ∀ R : VK, R (V.bl true) H1 → tv (st x) H1 R) (hd : ∀ H', ExA H H' → H' D = some (.dK (dB (dedup xs))) → Qd H') :
    ∃ W : Nat → Nat → Hp → Prop, (∃ m, W 0 m (upd H D (.dK []))) ∧ ∀ i m H, W i m H →
      (J.stop i H ∧ Qd H) ∨ (J.go i H ∧ ∃ Nx : Hp → Prop, (∀ H', Nx H' → ∃ m', m' < m ∧ W (i + 1) m' H') ∧ ∀ x H', J.yld i H x H' → g x (wipe σ vs) H' fun σ2 H2 => wipe σ2 vs = wipe σ vs ∧ tt σ2 H2 fun b H3 =>
        if b = true then tk σ2 H3 fun y H4 => tv σ2 H4 fun z H5 => ∃ kvs k, y = kV k ∧ H5 D = some (.dK kvs) ∧ kvs.length < sizeLine ∧ Nx (upd H5 D (.dK (putK kvs k z))) else Nx H3) := by
  subst hzs hn
  refine dcM [] wk hD (fun i acc _ => acc = dB (dedup (xs.take i))) rfl (fun H' x => hG H' x) (fun i x H1 H2 acc hi e k1 k2 hacc y => ?_) (fun H' acc e k1 k2 hacc => ?_)
  · obtain ⟨rfl, hx⟩ := y
    obtain ⟨u, hu⟩ : ∃ u, xs[i]? = some u := ⟨_, List.getElem?_eq_getElem hi⟩
    rw [List.getElem?_map, hu] at hx
    obtain rfl : V.int u = x := Option.some.inj hx
    refine hg u _ _ ⟨hw u, ht u _ _ (iteT (hk u _ _ (hv u _ _ ?_)))⟩
    refine DcP.yes (k := Sum.inl u) hD (by simp) (by omega) e k1 k2 rfl (ExM.refl _ _) ?_
    rw [hacc, take_snoc hu, dedup_snoc, dB_put]
  · rw [List.take_length] at hacc
    exact hd H' e (by rw [k1, hacc])
end Wc
namespace Wc
open PySem L2
/-- rising, and these -/
def UpSet (ns : List Int) (S : Int → Prop) : Prop := ns.Pairwise (· < ·) ∧ ∀ n, n ∈ ns ↔ S n
section
variable (K : PySem.W.Frag)
def R_obtainable : V2 := fun x y H Q => ∃ (a : Addr) (h : Hd) (c : Addr) (cs : List Int), x = .ref a ∧ y = .ref c ∧ HeapAt K H a h ∧ h.Ok ∧ SqT K H c (cs.map .int) ∧ cs.length ≤ 1000 ∧
  ∀ ns, UpSet ns (Obt h cs) → NewT ns H Q
abbrev sp_obtainable : Sp := sp2 (R_obtainable K)
def R_numbers_of : V1 := fun x H Q => ∃ (a : Addr) (h : Hd), x = .ref a ∧ HeapAt K H a h ∧ h.Ok ∧ NewT h.nums H Q
abbrev sp_numbers_of : Sp := sp1 (R_numbers_of K)
def R_reachable : V1 := fun x H Q => ∃ (a : Addr) (h : Hd), x = .ref a ∧ HeapAt K H a h ∧ h.Ok ∧ ∀ ns, UpSet ns (Obt h h.nums) → NewT ns H Q
abbrev sp_reachable : Sp := sp1 (R_reachable K)
def R__law_cell : V2 := fun x y H Q => ∃ (a : Addr) (ns : List Int) (i : Int), x = .ref a ∧ y = .int i ∧ SqL K H a (ns.map .int) ∧ 0 ≤ i ∧ ∀ v : Int, Q (.int v) H
abbrev sp__law_cell : Sp := sp2 (R__law_cell K)
def R__law_digits : V3 := fun x y z H Q => ∃ (a : Addr) (ns : List Int) (i j : Int), x = .ref a ∧ y = .int i ∧ z = .int j ∧ SqL K H a (ns.map .int) ∧ 0 ≤ i ∧ i ≤ j ∧ j ≤ 1000 ∧ ∀ ds, NewL ds H Q
abbrev sp__law_digits : Sp := sp3 (R__law_digits K)
def R__law_box : V3 := fun x y z H Q => ∃ (a : Addr) (ns : List Int) (i j : Int), x = .ref a ∧ y = .int i ∧ z = .int j ∧ SqL K H a (ns.map .int) ∧ 0 ≤ i ∧ i ≤ j ∧ j ≤ 1000 ∧ ∀ b d ds H', H b = none → ExA H H' → Bx H' b d ds → Q (.ref b) H'
abbrev sp__law_box : Sp := sp3 (R__law_box K)
def R__law_draw (_ : PySem.W.Frag) : V2 := fun x y H Q => ∃ (b d : Addr) (ds : List Int) (m : Int), x = .ref b ∧ y = .int m ∧ 0 < m ∧ Bx H b d ds ∧ ∀ H' (v : Int), ExM [b] H H' → Bx H' b d ds → 0 ≤ v → v < m → Q (.int v) H'
abbrev sp__law_draw : Sp := sp2 (R__law_draw K)
def R__law_number : V2 := fun x y H Q => ∃ (b d : Addr) (ds : List Int) (a : Addr) (ns : List Int), x = .ref b ∧ y = .ref a ∧ Bx H b d ds ∧ Nm K H b a ns ∧ ∀ H' (r : Rf), ExM [b] H H' → Bx H' b d ds → Rf.ok ns r → Q (rV r) H'
abbrev sp__law_number : Sp := sp2 (R__law_number K)
def R__law_object : V3 := fun x y z H Q => ∃ (b d : Addr) (ds : List Int) (n : Int) (a : Addr) (ns : List Int), x = .ref b ∧ y = .int n ∧ z = .ref a ∧ Bx H b d ds ∧ Nm K H b a ns ∧
  ∀ H' p o, ExM [b] H H' → Bx H' b d ds → ObAt K H' p o → o.num = n → o.ok ns → Q (.ref p) H'
abbrev sp__law_object : Sp := sp3 (R__law_object K)
def R__law_heap : V2 := fun x y H Q => ∃ (b d : Addr) (ds : List Int) (m : Int), x = .ref b ∧ y = .int m ∧ 0 ≤ m ∧ m ≤ 49 ∧ Bx H b d ds ∧ ∀ H' p (h : Hd), ExM [b] H H' → Bx H' b d ds → HeapAt K H' p h → h.Ok → (h.obs.length : Int) ≤ m → Q (.ref p) H'
abbrev sp__law_heap : Sp := sp2 (R__law_heap K)
def R__law_numbers : V1 := fun x H Q => ∃ (a : Addr) (h : Hd), x = .ref a ∧ HeapAt K H a h ∧ h.Ok ∧ NewL h.nums H Q
abbrev sp__law_numbers : Sp := sp1 (R__law_numbers K)
def R__law_some : V2 := fun x y H Q => ∃ (b d : Addr) (ds : List Int) (a : Addr) (ns : List Int), x = .ref b ∧ y = .ref a ∧ Bx H b d ds ∧ (Nm K H b a ns ∨ SqT K H a (ns.map .int)) ∧ ns.length ≤ 1000 ∧
  ∀ H' p (ms : List Int), ExM [b] H H' → Bx H' b d ds → ms.Sublist ns → H' p = some (.tup (ms.map V.int)) → Q (.ref p) H'
abbrev sp__law_some : Sp := sp2 (R__law_some K)
end
section
variable {P : Program} {w : World} {K : PySem.W.Frag} {mg : Str → Option Value} {base : Heap}
theorem ok__law_cell {f : Addr} {fd : FuncData} {cd : Value} (F : Df K "_law_cell" s__law_cell f fd cd) (T : Txt mg) : FnOk P w K mg base CX0 1 f fd ["script", "k"] (sp__law_cell K) := by
  have nd := sc__law_cell.nd
  refine F.ok sc__law_cell (fun vs H Q E h => ?_) (fun A outer s H vs Q E hr h => ?_)
  · obtain ⟨_, _, rfl, _⟩ := h; rfl
  have hu := hu_of hr
  obtain ⟨x0, x1, rfl, h⟩ := h
  refine ⟨_, (pss_cons (ps_if (pt_cmpR op_lt (pv 1) (pe_callB (r := Evl.rLenS K) call_len_seq rfl T.len PySem.boot_len (pa_cons (pv 0) pa_nil)) (nomark _)) (pss_one (ps_ret (pe_ix (r := rIxL K) ix_list (pv 0) (pv 1) (fun _ _ => rfl)))) pss_nil)
    (pss_one (ps_ret pe_int))), ?_⟩
  obtain ⟨a, ns, i, rfl, rfl, hS, h0, q⟩ := h
  obtain ⟨j, rfl⟩ : ∃ j : Nat, i = (j : Int) := ⟨i.toNat, by omega⟩
  refine ⟨_, rfl, _, rfl, a, _, rfl, .inl hS, _, _, rfl, rfl, _, rfl, ite2 (fun c => ?_) (fun c => ?_)⟩
  · have c' : (j : Int) < (((ns.map V.int).length : Nat) : Int) := of_decide_eq_true c
    rw [List.length_map] at c'
    have hj : j < ns.length := by omega
    exact ⟨_, rfl, _, rfl, a, _, _, V.int ns[j], rfl, rfl, hS, atI_nat (by rw [List.getElem?_map]; simp [hj]), q _⟩
  · exact q 0
theorem ok__law_draw {f : Addr} {fd : FuncData} {cd : Value} (F : Df K "_law_draw" s__law_draw f fd cd) (T : Txt mg) : FnOk P w K mg base CX0 1 f fd ["box", "many"] (sp__law_draw K) := by
  have nd := sc__law_draw.nd
  refine F.ok sc__law_draw (fun vs H Q E h => ?_) (fun A outer s H vs Q E hr h => ?_)
  · obtain ⟨_, _, rfl, _⟩ := h; rfl
  have hu := hu_of hr
  obtain ⟨x0, x1, rfl, h⟩ := h
  refine ⟨_, (pss_cons (ps_set (i := 2) nd rfl (by first | exact Or.inl rfl | exact Or.inr rfl) (pe_ix (r := rIxL K) ix_list (pv 0) pe_int (fun _ _ => rfl)))
    (pss_cons (ps_asg (pe_op op_add (pv 2) pe_int) (pg_sub (pv 0) pe_int set_list))
    (pss_cons (ps_if (pt_cmpR op_lt (pv 2) (pe_callB (r := Evl.rLenS K) call_len_seq rfl T.len PySem.boot_len (pa_cons (pe_ix (r := rIxL K) ix_list (pv 0) pe_int (fun _ _ => rfl)) pa_nil)) (nomark _)) (pss_one (ps_ret (pe_op op_mod (pe_callTy call_int1 rfl T.int (by decide +kernel) (pa_cons (pe_ix (r := rIxL K) ix_list (pe_ix (r := rIxL K) ix_list (pv 0) pe_int (fun _ _ => rfl)) (pv 2) (fun _ _ => rfl)) pa_nil)) (pv 1)))) pss_nil)
    (pss_one (ps_ret pe_int))))), ?_⟩
  obtain ⟨b, d, ds, m, rfl, rfl, hm, hb, q⟩ := h
  obtain ⟨⟨n, e1⟩, e2, e3⟩ := id hb
  refine ⟨_, rfl, b, _, _, _, rfl, rfl, SqL.of e1, at1, ?_⟩
  refine ⟨_, rfl, _, _, rfl, rfl, _, rfl, b, _, _, 1, rfl, rfl, e1, rfl, ?_⟩
  have e4 : (upd H b (.lst ([V.ref d, V.int (n : Int)].set 1 (V.int ((n : Int) + 1))))) b = some (.lst [.ref d, .int ((n + 1 : Nat) : Int)]) := by rw [upd_same]; rfl
  have e5 : (upd H b (.lst ([V.ref d, V.int (n : Int)].set 1 (V.int ((n : Int) + 1))))) d = some (.lst (ds.map V.int)) := by rw [upd_ne e3]; exact e2
  have e6 : ExM [b] H (upd H b (.lst ([V.ref d, V.int (n : Int)].set 1 (V.int ((n : Int) + 1))))) := (ExM.refl _ _).mem (by simp)
  have hb' : Bx _ b d ds := ⟨⟨n + 1, e4⟩, e5, e3⟩
  refine ⟨_, rfl, _, rfl, b, _, _, _, rfl, rfl, SqL.of e4, at0, d, _, rfl, .inl (SqL.of e5), _, _, rfl, rfl, _, rfl, ite2 (fun c => ?_) (fun c => ?_)⟩
  · have c' : (n : Int) < (((ds.map V.int).length : Nat) : Int) := of_decide_eq_true c
    rw [List.length_map] at c'
    have hj : n < ds.length := by omega
    refine ⟨_, rfl, b, _, _, _, rfl, rfl, SqL.of e4, at0, _, rfl, d, _, _, V.int ds[n], rfl, rfl, SqL.of e5, atI_nat (by rw [List.getElem?_map]; simp [hj]), .inl ⟨_, rfl, _, rfl, _, _, rfl, rfl, hm, ?_⟩⟩
    exact q _ _ e6 hb' (Int.emod_nonneg _ (by omega)) (Int.emod_lt_of_pos _ hm)
  · exact q _ 0 e6 hb' (Int.le_refl 0) hm
theorem ok__law_number {f : Addr} {fd : FuncData} {cd : Value} (F : Df K "_law_number" s__law_number f fd cd) (T : Txt mg) (C__law_draw : Cal P w K mg base 1 "_law_draw" (sp__law_draw K) []) : FnOk P w K mg base CX0 2 f fd ["box", "numbers"] (sp__law_number K) := by
  have nd := sc__law_number.nd
  refine F.ok sc__law_number (fun vs H Q E h => ?_) (fun A outer s H vs Q E hr h => ?_)
  · obtain ⟨_, _, rfl, _⟩ := h; rfl
  have hu := hu_of hr
  obtain ⟨x0, x1, rfl, h⟩ := h
  refine ⟨_, (pss_cons (ps_if (PW.pt (pw_or (pt_cmpR op_eq (pe_callB (r := Evl.rLenS K) call_len_seq rfl T.len PySem.boot_len (pa_cons (pv 1) pa_nil)) pe_int (nomark _)) (pw_or1 (pt_cmpR op_eq (pe_c C__law_draw hr (by first | exact Nat.le_refl _ | decide) rfl (pa_cons (pv 0) (pa_cons pe_int pa_nil))) pe_int (nomark _))))) (pss_one (ps_ret pe_non)) pss_nil)
    (pss_one (ps_ret (pe_ix (r := rIxL K) ix_list (pv 1) (pe_op op_mod (pe_callTy call_int1 rfl T.int (by decide +kernel) (pa_cons (pe_c C__law_draw hr (by first | exact Nat.le_refl _ | decide) rfl (pa_cons (pv 0) (pa_cons pe_int pa_nil))) pa_nil)) (pe_callB (r := Evl.rLenS K) call_len_seq rfl T.len PySem.boot_len (pa_cons (pv 1) pa_nil))) (fun _ _ => rfl))))), ?_⟩
  obtain ⟨b, d, ds, a, ns, rfl, rfl, hb, hN, q⟩ := h
  refine ⟨_, rfl, a, _, rfl, .inl hN.1, rfl, _, rfl, ite2 (fun c => ?_) (fun c => ?_)⟩
  · exact iteT (q _ none (ExM.refl _ _) hb (fun i z => by cases z))
  have hne : 0 < ns.length := by
    rw [List.length_map] at c
    have c' : ¬ (V.int (ns.length : Int) = V.int 0) := of_decide_eq_false (Bool.eq_false_iff.mpr c)
    rcases Nat.eq_zero_or_pos ns.length with z | z
    · rw [z] at c'; exact absurd rfl c'
    · exact z
  refine ⟨_, rfl, _, _, rfl, b, d, ds, 5, rfl, rfl, by decide, hb, fun H1 v x1 b1 v0 v5 => ?_⟩
  refine ⟨rfl, _, rfl, ite2 (fun c2 => ?_) (fun c2 => ?_)⟩
  · exact q _ none x1 b1 (fun i z => by cases z)
  have N1 := hN.keep x1
  refine ⟨_, rfl, _, rfl, _, _, rfl, b, d, ds, 1000, rfl, rfl, by decide, b1, fun H2 u x2 b2 u0 u5 => ?_⟩
  have N2 := N1.keep x2
  refine .inl ⟨_, rfl, _, rfl, a, _, rfl, .inl N2.1, _, _, rfl, rfl, by rw [List.length_map]; omega, ?_⟩
  have hl : (ns.map V.int).length = ns.length := List.length_map _
  have r0 : 0 ≤ u % ((ns.map V.int).length : Int) := Int.emod_nonneg _ (by omega)
  have r1 : u % ((ns.map V.int).length : Int) < ((ns.map V.int).length : Int) := Int.emod_lt_of_pos _ (by omega)
  obtain ⟨j, hj⟩ : ∃ j : Nat, u % ((ns.map V.int).length : Int) = (j : Int) := ⟨(u % ((ns.map V.int).length : Int)).toNat, by omega⟩
  have hjl : j < ns.length := by omega
  show rIxL K (.ref a) (.int (u % (((ns.map V.int).length : Nat) : Int))) H2 _
  rw [hj]
  refine ⟨a, _, _, V.int ns[j], rfl, rfl, N2.1, atI_nat (by rw [List.getElem?_map]; simp [hjl]), ?_⟩
  exact q _ (some ns[j]) (x1.trans x2) b2 (fun i z => by cases z; exact List.getElem_mem hjl)
theorem ok__law_numbers {f : Addr} {fd : FuncData} {cd : Value} (F : Df K "_law_numbers" s__law_numbers f fd cd) (T : Txt mg) : FnOk P w K mg base CX0 1 f fd ["heap"] (sp__law_numbers K) := by
  have nd := sc__law_numbers.nd
  refine F.ok sc__law_numbers (fun vs H Q E h => ?_) (fun A outer s H vs Q E hr h => ?_)
  · obtain ⟨_, rfl, _⟩ := h; rfl
  have hu := hu_of hr
  obtain ⟨x0, rfl, h⟩ := h
  refine ⟨_, (pss_one (ps_ret (pe_lc (own := [("row", 1)]) rfl nd (show PI _ _ _ (iTup K _) from pi_tup (pe_ix (r := rIxT K) ix_tup (pv 0) pe_int (fun _ _ => rfl))) (blkOk_by (own := [("row", 1)]) (N := N__law_numbers) (sc := defScope s__law_numbers) (by decide +kernel)) (fun _ _ _ _ _ => (pg_name (i := 1) nd rfl (by first | exact Or.inl rfl | exact Or.inr rfl))) (fun _ _ _ _ _ => pts_nil) (fun _ _ _ _ _ => (pe_ix (r := rIxT K) ix_tup (pv 1) pe_int (fun _ _ => rfl)))))), ?_⟩
  obtain ⟨a, h, rfl, ⟨r, k, o, w, ws, h1, h2, h3, ⟨os, ho, hp⟩, _⟩, ok, q⟩ := h
  have hl := plen hp
  refine ⟨_, rfl, a, _, _, _, rfl, rfl, h1, at4, o, rfl, ⟨_, ho⟩, fun D hD => ?_⟩
  refine lcM [] (walk_tup (xs := os.map V.ref)) hD (fun i acc _ => acc = (h.nums.take i).map V.int) rfl (fun H' e => Tk.all e _ _ ho) (fun i x H1 H2 acc hi e h1 h2 hacc y => ?_) (fun H' acc e h1 h2 hacc => ?_)
  · obtain ⟨rfl, hx⟩ := y
    rw [List.length_map] at hi
    obtain ⟨a1, hos⟩ : ∃ a1, os[i]? = some a1 := ⟨_, List.getElem?_eq_getElem hi⟩
    rw [List.getElem?_map, hos] at hx
    obtain rfl : V.ref a1 = x := Option.some.inj hx
    obtain ⟨o1, ho1, hob⟩ := pget hp hos
    obtain ⟨kn, vn, hn⟩ := (ObAt.mono (Tk.all e) hob).num
    have hnum : h.nums[i]? = some o1.num := by unfold Hd.nums; rw [List.getElem?_map, ho1]; rfl
    have zi : i ≤ 40000 := by have := ok.size; omega
    refine ⟨rfl, tyes ⟨_, rfl, a1, _, _, _, rfl, rfl, hn, at1, LcP.yes hD (by simp) zi e h1 h2 (ExM.refl _ _) ?_⟩⟩
    rw [hacc, take_snoc hnum, List.map_append]; rfl
  · have hn : h.nums.length = os.length := by unfold Hd.nums; rw [List.length_map, hl]
    rw [List.length_map, ← hn, List.take_length] at hacc
    exact q D H' hD e (by rw [h1, hacc])
end
end Wc
namespace Wc
open PySem L2
/-- a or b, a and b, where nothing is made: by their answers -/
theorem or_join {t u : TT} {σ : L2.St} {H : Hp} {Q : Bool → Hp → Prop} (b c : Bool) (ht : ∀ Q' : Bool → Hp → Prop, Q' b H → t σ H Q') (hu : b = false → ∀ Q' : Bool → Hp → Prop, Q' c H → u σ H Q') (h : Q (b || c) H) : tOr t u σ H Q := by
  refine ht _ ?_
  cases b with
  | true => exact iteT h
  | false => exact iteF (hu rfl _ h)
theorem gN {i : Nat} {v : V} {σ : L2.St} {H : Hp} {Q : L2.St → Hp → Prop} (h : Q (σ.set i (some v)) H) : gName i v σ H Q := h
theorem and_join {t u : TT} {σ : L2.St} {H : Hp} {Q : Bool → Hp → Prop} (b c : Bool) (ht : ∀ Q' : Bool → Hp → Prop, Q' b H → t σ H Q') (hu : b = true → ∀ Q' : Bool → Hp → Prop, Q' c H → u σ H Q') (h : Q (b && c) H) : tAnd t u σ H Q := by
  refine ht _ ?_
  cases b with
  | true => exact iteT (hu rfl _ h)
  | false => exact iteF h
theorem len0 (ns : List Int) : decide (V.int (((ns.map V.int).length : Nat) : Int) = V.int 0) = decide (ns.length = 0) := by
  rw [List.length_map]
  by_cases c : ns.length = 0
  · rw [c]; rfl
  · rw [decide_eq_false c]
    exact decide_eq_false fun z => c (by have := V.int.inj z; omega)
theorem pick_ok {K : PySem.W.Frag} {H : Hp} {a : Addr} {ns : List Int} (hS : SqL K H a (ns.map V.int)) (hne : 0 < ns.length) (u : Int) {Q : VK} (q : ∀ i, i ∈ ns → Q (.int i) H) :
    rIxL K (.ref a) (.int (u % (((ns.map V.int).length : Nat) : Int))) H Q := by
  have hl : (ns.map V.int).length = ns.length := List.length_map _
  have r0 : 0 ≤ u % ((ns.map V.int).length : Int) := Int.emod_nonneg _ (by omega)
  have r1 : u % ((ns.map V.int).length : Int) < ((ns.map V.int).length : Int) := Int.emod_lt_of_pos _ (by omega)
  obtain ⟨j, hj⟩ : ∃ j : Nat, u % ((ns.map V.int).length : Int) = (j : Int) := ⟨(u % ((ns.map V.int).length : Int)).toNat, by omega⟩
  have hjl : j < ns.length := by omega
  rw [hj]
  exact ⟨a, _, _, V.int ns[j], rfl, rfl, hS, atI_nat (by rw [List.getElem?_map]; simp [hjl]), q _ (List.getElem_mem hjl)⟩
section
variable {P : Program} {w : World} {K : PySem.W.Frag} {mg : Str → Option Value} {base : Heap}
theorem ok__law_digits {f : Addr} {fd : FuncData} {cd : Value} (F : Df K "_law_digits" s__law_digits f fd cd) (T : Txt mg) (C__law_cell : Cal P w K mg base 1 "_law_cell" (sp__law_cell K) []) : FnOk P w K mg base CX0 2 f fd ["script", "first", "last"] (sp__law_digits K) := by
  have nd := sc__law_digits.nd
  refine F.ok sc__law_digits (fun vs H Q E h => ?_) (fun A outer s H vs Q E hr h => ?_)
  · obtain ⟨_, _, _, rfl, _⟩ := h; rfl
  have hu := hu_of hr
  obtain ⟨x0, x1, x2, rfl, h⟩ := h
  refine ⟨_, (pss_cons (ps_set (i := 3) nd rfl (by first | exact Or.inl rfl | exact Or.inr rfl) (pe_lst pa_nil))
    (pss_cons (ps_for PassesOwn.never rfl (pi_range2 rfl T.range (pa_cons (pv 1) (pa_cons (pv 2) pa_nil))) (pg_name (i := 4) nd rfl (by first | exact Or.inl rfl | exact Or.inr rfl))
    (pss_cons (ps_set (i := 5) nd rfl (by first | exact Or.inl rfl | exact Or.inr rfl) (pe_c C__law_cell hr (by first | exact Nat.le_refl _ | decide) rfl (pa_cons (pv 0) (pa_cons (pv 4) pa_nil))))
    (Evl.pss_cut (ps_if (pt_cmpR op_lt (pv 5) pe_int (nomark _)) (pss_one (ps_set (i := 5) nd rfl (by first | exact Or.inl rfl | exact Or.inr rfl) (pe_op op_sub pe_int (pe_op op_mul pe_int (pv 5))))) pss_nil)
    (pss_one (ps_if (pt_cmpR op_ge (pv 5) (pe_op op_pow pe_int pe_int) (nomark _)) (pss_one (ps_for PassesOwn.never rfl (pi_range1 rfl T.range (pa_cons pe_int pa_nil)) (pg_name (i := 6) nd rfl (by first | exact Or.inl rfl | exact Or.inr rfl))
    (pss_one (ps_if (pt_cmpR op_gt (pv 5) pe_int (nomark _)) (pss_cons (ps_expr (pe_bm PySem.F.plainAttrs_list PySem.F.slot_list_append PySem.F.type_list_append mt_append (pv 3) (pa_cons (pe_op op_mod (pe_callTy call_int1 rfl T.int (by decide +kernel) (pa_cons (pv 5) pa_nil)) pe_int) pa_nil)))
    (pss_one (ps_set (i := 5) nd rfl (by first | exact Or.inl rfl | exact Or.inr rfl) (pe_op op_fdiv (pv 5) pe_int)))) pss_nil)))) (pss_cons (ps_set (i := 7) nd rfl (by first | exact Or.inl rfl | exact Or.inr rfl) (pe_op op_mod (pe_callTy call_int1 rfl T.int (by decide +kernel) (pa_cons (pe_op op_add (pe_op op_add (pe_op op_mul (pv 5) pe_int) (pe_op op_mul (pv 4) pe_int)) pe_int) pa_nil)) pe_int))
    (pss_one (ps_for PassesOwn.never rfl (pi_range1 rfl T.range (pa_cons pe_int pa_nil)) (pg_name (i := 6) nd rfl (by first | exact Or.inl rfl | exact Or.inr rfl))
    (pss_cons (ps_set (i := 7) nd rfl (by first | exact Or.inl rfl | exact Or.inr rfl) (pe_op op_mod (pe_callTy call_int1 rfl T.int (by decide +kernel) (pa_cons (pe_op op_add (pe_op op_add (pe_op op_mul (pv 7) pe_int) (pe_op op_mul pe_int (pv 6))) pe_int) pa_nil)) pe_int))
    (pss_one (ps_expr (pe_bm PySem.F.plainAttrs_list PySem.F.slot_list_append PySem.F.type_list_append mt_append (pv 3) (pa_cons (pe_op op_mod (pe_callTy call_int1 rfl T.int (by decide +kernel) (pa_cons (pe_op op_fdiv (pv 7) pe_int) pa_nil)) pe_int) pa_nil)))))))))))))
    (pss_one (ps_ret (pv 3))))), ?_⟩
  obtain ⟨a, ns, i, j, rfl, rfl, rfl, hS, hi0, hij, hj, q⟩ := h
  refine ⟨Nat.zero_le _, fun l fl => ?_⟩
  refine ⟨_, rfl, _, rfl, i, j, rfl, ⟨by omega, by omega, by omega, by omega⟩, ?_⟩
  refine for_range (lo := i) (n := (j - i).toNat) (fun t σ2 H2 => ∃ u4 u5 u6 u7, σ2 = [some (.ref a), some (.int i), some (.int j), some (.ref l), u4, u5, u6, u7] ∧ ExA H H2 ∧ ∃ ds : List Int, H2 l = some (.lst (ds.map V.int)) ∧ ds.length ≤ 60 * t)
    ⟨none, none, none, none, rfl, ExM.new fl, [], upd_same, Nat.le_refl _⟩ (fun t σ2 H2 ht p => ?_) (fun σ2 H2 p => ?_)
  · obtain ⟨u4, u5, u6, u7, rfl, e2, ds, hl, hz⟩ := p
    refine ⟨_, rfl, _, rfl, _, _, rfl, a, ns, _, rfl, rfl, SqL.all e2 hS, by omega, fun v => ?_⟩
    refine ⟨fun σ3 H3 => ∃ c : Int, 0 ≤ c ∧ H3 = H2 ∧ σ3 = [some (.ref a), some (.int i), some (.int j), some (.ref l), some (.int (i + (t : Int))), some (.int c), u6, u7], ?_, ?_⟩
    · refine ⟨_, rfl, _, _, rfl, rfl, _, rfl, ite2 (fun c => ?_) (fun c => ?_)⟩
      · have c' : v < 0 := of_decide_eq_true c
        exact ⟨_, rfl, 2, v, rfl, rfl, .inl ⟨by decide, by decide⟩, 1, _, rfl, rfl, 1 - 2 * v, by omega, rfl, rfl⟩
      · have c' : ¬ v < 0 := of_decide_eq_false (Bool.eq_false_iff.mpr c)
        exact ⟨v, by omega, rfl, rfl⟩
    rintro σ3 H3 ⟨c, c0, rfl, rfl⟩
    have zt : t ≤ 1000 := by omega
    refine ⟨_, rfl, 10, 18, rfl, rfl, ⟨by decide, by decide, by decide⟩, _, _, rfl, rfl, _, rfl, ite2 (fun _ => ?_) (fun _ => ?_)⟩
    · refine ⟨60, rfl, by decide, by decide, ?_⟩
      refine for_range (lo := 0) (n := 60) (fun r σ4 H4 => ∃ (c : Int) (u6 : Option V), σ4 = [some (.ref a), some (.int i), some (.int j), some (.ref l), some (.int (i + (t : Int))), some (.int c), u6, u7] ∧ ExA H H4 ∧ ∃ ds : List Int, H4 l = some (.lst (ds.map V.int)) ∧ ds.length ≤ 60 * t + r)
        ⟨c, u6, rfl, e2, ds, hl, hz⟩ (fun r σ4 H4 hr p => ?_) (fun σ4 H4 p => ?_)
      · obtain ⟨c, u6, rfl, e4, ds, hl, hz⟩ := p
        refine ⟨_, rfl, _, _, rfl, rfl, _, rfl, ite2 (fun _ => ?_) (fun _ => ?_)⟩
        · refine ⟨_, rfl, .inl ⟨rfl, _, SqL.of hl⟩, _, rfl, .inl ⟨_, rfl, _, _, rfl, rfl, (by show (0 : Int) < 1000; decide), l, _, _, rfl, rfl, hl, szl (by rw [List.length_map]; omega), ?_⟩⟩
          refine ⟨_, rfl, _, _, rfl, rfl, ⟨by decide, by decide⟩, _, _, rfl, e4.put fl, ds ++ [c % 1000], ?_, by rw [List.length_append, List.length_singleton]; omega⟩
          rw [upd_same, List.map_append]; rfl
        · exact ⟨c, _, rfl, e4, ds, hl, by omega⟩
      · obtain ⟨c, u6, rfl, e4, ds, hl, hz⟩ := p
        exact ⟨_, _, _, _, rfl, e4, ds, hl, by omega⟩
    · refine ⟨_, rfl, _, _, rfl, rfl, .inr ⟨by decide, by decide⟩, _, rfl, _, _, rfl, rfl, .inr ⟨by decide, by decide⟩, _, _, rfl, rfl, _, _, rfl, rfl, .inl ⟨_, rfl, _, _, rfl, rfl, (by show (0 : Int) < 2147483647; decide), ?_⟩⟩
      refine ⟨12, rfl, by decide, by decide, ?_⟩
      refine for_range (lo := 0) (n := 12) (fun r σ4 H4 => ∃ (e : Int) (u6 : Option V), σ4 = [some (.ref a), some (.int i), some (.int j), some (.ref l), some (.int (i + (t : Int))), some (.int c), u6, some (.int e)] ∧ ExA H H4 ∧ ∃ ds : List Int, H4 l = some (.lst (ds.map V.int)) ∧ ds.length ≤ 60 * t + r)
        ⟨_, u6, rfl, e2, ds, hl, hz⟩ (fun r σ4 H4 hr p => ?_) (fun σ4 H4 p => ?_)
      · obtain ⟨e, u6, rfl, e4, ds, hl, hz⟩ := p
        refine ⟨_, rfl, _, _, rfl, rfl, .inr ⟨by decide, by decide⟩, _, rfl, _, _, rfl, rfl, .inl ⟨by decide, by decide⟩, _, _, rfl, rfl, _, _, rfl, rfl, .inl ⟨_, rfl, _, _, rfl, rfl, (by show (0 : Int) < 2147483647; decide), ?_⟩⟩
        refine ⟨_, rfl, .inl ⟨rfl, _, SqL.of hl⟩, _, rfl, _, _, rfl, rfl, ⟨by decide, by decide⟩, .inl ⟨_, rfl, _, _, rfl, rfl, (by show (0 : Int) < 1000; decide), l, _, _, rfl, rfl, hl, szl (by rw [List.length_map]; omega), ?_⟩⟩
        refine ⟨(e * 16807 + 7 * (0 + (r : Int)) + 1) % 2147483647, _, rfl, e4.put fl, ds ++ [(e * 16807 + 7 * (0 + (r : Int)) + 1) % 2147483647 / 997 % 1000], ?_, by rw [List.length_append, List.length_singleton]; omega⟩
        rw [upd_same, List.map_append]; rfl
      · obtain ⟨e, u6, rfl, e4, ds, hl, hz⟩ := p
        exact ⟨_, _, _, _, rfl, e4, ds, hl, by omega⟩
  · obtain ⟨u4, u5, u6, u7, rfl, e2, ds, hl, hz⟩ := p
    exact ⟨_, rfl, q ds l H2 fl e2 hl⟩
theorem ok__law_box {f : Addr} {fd : FuncData} {cd : Value} (F : Df K "_law_box" s__law_box f fd cd) (T : Txt mg) (C__law_digits : Cal P w K mg base 2 "_law_digits" (sp__law_digits K) []) : FnOk P w K mg base CX0 3 f fd ["script", "first", "last"] (sp__law_box K) := by
  have nd := sc__law_box.nd
  refine F.ok sc__law_box (fun vs H Q E h => ?_) (fun A outer s H vs Q E hr h => ?_)
  · obtain ⟨_, _, _, rfl, _⟩ := h; rfl
  have hu := hu_of hr
  obtain ⟨x0, x1, x2, rfl, h⟩ := h
  refine ⟨_, (pss_one (ps_ret (pe_lst (pa_cons (pe_c C__law_digits hr (by first | exact Nat.le_refl _ | decide) rfl (pa_cons (pv 0) (pa_cons (pv 1) (pa_cons (pv 2) pa_nil)))) (pa_cons pe_int pa_nil))))), ?_⟩
  obtain ⟨a, ns, i, j, rfl, rfl, rfl, hS, hi0, hij, hj, q⟩ := h
  refine ⟨_, rfl, _, rfl, _, rfl, _, _, _, rfl, a, ns, i, j, rfl, rfl, rfl, hS, hi0, hij, hj, fun ds p H1 fp e1 hp => ?_⟩
  refine ⟨sz (by show 2 ≤ 100000; decide), fun b fb => q b p ds _ (ExA.free e1 fb) (e1.put (ExA.free e1 fb)) ⟨⟨0, upd_same⟩, ?_, ne_of_none hp fb⟩⟩
  rw [upd_ne (ne_of_none hp fb)]; exact hp
theorem ok__law_object {f : Addr} {fd : FuncData} {cd : Value} (F : Df K "_law_object" s__law_object f fd cd) (T : Txt mg) (C__law_draw : Cal P w K mg base 1 "_law_draw" (sp__law_draw K) []) (C__law_number : Cal P w K mg base 2 "_law_number" (sp__law_number K) []) : FnOk P w K mg base CX0 3 f fd ["box", "number", "numbers"] (sp__law_object K) := by
  have nd := sc__law_object.nd
  refine F.ok sc__law_object (fun vs H Q E h => ?_) (fun A outer s H vs Q E hr h => ?_)
  · obtain ⟨_, _, _, rfl, _⟩ := h; rfl
  have hu := hu_of hr
  obtain ⟨x0, x1, x2, rfl, h⟩ := h
  refine ⟨_, (pss_cons (ps_set (i := 3) nd rfl (by first | exact Or.inl rfl | exact Or.inr rfl) (pe_c C__law_draw hr (by first | exact Nat.le_refl _ | decide) rfl (pa_cons (pv 0) (pa_cons pe_int pa_nil))))
    (pss_cons (ps_if (PW.pt (pw_or (pt_cmpR op_lt (pv 3) pe_int (nomark _)) (pw_or1 (PW.pt (pw_and (pt_cmpR op_gt (pv 3) pe_int (nomark _)) (pw_and1 (pt_cmpR op_eq (pe_callB (r := Evl.rLenS K) call_len_seq rfl T.len PySem.boot_len (pa_cons (pv 2) pa_nil)) pe_int (nomark _)))))))) (pss_one (ps_ret (pe_tup (pa_cons pe_str (pa_cons (pv 1) (pa_cons (pe_callTy (r := rTupZ K) call_tupleZ rfl T.tuple (by decide +kernel) (pa_cons (pe_lc (own := [("k", 4)]) rfl nd (pi_range1 rfl T.range (pa_cons (pe_c C__law_draw hr (by first | exact Nat.le_refl _ | decide) rfl (pa_cons (pv 0) (pa_cons pe_int pa_nil))) pa_nil)) (blkOk_by (own := [("k", 4)]) (N := N__law_object) (sc := defScope s__law_object) (by decide +kernel)) (fun _ _ _ _ _ => (pg_name (i := 4) nd rfl (by first | exact Or.inl rfl | exact Or.inr rfl))) (fun _ _ _ _ _ => pts_nil) (fun _ _ _ _ _ => (pe_c C__law_number hr (by first | exact Nat.le_refl _ | decide) rfl (pa_cons (pv 0) (pa_cons (pv 2) pa_nil))))) pa_nil)) pa_nil)))))) pss_nil)
    (pss_cons (ps_if (pt_cmpR op_lt (pv 3) pe_int (nomark _)) (pss_one (ps_ret (pe_tup (pa_cons pe_str (pa_cons (pv 1) (pa_cons (pe_c C__law_number hr (by first | exact Nat.le_refl _ | decide) rfl (pa_cons (pv 0) (pa_cons (pv 2) pa_nil))) pa_nil)))))) pss_nil)
    (pss_cons (ps_set (i := 5) nd rfl (by first | exact Or.inl rfl | exact Or.inr rfl) (pe_lst pa_nil))
    (pss_cons (ps_for PassesOwn.never rfl (pi_range1 rfl T.range (pa_cons (pe_c C__law_draw hr (by first | exact Nat.le_refl _ | decide) rfl (pa_cons (pv 0) (pa_cons pe_int pa_nil))) pa_nil)) (pg_name (i := 4) nd rfl (by first | exact Or.inl rfl | exact Or.inr rfl))
    (pss_cons (ps_set (i := 6) nd rfl (by first | exact Or.inl rfl | exact Or.inr rfl) (pe_ix (r := rIxL K) ix_list (pv 2) (pe_op op_mod (pe_callTy call_int1 rfl T.int (by decide +kernel) (pa_cons (pe_c C__law_draw hr (by first | exact Nat.le_refl _ | decide) rfl (pa_cons (pv 0) (pa_cons pe_int pa_nil))) pa_nil)) (pe_callB (r := Evl.rLenS K) call_len_seq rfl T.len PySem.boot_len (pa_cons (pv 2) pa_nil))) (fun _ _ => rfl)))
    (pss_cons (ps_set (i := 7) nd rfl (by first | exact Or.inl rfl | exact Or.inr rfl) (pe_ix (r := rIxL K) ix_list (pv 2) (pe_op op_mod (pe_callTy call_int1 rfl T.int (by decide +kernel) (pa_cons (pe_c C__law_draw hr (by first | exact Nat.le_refl _ | decide) rfl (pa_cons (pv 0) (pa_cons pe_int pa_nil))) pa_nil)) (pe_callB (r := Evl.rLenS K) call_len_seq rfl T.len PySem.boot_len (pa_cons (pv 2) pa_nil))) (fun _ _ => rfl)))
    (pss_one (ps_if (pt_cmpR (r := rIn K true) op_notIn_seq (pv 6) (pe_lc (own := [("entry", 8)]) rfl nd (show PI _ _ _ (iList K _) from pi_list (pv 5)) (blkOk_by (own := [("entry", 8)]) (N := N__law_object) (sc := defScope s__law_object) (by decide +kernel)) (fun _ _ _ _ _ => (pg_name (i := 8) nd rfl (by first | exact Or.inl rfl | exact Or.inr rfl))) (fun _ _ _ _ _ => pts_nil) (fun _ _ _ _ _ => (pe_ix (r := rIxT K) ix_tup (pv 8) pe_int (fun _ _ => rfl)))) (by first | exact nomark _ | rfl)) (pss_one (ps_expr (pe_bm PySem.F.plainAttrs_list PySem.F.slot_list_append PySem.F.type_list_append mt_append (pv 5) (pa_cons (pe_tup (pa_cons (pv 6) (pa_cons (pv 7) pa_nil))) pa_nil)))) pss_nil)))))
    (pss_one (ps_ret (pe_tup (pa_cons pe_str (pa_cons (pv 1) (pa_cons (pe_callTy (r := rTupZ K) call_tupleZ rfl T.tuple (by decide +kernel) (pa_cons (pv 5) pa_nil)) pa_nil))))))))))), ?_⟩
  obtain ⟨b, d, ds, n, a, ns, rfl, rfl, rfl, hb, hN, q⟩ := h
  refine ⟨_, rfl, _, _, rfl, b, d, ds, 7, rfl, rfl, by decide, hb, fun H1 v x1 b1 v0 v7 => ?_⟩
  have N1 := hN.keep x1
  refine gN ?_
  dsimp only
  show tSeq (tIfS (tOr _ _) _ _) _ _ _ _
  refine or_join (decide (v < 3)) (decide (v > 4) && decide (ns.length = 0)) (fun Q' z => ⟨_, rfl, _, _, rfl, rfl, _, rfl, z⟩) (fun _ Q' z => and_join (decide (v > 4)) (decide (ns.length = 0)) (fun Q' z => ⟨_, rfl, _, _, rfl, rfl, _, rfl, z⟩)
    (fun _ Q' z => ⟨_, rfl, a, _, rfl, .inl N1.1, rfl, _, rfl, by rw [len0]; exact z⟩) z) ?_
  refine ite2 (fun c1 => ?_) (fun c1 => ?_)
  · -- a record
    refine ⟨_, rfl, _, rfl, _, _, rfl, b, d, ds, 4, rfl, rfl, by decide, b1, fun H2 k x2 b2 k0 k4 => ?_⟩
    have N2 := N1.keep x2
    refine ⟨k, rfl, by omega, by omega, fun D hD => ?_⟩
    have nD := b2.ne hD
    refine lcM [b] (walk_range (lo := 0) (n := k.toNat)) hD (fun i acc H' => Bx H' b d ds ∧ ∃ rs : List Rf, acc = rs.map rV ∧ ∀ r ∈ rs, Rf.ok ns r) ⟨b2.new hD, [], rfl, by simp⟩ (fun _ _ => trivial) (fun i x H3 H4 acc hi e h1 h2 hacc y => ?_) (fun H3 acc e h1 h2 hacc => ?_)
    · obtain ⟨rfl, rfl⟩ := y
      obtain ⟨b3, rs, rfl, hrs⟩ := hacc
      refine ⟨rfl, tyes ⟨_, rfl, _, rfl, _, _, rfl, b, d, ds, a, ns, rfl, rfl, b3, N2.keep e, fun H5 r x5 b5 hr => ?_⟩⟩
      refine LcP.yes hD nD (by omega) e h1 h2 x5 ⟨b5.put b2 hD, rs ++ [r], by rw [List.map_append]; rfl, fun r' hr' => ?_⟩
      rcases List.mem_append.mp hr' with z | z
      · exact hrs r' z
      · have : r' = r := by simpa using z
        rw [this]; exact hr
    · obtain ⟨b3, rs, rfl, hrs⟩ := hacc
      refine ⟨D, _, rfl, SqL.of h1, fun t zt ft nt => ⟨sz (by show 3 ≤ 100000; decide), fun p fp => ?_⟩⟩
      have np : p ≠ t := fun z => by rw [z, upd_same] at fp; cases fp
      have x3 : ExM [b] H (upd (upd H3 t (.frz zt (.tup (rs.map rV)))) p (.tup [.str "record", .int n, .ref t])) := ((x1.trans x2).trans e).trans ((ExM.new ft).trans (ExM.new fp))
      refine q _ p (.rcd n rs) x3 ((b3.new ft).new fp) ⟨t, SqT.of upd_same, SqZ.of nt (by rw [upd_ne np.symm]; exact upd_same)⟩ rfl ⟨?_, hrs⟩
      rw [List.length_map] at h2
      omega
  have c1' : ¬ v < 3 ∧ (v > 4 → ns.length ≠ 0) := by
    have c2 := Bool.eq_false_iff.mpr c1
    rw [Bool.or_eq_false_iff] at c2
    refine ⟨of_decide_eq_false c2.1, fun hv z => ?_⟩
    have := c2.2
    rw [decide_eq_true hv, decide_eq_true z] at this
    cases this
  refine ⟨_, rfl, _, _, rfl, rfl, _, rfl, ite2 (fun c2 => ?_) (fun c2 => ?_)⟩
  · -- a weak reference
    refine ⟨_, rfl, _, rfl, _, rfl, _, _, rfl, b, d, ds, a, ns, rfl, rfl, b1, N1, fun H2 r x2 b2 hr => ?_⟩
    refine ⟨sz (by show 3 ≤ 100000; decide), fun p fp => ?_⟩
    exact q _ p (.weak n r) ((x1.trans x2).trans (ExM.new fp)) (b2.new fp) (SqT.of upd_same) rfl hr
  -- a table
  have c2' : ¬ v < 5 := of_decide_eq_false (Bool.eq_false_iff.mpr c2)
  have hne : 0 < ns.length := by have := c1'.2 (by omega); omega
  refine ⟨Nat.zero_le _, fun l fl => ?_⟩
  have nl : l ∉ [b] := b1.ne fl
  refine ⟨_, rfl, _, _, rfl, b, d, ds, 4, rfl, rfl, by decide, b1.new fl, fun H2 k x2 b2 k0 k4 => ?_⟩
  have hl2 : H2 l = some (.lst []) := x2 l _ nl upd_same
  have e2 : ExM [b] H1 H2 := (ExM.new fl).trans x2
  refine ⟨k, rfl, by omega, by omega, ?_⟩
  refine for_range (lo := 0) (n := k.toNat) (fun t σ3 H3 => ∃ u4 u6 u7, σ3 = [some (.ref b), some (.int n), some (.ref a), some (.int v), u4, some (.ref l), u6, u7, none] ∧ ExM [b] H1 H3 ∧ Bx H3 b d ds ∧
      ∃ (rs : List Addr) (es : List (Int × Int)), H3 l = some (.lst (rs.map V.ref)) ∧ Paired (PairAt K H3) rs es ∧ es.length ≤ t ∧ (es.map (·.1)).Nodup ∧ ∀ e ∈ es, e.1 ∈ ns ∧ e.2 ∈ ns)
    ⟨none, none, none, rfl, e2, b2, [], [], hl2, .nil, Nat.le_refl _, List.nodup_nil, by simp⟩ (fun t σ3 H3 ht p => ?_) (fun σ3 H3 p => ?_)
  · obtain ⟨u4, u6, u7, rfl, e3, b3, rs, es, hl, hp, hz, hnd, hin⟩ := p
    have N3 := N1.keep e3
    refine ⟨_, rfl, _, rfl, _, _, rfl, b, d, ds, 1000, rfl, rfl, by decide, b3, fun H4 u x4 b4 u0 u1 => .inl ⟨_, rfl, ?_⟩⟩
    have N4 := N3.keep x4
    refine ⟨_, rfl, a, _, rfl, .inl N4.1, _, _, rfl, rfl, by rw [List.length_map]; omega, pick_ok N4.1 hne u fun key hkey => ?_⟩
    refine ⟨_, rfl, _, rfl, _, _, rfl, b, d, ds, 1000, rfl, rfl, by decide, b4, fun H5 u' x5 b5 u0' u1' => .inl ⟨_, rfl, ?_⟩⟩
    have N5 := N4.keep x5
    refine ⟨_, rfl, a, _, rfl, .inl N5.1, _, _, rfl, rfl, by rw [List.length_map]; omega, pick_ok N5.1 hne u' fun val hval => ?_⟩
    have x35 := x4.trans x5
    have hl5 : H5 l = some (.lst (rs.map V.ref)) := x35 l _ nl hl
    have hp5 : Paired (PairAt K H5) rs es := pmp hp fun _ _ z => PairAt.mono (b3.tk x35) z
    have e5 : ExM [b] H1 H5 := e3.trans x35
    have hlen := plen hp
    refine ⟨_, rfl, _, rfl, l, rfl, ⟨_, SqL.of hl5⟩, fun D hD => ?_⟩
    refine lcM [] (walk_list (xs := rs.map V.ref)) hD (fun i acc _ => acc = ((es.take i).map (·.1)).map V.int) rfl (fun H' e => SqL.of (ExA.at e hl5)) (fun i x H6 H7 acc hi e h1 h2 hacc y => ?_) (fun H6 acc e h1 h2 hacc => ?_)
    · obtain ⟨rfl, hx⟩ := y
      rw [List.length_map] at hi
      obtain ⟨r1, hr⟩ : ∃ r1, rs[i]? = some r1 := ⟨_, List.getElem?_eq_getElem hi⟩
      rw [List.getElem?_map, hr] at hx
      obtain rfl : V.ref r1 = x := Option.some.inj hx
      obtain ⟨e1, he1, hpa⟩ := pget hp5 hr
      refine ⟨rfl, tyes ⟨_, rfl, r1, _, _, _, rfl, rfl, Tk.all e _ _ hpa, at0, LcP.yes hD (by simp) (by omega) e h1 h2 (ExM.refl _ _) ?_⟩⟩
      rw [hacc, take_snoc he1, List.map_append, List.map_append]; rfl
    · rw [List.length_map, hlen, List.take_length] at hacc
      subst hacc
      refine ⟨D, _, rfl, .inl (SqL.of h1), rfl, flat_ints _, _, rfl, ?_⟩
      rw [if_pos rfl, inV_int]
      have hl6 := ExA.at e hl5
      have b6 := b5.keep e
      have hp6 : Paired (PairAt K H6) rs es := pmp hp5 fun _ _ z => PairAt.mono (Tk.all e) z
      have e6 : ExM [b] H1 H6 := e5.trans (ExM.of e)
      by_cases m : key ∈ es.map (·.1)
      · rw [decide_eq_true m]
        exact iteF ⟨_, _, _, rfl, e6, b6, rs, es, hl6, hp6, by omega, hnd, hin⟩
      · rw [decide_eq_false m]
        refine iteT ⟨_, rfl, .inl ⟨rfl, _, SqL.of hl6⟩, _, rfl, _, rfl, sz (by show 2 ≤ 100000; decide), fun r2 fr => ?_⟩
        have nr : l ≠ r2 := ne_of_none hl6 fr
        have hl7 : (upd H6 r2 (.tup [V.int key, V.int val])) l = some (.lst (rs.map V.ref)) := by rw [upd_ne nr]; exact hl6
        have hp7 : Paired (PairAt K (upd H6 r2 (.tup [V.int key, V.int val]))) (rs ++ [r2]) (es ++ [(key, val)]) := by
          have hq : Paired (PairAt K (upd H6 r2 (.tup [V.int key, V.int val]))) rs es := pmp hp6 fun _ _ z => PairAt.mono (Tk.new fr) z
          have hr : PairAt K (upd H6 r2 (.tup [V.int key, V.int val])) r2 (key, val) := SqT.of upd_same
          exact psnoc hr hq
        have zl : (rs.map V.ref).length < sizeLine := szl (by rw [List.length_map]; omega)
        refine ⟨l, _, _, rfl, rfl, hl7, zl, _, _, _, rfl, (e6.trans (ExM.new fr)).put fl, (b6.new fr).put b1 fl, rs ++ [r2], es ++ [(key, val)], ?_, ?_, ?_, ?_, ?_⟩
        · rw [upd_same, List.map_append]; rfl
        · exact pmp hp7 fun _ _ z => PairAt.mono (Tk.lst hl7) z
        · rw [List.length_append, List.length_singleton]; omega
        · rw [List.map_append]
          exact List.nodup_append.mpr ⟨hnd, by simp, fun x hx y hy z => m (by have : y = key := by simpa using hy
                                                                              rw [← this, ← z]; exact hx)⟩
        · intro e' he'
          rcases List.mem_append.mp he' with z | z
          · exact hin e' z
          · have : e' = (key, val) := by simpa using z
            rw [this]; exact ⟨hkey, hval⟩
  · obtain ⟨u4, u6, u7, rfl, e3, b3, rs, es, hl, hp, hz, hnd, hin⟩ := p
    refine ⟨_, rfl, _, rfl, l, _, rfl, SqL.of hl, fun t zt ft nt => ⟨sz (by show 3 ≤ 100000; decide), fun p fp => ?_⟩⟩
    have np : p ≠ t := fun z => by rw [z, upd_same] at fp; cases fp
    have tt : Tk K H3 (upd (upd H3 t (.frz zt (.tup (rs.map V.ref)))) p (.tup [.str "table", .int n, .ref t])) := Tk.trans (Tk.new ft) (Tk.new fp)
    refine q _ p (.tab n es) ((x1.trans e3).trans ((ExM.new ft).trans (ExM.new fp))) ((b3.new ft).new fp) ⟨t, rs, SqT.of upd_same, SqZ.of nt (by rw [upd_ne np.symm]; exact upd_same), pmp hp fun _ _ z => PairAt.mono tt z⟩ rfl ⟨by omega, hnd, hin⟩
end
end Wc
namespace Wc
open PySem L2
theorem KeysAt.keep {H H' : Hp} {g : Addr} {gs : List Int} (e : ExA H H') (h : KeysAt H g gs) : KeysAt H' g gs := let ⟨k, h1, h2⟩ := h; ⟨k, ExA.at e h1, h2⟩
/-- None if r in gone else r -/
theorem clr_elt {H : Hp} {σ : L2.St} {i j : Nat} {g : Addr} {gs : List Int} {r : Rf} {R : VK} (hi : σ[i]? = some (some (rV r))) (hj : σ[j]? = some (some (.ref g))) (h : KeysAt H g gs) (z : R (rV (clr gs r)) H) :
    tIf (tB (tDInN (tVar i) (tVar j))) (tC .non) (tVar i) σ H R := by
  obtain ⟨kvs, h1, h2⟩ := h
  refine ⟨_, hi, _, hj, ?_⟩
  cases r with
  | none => exact .inr ⟨g, kvs, rfl, rfl, .inl h1, _, rfl, iteF ⟨_, hi, z⟩⟩
  | some m =>
    refine .inl ⟨g, _, rfl, DGet.k (k := Sum.inl m) h1, _, rfl, ?_⟩
    rw [key_has h2 m]
    have z : R (rV (if decide (m ∈ gs) = true then none else some m)) H := z
    by_cases c : m ∈ gs
    · rw [decide_eq_true c]; rw [decide_eq_true c, if_pos rfl] at z; exact iteT z
    · rw [decide_eq_false c]; rw [decide_eq_false c, if_neg (by simp)] at z; exact iteF ⟨_, hi, z⟩
theorem gL {i : Nat} {v : V} {σ σ' : L2.St} {H : Hp} {Q : L2.St → Hp → Prop} (e : σ.set i (some v) = σ') (h : Q σ' H) : gName i v σ H Q := by subst e; exact h
theorem nxL {σ σ' : L2.St} {H : Hp} {R : L2.St → Hp → Prop} (e : σ = σ') (h : R σ' H) : R σ H := by subst e; exact h
section
variable (K : PySem.W.Frag)
def R_without : V2 := fun x y H Q => ∃ (a : Addr) (o : Ob) (g : Addr) (gs : List Int), x = .ref a ∧ y = .ref g ∧ ObAt K H a o ∧ o.small ∧ KeysAt H g gs ∧ ∀ H' p, ExA H H' → ObAt K H' p (dropOb gs o) → Q (.ref p) H'
abbrev sp_without : Sp := sp2 (R_without K)
def R_dropping : V2 := fun x y H Q => ∃ (a : Addr) (h : Hd) (g : Addr) (gs : List Int), x = .ref a ∧ y = .ref g ∧ HeapAt K H a h ∧ h.Ok ∧ KeysAt H g gs ∧ ∀ H' p, ExA H H' → HeapAt K H' p (drop h gs) → Q (.ref p) H'
abbrev sp_dropping : Sp := sp2 (R_dropping K)
end
section
variable {P : Program} {w : World} {K : PySem.W.Frag} {mg : Str → Option Value} {base : Heap}
end
end Wc
namespace Wc
open PySem L2
section
variable {P : Program} {w : World} {K : PySem.W.Frag} {mg : Str → Option Value} {base : Heap}
theorem ok__law_heap {f : Addr} {fd : FuncData} {cd : Value} (F : Df K "_law_heap" s__law_heap f fd cd) (T : Txt mg) (C__law_draw : Cal P w K mg base 1 "_law_draw" (sp__law_draw K) []) (C__law_number : Cal P w K mg base 2 "_law_number" (sp__law_number K) []) (C__law_object : Cal P w K mg base 3 "_law_object" (sp__law_object K) []) : FnOk P w K mg base CX0 4 f fd ["box", "most"] (sp__law_heap K) := by
  have nd := sc__law_heap.nd
  refine F.ok sc__law_heap (fun vs H Q E h => ?_) (fun A outer s H vs Q E hr h => ?_)
  · obtain ⟨_, _, rfl, _⟩ := h; rfl
  have hu := hu_of hr
  obtain ⟨x0, x1, rfl, h⟩ := h
  refine ⟨_, (pss_cons (ps_set (i := 2) nd rfl (by first | exact Or.inl rfl | exact Or.inr rfl) (pe_c C__law_draw hr (by first | exact Nat.le_refl _ | decide) rfl (pa_cons (pv 0) (pa_cons (pe_op op_add (pv 1) pe_int) pa_nil))))
    (pss_cons (ps_set (i := 3) nd rfl (by first | exact Or.inl rfl | exact Or.inr rfl) (pe_lst pa_nil))
    (pss_cons (ps_set (i := 4) nd rfl (by first | exact Or.inl rfl | exact Or.inr rfl) pe_int)
    (pss_cons (ps_for PassesOwn.never rfl (pi_range1 rfl T.range (pa_cons (pv 2) pa_nil)) (pg_name (i := 5) nd rfl (by first | exact Or.inl rfl | exact Or.inr rfl))
    (pss_cons (ps_set (i := 4) nd rfl (by first | exact Or.inl rfl | exact Or.inr rfl) (pe_op op_add (pv 4) (pe_ix (r := rIxL K) ix_list (pe_lst (pa_cons pe_int (pa_cons pe_int (pa_cons pe_int (pa_cons pe_int pa_nil))))) (pe_c C__law_draw hr (by first | exact Nat.le_refl _ | decide) rfl (pa_cons (pv 0) (pa_cons pe_int pa_nil))) (fun _ _ => rfl))))
    (pss_cons (ps_expr (pe_bm PySem.F.plainAttrs_list PySem.F.slot_list_append PySem.F.type_list_append mt_append (pv 3) (pa_cons (pv 4) pa_nil)))
    (pss_one (ps_set (i := 4) nd rfl (by first | exact Or.inl rfl | exact Or.inr rfl) (pe_op op_add (pv 4) pe_int))))))
    (pss_cons (ps_set (i := 6) nd rfl (by first | exact Or.inl rfl | exact Or.inr rfl) (pe_callTy (r := rTupZ K) call_tupleZ rfl T.tuple (by decide +kernel) (pa_cons (pe_lc (own := [("number", 7)]) rfl nd (show PI _ _ _ (iList K _) from pi_list (pv 3)) (blkOk_by (own := [("number", 7)]) (N := N__law_heap) (sc := defScope s__law_heap) (by decide +kernel)) (fun _ _ _ _ _ => (pg_name (i := 7) nd rfl (by first | exact Or.inl rfl | exact Or.inr rfl))) (fun _ _ _ _ _ => pts_nil) (fun _ _ _ _ _ => (pe_c C__law_object hr (by first | exact Nat.le_refl _ | decide) rfl (pa_cons (pv 0) (pa_cons (pv 7) (pa_cons (pv 3) pa_nil)))))) pa_nil)))
    (pss_cons (ps_set (i := 8) nd rfl (by first | exact Or.inl rfl | exact Or.inr rfl) (pe_callTy (r := rTupZ K) call_tupleZ rfl T.tuple (by decide +kernel) (pa_cons (pe_lc (own := [("k", 5)]) rfl nd (pi_range1 rfl T.range (pa_cons (pe_op op_add pe_int (pe_c C__law_draw hr (by first | exact Nat.le_refl _ | decide) rfl (pa_cons (pv 0) (pa_cons pe_int pa_nil)))) pa_nil)) (blkOk_by (own := [("k", 5)]) (N := N__law_heap) (sc := defScope s__law_heap) (by decide +kernel)) (fun _ _ _ _ _ => (pg_name (i := 5) nd rfl (by first | exact Or.inl rfl | exact Or.inr rfl))) (fun _ _ _ _ _ => pts_nil) (fun _ _ _ _ _ => (pe_c C__law_number hr (by first | exact Nat.le_refl _ | decide) rfl (pa_cons (pv 0) (pa_cons (pv 3) pa_nil))))) pa_nil)))
    (pss_cons (ps_set (i := 9) nd rfl (by first | exact Or.inl rfl | exact Or.inr rfl) (pe_callTy (r := rTupZ K) call_tupleZ rfl T.tuple (by decide +kernel) (pa_cons (pe_lc (own := [("number", 7)]) rfl nd (show PI _ _ _ (iList K _) from pi_list (pv 3)) (blkOk_by (own := [("number", 7)]) (N := N__law_heap) (sc := defScope s__law_heap) (by decide +kernel)) (fun _ _ _ _ _ => (pg_name (i := 7) nd rfl (by first | exact Or.inl rfl | exact Or.inr rfl))) (fun _ _ _ _ _ => (pts_one (pt_cmpR op_eq (pe_c C__law_draw hr (by first | exact Nat.le_refl _ | decide) rfl (pa_cons (pv 0) (pa_cons pe_int pa_nil))) pe_int (nomark _)))) (fun _ _ _ _ _ => (pv 7))) pa_nil)))
    (pss_cons (ps_set (i := 10) nd rfl (by first | exact Or.inl rfl | exact Or.inr rfl) (pe_lst pa_nil))
    (pss_cons (ps_for PassesOwn.never rfl (show PI _ _ _ (iList K _) from pi_list (pv 3)) (pg_name (i := 7) nd rfl (by first | exact Or.inl rfl | exact Or.inr rfl))
    (pss_one (ps_if (pt_cmpR op_eq (pe_c C__law_draw hr (by first | exact Nat.le_refl _ | decide) rfl (pa_cons (pv 0) (pa_cons pe_int pa_nil))) pe_int (nomark _)) (pss_one (ps_expr (pe_bm PySem.F.plainAttrs_list PySem.F.slot_list_append PySem.F.type_list_append mt_append (pv 10) (pa_cons (pe_tup (pa_cons (pv 7) (pa_cons (pe_op op_add pe_int (pe_c C__law_draw hr (by first | exact Nat.le_refl _ | decide) rfl (pa_cons (pv 0) (pa_cons pe_int pa_nil)))) pa_nil))) pa_nil)))) pss_nil)))
    (pss_one (ps_ret (pe_tup (pa_cons pe_str (pa_cons (pe_op op_add (pv 4) (pe_c C__law_draw hr (by first | exact Nat.le_refl _ | decide) rfl (pa_cons (pv 0) (pa_cons pe_int pa_nil)))) (pa_cons (pv 8) (pa_cons (pv 9) (pa_cons (pv 6) (pa_cons (pe_callTy (r := rTupZ K) call_tupleZ rfl T.tuple (by decide +kernel) (pa_cons (pv 10) pa_nil)) pa_nil)))))))))))))))))), ?_⟩
  obtain ⟨b, d, ds, m, rfl, rfl, m0, m49, hb, q⟩ := h
  refine ⟨_, rfl, _, rfl, _, _, rfl, rfl, _, _, rfl, b, d, ds, m + 1, rfl, rfl, by omega, hb, fun H1 many x1 b1 v0 v1 => ?_⟩
  refine ⟨Nat.zero_le _, fun l fl => ?_⟩
  have nl : l ∉ [b] := b1.ne fl
  refine ⟨_, rfl, many, rfl, by omega, by omega, ?_⟩
  refine for_range (lo := 0) (n := many.toNat) (fun t σ2 H2 => ∃ (at_ : Int) (u5 : Option V), σ2 = [some (.ref b), some (.int m), some (.int many), some (.ref l), some (.int at_), u5, none, none, none, none, none] ∧ ExM [b] H1 H2 ∧ Bx H2 b d ds ∧
      ∃ ns : List Int, H2 l = some (.lst (ns.map V.int)) ∧ ns.length = t ∧ ns.Pairwise (· < ·) ∧ (∀ n ∈ ns, 0 ≤ n ∧ n < at_) ∧ 0 ≤ at_ ∧ at_ ≤ 3 * t)
    ⟨0, none, rfl, ExM.new fl, b1.new fl, [], upd_same, rfl, .nil, by simp, Int.le_refl 0, by simp⟩ (fun t σ2 H2 ht p => ?_) (fun σ2 H2 p => ?_)
  · obtain ⟨at_, u5, rfl, e2, b2, ns, hl, hz, hup, hlow, a0, a3⟩ := p
    refine ⟨_, rfl, sz (by show 4 ≤ 100000; decide), fun p fp => ?_⟩
    refine ⟨_, rfl, _, _, rfl, b, d, ds, 4, rfl, rfl, by decide, b2.new fp, fun H3 v x3 b3 v0 v4 => ?_⟩
    have np : p ∉ [b] := b2.ne fp
    obtain ⟨w, hw, w0, w2⟩ : ∃ w : Int, atI [V.int 0, V.int 0, V.int 0, V.int 2] v = some (.int w) ∧ 0 ≤ w ∧ w ≤ 2 := by
      have c : v = 0 ∨ v = 1 ∨ v = 2 ∨ v = 3 := by omega
      rcases c with rfl | rfl | rfl | rfl
      · exact ⟨0, at0, by decide, by decide⟩
      · exact ⟨0, at1, by decide, by decide⟩
      · exact ⟨0, at2, by decide, by decide⟩
      · exact ⟨2, at3, by decide, by decide⟩
    refine ⟨p, _, _, _, rfl, rfl, SqL.of (x3 p _ np upd_same), hw, _, _, rfl, rfl, ?_⟩
    have hl3 : H3 l = some (.lst (ns.map V.int)) := x3 l _ nl (by rw [upd_ne (ne_of_none hl fp)]; exact hl)
    have e3 : ExM [b] H1 H3 := (e2.trans (ExM.new fp)).trans x3
    refine ⟨_, rfl, .inl ⟨rfl, _, SqL.of hl3⟩, _, rfl, l, _, _, rfl, rfl, hl3, szl (by rw [List.length_map]; omega), ?_⟩
    refine ⟨_, rfl, _, _, rfl, rfl, at_ + w + 1, _, rfl, e3.put fl, b3.put b1 fl, ns ++ [at_ + w], ?_, ?_, ?_, ?_, by omega, by omega⟩
    · rw [upd_same, List.map_append]; rfl
    · rw [List.length_append, List.length_singleton, hz]
    · refine List.pairwise_append.mpr ⟨hup, List.pairwise_singleton _ _, fun x hx y hy => ?_⟩
      have : y = at_ + w := by simpa using hy
      have := (hlow x hx).2
      omega
    · intro n hn
      rcases List.mem_append.mp hn with z | z
      · have := hlow n z; omega
      · have : n = at_ + w := by simpa using z
        omega
  obtain ⟨at_, u5, rfl, e2, b2, ns, hl, hz, hup, hlow, a0, a3⟩ := p
  have zn : ns.length ≤ 49 := by omega
  have N2 : Nm K H2 b l ns := ⟨SqL.of hl, nl⟩
  -- the objects
  refine ⟨_, rfl, l, rfl, ⟨_, SqL.of hl⟩, fun D fD => ?_⟩
  have nD : D ∉ [b] := b2.ne fD
  refine lcM [b] (walk_list (xs := ns.map V.int)) fD (fun i acc H' => Bx H' b d ds ∧ ∃ (os : List Addr) (obs : List Ob), acc = os.map V.ref ∧ Paired (ObAt K H') os obs ∧ obs.map Ob.num = ns.take i ∧ ∀ o ∈ obs, o.ok ns)
    ⟨b2.new fD, [], [], rfl, .nil, rfl, by simp⟩ (fun H' e => (N2.keep e).1) (fun i x H3 H4 acc hi e h1 h2 hacc y => ?_) (fun H3 acc e h1 h2 hacc => ?_)
  · obtain ⟨rfl, hx⟩ := y
    rw [List.length_map] at hi
    obtain ⟨n, hn⟩ : ∃ n, ns[i]? = some n := ⟨_, List.getElem?_eq_getElem hi⟩
    rw [List.getElem?_map, hn] at hx
    obtain rfl : V.int n = x := Option.some.inj hx
    obtain ⟨b3, os, obs, rfl, hp, hnum, hok⟩ := hacc
    refine ⟨rfl, tyes ⟨_, rfl, _, rfl, _, rfl, _, _, _, rfl, b, d, ds, n, l, ns, rfl, rfl, rfl, b3, N2.keep e, fun H5 p o x5 b5 ho hon hok5 => ?_⟩⟩
    refine LcP.yes fD nD (by omega) e h1 h2 x5 ⟨b5.put b2 fD, os ++ [p], obs ++ [o], by rw [List.map_append]; rfl, ?_, ?_, ?_⟩
    · have t5 : Tk K H4 (upd H5 D (.lst (os.map V.ref ++ [V.ref p]))) := Tk.trans (b3.tk x5) (Tk.lst (x5 D _ nD h1))
      have hq : Paired (ObAt K (upd H5 D (.lst (os.map V.ref ++ [V.ref p])))) os obs := pmp hp fun _ _ z => ObAt.mono t5 z
      have hr : ObAt K (upd H5 D (.lst (os.map V.ref ++ [V.ref p]))) p o := ObAt.mono (Tk.lst (x5 D _ nD h1)) ho
      exact psnoc hr hq
    · rw [List.map_append, hnum, take_snoc hn, ← hon]; rfl
    · intro o' ho'
      rcases List.mem_append.mp ho' with z | z
      · exact hok o' z
      · have : o' = o := by simpa using z
        rw [this]; exact hok5
  obtain ⟨b3, os, obs, rfl, hobs, hnum, hok⟩ := hacc
  rw [List.length_map, List.take_length] at hnum
  refine ⟨D, _, rfl, SqL.of h1, fun o zo fo no => ?_⟩
  have x4 : ExM [b] H2 (upd H3 o (.frz zo (.tup (os.map V.ref)))) := e.trans (ExM.new fo)
  have b4 : Bx (upd H3 o (.frz zo (.tup (os.map V.ref)))) b d ds := b3.new fo
  have ho4 : SqT K (upd H3 o (.frz zo (.tup (os.map V.ref)))) o (os.map V.ref) := (SqZ.of no upd_same).sq
  have hobs4 : Paired (ObAt K (upd H3 o (.frz zo (.tup (os.map V.ref))))) os obs := pmp hobs fun _ _ z => ObAt.mono (Tk.new fo) z
  generalize upd H3 o (.frz zo (.tup (os.map V.ref))) = H4 at x4 b4 ho4 hobs4 ⊢
  have N4 := N2.keep x4
  -- the registers
  refine ⟨_, rfl, _, _, rfl, b, d, ds, 3, rfl, rfl, by decide, b4, fun H5 k x5 b5 k0 k3 => ?_⟩
  have N5 := N4.keep x5
  refine ⟨_, _, rfl, rfl, 1 + k, rfl, by omega, by omega, fun D2 fD2 => ?_⟩
  have nD2 : D2 ∉ [b] := b5.ne fD2
  refine lcM [b] (walk_range (lo := 0) (n := (1 + k).toNat)) fD2 (fun i acc H' => Bx H' b d ds ∧ ∃ rs : List Rf, acc = rs.map rV ∧ rs.length = i ∧ ∀ r ∈ rs, Rf.ok ns r) ⟨b5.new fD2, [], rfl, rfl, by simp⟩ (fun _ _ => trivial) (fun i x H6 H7 acc hi e h1 h2 hacc y => ?_) (fun H6 acc e6 h1 h2 hacc => ?_)
  · obtain ⟨rfl, rfl⟩ := y
    obtain ⟨b6, rs, rfl, hrl, hrs⟩ := hacc
    refine ⟨rfl, tyes ⟨_, rfl, _, rfl, _, _, rfl, b, d, ds, l, ns, rfl, rfl, b6, N5.keep e, fun H8 r x8 b8 hr => ?_⟩⟩
    refine LcP.yes fD2 nD2 (by omega) e h1 h2 x8 ⟨b8.put b5 fD2, rs ++ [r], by rw [List.map_append]; rfl, by rw [List.length_append, List.length_singleton, hrl], fun r' hr' => ?_⟩
    rcases List.mem_append.mp hr' with z | z
    · exact hrs r' z
    · have : r' = r := by simpa using z
      rw [this]; exact hr
  obtain ⟨b6, rs, rfl, hrl, hrs⟩ := hacc
  refine ⟨D2, _, rfl, SqL.of h1, fun r zr fr nr => ?_⟩
  have x7 : ExM [b] H4 (upd H6 r (.frz zr (.tup (rs.map rV)))) := (x5.trans e6).trans (ExM.new fr)
  have b7 : Bx (upd H6 r (.frz zr (.tup (rs.map rV)))) b d ds := b6.new fr
  have hr7 : SqZ (upd H6 r (.frz zr (.tup (rs.map rV)))) r (rs.map rV) := SqZ.of nr upd_same
  generalize upd H6 r (.frz zr (.tup (rs.map rV))) = H7 at x7 b7 hr7 ⊢
  have N7 := N4.keep x7
  -- what is kept
  refine ⟨_, rfl, l, rfl, ⟨_, N7.1⟩, fun D3 fD3 => ?_⟩
  have nD3 : D3 ∉ [b] := b7.ne fD3
  refine lcM [b] (walk_list (xs := ns.map V.int)) fD3 (fun i acc H' => Bx H' b d ds ∧ ∃ ms : List Int, acc = ms.map V.int ∧ ms.Sublist (ns.take i)) ⟨b7.new fD3, [], rfl, by simp⟩ (fun H' e => (N7.keep e).1) (fun i x H8 H9 acc hi e h1 h2 hacc y => ?_) (fun H8 acc e8 h1 h2 hacc => ?_)
  · obtain ⟨rfl, hx⟩ := y
    rw [List.length_map] at hi
    obtain ⟨n, hn⟩ : ∃ n, ns[i]? = some n := ⟨_, List.getElem?_eq_getElem hi⟩
    rw [List.getElem?_map, hn] at hx
    obtain rfl : V.int n = x := Option.some.inj hx
    obtain ⟨b8, ms, rfl, hms⟩ := hacc
    refine ⟨rfl, _, rfl, _, _, rfl, b, d, ds, 6, rfl, rfl, by decide, b8, fun Ha v xa ba v0 v2 => ⟨rfl, _, rfl, ite2 (fun _ => ?_) (fun _ => ?_)⟩⟩
    · refine ⟨_, rfl, LcP.yes fD3 nD3 (by omega) e h1 h2 xa ⟨ba.put b7 fD3, ms ++ [n], by rw [List.map_append]; rfl, ?_⟩⟩
      rw [take_snoc hn]; exact hms.append (List.Sublist.refl _)
    · refine LcP.no nD3 e h1 h2 xa ⟨ba, ms, rfl, ?_⟩
      rw [take_snoc hn]; exact hms.trans (List.sublist_append_left _ _)
  obtain ⟨b8, ks, rfl, hks⟩ := hacc
  rw [List.length_map, List.take_length] at hks
  refine ⟨D3, _, rfl, SqL.of h1, fun kp zk fk nk => ?_⟩
  have x9 : ExM [b] H7 (upd H8 kp (.frz zk (.tup (ks.map V.int)))) := e8.trans (ExM.new fk)
  have b9 : Bx (upd H8 kp (.frz zk (.tup (ks.map V.int)))) b d ds := b8.new fk
  have hk9 : SqT K (upd H8 kp (.frz zk (.tup (ks.map V.int)))) kp (ks.map V.int) := (SqZ.of nk upd_same).sq
  generalize upd H8 kp (.frz zk (.tup (ks.map V.int))) = H9 at x9 b9 hk9 ⊢
  have N9 := N7.keep x9
  -- the watches
  refine ⟨Nat.zero_le _, fun lw flw => ?_⟩
  have nlw : lw ∉ [b] := b9.ne flw
  have N9' : Nm K (upd H9 lw (.lst [])) b l ns := N9.keep (ExM.new flw)
  refine ⟨_, rfl, l, rfl, ⟨_, N9'.1⟩, ?_⟩
  refine for_it (walk_list (xs := ns.map V.int)) (fun i σa Ha => ∃ u7 : Option V, σa = [some (.ref b), some (.int m), some (.int many), some (.ref l), some (.int at_), u5, some (.ref o), u7, some (.ref r), some (.ref kp), some (.ref lw)] ∧ ExM [b] H9 Ha ∧ Bx Ha b d ds ∧
      ∃ (rs : List Addr) (es : List (Int × Int)), Ha lw = some (.lst (rs.map V.ref)) ∧ Paired (PairAt K Ha) rs es ∧ es.length ≤ i ∧ ∀ e ∈ es, e.1 ∈ ns ∧ 0 ≤ e.2 ∧ e.2 ≤ 999)
    ⟨none, rfl, ExM.new flw, b9.new flw, [], [], upd_same, .nil, Nat.le_refl _, by simp⟩ (fun i σa Ha _ p => p.elim fun _ z => (N9.keep z.2.1).1) (fun i x σa Ha Hb hi p y => ?_) (fun σa Ha p => ?_)
  · obtain ⟨rfl, hx⟩ := y
    obtain ⟨u7, rfl, ea, ba, rs', es, hw, hp, hz, hin⟩ := p
    rw [List.length_map] at hi
    obtain ⟨n, hn⟩ : ∃ n, ns[i]? = some n := ⟨_, List.getElem?_eq_getElem hi⟩
    rw [List.getElem?_map, hn] at hx
    obtain rfl : V.int n = x := Option.some.inj hx
    refine ⟨_, rfl, _, _, rfl, b, d, ds, 3, rfl, rfl, by decide, ba, fun Hc v xc bc v0 v3 => ⟨rfl, _, rfl, ite2 (fun _ => ?_) (fun _ => ?_)⟩⟩
    · have hwc := xc lw _ nlw hw
      refine ⟨_, rfl, .inl ⟨rfl, _, SqL.of hwc⟩, _, rfl, _, rfl, _, _, rfl, b, d, ds, 2, rfl, rfl, by decide, bc, fun Hd v' xd bd v0' v2' => ?_⟩
      have hwd := xd lw _ nlw hwc
      refine ⟨_, _, rfl, rfl, sz (by show 2 ≤ 100000; decide), fun r2 fr2 => ?_⟩
      have nr : lw ≠ r2 := ne_of_none hwd fr2
      have hwe : (upd Hd r2 (.tup [V.int n, V.int (7 + v')])) lw = some (.lst (rs'.map V.ref)) := by rw [upd_ne nr]; exact hwd
      have tt : Tk K Hb (upd Hd r2 (.tup [V.int n, V.int (7 + v')])) := Tk.trans (ba.tk (xc.trans xd)) (Tk.new fr2)
      have hpe : Paired (PairAt K (upd Hd r2 (.tup [V.int n, V.int (7 + v')]))) rs' es := pmp hp fun _ _ z => PairAt.mono tt z
      have hre : PairAt K (upd Hd r2 (.tup [V.int n, V.int (7 + v')])) r2 (n, 7 + v') := SqT.of upd_same
      have hlen := plen hp
      refine ⟨lw, _, _, rfl, rfl, hwe, szl (by rw [List.length_map]; omega), _, rfl, (((ea.trans xc).trans xd).trans (ExM.new fr2)).put flw, (bd.new fr2).put b9 flw, rs' ++ [r2], es ++ [(n, 7 + v')], ?_, ?_, ?_, ?_⟩
      · rw [upd_same, List.map_append]; rfl
      · exact pmp (psnoc hre hpe) fun _ _ z => PairAt.mono (Tk.lst hwe) z
      · rw [List.length_append, List.length_singleton]; omega
      · intro e' he'
        rcases List.mem_append.mp he' with z | z
        · exact hin e' z
        · have : e' = (n, 7 + v') := by simpa using z
          rw [this]; exact ⟨List.mem_of_getElem? hn, by show 0 ≤ 7 + v'; omega, by show 7 + v' ≤ 999; omega⟩
    · exact ⟨_, rfl, ea.trans xc, bc, rs', es, xc lw _ nlw hw, pmp hp fun _ _ z => PairAt.mono (ba.tk xc) z, by omega, hin⟩
  obtain ⟨u7, rfl, ea, ba, ws, es, hw, hp, hz, hin⟩ := p
  rw [List.length_map] at hz
  refine ⟨_, rfl, _, rfl, _, _, rfl, b, d, ds, 2, rfl, rfl, by decide, ba, fun Hb v xb bb v0 v2 => ?_⟩
  have hwb := xb lw _ nlw hw
  refine ⟨_, _, rfl, rfl, _, rfl, _, rfl, _, rfl, _, rfl, lw, _, rfl, SqL.of hwb, fun t zt ft nt => ⟨sz (by show 6 ≤ 100000; decide), fun p fp => ?_⟩⟩
  have np : p ≠ t := fun z => by rw [z, upd_same] at fp; cases fp
  have xz : ExM [b] Hb (upd (upd Hb t (.frz zt (.tup (ws.map V.ref)))) p (.tup [.str "heap", .int (at_ + v), .ref r, .ref kp, .ref o, .ref t])) := (ExM.new ft).trans (ExM.new fp)
  have tz := Tk.trans (K := K) (ba.tk xb) (bb.tk xz)
  have t9 := Tk.trans (b9.tk ea) tz
  have t7 := Tk.trans (b7.tk x9) t9
  have t4 := Tk.trans (b4.tk x7) t7
  refine q _ p ⟨at_ + v, rs, ks, obs, es⟩ (((((((x1.trans e2).trans x4).trans x7).trans x9).trans ea).trans xb).trans xz) ((bb.new ft).new fp) ?_ ?_ ?_
  · refine ⟨r, kp, o, t, ws, SqT.of upd_same, hr7.mono t7, t9 _ _ hk9, ⟨os, t4 _ _ ho4, pmp hobs4 fun _ _ z => ObAt.mono t4 z⟩, (SqZ.of nt (by rw [upd_ne np.symm]; exact upd_same)).sq, pmp hp fun _ _ z => PairAt.mono tz z⟩
  · have hnn : (⟨at_ + v, rs, ks, obs, es⟩ : Wc.Hd).nums = ns := hnum
    have hol : obs.length = ns.length := by rw [← hnum, List.length_map]
    refine ⟨by rw [hnn]; exact hup, by show obs.length ≤ 50; omega, by show rs.length ≤ 1000; omega, by rw [hnn]; exact hrs, by rw [hnn]; exact hok, by rw [hnn]; exact fun i hi => hks.subset hi, by rw [hnn]; exact fun e he => (hin e he).1, ?_, ?_, ?_, fun e he => (hin e he).2, by show es.length ≤ 50; omega, ?_⟩
    · rw [hnn]; intro n hn; have := hlow n hn; show 0 ≤ n ∧ n < at_ + v; omega
    · show 0 ≤ at_ + v ∧ at_ + v ≤ 999; omega
    · exact hup.sublist hks
    · intro z
      have z' : rs = [] := z
      rw [z'] at hrl
      have : (0 : Nat) = (1 + k).toNat := hrl
      omega
  · have hol : obs.length = ns.length := by rw [← hnum, List.length_map]
    show ((obs.length : Nat) : Int) ≤ m
    omega
end
end Wc
namespace Wc
open PySem L2
section
variable (K : PySem.W.Frag)
def R__law_follows : V3 := fun x y z H Q => ∃ (a : Addr) (o : Ob) (g : Addr) (gs : List Int) (c : Addr) (cs : List Int), x = .ref a ∧ y = .ref g ∧ z = .ref c ∧ ObAt K H a o ∧ o.small ∧ SqL K H g (gs.map V.int) ∧
  (SqL K H c (cs.map V.int) ∨ SqT K H c (cs.map V.int)) ∧ NewL (ledTo o gs cs) H Q
abbrev sp__law_follows : Sp := sp3 (R__law_follows K)
def R__law_obtainable : V2 := fun x y H Q => ∃ (a : Addr) (h : Hd) (c : Addr) (cs : List Int), x = .ref a ∧ y = .ref c ∧ HeapAt K H a h ∧ h.Ok ∧ (SqL K H c (cs.map V.int) ∨ SqT K H c (cs.map V.int)) ∧
  ∀ ns, UpSet ns (Obt h cs) → NewL ns H Q
abbrev sp__law_obtainable : Sp := sp2 (R__law_obtainable K)
def R_same (n : Nat) : V2 := fun x y H Q => ∃ d : Dt, Is K H d x ∧ Is K H d y ∧ d.dep < n ∧ d.thin ∧ Q (.bl true) H
abbrev sp__law_same : Sp := sp2 (R_same K 9)
end
theorem ledTo_len {o : Ob} {gs cs : List Int} (sm : o.small) : (ledTo o gs cs).length ≤ 1000 := by
  cases o with
  | rcd n fs => exact Nat.le_trans (List.length_filterMap_le _ _) sm
  | weak n t =>
    cases t with
    | none => exact Nat.zero_le _
    | some i =>
      show (if i ∈ cs then [] else [i]).length ≤ 1000
      split <;> simp
  | tab n es =>
    show ((es.filter fun e => decide (e.1 ∈ gs)).map (·.2)).length ≤ 1000
    rw [List.length_map]
    exact Nat.le_trans (List.length_filter_le _ _) sm
/-! ### the law's own walk: closed behind as many turns as there are objects, and one more -/
def Shut (h : Hd) (cs G : List Int) : Prop := ∀ o ∈ h.obs, o.num ∈ G → ∀ n, o.fol cs (· ∈ G) n → n ∈ G
def cnt (h : Hd) (G : List Int) : Nat := (h.nums.filter fun n => decide (n ∈ G)).length
theorem filter_lt {l : List Int} {p q : Int → Bool} (s : ∀ n, p n = true → q n = true) {x : Int} (hx : x ∈ l) (h1 : p x = false) (h2 : q x = true) : (l.filter p).length < (l.filter q).length := by
  have le : ∀ l : List Int, (l.filter p).length ≤ (l.filter q).length := by
    intro l
    induction l with
    | nil => exact Nat.le_refl _
    | cons y r ih =>
      rw [List.filter_cons, List.filter_cons]
      cases hp : p y with
      | true =>
        rw [s y hp]
        simp only [if_true, List.length_cons]
        omega
      | false =>
        simp only [Bool.false_eq_true, if_false]
        split
        · rw [List.length_cons]; omega
        · exact ih
  induction l with
  | nil => cases hx
  | cons y r ih =>
    rw [List.filter_cons, List.filter_cons]
    rcases List.mem_cons.mp hx with rfl | hx
    · rw [h1, h2]
      simp only [Bool.false_eq_true, if_false, if_true, List.length_cons]
      have := le r
      omega
    · have := ih hx
      cases hp : p y with
      | true =>
        rw [s y hp]
        simp only [if_true, List.length_cons]
        omega
      | false =>
        simp only [Bool.false_eq_true, if_false]
        split
        · rw [List.length_cons]; omega
        · exact this
theorem cnt_lt {h : Hd} {G G' : List Int} (s : ∀ n ∈ G, n ∈ G') {n : Int} (hn : n ∈ h.nums) (h1 : n ∉ G) (h2 : n ∈ G') : cnt h G < cnt h G' :=
  filter_lt (fun m z => decide_eq_true (s m (of_decide_eq_true z))) hn (decide_eq_false h1) (decide_eq_true h2)
theorem cnt_le (h : Hd) (G : List Int) : cnt h G ≤ h.obs.length := by
  unfold cnt
  refine Nat.le_trans (List.length_filter_le _ _) ?_
  unfold Hd.nums
  rw [List.length_map]
  exact Nat.le_refl _
section
variable {P : Program} {w : World} {K : PySem.W.Frag} {mg : Str → Option Value} {base : Heap}
end
end Wc
namespace Wc
open PySem L2
section
variable {P : Program} {w : World} {K : PySem.W.Frag} {mg : Str → Option Value} {base : Heap}
theorem step__law_same {f : Addr} {fd : FuncData} {cd : Value} {n : Nat} (F : Df K "_law_same" s__law_same f fd cd) (T : Txt mg) (C__law_same : Cal P w K mg base n "_law_same" (sp2 (R_same K n)) []) :
    FnOk P w K mg base CX0 (n + 1) f fd ["actual", "expected"] (sp2 (R_same K (n + 1))) := by
  have nd := sc__law_same.nd
  refine F.ok sc__law_same (fun vs H Q E h => ?_) (fun A outer s H vs Q E hr h => ?_)
  · obtain ⟨_, _, rfl, _⟩ := h; rfl
  have hu := hu_of hr
  obtain ⟨x0, x1, rfl, h⟩ := h
  refine ⟨_, (pss_cons (ps_if (pt_val (pe_callB (r := rIsi K) call_isi rfl T.isinstance (by decide +kernel) (pa_cons (pv 1) (pa_cons (pe_bltn (v := .ty "tuple") rfl T.tuple (by decide +kernel) rfl) pa_nil)))) (pss_cons (ps_if (PW.pt (pw_or (pt_not (pt_val (pe_callB (r := rIsi K) call_isi rfl T.isinstance (by decide +kernel) (pa_cons (pv 0) (pa_cons (pe_bltn (v := .ty "tuple") rfl T.tuple (by decide +kernel) rfl) pa_nil))))) (pw_or1 (pt_cmpR op_ne (pe_callB (r := Evl.rLenS K) call_len_seq rfl T.len PySem.boot_len (pa_cons (pv 0) pa_nil)) (pe_callB (r := Evl.rLenS K) call_len_seq rfl T.len PySem.boot_len (pa_cons (pv 1) pa_nil)) (nomark _))))) (pss_one (ps_ret pe_bl)) pss_nil)
    (pss_cons (ps_for PassesOwn.never rfl (pi_range1 rfl T.range (pa_cons (pe_callB (r := Evl.rLenS K) call_len_seq rfl T.len PySem.boot_len (pa_cons (pv 1) pa_nil)) pa_nil)) (pg_name (i := 2) nd rfl (by first | exact Or.inl rfl | exact Or.inr rfl))
    (pss_one (ps_if (pt_not (pt_val (pe_c C__law_same hr (by first | exact Nat.le_refl _ | decide) rfl (pa_cons (pe_ix (r := rIxT K) ix_tup (pv 0) (pv 2) (fun _ _ => rfl)) (pa_cons (pe_ix (r := rIxT K) ix_tup (pv 1) (pv 2) (fun _ _ => rfl)) pa_nil))))) (pss_one (ps_ret pe_bl)) pss_nil)))
    (pss_one (ps_ret pe_bl)))) pss_nil)
    (pss_cons (ps_if (pt_cmpR op_isN (pv 1) pe_non (nomark _)) (pss_one (ps_ret (pe_cmpR op_isN (pv 0) pe_non (nomark _)))) pss_nil)
    (pss_cons (ps_if (pt_val (pe_callB (r := rIsi K) call_isi rfl T.isinstance (by decide +kernel) (pa_cons (pv 1) (pa_cons (pe_bltn (v := .ty "bool") rfl T.bool (by decide +kernel) rfl) pa_nil)))) (pss_one (ps_ret (pe_and (pe_callB (r := rIsi K) call_isi rfl T.isinstance (by decide +kernel) (pa_cons (pv 0) (pa_cons (pe_bltn (v := .ty "bool") rfl T.bool (by decide +kernel) rfl) pa_nil))) (pe_one (pe_cmpR op_eq (pv 0) (pv 1) (nomark _)))))) pss_nil)
    (pss_cons (ps_if (pt_val (pe_callB (r := rIsi K) call_isi rfl T.isinstance (by decide +kernel) (pa_cons (pv 1) (pa_cons (pe_bltn (v := .ty "int") rfl T.int (by decide +kernel) rfl) pa_nil)))) (pss_one (ps_ret (pe_and (pe_callB (r := rIsi K) call_isi rfl T.isinstance (by decide +kernel) (pa_cons (pv 0) (pa_cons (pe_bltn (v := .ty "int") rfl T.int (by decide +kernel) rfl) pa_nil))) (pe_and (pe_not (pe_callB (r := rIsi K) call_isi rfl T.isinstance (by decide +kernel) (pa_cons (pv 0) (pa_cons (pe_bltn (v := .ty "bool") rfl T.bool (by decide +kernel) rfl) pa_nil)))) (pe_one (pe_cmpR op_eq (pv 0) (pv 1) (nomark _))))))) pss_nil)
    (pss_one (ps_ret (pe_and (pe_callB (r := rIsi K) call_isi rfl T.isinstance (by decide +kernel) (pa_cons (pv 0) (pa_cons (pe_bltn (v := .ty "str") rfl T.str (by decide +kernel) rfl) pa_nil))) (pe_one (pe_cmpR op_eq (pv 0) (pv 1) (nomark _))))))))))
    , ?_⟩
  obtain ⟨d, hx, hy, hd, hth, q⟩ := h
  cases d with
  | tup ds =>
    obtain ⟨a, xs, rfl, ha, hxs⟩ := hx
    obtain ⟨b, ys, rfl, hb, hys⟩ := hy
    have lx := hxs.len
    have ly := hys.len
    have zl : ds.length ≤ 100000 := hth.1
    refine ⟨_, rfl, _, _, _, _, true, rfl, .ty "tuple", tyx_tup hb, kit_ty (by decide +kernel), _, rfl, iteT ?_⟩
    refine ⟨_, rfl, _, _, _, _, true, rfl, .ty "tuple", tyx_tup ha, kit_ty (by decide +kernel), _, rfl, iteF ?_⟩
    refine ⟨_, rfl, a, _, rfl, .inr ha, _, rfl, b, _, rfl, .inr hb, rfl, _, rfl, iteNS (by rw [lx, ly]) ?_⟩
    refine ⟨_, rfl, b, _, rfl, .inr hb, _, rfl, by omega, by omega, ?_⟩
    refine for_range (lo := 0) (n := ((ys.length : Nat) : Int).toNat) (fun i σ2 H2 => ∃ u, σ2 = [some (.ref a), some (.ref b), u] ∧ H2 = H) ⟨none, rfl, rfl⟩ (fun i σ2 H2 hi p => ?_) (fun σ2 H2 p => ?_)
    · obtain ⟨u, rfl, rfl⟩ := p
      have hi' : i < ds.length := by omega
      obtain ⟨d', hd'⟩ : ∃ d', ds[i]? = some d' := ⟨_, List.getElem?_eq_getElem hi'⟩
      obtain ⟨x, hx1, hx2⟩ := hxs.get hd'
      obtain ⟨y, hy1, hy2⟩ := hys.get hd'
      have e0 : (0 : Int) + (i : Int) = (i : Int) := Int.zero_add _
      have dd : d'.dep < n := by
        have z1 := dep_get hd'
        have z2 : 1 + Dt.depL ds < n + 1 := hd
        omega
      refine ⟨_, rfl, _, rfl, a, _, _, x, rfl, rfl, ha, by rw [e0]; exact atI_nat hx1, _, rfl, _, rfl, b, _, _, y, rfl, rfl, hb, by rw [e0]; exact atI_nat hy1, ?_⟩
      exact ⟨_, _, rfl, d', hx2, hy2, dd, thin_get hth.2 hd', _, rfl, iteF ⟨_, rfl, rfl⟩⟩
    · obtain ⟨u, rfl, rfl⟩ := p
      exact q
  | non =>
    have hx : x0 = .non := hx
    have hy : x1 = .non := hy
    subst hx hy
    refine ⟨_, rfl, _, _, _, _, false, rfl, .ty "tuple", .base .non, kit_ty (by decide +kernel), _, rfl, iteF ?_⟩
    exact ⟨_, rfl, rfl, _, rfl, iteT ⟨_, rfl, rfl, q⟩⟩
  | bl v =>
    have hx : x0 = .bl v := hx
    have hy : x1 = .bl v := hy
    subst hx hy
    refine ⟨_, rfl, _, _, _, _, false, rfl, .ty "tuple", .base (.bl v), kit_ty (by decide +kernel), _, rfl, iteF ?_⟩
    refine ⟨_, rfl, rfl, _, rfl, iteF ?_⟩
    refine ⟨_, rfl, _, _, _, _, true, rfl, .ty "bool", .base (.bl v), kit_ty (by decide +kernel), _, rfl, iteT ?_⟩
    refine ⟨_, rfl, _, _, _, _, true, rfl, .ty "bool", .base (.bl v), kit_ty (by decide +kernel), _, rfl, iteT ⟨_, rfl, _, rfl, rfl, ?_⟩⟩
    rw [decide_eq_true (rfl : V.bl v = V.bl v)]
    exact q
  | int v =>
    have hx : x0 = .int v := hx
    have hy : x1 = .int v := hy
    subst hx hy
    refine ⟨_, rfl, _, _, _, _, false, rfl, .ty "tuple", .base (.int v), kit_ty (by decide +kernel), _, rfl, iteF ?_⟩
    refine ⟨_, rfl, rfl, _, rfl, iteF ?_⟩
    refine ⟨_, rfl, _, _, _, _, false, rfl, .ty "bool", .base (.int v), kit_ty (by decide +kernel), _, rfl, iteF ?_⟩
    refine ⟨_, rfl, _, _, _, _, true, rfl, .ty "int", .base (.int v), kit_ty (by decide +kernel), _, rfl, iteT ?_⟩
    refine ⟨_, rfl, _, _, _, _, true, rfl, .ty "int", .base (.int v), kit_ty (by decide +kernel), _, rfl, iteT ?_⟩
    refine ⟨_, rfl, _, _, _, _, false, rfl, .ty "bool", .base (.int v), kit_ty (by decide +kernel), _, rfl, _, rfl, iteT ⟨_, rfl, _, rfl, rfl, ?_⟩⟩
    rw [decide_eq_true (rfl : V.int v = V.int v)]
    exact q
  | str v =>
    have hx : x0 = .str v := hx
    have hy : x1 = .str v := hy
    subst hx hy
    refine ⟨_, rfl, _, _, _, _, false, rfl, .ty "tuple", .base (.str v), kit_ty (by decide +kernel), _, rfl, iteF ?_⟩
    refine ⟨_, rfl, rfl, _, rfl, iteF ?_⟩
    refine ⟨_, rfl, _, _, _, _, false, rfl, .ty "bool", .base (.str v), kit_ty (by decide +kernel), _, rfl, iteF ?_⟩
    refine ⟨_, rfl, _, _, _, _, false, rfl, .ty "int", .base (.str v), kit_ty (by decide +kernel), _, rfl, iteF ?_⟩
    refine ⟨_, rfl, _, _, _, _, true, rfl, .ty "str", .base (.str v), kit_ty (by decide +kernel), _, rfl, iteT ⟨_, rfl, _, rfl, rfl, ?_⟩⟩
    rw [decide_eq_true (rfl : V.str v = V.str v)]
    exact q
theorem all__law_same {f : Addr} {fd : FuncData} {cd : Value} (F : Df K "_law_same" s__law_same f fd cd) (T : Txt mg) (b : Binds K fd ["actual", "expected"] []) (m : mg "_law_same" = some (.ref f)) (kp : PySem.W.keepIn K (.ref f) = true) :
    ∀ n, FnOk P w K mg base CX0 n f fd ["actual", "expected"] (sp2 (R_same K n))
  | 0 => by
    have no : ∀ vs H Q E, ¬ sp2 (R_same K 0) vs H Q E := fun vs H Q E h => by
      obtain ⟨_, _, _, d, _, _, hd, _⟩ := h
      omega
    exact ⟨fun vs H Q E h => absurd h (no vs H Q E), fun A outer s H args us vs Q E _ _ _ _ h => absurd h (no vs H Q E)⟩
  | n + 1 => step__law_same F T (Cal.mk0 (all__law_same F T b m kp n) m kp b)
theorem ok__law_same {f : Addr} {fd : FuncData} {cd : Value} (F : Df K "_law_same" s__law_same f fd cd) (T : Txt mg) (b : Binds K fd ["actual", "expected"] []) (m : mg "_law_same" = some (.ref f)) (kp : PySem.W.keepIn K (.ref f) = true) :
    Cal P w K mg base 9 "_law_same" (sp__law_same K) [] := Cal.mk0 (all__law_same F T b m kp 9) m kp b
end
end Wc
namespace Wc
open PySem L2
/-! ### which sets may be condemned: mathematics -/
def Cond (h : Hd) (cs : List Int) : Prop := ∀ n ∈ cs, n ∉ h.kept ∧ ¬ Obt h cs n
def Gr (h : Hd) (cs : List Int) (n : Int) : Prop := n ∈ cs ∧ n ∉ h.kept ∧ ¬ Obt h (cs.filter fun m => decide (m ∉ h.kept)) n
theorem Gr.mem {h : Hd} {cs : List Int} {n : Int} (x : Gr h cs n) : n ∈ cs := x.1
theorem Obt.same {h : Hd} {cs ds : List Int} (e : ∀ n, n ∈ cs ↔ n ∈ ds) (n : Int) : Obt h cs n ↔ Obt h ds n := ⟨Obt.less fun m z => (e m).mpr z, Obt.less fun m z => (e m).mp z⟩
/-- what is taken out leads to nothing new -/
theorem Gr.obt {h : Hd} {cs ts : List Int} (ht : ∀ n, n ∈ ts ↔ Gr h cs n) (n : Int) : Obt h ts n ↔ Obt h (cs.filter fun m => decide (m ∉ h.kept)) n := by
  constructor
  · refine Obt.closed (S := fun m => Obt h (cs.filter fun m => decide (m ∉ h.kept)) m) (fun m z => Obt.reg z) (fun m ⟨o, h1, h2, h3⟩ => ?_)
    cases o with
    | rcd k fs => exact Obt.fol ⟨_, h1, h2, h3⟩
    | tab k es => exact Obt.fol ⟨_, h1, h2, h3⟩
    | weak k t =>
      obtain ⟨e, hn⟩ := h3
      by_cases c : m ∈ cs.filter fun m => decide (m ∉ h.kept)
      · obtain ⟨c1, c2⟩ := List.mem_filter.mp c
        by_cases d : Obt h (cs.filter fun m => decide (m ∉ h.kept)) m
        · exact d
        · exact absurd ((ht m).mpr ⟨c1, of_decide_eq_true c2, d⟩) hn
      · exact Obt.fol ⟨_, h1, h2, e, c⟩
  · exact Obt.less fun m z => by
      obtain ⟨z1, z2, _⟩ := (ht m).mp z
      exact List.mem_filter.mpr ⟨z1, decide_eq_true z2⟩
theorem Gr.cond {h : Hd} {cs ts : List Int} (ht : ∀ n, n ∈ ts ↔ Gr h cs n) : Cond h ts := fun n hn => ⟨((ht n).mp hn).2.1, fun z => ((ht n).mp hn).2.2 ((Gr.obt ht n).mp z)⟩
/-- .. and has every other one -/
theorem Cond.gr {h : Hd} {cs ss : List Int} (x : Cond h ss) (hs : ∀ n ∈ ss, n ∈ cs) {n : Int} (hn : n ∈ ss) : Gr h cs n := by
  obtain ⟨x1, x2⟩ := x n hn
  exact ⟨hs n hn, x1, fun z => x2 (Obt.less (fun m hm => List.mem_filter.mpr ⟨hs m hm, decide_eq_true (x m hm).1⟩) z)⟩
theorem Cond.same {h : Hd} {cs ds : List Int} (e : ∀ n, n ∈ cs ↔ n ∈ ds) (x : Cond h cs) : Cond h ds := fun n hn => ⟨(x n ((e n).mpr hn)).1, fun z => (x n ((e n).mpr hn)).2 ((Obt.same e n).mpr z)⟩
section
variable (K : PySem.W.Frag)
def R_kept_of : V1 := fun x H Q => ∃ a h, x = .ref a ∧ HeapAt K H a h ∧ ∀ r, SqT K H r (h.kept.map .int) → Q (.ref r) H
abbrev sp_kept_of : Sp := sp1 (R_kept_of K)
def R_is_condemnable : V2 := fun x y H Q => ∃ (a : Addr) (h : Hd) (c : Addr) (cs : List Int), x = .ref a ∧ y = .ref c ∧ HeapAt K H a h ∧ h.Ok ∧ SqT K H c (cs.map .int) ∧ cs.length ≤ 1000 ∧
  ∀ H' b, ExA H H' → (b = true ↔ Cond h cs) → Q (.bl b) H'
abbrev sp_is_condemnable : Sp := sp2 (R_is_condemnable K)
def R_greatest : V2 := fun x y H Q => ∃ (a : Addr) (h : Hd) (c : Addr) (cs : List Int), x = .ref a ∧ y = .ref c ∧ HeapAt K H a h ∧ h.Ok ∧ SqS K H c (cs.map .int) ∧ cs.length < 64 ∧
  ∀ ns, UpSet ns (Gr h cs) → NewT ns H Q
abbrev sp_greatest : Sp := sp2 (R_greatest K)
def R_goes_without : V3 := fun x y z H Q => ∃ (a : Addr) (h : Hd) (n m : Int), x = .ref a ∧ y = .int n ∧ z = .int m ∧ HeapAt K H a h ∧ h.Ok ∧
  ∀ H' b, ExA H H' → (b = true ↔ Gr h (h.nums.filter fun k => decide (k ≠ m)) n) → Q (.bl b) H'
abbrev sp_goes_without : Sp := sp3 (R_goes_without K)
def R_along : V2 := fun x y H Q => ∃ (a : Addr) (h : Hd) (n : Int), x = .ref a ∧ y = .int n ∧ HeapAt K H a h ∧ h.Ok ∧
  ((¬ Gr h h.nums n) → ∀ H', ExA H H' → Q .non H') ∧ (Gr h h.nums n → ∀ ns, UpSet ns (fun m => m ∈ h.nums ∧ ¬ Gr h (h.nums.filter fun k => decide (k ≠ m)) n) → NewT ns H Q)
abbrev sp_along : Sp := sp2 (R_along K)
end
theorem bnot_dec {b : Bool} {P : Prop} [Decidable (¬P)] (h : b = true ↔ P) : (!b) = decide (¬P) := by
  cases b with
  | true => exact (decide_eq_false (fun z => z (h.mp rfl))).symm
  | false => exact (decide_eq_true (fun z => nomatch h.mpr z)).symm
theorem orv {t u : TE} {σ : L2.St} {H : Hp} {Q : VK} (b c : Bool) (ht : ∀ Q' : VK, Q' (.bl b) H → t σ H Q') (hu : b = false → ∀ Q' : VK, Q' (.bl c) H → u σ H Q') (h : Q (.bl (b || c)) H) : tOrV t u σ H Q := by
  refine ht _ ⟨b, rfl, ?_⟩
  cases b with
  | true => rw [if_pos rfl]; exact h
  | false => rw [if_neg (by simp)]; exact hu rfl _ h
section
variable {P : Program} {w : World} {K : PySem.W.Frag} {mg : Str → Option Value} {base : Heap}
theorem ok_kept_of {f : Addr} {fd : FuncData} {cd : Value} (F : Df K "kept_of" s_kept_of f fd cd) (T : Txt mg) : FnOk P w K mg base CX0 1 f fd ["heap"] (sp_kept_of K) := by
  have nd := sc_kept_of.nd
  refine F.ok sc_kept_of (fun vs H Q E h => ?_) (fun A outer s H vs Q E hr h => ?_)
  · obtain ⟨_, rfl, _⟩ := h; rfl
  have hu := hu_of hr
  obtain ⟨x0, rfl, h⟩ := h
  refine ⟨_, (pss_one (ps_ret (pe_ix (r := rIxT K) ix_tup (pv 0) pe_int (fun _ _ => rfl)))), ?_⟩
  obtain ⟨a, h, rfl, ⟨r, k, o, w, ws, h1, h2, h3, h4, h5, h6⟩, q⟩ := h
  exact ⟨_, rfl, a, _, _, _, rfl, rfl, h1, at3, q k h3⟩
end
end Wc
namespace Wc
open PySem L2
/-! ### what condemning does -/
def isClr (gs : List Int) : Ob → Bool
  | .weak _ t => hit gs t
  | _ => false
def tabEs : Ob → List (Int × Int)
  | .tab _ es => es
  | _ => []
def isTab : Ob → Bool
  | .tab _ _ => true
  | _ => false
def stay (h : Hd) (gs : List Int) : List Ob := h.obs.filter fun o => decide (o.num ∉ gs)
def cleared (l : List Ob) (gs : List Int) : List Int := (l.filter (isClr gs)).map Ob.num
def removed (l : List Ob) (gs : List Int) : List (Int × Int) := l.flatMap fun o => ((tabEs o).filter fun e => decide (e.1 ∈ gs)).map fun e => (o.num, e.1)
def toks (h : Hd) (gs : List Int) : List Int := (h.wat.filter fun e => decide (e.1 ∈ gs)).map (·.2)
theorem removed_tabs (l : List Ob) (gs : List Int) : removed (l.filter isTab) gs = removed l gs := by
  unfold removed
  induction l with
  | nil => rfl
  | cons o r ih =>
    rw [List.filter_cons, List.flatMap_cons]
    cases o with
    | tab n es =>
      show List.flatMap _ (Ob.tab n es :: r.filter isTab) = _
      rw [List.flatMap_cons, ih]
    | rcd n fs => exact ih
    | weak n t => exact ih
theorem decI {gs gs' : List Int} (e : ∀ n, n ∈ gs ↔ n ∈ gs') (n : Int) : decide (n ∈ gs) = decide (n ∈ gs') := decide_eq_decide.mpr (e n)
theorem decN {gs gs' : List Int} (e : ∀ n, n ∈ gs ↔ n ∈ gs') (n : Int) : decide (n ∉ gs) = decide (n ∉ gs') := decide_eq_decide.mpr (not_congr (e n))
section
variable {gs gs' : List Int} (e : ∀ n, n ∈ gs ↔ n ∈ gs')
include e
theorem hit_same (r : Rf) : hit gs r = hit gs' r := by
  cases r with
  | none => rfl
  | some m => exact decI e m
theorem clr_same : clr gs = clr gs' := by funext r; unfold clr; rw [hit_same e r]
theorem dropOb_same : dropOb gs = dropOb gs' := by
  funext o
  cases o with
  | rcd n fs => show Ob.rcd n (fs.map (clr gs)) = _; rw [clr_same e]; rfl
  | weak n t => show Ob.weak n (clr gs t) = _; rw [clr_same e]; rfl
  | tab n es =>
    show Ob.tab n (es.filter fun q => decide (q.1 ∉ gs) && decide (q.2 ∉ gs)) = Ob.tab n (es.filter fun q => decide (q.1 ∉ gs') && decide (q.2 ∉ gs'))
    rw [show (fun q : Int × Int => decide (q.1 ∉ gs) && decide (q.2 ∉ gs)) = fun q => decide (q.1 ∉ gs') && decide (q.2 ∉ gs') from funext fun q => by rw [decN e, decN e]]
theorem stay_same (h : Hd) : stay h gs = stay h gs' := by
  unfold stay; rw [show (fun o : Ob => decide (o.num ∉ gs)) = fun o => decide (o.num ∉ gs') from funext fun o => decN e _]
theorem drop_same (h : Hd) : drop h gs = drop h gs' := by
  unfold drop
  rw [clr_same e, dropOb_same e, show (fun n : Int => decide (n ∉ gs)) = fun n => decide (n ∉ gs') from funext fun n => decN e n, show (fun o : Ob => decide (o.num ∉ gs)) = fun o => decide (o.num ∉ gs') from funext fun o => decN e _,
    show (fun q : Int × Int => decide (q.1 ∉ gs)) = fun q => decide (q.1 ∉ gs') from funext fun q => decN e _]
theorem cleared_same (l : List Ob) : cleared l gs = cleared l gs' := by
  unfold cleared
  rw [show isClr gs = isClr gs' from funext fun o => by cases o <;> first | exact hit_same e _ | rfl]
theorem removed_same (l : List Ob) : removed l gs = removed l gs' := by
  unfold removed
  rw [show (fun q : Int × Int => decide (q.1 ∈ gs)) = fun q => decide (q.1 ∈ gs') from funext fun q => decI e _]
theorem toks_same (h : Hd) : toks h gs = toks h gs' := by
  unfold toks
  rw [show (fun q : Int × Int => decide (q.1 ∈ gs)) = fun q => decide (q.1 ∈ gs') from funext fun q => decI e _]
end
section
variable (K : PySem.W.Frag)
def R_watches_of : V1 := fun x H Q => ∃ a h, x = .ref a ∧ HeapAt K H a h ∧ ∀ w ws, SqT K H w (ws.map V.ref) → Paired (PairAt K H) ws h.wat → Q (.ref w) H
abbrev sp_watches_of : Sp := sp1 (R_watches_of K)
def R_cleared_in : V2 := fun x y H Q => ∃ (l : Addr) (as : List Addr) (obs : List Ob) (g : Addr) (gs : List Int), x = .ref l ∧ y = .ref g ∧ SqL K H l (as.map V.ref) ∧ Paired (ObAt K H) as obs ∧ obs.length ≤ 100 ∧ KeysAt H g gs ∧ NewT (cleared obs gs) H Q
abbrev sp_cleared_in : Sp := sp2 (R_cleared_in K)
def R_removed_from : V2 := fun x y H Q => ∃ (l : Addr) (as : List Addr) (obs : List Ob) (g : Addr) (gs : List Int), x = .ref l ∧ y = .ref g ∧ SqL K H l (as.map V.ref) ∧ Paired (ObAt K H) as obs ∧ obs.length ≤ 100 ∧ (∀ o ∈ obs, o.small) ∧ KeysAt H g gs ∧
  ∀ H' p rs, ExA H H' → SqT K H' p (rs.map V.ref) → Paired (PairAt K H') rs (removed obs gs) → Q (.ref p) H'
abbrev sp_removed_from : Sp := sp2 (R_removed_from K)
def R_condemn : V2 := fun x y H Q => ∃ (a : Addr) (h : Hd) (c : Addr) (cs : List Int), x = .ref a ∧ y = .ref c ∧ HeapAt K H a h ∧ h.Ok ∧ SqT K H c (cs.map V.int) ∧ cs.length ≤ 1000 ∧
  ∀ H' p hp cl rm rs tk, ExA H H' → SqT K H' p [.ref hp, .ref cl, .ref rm, .ref tk] → HeapAt K H' hp (drop h cs) → SqT K H' cl ((cleared (stay h cs) cs).map V.int) → SqT K H' rm (rs.map V.ref) → Paired (PairAt K H') rs (removed (stay h cs) cs) →
    SqT K H' tk ((toks h cs).map V.int) → Q (.ref p) H'
abbrev sp_condemn : Sp := sp2 (R_condemn K)
end
section
variable {P : Program} {w : World} {K : PySem.W.Frag} {mg : Str → Option Value} {base : Heap}
theorem ok_watches_of {f : Addr} {fd : FuncData} {cd : Value} (F : Df K "watches_of" s_watches_of f fd cd) (T : Txt mg) : FnOk P w K mg base CX0 1 f fd ["heap"] (sp_watches_of K) := by
  have nd := sc_watches_of.nd
  refine F.ok sc_watches_of (fun vs H Q E h => ?_) (fun A outer s H vs Q E hr h => ?_)
  · obtain ⟨_, rfl, _⟩ := h; rfl
  have hu := hu_of hr
  obtain ⟨x0, rfl, h⟩ := h
  refine ⟨_, (pss_one (ps_ret (pe_ix (r := rIxT K) ix_tup (pv 0) pe_int (fun _ _ => rfl)))), ?_⟩
  obtain ⟨a, h, rfl, ⟨r, k, o, w, ws, h1, h2, h3, h4, h5, h6⟩, q⟩ := h
  exact ⟨_, rfl, a, _, _, _, rfl, rfl, h1, at5, q w ws h5 h6⟩
end
end Wc
/-! The marking, in its order: the mathematics. -/
namespace Wc
open PySem L2
def ext (ord xs : List Int) : List Int := xs.foldl addK ord
theorem ext_app (ord xs ys : List Int) : ext ord (xs ++ ys) = ext (ext ord xs) ys := List.foldl_append
theorem mem_ext {ord xs : List Int} {n : Int} : n ∈ ext ord xs ↔ n ∈ ord ∨ n ∈ xs := mem_foldK xs ord n
theorem ext_nd {ord xs : List Int} (h : ord.Nodup) : (ext ord xs).Nodup := nd_foldK xs ord h
theorem ext_snoc (ord xs : List Int) (n : Int) : ext ord (xs ++ [n]) = addK (ext ord xs) n := by rw [ext_app]; rfl
theorem addK_in {ord : List Int} {n : Int} (h : n ∈ ord) : addK ord n = ord := by unfold addK; rw [if_pos h]
theorem addK_pre (ord : List Int) (n : Int) : ∃ t, addK ord n = ord ++ t := by
  unfold addK
  split
  · exact ⟨[], (List.append_nil _).symm⟩
  · exact ⟨[n], rfl⟩
theorem ext_pre : ∀ (xs ord : List Int), ∃ t, ext ord xs = ord ++ t
  | [], ord => ⟨[], (List.append_nil _).symm⟩
  | x :: xs, ord => by
    obtain ⟨t, e⟩ := addK_pre ord x
    obtain ⟨u, e2⟩ := ext_pre xs (addK ord x)
    exact ⟨t ++ u, by show ext (addK ord x) xs = _; rw [e2, e, List.append_assoc]⟩
/-- what is there already may be left out -/
theorem ext_skip {α : Type} (g : α → Int) (p : α → Bool) : ∀ (l : List α) (ord : List Int), (∀ e ∈ l, p e = false → g e ∈ ord) → ext ord (l.map g) = ext ord ((l.filter p).map g)
  | [], _, _ => rfl
  | x :: l, ord, h => by
    cases c : p x with
    | true =>
      rw [List.filter_cons_of_pos c]
      show ext (addK ord (g x)) (l.map g) = ext (addK ord (g x)) ((l.filter p).map g)
      exact ext_skip g p l _ fun e he q => mem_addK.mpr (.inl (h e (List.mem_cons_of_mem _ he) q))
    | false =>
      rw [List.filter_cons_of_neg (by simp [c])]
      show ext (addK ord (g x)) (l.map g) = _
      rw [addK_in (h x List.mem_cons_self c)]
      exact ext_skip g p l _ fun e he q => h e (List.mem_cons_of_mem _ he) q
/-! ### a heap's objects by number -/
def obOf (h : Hd) (n : Int) : Option Ob := h.obs.find? fun o => decide (o.num = n)
def fldsOb : Ob → List Int
  | .rcd _ fs => fs.filterMap id
  | _ => []
def entsOb : Ob → List (Int × Int)
  | .tab _ es => es
  | _ => []
def fldsOf (h : Hd) (n : Int) : List Int := (obOf h n).elim [] fldsOb
def esOf (h : Hd) (n : Int) : List (Int × Int) := (obOf h n).elim [] entsOb
theorem obOf_num {h : Hd} {n : Int} {o : Ob} (e : obOf h n = some o) : o ∈ h.obs ∧ o.num = n :=
  ⟨List.mem_of_find?_eq_some e, by have := List.find?_some e; simpa using this⟩
theorem obOf_some {h : Hd} {n : Int} (hn : n ∈ h.nums) : ∃ o, obOf h n = some o := by
  obtain ⟨o, ho, e⟩ := List.mem_map.mp hn
  cases c : obOf h n with
  | some o => exact ⟨o, rfl⟩
  | none =>
    have := List.find?_eq_none.mp c o ho
    simp [e] at this
/-! ### one object is scanned -/
def pairsIn (h : Hd) (S : List Int) : List (Int × Int × Int) := S.flatMap fun t => ((esOf h t).filter fun e => decide (e.1 ∈ S)).map fun e => (t, e.1, e.2)
def found (h : Hd) (S : List Int) (n : Int) : List Int := fldsOf h n ++ (pairsIn h S).map fun e => e.2.2
def foundL (h : Hd) (S : List Int) (n : Int) : List Int := fldsOf h n ++ ((pairsIn h S).filter fun e => decide (n = e.1) || decide (n = e.2.1)).map fun e => e.2.2
theorem mem_pairs {h : Hd} {S : List Int} {t q v : Int} : (t, q, v) ∈ pairsIn h S ↔ t ∈ S ∧ q ∈ S ∧ (q, v) ∈ esOf h t := by
  unfold pairsIn
  rw [List.mem_flatMap]
  constructor
  · rintro ⟨t', h1, h2⟩
    obtain ⟨e, he, e2⟩ := List.mem_map.mp h2
    obtain ⟨y1, y2⟩ := List.mem_filter.mp he
    cases e2
    exact ⟨h1, of_decide_eq_true y2, y1⟩
  · rintro ⟨h1, h2, h3⟩
    exact ⟨t, h1, List.mem_map.mpr ⟨(q, v), List.mem_filter.mpr ⟨h3, decide_eq_true h2⟩, rfl⟩⟩
def mk (h : Hd) : Nat → List Int
  | 0 => dedup (h.regs.filterMap id)
  | k + 1 => match (mk h k)[k]? with
    | none => mk h k
    | some n => ext (mk h k) (found h ((mk h k).take (k + 1)) n)
theorem mk_step {h : Hd} {k : Nat} {n : Int} (e : (mk h k)[k]? = some n) : mk h (k + 1) = ext (mk h k) (found h ((mk h k).take (k + 1)) n) := by
  show (match (mk h k)[k]? with | none => mk h k | some n => ext (mk h k) (found h ((mk h k).take (k + 1)) n)) = _
  rw [e]
theorem mk_stop {h : Hd} {k : Nat} (e : (mk h k)[k]? = none) : mk h (k + 1) = mk h k := by
  show (match (mk h k)[k]? with | none => mk h k | some n => ext (mk h k) (found h ((mk h k).take (k + 1)) n)) = _
  rw [e]
theorem mk_pre (h : Hd) (k : Nat) : ∃ t, mk h (k + 1) = mk h k ++ t := by
  cases e : (mk h k)[k]? with
  | none => exact ⟨[], by rw [mk_stop e, List.append_nil]⟩
  | some n => rw [mk_step e]; exact ext_pre _ _
theorem mk_nd (h : Hd) : ∀ k, (mk h k).Nodup
  | 0 => nd_dedup _
  | k + 1 => by
    cases e : (mk h k)[k]? with
    | none => rw [mk_stop e]; exact mk_nd h k
    | some n => rw [mk_step e]; exact ext_nd (mk_nd h k)
theorem found_num {h : Hd} (ok : h.Ok) {S : List Int} {n m : Int} (hm : m ∈ found h S n) : m ∈ h.nums := by
  rcases List.mem_append.mp hm with z | z
  · unfold fldsOf at z
    cases e : obOf h n with
    | none => rw [e] at z; cases z
    | some o =>
      rw [e] at z
      obtain ⟨ho, _⟩ := obOf_num e
      cases o with
      | rcd k fs =>
        obtain ⟨r, hr, er⟩ := List.mem_filterMap.mp (show m ∈ fs.filterMap id from z)
        exact (ok.obs _ ho).2 r hr m er
      | weak k t => cases z
      | tab k es => cases z
  · obtain ⟨⟨t, q, v⟩, he, ev⟩ := List.mem_map.mp z
    obtain ⟨_, _, h3⟩ := mem_pairs.mp he
    have ev : v = m := ev
    subst ev
    unfold esOf at h3
    cases e : obOf h t with
    | none => rw [e] at h3; cases h3
    | some o =>
      rw [e] at h3
      obtain ⟨ho, _⟩ := obOf_num e
      cases o with
      | rcd k fs => cases h3
      | weak k t => cases h3
      | tab k es => exact ((ok.obs _ ho).2.2 _ h3).2
theorem mk_num {h : Hd} (ok : h.Ok) : ∀ k, ∀ n ∈ mk h k, n ∈ h.nums
  | 0, n, hn => by
    have hn : n ∈ h.regs.filterMap id := mem_dedup.mp hn
    obtain ⟨r, hr, er⟩ := List.mem_filterMap.mp hn
    exact ok.regs r hr n er
  | k + 1, n, hn => by
    cases e : (mk h k)[k]? with
    | none => rw [mk_stop e] at hn; exact mk_num ok k n hn
    | some m =>
      rw [mk_step e] at hn
      rcases mem_ext.mp hn with z | z
      · exact mk_num ok k n z
      · exact found_num ok z
theorem mk_len {h : Hd} (ok : h.Ok) (k : Nat) : (mk h k).length ≤ h.nums.length := nd_sub (mk_nd h k) (mk_num ok k)
theorem mk_take (h : Hd) {j k : Nat} (hk : j ≤ k) : ∃ t, mk h k = mk h j ++ t := by
  induction hk with
  | refl => exact ⟨[], (List.append_nil _).symm⟩
  | step _ ih =>
    obtain ⟨t, e⟩ := ih
    obtain ⟨u, e2⟩ := mk_pre h _
    exact ⟨t ++ u, by rw [e2, e, List.append_assoc]⟩
theorem mk_sub (h : Hd) {j k : Nat} (hk : j ≤ k) {n : Int} (hn : n ∈ mk h j) : n ∈ mk h k := by
  obtain ⟨t, e⟩ := mk_take h hk
  rw [e]; exact List.mem_append_left _ hn
theorem take_same (h : Hd) {j k : Nat} (hk : j ≤ k) {i : Nat} (hi : i ≤ (mk h j).length) : (mk h k).take i = (mk h j).take i := by
  obtain ⟨t, e⟩ := mk_take h hk
  rw [e, List.take_append_of_le_length hi]
/-- what is scanned: its fields are there; the values of scanned tables by scanned keys are there -/
theorem mk_closed (h : Hd) : ∀ k, k ≤ (mk h k).length → (∀ n ∈ (mk h k).take k, ∀ m ∈ fldsOf h n, m ∈ mk h k) ∧ ∀ t q v, t ∈ (mk h k).take k → q ∈ (mk h k).take k → (q, v) ∈ esOf h t → v ∈ mk h k
  | 0, _ => by simp
  | k + 1, hk => by
    cases e : (mk h k)[k]? with
    | none =>
      rw [mk_stop e] at hk
      have := List.getElem?_eq_none_iff.mp e
      omega
    | some n =>
      have hl : k < (mk h k).length := (List.getElem?_eq_some_iff.mp e).1
      obtain ⟨c1, c2⟩ := mk_closed h k (by omega)
      have et : (mk h (k + 1)).take (k + 1) = (mk h k).take (k + 1) := take_same h (Nat.le_succ k) hl
      rw [et, mk_step e]
      constructor
      · intro x hx m hm
        rw [take_snoc e] at hx
        rcases List.mem_append.mp hx with z | z
        · exact mem_ext.mpr (.inl (c1 x z m hm))
        · rw [List.mem_singleton.mp z] at hm
          exact mem_ext.mpr (.inr (List.mem_append_left _ hm))
      · intro t q v ht hq hv
        exact mem_ext.mpr (.inr (List.mem_append_right _ (List.mem_map.mpr ⟨(t, q, v), mem_pairs.mpr ⟨ht, hq, hv⟩, rfl⟩)))
/-- the law's scan looks at what is new alone -/
theorem mk_law (h : Hd) {k : Nat} {n : Int} (e : (mk h k)[k]? = some n) : mk h (k + 1) = ext (mk h k) (foundL h ((mk h k).take (k + 1)) n) := by
  rw [mk_step e]
  unfold found foundL
  rw [ext_app, ext_app]
  have hl : k < (mk h k).length := (List.getElem?_eq_some_iff.mp e).1
  obtain ⟨_, c2⟩ := mk_closed h k (by omega)
  refine ext_skip (fun e : Int × Int × Int => e.2.2) _ _ _ fun ⟨t, q, v⟩ he hp => ?_
  obtain ⟨h1, h2, h3⟩ := mem_pairs.mp he
  have hp : (decide (n = t) || decide (n = q)) = false := hp
  rw [Bool.or_eq_false_iff] at hp
  rw [take_snoc e] at h1 h2
  have g1 : t ∈ (mk h k).take k := (List.mem_append.mp h1).elim id fun z => absurd (List.mem_singleton.mp z).symm (of_decide_eq_false hp.1)
  have g2 : q ∈ (mk h k).take k := (List.mem_append.mp h2).elim id fun z => absurd (List.mem_singleton.mp z).symm (of_decide_eq_false hp.2)
  exact mem_ext.mpr (.inl (c2 t q v g1 g2 h3))
/-- all of it -/
def marked (h : Hd) : List Int := mk h h.nums.length
theorem mk_last {h : Hd} {k : Nat} (e : (mk h k).length ≤ k) : ∀ {j : Nat}, k ≤ j → mk h j = mk h k := by
  intro j hj
  induction hj with
  | refl => rfl
  | @step j hj ih =>
    rw [mk_stop, ih]
    rw [ih]
    exact List.getElem?_eq_none_iff.mpr (Nat.le_trans e hj)
theorem marked_at {h : Hd} (ok : h.Ok) {k : Nat} (e : (mk h k).length ≤ k) : mk h k = marked h := by
  unfold marked
  rcases Nat.le_total k h.nums.length with z | z
  · exact (mk_last e z).symm
  · exact mk_last (mk_len ok _) z
theorem marked_nd (h : Hd) : (marked h).Nodup := mk_nd h _
theorem marked_num {h : Hd} (ok : h.Ok) : ∀ n ∈ marked h, n ∈ h.nums := mk_num ok _
theorem marked_regs {h : Hd} {n : Int} (hn : some n ∈ h.regs) : n ∈ marked h := mk_sub h (Nat.zero_le _) (mem_dedup.mpr (List.mem_filterMap.mpr ⟨_, hn, rfl⟩))
theorem marked_closed {h : Hd} (ok : h.Ok) : (∀ n ∈ marked h, ∀ m ∈ fldsOf h n, m ∈ marked h) ∧ ∀ t q v, t ∈ marked h → q ∈ marked h → (q, v) ∈ esOf h t → v ∈ marked h := by
  have e : marked h = mk h (marked h).length := by
    by_cases c : ∃ k, k ≤ h.nums.length ∧ (mk h k).length ≤ k
    · -- the first such k
      have key : ∀ k, (mk h k).length ≤ k → k ≤ (mk h k).length ∨ ∃ j, j < k ∧ (mk h j).length ≤ j := fun k hk => by
        by_cases z : k ≤ (mk h k).length
        · exact .inl z
        · refine .inr ⟨k - 1, by omega, ?_⟩
          obtain ⟨t, et⟩ := mk_take h (Nat.sub_le k 1)
          have : (mk h (k - 1)).length ≤ (mk h k).length := by rw [et, List.length_append]; omega
          omega
      have first : ∀ n k, k ≤ n → (mk h k).length ≤ k → ∃ j, (mk h j).length = j := fun n => by
        induction n with
        | zero => intro k hk hl; exact ⟨k, by omega⟩
        | succ n ih =>
          intro k hk hl
          rcases key k hl with z | ⟨j, hj, z⟩
          · exact ⟨k, by omega⟩
          · exact ih j (by omega) z
      obtain ⟨k, _, hl⟩ := c
      obtain ⟨j, hj⟩ := first k k (Nat.le_refl _) hl
      have := marked_at ok (k := j) (by omega)
      rw [← this, hj]
    · exact absurd ⟨h.nums.length, Nat.le_refl _, mk_len ok _⟩ c
  have c := mk_closed h (marked h).length (by rw [← e]; exact Nat.le_refl _)
  rw [← e, List.take_length] at c
  exact c
end Wc
namespace Wc
open PySem L2
/-! ### an object is scanned -/
theorem gLit {i : Nat} {v : V} {σ σ' : L2.St} {H : Hp} {Q : L2.St → Hp → Prop} (e : σ.set i (some v) = σ') (h : Q σ' H) : gName i v σ H Q := by subst e; exact h
def isTabO : Ob → Bool
  | .tab _ _ => true
  | _ => false
def tabQ (h : Hd) (n : Int) : Bool := (obOf h n).elim false isTabO
def valsIn (h : Hd) (S : List Int) (t : Int) : List Int := ((esOf h t).filter fun e => decide (e.1 ∈ S)).map (·.2)
theorem vals_no {h : Hd} {S : List Int} {t : Int} (c : tabQ h t = false) : valsIn h S t = [] := by
  unfold tabQ at c
  unfold valsIn esOf
  cases e : obOf h t with
  | none => rfl
  | some o =>
    rw [e] at c
    cases o with
    | rcd k fs => rfl
    | weak k r => rfl
    | tab k es => cases c
theorem vals_len {h : Hd} (ok : h.Ok) (S : List Int) (t : Int) : (valsIn h S t).length ≤ 1000 := by
  unfold valsIn esOf
  rw [List.length_map]
  refine Nat.le_trans (List.length_filter_le _ _) ?_
  cases e : obOf h t with
  | none => exact Nat.zero_le _
  | some o =>
    have sm := (ok.obs _ (obOf_num e).1).small
    cases o with
    | rcd k fs => exact Nat.zero_le _
    | weak k r => exact Nat.zero_le _
    | tab k es => exact sm
theorem vals_filter (h : Hd) (S : List Int) : ∀ l : List Int, (l.filter (tabQ h)).flatMap (valsIn h S) = l.flatMap (valsIn h S)
  | [] => rfl
  | t :: l => by
    cases c : tabQ h t with
    | true => rw [List.filter_cons_of_pos c, List.flatMap_cons, List.flatMap_cons, vals_filter h S l]
    | false => rw [List.filter_cons_of_neg (by simp [c]), List.flatMap_cons, vals_no c, vals_filter h S l]; rfl
theorem found_vals (h : Hd) (S : List Int) (n : Int) : fldsOf h n ++ (S.filter (tabQ h)).flatMap (valsIn h S) = found h S n := by
  unfold found pairsIn
  rw [vals_filter, List.map_flatMap]
  congr 1
  have e : valsIn h S = fun t => (((esOf h t).filter fun e => decide (e.1 ∈ S)).map fun e => (t, e.1, e.2)).map fun e : Int × Int × Int => e.2.2 := by
    funext t
    unfold valsIn
    rw [List.map_map]; rfl
  rw [e]
theorem walk_dB {o : Obj} {d : Addr} {S : List Int} : Walk (Itk d o (dB S)) S.length (fun H => H d = some (.frz o (.dK (dB S)))) (YAt (S.map V.int)) := by
  have w := walk_keys (d := d) (o := o) (kvs := dB S)
  rw [dB_len] at w
  refine ⟨w.goes, w.stops, fun i H x H' hi q y => ?_⟩
  obtain ⟨e, k, v, hk, rfl⟩ := w.yields i H x H' hi q y
  refine ⟨e, ?_⟩
  have hk' : (dB S)[i]? = some (k, v) := hk
  unfold dB at hk'
  rw [List.getElem?_map] at hk' ⊢
  cases c : S[i]? with
  | none => rw [c] at hk'; cases hk'
  | some n => rw [c] at hk'; cases hk'; rfl
section
variable (K : PySem.W.Frag)
def ThAt (H : Hp) (th : Addr) (os : List Addr) (h : Hd) : Prop := Paired (ObAt K H) os h.obs ∧ H th = some (.dK (dictOf os h.obs))
def R_found_by_scanning : V3 := fun x y z H Q => ∃ (th : Addr) (os : List Addr) (h : Hd) (n : Int) (sc : Addr) (S : List Int), x = .ref th ∧ y = .int n ∧ z = .ref sc ∧ ThAt K H th os h ∧ h.Ok ∧ n ∈ h.nums ∧ H sc = some (.dK (dB S)) ∧ th ≠ sc ∧ (∀ m ∈ S, m ∈ h.nums) ∧ S.length ≤ 50 ∧ NewL (found h S n) H Q
abbrev sp_found_by_scanning : Sp := sp3 (R_found_by_scanning K)
def R_marking : V1 := fun x H Q => ∃ (a : Addr) (h : Hd), x = .ref a ∧ HeapAt K H a h ∧ h.Ok ∧ NewT (marked h) H Q
abbrev sp_marking : Sp := sp1 (R_marking K)
end
section
variable {K : PySem.W.Frag} {H : Hp} {th : Addr} {os : List Addr} {h : Hd}
theorem ThAt.look (t : ThAt K H th os h) (ok : h.Ok) {n : Int} (hn : n ∈ h.nums) : ∃ a o, valV (dictOf os h.obs) (Sum.inl n) = some (.ref a) ∧ DGet H th (.int n) (some (.ref a)) ∧ obOf h n = some o ∧ o ∈ h.obs ∧ o.num = n ∧ ObAt K H a o := by
  obtain ⟨a, o, h1, h2, h3, h4⟩ := dictOf_get t.1 hn
  have g := DGet.k (k := Sum.inl n) t.2
  rw [h1] at g
  obtain ⟨o', e⟩ := obOf_some hn
  obtain ⟨y1, y2⟩ := obOf_num e
  have : o' = o := ob_uniq ok y1 h2 (y2.trans h3.symm)
  subst this
  exact ⟨a, o', h1, g, e, h2, h3, h4⟩
theorem ThAt.keep {H' : Hp} (e : ExA H H') (t : ThAt K H th os h) : ThAt K H' th os h := ⟨pmp t.1 fun _ _ z => ObAt.mono (Tk.all e) z, ExA.at e t.2⟩
end
section
variable {P : Program} {w : World} {K : PySem.W.Frag} {mg : Str → Option Value} {base : Heap}
theorem ok_found_by_scanning {f : Addr} {fd : FuncData} {cd : Value} (F : Df K "found_by_scanning" s_found_by_scanning f fd cd) (T : Txt mg) (C_objects_among : Cal P w K mg base 1 "objects_among" (sp_objects_among K) []) : FnOk P w K mg base CX0 2 f fd ["things", "number", "scanned"] (sp_found_by_scanning K) := by
  have nd := sc_found_by_scanning.nd
  refine F.ok sc_found_by_scanning (fun vs H Q E h => ?_) (fun A outer s H vs Q E hr h => ?_)
  · obtain ⟨_, _, _, rfl, _⟩ := h; rfl
  have hu := hu_of hr
  obtain ⟨x0, x1, x2, rfl, h⟩ := h
  refine ⟨_, (pss_cons (ps_set (i := 3) nd rfl (by first | exact Or.inl rfl | exact Or.inr rfl) (pe_dget hu (pv 0) (pv 1) (fun _ _ => rfl)))
    (pss_cons (ps_set (i := 4) nd rfl (by first | exact Or.inl rfl | exact Or.inr rfl) (pe_ifExp (pt_cmpR op_eq (pe_ix (r := rIxT K) ix_tup (pv 3) pe_int (fun _ _ => rfl)) pe_str (nomark _)) (pe_c C_objects_among hr (by first | exact Nat.le_refl _ | decide) rfl (pa_cons (pe_ix (r := rIxT K) ix_tup (pv 3) pe_int (fun _ _ => rfl)) pa_nil)) (pe_lst pa_nil)))
    (pss_cons (ps_lock (ps_for PassesOwn.never rfl (show PI _ _ _ (iList K _) from pi_list (pe_lc (own := [("other", 6)]) rfl nd (pi_keys (pv 2)) (blkOk_by (own := [("other", 6)]) (N := N_found_by_scanning) (sc := defScope s_found_by_scanning) (by decide +kernel)) (fun _ _ _ _ _ => (pg_name (i := 6) nd rfl (by first | exact Or.inl rfl | exact Or.inr rfl))) (fun _ _ _ _ _ => (pts_one (pt_cmpR op_eq (pe_ix (r := rIxT K) ix_tup (pe_dget hu (pv 0) (pv 6) (fun _ _ => rfl)) pe_int (fun _ _ => rfl)) pe_str (nomark _)))) (fun _ _ _ _ _ => (pe_dget hu (pv 0) (pv 6) (fun _ _ => rfl))))) (pg_name (i := 5) nd rfl (by first | exact Or.inl rfl | exact Or.inr rfl))
    (pss_one (ps_expr (pe_bm PySem.F.plainAttrs_list PySem.F.slot_list_extend PySem.F.type_list_extend mt_extend (pv 4) (pa_cons (pe_lc (own := [("key", 7), ("value", 8)]) rfl nd (show PI _ _ _ (iTup K _) from pi_tup (pe_ix (r := rIxT K) ix_tup (pv 5) pe_int (fun _ _ => rfl))) (blkOk_by (own := [("key", 7), ("value", 8)]) (N := N_found_by_scanning) (sc := defScope s_found_by_scanning) (by decide +kernel)) (fun _ _ _ _ _ => (show PG _ _ (gTup K 2 _) from pg_tup rfl (pgs_cons (pg_name (i := 7) nd rfl (by first | exact Or.inl rfl | exact Or.inr rfl)) (pgs_cons (pg_name (i := 8) nd rfl (by first | exact Or.inl rfl | exact Or.inr rfl)) pgs_nil)))) (fun _ _ _ _ _ => (pts_one (pt_cmp (pc_din hu (pv 7) (pv 2)) rfl))) (fun _ _ _ _ _ => (pv 8))) pa_nil))))))
    (pss_one (ps_ret (pv 4)))))), ?_⟩
  obtain ⟨th, os, h, n, sc, S, rfl, rfl, rfl, hT, ok, hn, hS, nts, hSn, zS, q⟩ := h
  obtain ⟨a, o, _, hg, hoe, hom, hon, hoa⟩ := hT.look ok hn
  refine ⟨_, rfl, _, rfl, th, _, rfl, hg, ?_⟩
  refine gN ?_; dsimp only
  have hfl : fldsOf h n = fldsOb o := by unfold fldsOf; rw [hoe]; rfl
  have sm := (ok.obs _ hom).small
  refine (show ∀ Q' : VK, (∀ l H1, H l = none → ExA H H1 → H1 l = some (.lst ((fldsOf h n).map V.int)) → Q' (.ref l) H1) → tIf _ _ _ _ H Q' from fun Q' z => ?_) _ fun l H1 fl e1 hl => ?_
  · rw [hfl] at z
    cases o with
    | rcd k fs =>
      obtain ⟨t, g1, g2⟩ := hoa
      exact ⟨_, rfl, a, _, _, _, rfl, rfl, g1, at0, rfl, _, rfl, iteT ⟨_, rfl, a, _, _, _, rfl, rfl, g1, at2, _, rfl, t, fs, rfl, g2.sq, sm, fun l H1 fl e hl => z l H1 fl e hl⟩⟩
    | weak k t =>
      have g1 : SqT K H a [.str "weak", .int k, rV t] := hoa
      exact ⟨_, rfl, a, _, _, _, rfl, rfl, g1, at0, rfl, _, rfl, iteF ⟨Nat.zero_le _, fun l fl => z l _ fl (ExM.new fl) upd_same⟩⟩
    | tab k es =>
      obtain ⟨t, ps, g1, g2, g3⟩ := hoa
      exact ⟨_, rfl, a, _, _, _, rfl, rfl, g1, at0, rfl, _, rfl, iteF ⟨Nat.zero_le _, fun l fl => z l _ fl (ExM.new fl) upd_same⟩⟩
  refine gLit (σ' := [some (.ref th), some (.int n), some (.ref sc), some (.ref a), some (.ref l), none, none, none, none]) rfl ?_
  have hS1 := ExA.at e1 hS
  have hT1 := hT.keep e1
  have nls : l ≠ sc := fun e => by rw [e, hS] at fl; cases fl
  have nlt : l ≠ th := fun e => by rw [e, hT.2] at fl; cases fl
  refine ⟨sc, _, hS1, trivial, fun od => ?_⟩
  have hS2 : (upd H1 sc (.frz od (.dK (dB S)))) sc = some (.frz od (.dK (dB S))) := upd_same
  have t12 : Tk K H1 (upd H1 sc (.frz od (.dK (dB S)))) := Tk.dic hS1
  have hT2 : ThAt K (upd H1 sc (.frz od (.dK (dB S)))) th os h := ⟨pmp hT1.1 fun _ _ z => ObAt.mono t12 z, by rw [upd_ne nts]; exact hT1.2⟩
  have hl2 : (upd H1 sc (.frz od (.dK (dB S)))) l = some (.lst ((fldsOf h n).map V.int)) := by rw [upd_ne nls]; exact hl
  have back : ∀ H3, ExM [l] (upd H1 sc (.frz od (.dK (dB S)))) H3 → ExA H (upd H3 sc (.dK (dB S))) := fun H3 x b u _ hb => by
    by_cases c : b = sc
    · subst c
      rw [hS] at hb; cases hb
      exact upd_same
    · rw [upd_ne c]
      have nbl : b ≠ l := fun e => by rw [e, fl] at hb; cases hb
      exact x b u (by simpa using nbl) (by rw [upd_ne c]; exact ExA.at e1 hb)
  generalize upd H1 sc (.frz od (.dK (dB S))) = H2 at hS2 hT2 hl2 back ⊢
  -- the tables among them
  refine ⟨_, rfl, sc, od, rfl, .inl ⟨_, hS2, fun D hD => ?_⟩⟩
  refine lcF K V.int S (tabQ h) (fun m => [some (.ref th), some (.int n), some (.ref sc), some (.ref a), some (.ref l), none, some (.int m), none, none]) walk_dB rfl rfl (by omega) (fun m => (valV (dictOf os h.obs) (Sum.inl m)).getD .non) hD (fun H' e => ExA.at e hS2) (fun m H5 _ _ R z => z) (fun _ => rfl) (fun m H5 hm e R z => ?_) (fun m H5 hm _ e R z => ?_) (fun H5 e5 hd => ?_)
  · obtain ⟨a', o', v1, g, ob1, ob2, ob3, ob4⟩ := (hT2.keep e).look ok (hSn m hm)
    have hq : tabQ h m = isTabO o' := by unfold tabQ; rw [ob1]; rfl
    rw [hq] at z
    refine ⟨_, rfl, _, rfl, th, _, rfl, g, a', ?_⟩
    cases o' with
    | rcd k fs =>
      obtain ⟨t, g1, g2⟩ := ob4
      exact ⟨_, _, _, rfl, rfl, g1, at0, rfl, _, rfl, z _ (ExM.refl _ _)⟩
    | weak k t =>
      have g1 : SqT K H5 a' [.str "weak", .int k, rV t] := ob4
      exact ⟨_, _, _, rfl, rfl, g1, at0, rfl, _, rfl, z _ (ExM.refl _ _)⟩
    | tab k es =>
      obtain ⟨t, ps, g1, g2, g3⟩ := ob4
      exact ⟨_, _, _, rfl, rfl, g1, at0, rfl, _, rfl, z _ (ExM.refl _ _)⟩
  · obtain ⟨a', o', v1, g, ob1, ob2, ob3, ob4⟩ := (hT2.keep e).look ok (hSn m hm)
    rw [v1] at z
    exact ⟨_, rfl, _, rfl, th, _, rfl, g, z _ (ExM.refl _ _)⟩
  have nDl : D ≠ l := fun e => by rw [e, hl2] at hD; cases hD
  have hl5 := ExA.at e5 hl2
  refine ⟨D, rfl, ⟨_, SqL.of hd⟩, ?_⟩
  refine for_it (walk_list (xs := (S.filter (tabQ h)).map fun m => (valV (dictOf os h.obs) (Sum.inl m)).getD .non)) (fun i σ6 H6 => ∃ u5, σ6 = [some (.ref th), some (.int n), some (.ref sc), some (.ref a), some (.ref l), u5, none, none, none] ∧ ExM [l] H5 H6 ∧
      H6 l = some (.lst ((fldsOf h n ++ ((S.filter (tabQ h)).take i).flatMap (valsIn h S)).map V.int)))
    ⟨none, rfl, ExM.refl _ _, by rw [List.take_zero, List.flatMap_nil, List.append_nil]; exact hl5⟩ (fun i σ6 H6 _ p => ?_) (fun i x σ6 H6 H7 hi p y => ?_) (fun σ6 H6 p => ?_)
  · obtain ⟨_, _, x, _⟩ := p
    exact SqL.of (x _ _ (by simpa using nDl) hd)
  · obtain ⟨rfl, hx⟩ := y
    obtain ⟨u5, rfl, x6, hl6⟩ := p
    rw [List.length_map] at hi
    obtain ⟨m, hm⟩ : ∃ m, (S.filter (tabQ h))[i]? = some m := ⟨_, List.getElem?_eq_getElem hi⟩
    rw [List.getElem?_map, hm] at hx
    have hx : (valV (dictOf os h.obs) (Sum.inl m)).getD V.non = x := Option.some.inj hx
    obtain ⟨mS, mt⟩ := List.mem_filter.mp (List.mem_of_getElem? hm)
    have t6 : Tk K H2 H7 := Tk.trans (Tk.all e5) (Tk.exm x6 hl5)
    obtain ⟨a', o', v1, g, ob1, ob2, ob3, ob4⟩ := hT2.look ok (hSn m mS)
    have ob4 := ObAt.mono t6 ob4
    have hx : V.ref a' = x := by rw [v1] at hx; exact hx
    subst hx
    have hS7 : H7 sc = some (.frz od (.dK (dB S))) := x6 _ _ (by simpa using nls.symm) (ExA.at e5 hS2)
    cases o' with
    | rcd k fs => unfold tabQ at mt; rw [ob1] at mt; cases mt
    | weak k t => unfold tabQ at mt; rw [ob1] at mt; cases mt
    | tab k es =>
      obtain ⟨t, ps, g1, g2, g3⟩ := ob4
      have hes : esOf h m = es := by unfold esOf; rw [ob1]; rfl
      have sm' : es.length ≤ 1000 := (ok.obs _ ob2).small
      have zl := plen g3
      refine ⟨_, rfl, .inl ⟨rfl, _, SqL.of hl6⟩, _, rfl, a', _, _, _, rfl, rfl, g1, at2, t, rfl, ⟨_, g2.sq⟩, fun D2 hD2 => ?_⟩
      refine lcF K (fun q : Addr × (Int × Int) => V.ref q.1) (ps.zip es) (fun q => decide (q.2.1 ∈ S)) (fun q => [some (.ref th), some (.int n), some (.ref sc), some (.ref a), some (.ref l), some (.ref a'), none, some (.int q.2.1), some (.int q.2.2)]) walk_tup (zip_refs g3) (by rw [List.length_map, zip_len g3]) (by rw [zip_len g3]; omega) (fun q : Addr × (Int × Int) => V.int q.2.2) hD2 (fun H' e => Tk.all e _ _ g2.sq)
        (fun q H8 hq e R z => ⟨q.1, _, rfl, Tk.all e _ _ (zip_all g3 q hq), rfl, _, _, rfl, _, _, rfl, rfl, z⟩) (fun _ => rfl)
        (fun q H8 hq e R z => ⟨_, rfl, _, rfl, sc, _, rfl, .inl ⟨dB S, Sum.inl q.2.1, .inr ⟨od, ExA.at e hS7⟩, rfl, rfl⟩, _, rfl, by rw [key_has (dB_keys S)]; exact z _ (ExM.refl _ _)⟩) (fun q H8 hq _ e R z => ⟨_, rfl, z _ (ExM.refl _ _)⟩) (fun H8 e8 hd2 => ?_)
      have hl8 := ExA.at e8 hl6
      have evals : ((ps.zip es).filter fun q => decide (q.2.1 ∈ S)).map (fun q : Addr × (Int × Int) => V.int q.2.2) = (valsIn h S m).map V.int := by
        unfold valsIn
        rw [hes, List.map_map, ← zip_filter_map g3 (fun e => decide (e.1 ∈ S)) (V.int ∘ fun e => e.2)]
        rfl
      rw [evals] at hd2
      have zf : (fldsOf h n ++ ((S.filter (tabQ h)).take i).flatMap (valsIn h S)).length ≤ 60000 := by
        have z1 : (fldsOf h n).length ≤ 1000 := by
          rw [hfl]
          cases o with
          | rcd k fs => exact Nat.le_trans (List.length_filterMap_le _ _) sm
          | weak k t => exact Nat.zero_le _
          | tab k es => exact Nat.zero_le _
        have z2 : ∀ l : List Int, (l.flatMap (valsIn h S)).length ≤ 1000 * l.length := fun l => by
          induction l with
          | nil => exact Nat.zero_le _
          | cons t l ih =>
            rw [List.flatMap_cons, List.length_append, List.length_cons]
            have := vals_len ok S t
            omega
        have z3 := z2 ((S.filter (tabQ h)).take i)
        have z4 : ((S.filter (tabQ h)).take i).length ≤ 50 := by
          rw [List.length_take]
          have := List.length_filter_le (tabQ h) S
          omega
        rw [List.length_append]
        omega
      have zv : (valsIn h S m).length ≤ 1000 := by
        unfold valsIn; rw [hes, List.length_map]; exact Nat.le_trans (List.length_filter_le _ _) sm'
      refine ⟨l, D2, _, _, rfl, rfl, hl8, hd2, sz (by rw [List.length_map, List.length_map]; omega), ?_⟩
      refine ⟨_, rfl, (x6.trans (ExM.of e8)).mem (by simp), ?_⟩
      rw [upd_same, take_snoc hm, List.flatMap_append, List.flatMap_cons, List.flatMap_nil, List.append_nil, ← List.append_assoc]
      simp only [List.map_append]
  · obtain ⟨u5, rfl, x6, hl6⟩ := p
    rw [List.length_map, List.take_length, found_vals] at hl6
    have x26 : ExM [l] H2 H6 := (ExM.of e5).trans x6
    refine ⟨x26 _ _ (by simpa using nls.symm) hS2, _, rfl, ?_⟩
    exact q l _ fl (back _ x26) (by rw [upd_ne nls]; exact hl6)
theorem ok_marking {f : Addr} {fd : FuncData} {cd : Value} (F : Df K "marking" s_marking f fd cd) (T : Txt mg) (C_registers_of : Cal P w K mg base 1 "registers_of" (sp_registers_of K) []) (C_by_number : Cal P w K mg base 2 "by_number" (sp_by_number K) []) (C_objects_among : Cal P w K mg base 1 "objects_among" (sp_objects_among K) []) (C_found_by_scanning : Cal P w K mg base 2 "found_by_scanning" (sp_found_by_scanning K) []) : FnOk P w K mg base CX0 3 f fd ["heap"] (sp_marking K) := by
  have nd := sc_marking.nd
  refine F.ok sc_marking (fun vs H Q E h => ?_) (fun A outer s H vs Q E hr h => ?_)
  · obtain ⟨_, rfl, _⟩ := h; rfl
  have hu := hu_of hr
  obtain ⟨x0, rfl, h⟩ := h
  refine ⟨_, (pss_cons (ps_set (i := 1) nd rfl (by first | exact Or.inl rfl | exact Or.inr rfl) (pe_c C_by_number hr (by first | exact Nat.le_refl _ | decide) rfl (pa_cons (pv 0) pa_nil)))
    (pss_cons (ps_set (i := 2) nd rfl (by first | exact Or.inl rfl | exact Or.inr rfl) (pe_callTy (call_listD rfl) rfl T.list (by decide +kernel) (pa_cons (pe_dc (own := [("number", 3)]) rfl nd (show PI _ _ _ (iList K _) from pi_list (pe_c C_objects_among hr (by first | exact Nat.le_refl _ | decide) rfl (pa_cons (pe_c C_registers_of hr (by first | exact Nat.le_refl _ | decide) rfl (pa_cons (pv 0) pa_nil)) pa_nil))) (blkOk_by (own := [("number", 3)]) (N := N_marking) (sc := defScope s_marking) (by decide +kernel)) (fun _ _ _ _ _ => (pg_name (i := 3) nd rfl (by first | exact Or.inl rfl | exact Or.inr rfl))) (fun _ _ _ _ _ => pts_nil) (fun _ _ _ _ _ => (pv 3)) (fun _ _ _ _ _ => pe_bl)) pa_nil)))
    (pss_cons (ps_set (i := 4) nd rfl (by first | exact Or.inl rfl | exact Or.inr rfl) pe_dnewK)
    (pss_cons (ps_while PassesOwn.never (pt_cmpR op_lt (pe_callB call_lenD rfl T.len PySem.boot_len (pa_cons (pv 4) pa_nil)) (pe_callB (r := Evl.rLenS K) call_len_seq rfl T.len PySem.boot_len (pa_cons (pv 2) pa_nil)) (nomark _)) (pss_cons (ps_set (i := 3) nd rfl (by first | exact Or.inl rfl | exact Or.inr rfl) (pe_ix (r := rIxL K) ix_list (pv 2) (pe_callB call_lenD rfl T.len PySem.boot_len (pa_cons (pv 4) pa_nil)) (fun _ _ => rfl)))
    (pss_cons (ps_dput hu (pv 4) (pv 3) pe_bl rfl)
    (pss_one (ps_for PassesOwn.never rfl (show PI _ _ _ (iList K _) from pi_list (pe_c C_found_by_scanning hr (by first | exact Nat.le_refl _ | decide) rfl (pa_cons (pv 1) (pa_cons (pv 3) (pa_cons (pv 4) pa_nil))))) (pg_name (i := 5) nd rfl (by first | exact Or.inl rfl | exact Or.inr rfl))
    (pss_one (ps_if (pt_cmpR (r := rIn K true) op_notIn_seq (pv 5) (pv 2) (by first | exact nomark _ | rfl)) (pss_one (ps_expr (pe_bm PySem.F.plainAttrs_list PySem.F.slot_list_append PySem.F.type_list_append mt_append (pv 2) (pa_cons (pv 5) pa_nil)))) pss_nil)))))))
    (pss_one (ps_ret (pe_callTy (r := rTupS K) call_tuple_of rfl T.tuple (by decide +kernel) (pa_cons (pv 2) pa_nil)))))))), ?_⟩
  obtain ⟨a, h, rfl, hA, ok, q⟩ := h
  refine ⟨_, rfl, _, rfl, a, h, rfl, hA, ok, fun th H1 os f1 e1 hos hth => ?_⟩
  have hT1 : ThAt K H1 th os h := ⟨hos, hth⟩
  -- order
  refine ⟨_, rfl, _, rfl, a, h, rfl, HeapAt.mono (Tk.all e1) hA, fun r hr => ?_⟩
  refine ⟨_, rfl, r, h.regs, rfl, hr.sq, ok.nreg, fun l H2 fl e2 hl => ?_⟩
  refine ⟨l, rfl, ⟨_, SqL.of hl⟩, fun g fg => ?_⟩
  have zr : (h.regs.filterMap id).length ≤ 1000 := Nat.le_trans (List.length_filterMap_le _ _) ok.nreg
  refine dcB (walk_list (xs := (h.regs.filterMap id).map V.int)) (h.regs.filterMap id) rfl (List.length_map _) (by omega) _ fg (fun H' e => SqL.of (ExA.at e hl)) (fun _ _ R z => z) (fun _ => rfl) (fun _ _ R z => z) (fun _ _ R z => ⟨_, rfl, z⟩) (fun _ _ R z => z) (fun H3 e3 hg => ?_)
  refine ⟨g, _, rfl, .inl hg, fun od fod => ?_⟩
  have emk0 : (dB (dedup (h.regs.filterMap id))).map (fun kv => kV kv.1) = (mk h 0).map V.int := by
    unfold dB; rw [List.map_map]; rfl
  rw [emk0]
  have e13 := e2.trans e3
  have e14 : ExA H1 (upd H3 od (.lst ((mk h 0).map V.int))) := e13.put (ExA.free e13 fod)
  have hod4 : (upd H3 od (.lst ((mk h 0).map V.int))) od = some (.lst ((mk h 0).map V.int)) := upd_same
  have fod1 : H1 od = none := ExA.free e13 fod
  have nto : th ≠ od := ne_of_none hth fod1
  generalize upd H3 od (.lst ((mk h 0).map V.int)) = H4 at e14 hod4 ⊢
  intro gt fgt
  have fgt1 : H1 gt = none := ExA.free e14 fgt
  have ntg : th ≠ gt := ne_of_none hth fgt1
  have nog : od ≠ gt := ne_of_none hod4 fgt
  have e15 : ExA H1 (upd H4 gt (.dK [])) := e14.put fgt1
  have hod5 : (upd H4 gt (.dK [])) od = some (.lst ((mk h 0).map V.int)) := by rw [upd_ne nog]; exact hod4
  have hgt5 : (upd H4 gt (.dK [])) gt = some (.dK (dB ((mk h 0).take 0))) := upd_same
  generalize upd H4 gt (.dK []) = H5 at e15 hod5 hgt5 ⊢
  have zmk : ∀ k, (mk h k).length ≤ 50 := fun k => by
    have z1 := mk_len ok k
    have z3 : h.nums.length ≤ 50 := by unfold Hd.nums; rw [List.length_map]; exact ok.size
    omega
  refine ⟨fun m σ' H' => ∃ (k : Nat) (u3 u5 : Option V), m + k = h.nums.length ∧ σ' = [some (.ref a), some (.ref th), some (.ref od), u3, some (.ref gt), u5] ∧ ExA H1 H' ∧ k ≤ (mk h k).length ∧
    H' od = some (.lst ((mk h k).map V.int)) ∧ H' gt = some (.dK (dB ((mk h k).take k))), ⟨h.nums.length, 0, none, none, rfl, rfl, e15, Nat.zero_le _, hod5, hgt5⟩, ?_⟩
  rintro m σ' H' ⟨k, u3, u5, hm, rfl, x, hkl, hod, hgt⟩
  have hT := hT1.keep x
  have ltk : (dB ((mk h k).take k)).length = k := by rw [dB_len, List.length_take]; omega
  refine ⟨_, rfl, gt, _, rfl, hgt, _, rfl, od, _, rfl, .inl (SqL.of hod), _, _, rfl, rfl, _, rfl, ?_⟩
  rw [ltk, List.length_map]
  by_cases c : k < (mk h k).length
  · rw [decide_eq_true (show ((k : Nat) : Int) < (((mk h k).length : Nat) : Int) by omega)]
    refine iteT ?_
    obtain ⟨n, hn⟩ : ∃ n, (mk h k)[k]? = some n := ⟨_, List.getElem?_eq_getElem c⟩
    have hnn : n ∈ h.nums := mk_num ok k n (List.mem_of_getElem? hn)
    have z1 := mk_len ok k
    refine ⟨fun σ2 H2 => ∃ v3 v5, σ2 = [some (.ref a), some (.ref th), some (.ref od), v3, some (.ref gt), v5] ∧ ExA H1 H2 ∧ H2 od = some (.lst ((mk h (k + 1)).map V.int)) ∧ H2 gt = some (.dK (dB ((mk h (k + 1)).take (k + 1)))), ?_, ?_⟩
    · rintro σ2 H2 ⟨v3, v5, rfl, x2, hod2, hgt2⟩
      have z2 : k + 1 ≤ (mk h (k + 1)).length := by
        obtain ⟨t, et⟩ := mk_pre h k
        rw [et, List.length_append]; omega
      have z3 := mk_len ok (k + 1)
      exact ⟨m - 1, by omega, k + 1, v3, v5, by omega, rfl, x2, z2, hod2, hgt2⟩
    have hns : n ∉ (mk h k).take k := fun z => by
      obtain ⟨j, hj⟩ := List.getElem?_of_mem z
      have hlt : j < k := by
        have := (List.getElem?_eq_some_iff.mp hj).1
        rw [List.length_take] at this; omega
      rw [List.getElem?_take_of_lt hlt] at hj
      exact absurd (nd_ix (mk_nd h k) hj hn) (Nat.ne_of_lt hlt)
    have eput : putK (dB ((mk h k).take k)) (Sum.inl n) (.bl true) = dB ((mk h k).take (k + 1)) := by
      rw [dB_put, take_snoc hn]
      unfold addK; rw [if_neg hns]
    have zk := zmk k
    refine ⟨_, rfl, _, rfl, gt, _, rfl, hgt, od, _, _, V.int n, rfl, rfl, SqL.of hod, by rw [ltk]; exact atI_nat (by rw [List.getElem?_map, hn]; rfl), ?_⟩
    refine ⟨_, rfl, _, rfl, gt, _, rfl, DPut.k (k := Sum.inl n) hgt (by rw [ltk]; exact szl (by omega)), ?_⟩
    rw [eput]
    have x2 : ExA H1 (upd H' gt (.dK (dB ((mk h k).take (k + 1))))) := x.put fgt1
    have hod2 : (upd H' gt (.dK (dB ((mk h k).take (k + 1))))) od = some (.lst ((mk h k).map V.int)) := by rw [upd_ne nog]; exact hod
    have hgt2 : (upd H' gt (.dK (dB ((mk h k).take (k + 1))))) gt = some (.dK (dB ((mk h k).take (k + 1)))) := upd_same
    generalize upd H' gt (.dK (dB ((mk h k).take (k + 1)))) = H6 at x2 hod2 hgt2 ⊢
    have hT6 := hT1.keep x2
    refine ⟨_, rfl, _, rfl, _, rfl, _, _, _, rfl, th, os, h, n, gt, (mk h k).take (k + 1), rfl, rfl, rfl, hT6, ok, hnn, hgt2, ntg, fun m hm => mk_num ok k m (List.mem_of_mem_take hm), by rw [List.length_take]; omega, fun l2 H7 fl2 e7 hl2 => ?_⟩
    have hod7 := ExA.at e7 hod2
    have hgt7 := ExA.at e7 hgt2
    have x7 := x2.trans e7
    have nl2 : l2 ≠ od := fun e => by rw [e, hod2] at fl2; cases fl2
    refine ⟨l2, rfl, ⟨_, SqL.of hl2⟩, ?_⟩
    refine for_it (walk_list (xs := (found h ((mk h k).take (k + 1)) n).map V.int)) (fun i σ8 H8 => ∃ u5, σ8 = [some (.ref a), some (.ref th), some (.ref od), some (.int n), some (.ref gt), u5] ∧ ExM [od] H7 H8 ∧
        H8 od = some (.lst ((ext (mk h k) ((found h ((mk h k).take (k + 1)) n).take i)).map V.int)))
      ⟨u5, rfl, ExM.refl _ _, hod7⟩ (fun i σ8 H8 _ p => ?_) (fun i v σ8 H8 H9 hi p y => ?_) (fun σ8 H8 p => ?_)
    · obtain ⟨_, _, z, _⟩ := p
      exact SqL.of (z _ _ (by simpa using nl2) hl2)
    · obtain ⟨rfl, hx⟩ := y
      obtain ⟨u5, rfl, x8, hod8⟩ := p
      rw [List.length_map] at hi
      obtain ⟨m, hm⟩ : ∃ m, (found h ((mk h k).take (k + 1)) n)[i]? = some m := ⟨_, List.getElem?_eq_getElem hi⟩
      rw [List.getElem?_map, hm] at hx
      obtain rfl : V.int m = v := Option.some.inj hx
      have zx : (ext (mk h k) ((found h ((mk h k).take (k + 1)) n).take i)).length ≤ 50 := by
        have z1 := nd_sub (ext_nd (xs := (found h ((mk h k).take (k + 1)) n).take i) (mk_nd h k)) (m := h.nums) fun q hq => by
          rcases mem_ext.mp hq with y | y
          · exact mk_num ok k q y
          · exact found_num ok (List.mem_of_mem_take y)
        have z3 : h.nums.length ≤ 50 := by unfold Hd.nums; rw [List.length_map]; exact ok.size
        omega
      refine ⟨_, rfl, _, rfl, od, _, rfl, .inl (SqL.of hod8), rfl, flat_ints _, _, rfl, ?_⟩
      show if (!inV (V.int m) (List.map V.int _)) = true then _ else _
      rw [inV_int, take_snoc hm, ext_snoc]
      by_cases cm : m ∈ ext (mk h k) ((found h ((mk h k).take (k + 1)) n).take i)
      · rw [decide_eq_true cm, addK_in cm]
        exact iteF ⟨_, rfl, x8, hod8⟩
      · rw [decide_eq_false cm]
        refine iteT ⟨_, rfl, .inl ⟨rfl, _, SqL.of hod8⟩, _, rfl, od, _, _, rfl, rfl, hod8, szl (by rw [List.length_map]; omega), ?_⟩
        refine ⟨_, rfl, x8.mem (by simp), ?_⟩
        rw [upd_same]
        unfold addK
        rw [if_neg cm, List.map_append]; rfl
    · obtain ⟨u5, rfl, x8, hod8⟩ := p
      rw [List.length_map, List.take_length, ← mk_step hn] at hod8
      refine ⟨_, _, rfl, fun b o nb hb => ?_, hod8, ?_⟩
      · have nbo : b ≠ od := fun e => by rw [e, fod1] at hb; cases hb
        exact x8 b o (by simpa using nbo) (ExA.at x7 hb)
      · rw [take_same h (Nat.le_succ k) c]
        exact x8 _ _ (by simpa using nog.symm) hgt7
  · rw [decide_eq_false (show ¬ ((k : Nat) : Int) < (((mk h k).length : Nat) : Int) by omega)]
    have em := marked_at ok (k := k) (by omega)
    rw [em] at hod
    refine iteF ⟨_, rfl, od, _, rfl, .inl ⟨SqL.of hod, fun t ft => ?_⟩⟩
    have ex := e1.trans x
    exact q t _ (ExA.free ex ft) (ex.put (ExA.free ex ft)) upd_same
end
end Wc
/-! A heap renumbered by an order. -/
namespace Wc
open PySem L2
def ixI (ord : List Int) (n : Int) : Int := ((ord.idxOf n : Nat) : Int)
def plR (ord : List Int) : Rf → Rf
  | none => none
  | some m => if m ∈ ord then some (ixI ord m) else none
def cnOb (ord : List Int) : Ob → Ob
  | .rcd n fs => .rcd (ixI ord n) (fs.map (plR ord))
  | .weak n t => .weak (ixI ord n) (plR ord t)
  | .tab n es => .tab (ixI ord n) ((es.filter fun e => decide (e.1 ∈ ord)).map fun e => (ixI ord e.1, ixI ord e.2))
def cnKept (ord kept : List Int) : List Int := ((List.range ord.length).filter fun i => (ord[i]?).elim false fun n => decide (n ∈ kept)).map fun i => ((i : Nat) : Int)
def cnHd (h : Hd) (ord : List Int) : Hd :=
  ⟨(ord.length : Int), h.regs.map (plR ord), cnKept ord h.kept, ord.filterMap fun n => (obOf h n).map (cnOb ord), (h.wat.filter fun e => decide (e.1 ∈ ord)).map fun e => (ixI ord e.1, e.2)⟩
/-- the places, as a dict -/
def plD (ord : List Int) : List (Key × V) := ord.zipIdx.map fun q => ((Sum.inl q.1 : Key), V.int ((q.2 : Nat) : Int))
theorem plD_snoc (l : List Int) (n : Int) : plD (l ++ [n]) = plD l ++ [((Sum.inl n : Key), V.int ((l.length : Nat) : Int))] := by
  unfold plD
  rw [List.zipIdx_append, List.map_append]
  simp
theorem plD_len (l : List Int) : (plD l).length = l.length := by unfold plD; rw [List.length_map, List.length_zipIdx]
theorem plD_keys (l : List Int) : (plD l).map (·.1) = l.map Sum.inl := by
  unfold plD
  rw [List.map_map]
  have e : ((fun q : Key × V => q.1) ∘ fun q : Int × Nat => ((Sum.inl q.1 : Key), V.int ((q.2 : Nat) : Int))) = (fun n : Int => (Sum.inl n : Key)) ∘ Prod.fst := rfl
  rw [e, ← List.map_map, List.zipIdx_map_fst]
theorem plD_from : ∀ (l : List Int) (k : Nat) (n : Int), valV ((l.zipIdx k).map fun q => ((Sum.inl q.1 : Key), V.int ((q.2 : Nat) : Int))) (Sum.inl n) = if n ∈ l then some (V.int ((k + l.idxOf n : Nat) : Int)) else none
  | [], k, n => rfl
  | x :: r, k, n => by
    rw [List.zipIdx_cons, List.map_cons]
    by_cases e : x = n
    · subst e
      rw [valV_pos rfl, if_pos List.mem_cons_self, List.idxOf_cons_self]; rfl
    · rw [valV_neg (fun z => e (Sum.inl.inj z)), plD_from r (k + 1) n]
      by_cases c : n ∈ r
      · rw [if_pos c, if_pos (List.mem_cons_of_mem _ c), List.idxOf_cons, show (x == n) = false by simpa using e]
        show some (V.int ((k + 1 + List.idxOf n r : Nat) : Int)) = some (V.int ((k + (List.idxOf n r + 1) : Nat) : Int))
        rw [show k + 1 + List.idxOf n r = k + (List.idxOf n r + 1) by omega]
      · rw [if_neg c, if_neg fun z => (List.mem_cons.mp z).elim (fun y => e y.symm) c]
theorem plD_get (ord : List Int) (n : Int) : valV (plD ord) (Sum.inl n) = if n ∈ ord then some (V.int (ixI ord n)) else none := by
  have := plD_from ord 0 n
  rw [Nat.zero_add] at this
  exact this
section
variable {H : Hp} {pl : Addr} {ord : List Int}
theorem dgI (hp : H pl = some (.dK (plD ord))) {n : Int} (hn : n ∈ ord) : DGet H pl (.int n) (some (.int (ixI ord n))) := by
  have g := DGet.k (k := Sum.inl n) hp
  rw [plD_get, if_pos hn] at g
  exact g
theorem dgR (hp : H pl = some (.dK (plD ord))) {r : Rf} {Q : VK} (z : Q (rV (plR ord r)) H) : (∃ o, DGet H pl (rV r) o ∧ Q (o.getD .non) H) ∨ ∃ kvs, rV r = .non ∧ H pl = some (.dK kvs) ∧ Q .non H := by
  cases r with
  | none => exact .inr ⟨_, rfl, hp, z⟩
  | some m =>
    refine .inl ⟨_, DGet.k (k := Sum.inl m) hp, ?_⟩
    have z : Q (rV (if m ∈ ord then some (ixI ord m) else none)) H := z
    rw [plD_get]
    by_cases c : m ∈ ord
    · rw [if_pos c] at z ⊢; exact z
    · rw [if_neg c] at z ⊢; exact z
theorem dgB (hp : H pl = some (.dK (plD ord))) (n : Int) {R : V → Prop} (z : R (.bl (decide (n ∈ ord)))) : ∃ a o, V.ref pl = .ref a ∧ DGet H a (.int n) o ∧ R (.bl o.isSome) := by
  refine ⟨pl, _, rfl, DGet.k (k := Sum.inl n) hp, ?_⟩
  rw [key_has (plD_keys ord)]
  exact z
end
/-- the object of a number that has one -/
def obD (h : Hd) (n : Int) : Ob := (obOf h n).getD (.rcd 0 [])
theorem obD_of {h : Hd} {n : Int} {o : Ob} (e : obOf h n = some o) : obD h n = o := by unfold obD; rw [e]; rfl
theorem cn_obs {h : Hd} (ord xs : List Int) (hs : ∀ n ∈ xs, n ∈ h.nums) : (xs.filterMap fun n => (obOf h n).map (cnOb ord)) = xs.map fun n => cnOb ord (obD h n) := by
  induction xs with
  | nil => rfl
  | cons n r ih =>
    obtain ⟨o, e⟩ := obOf_some (hs n List.mem_cons_self)
    rw [List.filterMap_cons, e, List.map_cons, ih fun m hm => hs m (List.mem_cons_of_mem _ hm), obD_of e]; rfl
theorem ix_at {ord : List Int} {n : Int} (hn : n ∈ ord) : ord[ord.idxOf n]? = some n := by
  have hl : ord.idxOf n < ord.length := List.idxOf_lt_length_of_mem hn
  rw [List.getElem?_eq_getElem hl, List.getElem_idxOf]
theorem ix_of {ord : List Int} (nd : ord.Nodup) {n : Int} {i : Nat} (e : ord[i]? = some n) : ord.idxOf n = i := nd_ix nd (ix_at (List.mem_of_getElem? e)) e
theorem ix_inj {ord : List Int} {n m : Int} (hn : n ∈ ord) (hm : m ∈ ord) (e : ixI ord n = ixI ord m) : n = m := by
  have e : ord.idxOf n = ord.idxOf m := Int.ofNat.inj e
  have h1 := ix_at hn
  rw [e, ix_at hm] at h1
  exact (Option.some.inj h1).symm
theorem mem_cnKept {ord kept : List Int} (nd : ord.Nodup) {v : Int} : v ∈ cnKept ord kept ↔ ∃ n, n ∈ kept ∧ n ∈ ord ∧ ixI ord n = v := by
  unfold cnKept
  rw [List.mem_map]
  constructor
  · rintro ⟨i, hi, rfl⟩
    obtain ⟨h1, h2⟩ := List.mem_filter.mp hi
    cases e : ord[i]? with
    | none => rw [e] at h2; cases h2
    | some n =>
      rw [e] at h2
      exact ⟨n, of_decide_eq_true h2, List.mem_of_getElem? e, by unfold ixI; rw [ix_of nd e]⟩
  · rintro ⟨n, h1, h2, rfl⟩
    refine ⟨ord.idxOf n, List.mem_filter.mpr ⟨List.mem_range.mpr (List.idxOf_lt_length_of_mem h2), ?_⟩, rfl⟩
    rw [ix_at h2]
    exact decide_eq_true h1
theorem cnKept_up (ord kept : List Int) : (cnKept ord kept).Pairwise (· < ·) := by
  unfold cnKept
  rw [List.pairwise_map]
  exact ((List.pairwise_lt_range).sublist List.filter_sublist).imp fun h => by omega
theorem cnKept_eq {ord kept ys : List Int} (nd : ord.Nodup) (ku : kept.Pairwise (· < ·)) (hp : ys.Perm ((kept.filter fun n => decide (n ∈ ord)).map (ixI ord))) (hle : ys.Pairwise (· ≤ ·)) : ys = cnKept ord kept := by
  have ndm : ∀ l : List Int, l.Nodup → (∀ n ∈ l, n ∈ ord) → (l.map (ixI ord)).Nodup := fun l => by
    induction l with
    | nil => intro _ _; simp
    | cons x r ih =>
      intro h hs
      obtain ⟨nx, nr⟩ := List.nodup_cons.mp h
      rw [List.map_cons]
      refine List.nodup_cons.mpr ⟨fun z => ?_, ih nr fun m hm => hs m (List.mem_cons_of_mem _ hm)⟩
      obtain ⟨m, hm, e⟩ := List.mem_map.mp z
      exact nx (ix_inj (hs m (List.mem_cons_of_mem _ hm)) (hs x List.mem_cons_self) e ▸ hm)
  have n1 := ndm (kept.filter fun n => decide (n ∈ ord)) ((nodup_of_up ku).sublist List.filter_sublist) fun n hn => of_decide_eq_true (List.mem_filter.mp hn).2
  refine up_same (up_of hle (hp.nodup_iff.mpr n1)) (cnKept_up _ _) fun v => ?_
  rw [hp.mem_iff, mem_cnKept nd, List.mem_map]
  constructor
  · rintro ⟨n, hn, e⟩
    obtain ⟨y1, y2⟩ := List.mem_filter.mp hn
    exact ⟨n, y1, of_decide_eq_true y2, e⟩
  · rintro ⟨n, h1, h2, e⟩
    exact ⟨n, List.mem_filter.mpr ⟨h1, decide_eq_true h2⟩, e⟩
end Wc
/-! A heap renumbered is its own renumbering: the mathematics. -/
namespace Wc
open PySem L2
def iota (m : Nat) : List Int := (List.range m).map fun i => ((i : Nat) : Int)
theorem iota_at {m i : Nat} (hi : i < m) : (iota m)[i]? = some ((i : Nat) : Int) := by
  unfold iota
  rw [List.getElem?_map, List.getElem?_range hi]; rfl
theorem iota_len (m : Nat) : (iota m).length = m := by unfold iota; rw [List.length_map, List.length_range]
theorem mem_iota {m : Nat} {v : Int} : v ∈ iota m ↔ 0 ≤ v ∧ v < (m : Int) := by
  unfold iota
  rw [List.mem_map]
  constructor
  · rintro ⟨i, hi, rfl⟩
    have := List.mem_range.mp hi
    omega
  · rintro ⟨h1, h2⟩
    exact ⟨v.toNat, List.mem_range.mpr (by omega), by omega⟩
theorem iota_up (m : Nat) : (iota m).Pairwise (· < ·) := by
  unfold iota
  rw [List.pairwise_map]
  exact List.pairwise_lt_range.imp fun h => by omega
theorem iota_nd (m : Nat) : (iota m).Nodup := nodup_of_up (iota_up m)
theorem ix_iota {m : Nat} {v : Int} (hv : v ∈ iota m) : ixI (iota m) v = v := by
  obtain ⟨h1, h2⟩ := mem_iota.mp hv
  have e := iota_at (m := m) (i := v.toNat) (by omega)
  rw [show ((v.toNat : Nat) : Int) = v by omega] at e
  unfold ixI
  rw [ix_of (iota_nd m) e]; omega
theorem map_ix {ord : List Int} (nd : ord.Nodup) : ord.map (ixI ord) = iota ord.length := by
  apply List.ext_getElem?
  intro i
  rw [List.getElem?_map]
  by_cases c : i < ord.length
  · rw [iota_at c]
    have e : ord[i]? = some ord[i] := List.getElem?_eq_getElem c
    rw [e]
    show some (ixI ord ord[i]) = _
    unfold ixI; rw [ix_of nd e]
  · rw [List.getElem?_eq_none_iff.mpr (by omega), List.getElem?_eq_none_iff.mpr (by rw [iota_len]; omega)]; rfl
theorem ix_in {ord : List Int} {n : Int} (hn : n ∈ ord) : ixI ord n ∈ iota ord.length := by
  rw [mem_iota]
  have := List.idxOf_lt_length_of_mem hn
  unfold ixI; omega
theorem cnOb_num (ord : List Int) (o : Ob) : (cnOb ord o).num = ixI ord o.num := by cases o <;> rfl
section
variable {h : Hd} (ok : h.Ok)
include ok
theorem cn_list : (cnHd h (marked h)).obs = (marked h).map fun n => cnOb (marked h) (obD h n) := cn_obs _ _ (marked_num ok)
theorem obD_num {n : Int} (hn : n ∈ marked h) : (obD h n).num = n ∧ obD h n ∈ h.obs ∧ obOf h n = some (obD h n) := by
  obtain ⟨o, e⟩ := obOf_some (marked_num ok n hn)
  rw [obD_of e]
  obtain ⟨y1, y2⟩ := obOf_num e
  exact ⟨y2, y1, e⟩
theorem cn_nums : (cnHd h (marked h)).nums = iota (marked h).length := by
  unfold Hd.nums
  rw [cn_list ok, List.map_map, ← map_ix (marked_nd h)]
  refine List.map_congr_left fun n hn => ?_
  show (cnOb _ _).num = _
  rw [cnOb_num, (obD_num ok hn).1]
theorem mlen : (marked h).length ≤ 50 := by
  have z1 := mk_len ok h.nums.length
  have z3 : h.nums.length ≤ 50 := by unfold Hd.nums; rw [List.length_map]; exact ok.size
  unfold marked; omega
theorem plR_ok (r : Rf) : Rf.ok (iota (marked h).length) (plR (marked h) r) := fun i e => by
  cases r with
  | none => cases e
  | some m =>
    have e : (if m ∈ marked h then some (ixI (marked h) m) else none) = some i := e
    by_cases c : m ∈ marked h
    · rw [if_pos c] at e
      rw [← Option.some.inj e]; exact ix_in c
    · rw [if_neg c] at e; cases e
theorem cn_es {n q v : Int} (hn : n ∈ marked h) {es : List (Int × Int)} (e : obD h n = .tab (obD h n).num es) (hq : q ∈ marked h) (hv : (q, v) ∈ es) : v ∈ marked h :=
  (marked_closed ok).2 n q v hn hq (by unfold esOf; rw [(obD_num ok hn).2.2, e]; exact hv)
theorem cnOb_ok {n : Int} (hn : n ∈ marked h) : (cnOb (marked h) (obD h n)).ok (iota (marked h).length) := by
  obtain ⟨h1, h2, h3⟩ := obD_num ok hn
  have oo := ok.obs _ h2
  have cl := (marked_closed ok).2
  cases e : obD h n with
  | rcd k fs =>
    rw [e] at oo
    exact ⟨by rw [List.length_map]; exact oo.1, fun r hr => by
      obtain ⟨x, _, rfl⟩ := List.mem_map.mp hr
      exact plR_ok ok x⟩
  | weak k t => exact plR_ok ok t
  | tab k es =>
    rw [e] at oo
    have hcl : ∀ p ∈ es, p.1 ∈ marked h → p.2 ∈ marked h := fun p hp hk => cl n p.1 p.2 hn hk (by unfold esOf; rw [h3, e]; exact hp)
    refine ⟨by rw [List.length_map]; exact Nat.le_trans (List.length_filter_le _ _) oo.1, ?_, fun p hp => ?_⟩
    · rw [List.map_map]
      have key : ∀ l : List (Int × Int), (l.map (·.1)).Nodup → (((l.filter fun e => decide (e.1 ∈ marked h)).map ((fun q : Int × Int => q.1) ∘ fun e => (ixI (marked h) e.1, ixI (marked h) e.2)))).Nodup := fun l => by
        induction l with
        | nil => intro _; simp
        | cons p l ih =>
          intro nd
          obtain ⟨np, nl⟩ := List.nodup_cons.mp nd
          by_cases c : p.1 ∈ marked h
          · rw [List.filter_cons_of_pos (by simpa using c), List.map_cons]
            refine List.nodup_cons.mpr ⟨fun z => ?_, ih nl⟩
            obtain ⟨p', hp', e'⟩ := List.mem_map.mp z
            obtain ⟨y1, y2⟩ := List.mem_filter.mp hp'
            have := ix_inj (of_decide_eq_true y2) c e'
            exact np (List.mem_map.mpr ⟨p', y1, this⟩)
          · rw [List.filter_cons_of_neg (by simpa using c)]; exact ih nl
      exact key es oo.2.1
    · obtain ⟨p', hp', rfl⟩ := List.mem_map.mp hp
      obtain ⟨y1, y2⟩ := List.mem_filter.mp hp'
      have hk := of_decide_eq_true y2
      exact ⟨ix_in hk, ix_in (hcl p' y1 hk)⟩
theorem cn_ok : (cnHd h (marked h)).Ok := by
  have en := cn_nums ok
  have ml := mlen ok
  refine ⟨by rw [en]; exact iota_up _, ?_, by show (h.regs.map _).length ≤ 1000; rw [List.length_map]; exact ok.nreg, fun r hr => ?_, fun o ho => ?_, fun i hi => ?_, fun e he => ?_, fun n hn => ?_, ⟨Int.natCast_nonneg _, by show ((marked h).length : Int) ≤ 999; omega⟩, cnKept_up _ _, fun e he => ?_, ?_, fun z => ok.rpos (List.map_eq_nil_iff.mp z)⟩
  · rw [cn_list ok, List.length_map]; exact ml
  · rw [en]
    obtain ⟨x, _, rfl⟩ := List.mem_map.mp hr
    exact plR_ok ok x
  · rw [en]
    rw [cn_list ok] at ho
    obtain ⟨n, hn, rfl⟩ := List.mem_map.mp ho
    exact cnOb_ok ok hn
  · rw [en]
    obtain ⟨n, _, h2, rfl⟩ := (mem_cnKept (marked_nd h)).mp hi
    exact ix_in h2
  · rw [en]
    obtain ⟨p, hp, rfl⟩ := List.mem_map.mp he
    exact ix_in (of_decide_eq_true (List.mem_filter.mp hp).2)
  · rw [en] at hn
    exact mem_iota.mp hn
  · obtain ⟨p, hp, rfl⟩ := List.mem_map.mp he
    exact ok.tok p (List.mem_filter.mp hp).1
  · show (List.map _ _).length ≤ 50
    rw [List.length_map]
    exact Nat.le_trans (List.length_filter_le _ _) ok.nwat
theorem cn_ob {n : Int} (hn : n ∈ marked h) : obOf (cnHd h (marked h)) (ixI (marked h) n) = some (cnOb (marked h) (obD h n)) := by
  have hm : cnOb (marked h) (obD h n) ∈ (cnHd h (marked h)).obs := by rw [cn_list ok]; exact List.mem_map_of_mem hn
  have hnum : (cnOb (marked h) (obD h n)).num = ixI (marked h) n := by rw [cnOb_num, (obD_num ok hn).1]
  obtain ⟨o, e⟩ := obOf_some (h := cnHd h (marked h)) (n := ixI (marked h) n) (hnum ▸ List.mem_map_of_mem hm)
  obtain ⟨y1, y2⟩ := obOf_num e
  rw [e, ob_uniq (cn_ok ok) y1 hm (y2.trans hnum.symm)]
end
end Wc
/-! A heap renumbered is its own renumbering. -/
namespace Wc
open PySem L2
theorem mk_in {h : Hd} (ok : h.Ok) (k : Nat) {n : Int} (hn : n ∈ mk h k) : n ∈ marked h := by
  rcases Nat.le_total k h.nums.length with z | z
  · exact mk_sub h z hn
  · rw [mk_last (mk_len ok _) z] at hn; exact hn
theorem found_flat (h : Hd) (S : List Int) (n : Int) : found h S n = fldsOf h n ++ S.flatMap (valsIn h S) := by rw [← found_vals, vals_filter]
theorem plR_some {ord : List Int} : ∀ {fs : List Rf}, (∀ m ∈ fs.filterMap id, m ∈ ord) → (fs.map (plR ord)).filterMap id = (fs.filterMap id).map (ixI ord)
  | [], _ => rfl
  | none :: r, hs => plR_some (fs := r) hs
  | some m :: r, hs => by
    have hm : m ∈ ord := hs m List.mem_cons_self
    have e : plR ord (some m) = some (ixI ord m) := if_pos hm
    rw [List.map_cons, e]
    show ixI ord m :: (r.map (plR ord)).filterMap id = ixI ord m :: (r.filterMap id).map (ixI ord)
    rw [plR_some fun k hk => hs k (List.mem_cons_of_mem _ hk)]
section
variable {ord : List Int}
theorem mem_mapix {l : List Int} (hl : ∀ x ∈ l, x ∈ ord) {x : Int} (hx : x ∈ ord) : ixI ord x ∈ l.map (ixI ord) ↔ x ∈ l :=
  ⟨fun z => by
    obtain ⟨y, hy, e⟩ := List.mem_map.mp z
    rw [← ix_inj (hl y hy) hx e]; exact hy, fun z => List.mem_map_of_mem z⟩
theorem addK_map {l : List Int} (hl : ∀ x ∈ l, x ∈ ord) {x : Int} (hx : x ∈ ord) : addK (l.map (ixI ord)) (ixI ord x) = (addK l x).map (ixI ord) := by
  unfold addK
  by_cases c : x ∈ l
  · rw [if_pos c, if_pos ((mem_mapix hl hx).mpr c)]
  · rw [if_neg c, if_neg fun z => c ((mem_mapix hl hx).mp z), List.map_append]; rfl
theorem ext_map : ∀ (xs l : List Int), (∀ x ∈ l, x ∈ ord) → (∀ x ∈ xs, x ∈ ord) → ext (l.map (ixI ord)) (xs.map (ixI ord)) = (ext l xs).map (ixI ord)
  | [], l, _, _ => rfl
  | x :: xs, l, hl, hx => by
    show ext (addK (l.map (ixI ord)) (ixI ord x)) (xs.map (ixI ord)) = (ext (addK l x) xs).map (ixI ord)
    have hx0 := hx x List.mem_cons_self
    rw [addK_map hl hx0]
    refine ext_map xs _ (fun y hy => ?_) fun y hy => hx y (List.mem_cons_of_mem _ hy)
    rcases mem_addK.mp hy with z | z
    · exact hl y z
    · rw [z]; exact hx0
end
section
variable {h : Hd} (ok : h.Ok)
include ok
theorem flds_map {n : Int} (hn : n ∈ marked h) : fldsOf (cnHd h (marked h)) (ixI (marked h) n) = (fldsOf h n).map (ixI (marked h)) := by
  have cl := (marked_closed ok).1 n hn
  have e1 : fldsOf (cnHd h (marked h)) (ixI (marked h) n) = fldsOb (cnOb (marked h) (obD h n)) := by unfold fldsOf; rw [cn_ob ok hn]; rfl
  have e2 : fldsOf h n = fldsOb (obD h n) := by unfold fldsOf; rw [(obD_num ok hn).2.2]; rfl
  rw [e1, e2]
  rw [e2] at cl
  cases e : obD h n with
  | rcd k fs => rw [e] at cl; exact plR_some cl
  | weak k t => rfl
  | tab k es => rfl
theorem es_map {n : Int} (hn : n ∈ marked h) : esOf (cnHd h (marked h)) (ixI (marked h) n) = ((esOf h n).filter fun e => decide (e.1 ∈ marked h)).map fun e => (ixI (marked h) e.1, ixI (marked h) e.2) := by
  have e1 : esOf (cnHd h (marked h)) (ixI (marked h) n) = entsOb (cnOb (marked h) (obD h n)) := by unfold esOf; rw [cn_ob ok hn]; rfl
  have e2 : esOf h n = entsOb (obD h n) := by unfold esOf; rw [(obD_num ok hn).2.2]; rfl
  rw [e1, e2]
  cases obD h n <;> rfl
theorem vals_map {S : List Int} (hS : ∀ x ∈ S, x ∈ marked h) {t : Int} (ht : t ∈ marked h) : valsIn (cnHd h (marked h)) (S.map (ixI (marked h))) (ixI (marked h) t) = (valsIn h S t).map (ixI (marked h)) := by
  unfold valsIn
  rw [es_map ok ht, List.filter_map, List.map_map, List.map_map, List.filter_filter]
  have e : (esOf h t).filter (fun e => ((fun e : Int × Int => decide (e.1 ∈ S.map (ixI (marked h)))) ∘ fun e : Int × Int => (ixI (marked h) e.1, ixI (marked h) e.2)) e && decide (e.1 ∈ marked h)) = (esOf h t).filter fun e => decide (e.1 ∈ S) := by
    refine List.filter_congr fun e _ => ?_
    show (decide (ixI (marked h) e.1 ∈ S.map (ixI (marked h))) && decide (e.1 ∈ marked h)) = decide (e.1 ∈ S)
    by_cases c : e.1 ∈ marked h
    · rw [decide_eq_true c, Bool.and_true]
      exact decide_eq_decide.mpr (mem_mapix hS c)
    · rw [decide_eq_false c, Bool.and_false, decide_eq_false fun z => c (hS _ z)]
  rw [e]; rfl
theorem found_map {S : List Int} (hS : ∀ x ∈ S, x ∈ marked h) {n : Int} (hn : n ∈ marked h) : found (cnHd h (marked h)) (S.map (ixI (marked h))) (ixI (marked h) n) = (found h S n).map (ixI (marked h)) := by
  rw [found_flat, found_flat, flds_map ok hn, List.map_append]
  congr 1
  have key : ∀ l : List Int, (∀ x ∈ l, x ∈ marked h) → (l.map (ixI (marked h))).flatMap (valsIn (cnHd h (marked h)) (S.map (ixI (marked h)))) = (l.flatMap (valsIn h S)).map (ixI (marked h)) := fun l => by
    induction l with
    | nil => intro _; rfl
    | cons t r ih =>
      intro hl
      rw [List.map_cons, List.flatMap_cons, List.flatMap_cons, List.map_append, vals_map ok hS (hl t List.mem_cons_self), ih fun x hx => hl x (List.mem_cons_of_mem _ hx)]
  exact key S hS
theorem mk_map : ∀ k, mk (cnHd h (marked h)) k = (mk h k).map (ixI (marked h))
  | 0 => by
    show dedup ((h.regs.map (plR (marked h))).filterMap id) = (dedup (h.regs.filterMap id)).map _
    have hr : ∀ m ∈ h.regs.filterMap id, m ∈ marked h := fun m hm => by
      obtain ⟨r, hr, e⟩ := List.mem_filterMap.mp hm
      have e : r = some m := e
      subst e; exact marked_regs hr
    rw [plR_some hr]
    exact ext_map (ord := marked h) (h.regs.filterMap id) [] (fun _ z => nomatch z) hr
  | k + 1 => by
    have ih := mk_map k
    cases e : (mk h k)[k]? with
    | none =>
      rw [mk_stop e, mk_stop (by rw [ih, List.getElem?_map, e]; rfl), ih]
    | some n =>
      have e2 : (mk (cnHd h (marked h)) k)[k]? = some (ixI (marked h) n) := by rw [ih, List.getElem?_map, e]; rfl
      have hn := mk_in ok k (List.mem_of_getElem? e)
      rw [mk_step e, mk_step e2, ih, ← List.map_take, found_map ok (fun x hx => mk_in ok k (List.mem_of_mem_take hx)) hn]
      refine ext_map _ _ (fun x hx => mk_in ok k hx) fun x hx => mk_in ok (k + 1) ?_
      rw [mk_step e]; exact mem_ext.mpr (.inr hx)
theorem cn_marked : marked (cnHd h (marked h)) = iota (marked h).length := by
  have e : mk h (marked h).length = marked h := marked_at ok (nd_sub (mk_nd h _) fun n hn => mk_in ok _ hn)
  have z : marked (cnHd h (marked h)) = mk (cnHd h (marked h)) (cnHd h (marked h)).nums.length := rfl
  rw [z, cn_nums ok, iota_len, mk_map ok, e, map_ix (marked_nd h)]
omit ok in
theorem plR_id {m : Nat} {r : Rf} (hr : Rf.ok (iota m) r) : plR (iota m) r = r := by
  cases r with
  | none => rfl
  | some v =>
    have hv := hr v rfl
    show (if v ∈ iota m then some (ixI (iota m) v) else none) = some v
    rw [if_pos hv, ix_iota hv]
omit ok in
theorem cnOb_id {m : Nat} {o : Ob} (hn : o.num ∈ iota m) (oo : o.ok (iota m)) : cnOb (iota m) o = o := by
  cases o with
  | rcd k fs =>
    have hn : k ∈ iota m := hn
    show Ob.rcd (ixI (iota m) k) (fs.map (plR (iota m))) = Ob.rcd k fs
    rw [ix_iota hn, (List.map_congr_left fun r hr => plR_id (oo.2 r hr) : fs.map (plR (iota m)) = fs.map fun r => r), List.map_id' fs]
  | weak k t =>
    have hn : k ∈ iota m := hn
    show Ob.weak (ixI (iota m) k) (plR (iota m) t) = Ob.weak k t
    rw [ix_iota hn, plR_id oo]
  | tab k es =>
    have hn : k ∈ iota m := hn
    show Ob.tab (ixI (iota m) k) ((es.filter fun e => decide (e.1 ∈ iota m)).map fun e => (ixI (iota m) e.1, ixI (iota m) e.2)) = Ob.tab k es
    rw [ix_iota hn, List.filter_eq_self.mpr fun e he => decide_eq_true (oo.2.2 e he).1, (List.map_congr_left fun e he => by rw [ix_iota (oo.2.2 e he).1, ix_iota (oo.2.2 e he).2] : es.map (fun e => (ixI (iota m) e.1, ixI (iota m) e.2)) = es.map fun e => e), List.map_id' es]
/-- canonical, once more -/
theorem cn_cn : cnHd (cnHd h (marked h)) (marked (cnHd h (marked h))) = cnHd h (marked h) := by
  have gok := cn_ok ok
  have en := cn_nums ok
  rw [cn_marked ok]
  have e1 : ((iota (marked h).length).length : Int) = ((marked h).length : Int) := by rw [iota_len]
  have e2 : (cnHd h (marked h)).regs.map (plR (iota (marked h).length)) = (cnHd h (marked h)).regs := by
    rw [(List.map_congr_left fun r hr => plR_id (en ▸ gok.regs r hr) : (cnHd h (marked h)).regs.map (plR (iota (marked h).length)) = (cnHd h (marked h)).regs.map fun r => r), List.map_id']
  have e3 : cnKept (iota (marked h).length) (cnHd h (marked h)).kept = (cnHd h (marked h)).kept := by
    refine up_same (cnKept_up _ _) (cnKept_up _ _) fun v => ?_
    rw [mem_cnKept (iota_nd _)]
    constructor
    · rintro ⟨n, h1, h2, e⟩
      rw [ix_iota h2] at e
      subst e; exact h1
    · intro hv
      have hi : v ∈ iota (marked h).length := en ▸ gok.kept v hv
      exact ⟨v, hv, hi, ix_iota hi⟩
  have e4 : ((iota (marked h).length).filterMap fun n => (obOf (cnHd h (marked h)) n).map (cnOb (iota (marked h).length))) = (cnHd h (marked h)).obs := by
    rw [cn_obs (h := cnHd h (marked h)) (iota (marked h).length) (iota (marked h).length) fun n hn => by rw [en]; exact hn]
    rw [cn_list ok]
    conv => lhs; arg 2; rw [← map_ix (marked_nd h)]
    rw [List.map_map]
    refine List.map_congr_left fun n hn => ?_
    show cnOb (iota (marked h).length) (obD (cnHd h (marked h)) (ixI (marked h) n)) = _
    rw [obD_of (cn_ob ok hn)]
    exact cnOb_id (by rw [cnOb_num, (obD_num ok hn).1]; exact ix_in hn) (cnOb_ok ok hn)
  have e5 : ((cnHd h (marked h)).wat.filter fun e => decide (e.1 ∈ iota (marked h).length)).map (fun e => (ixI (iota (marked h).length) e.1, e.2)) = (cnHd h (marked h)).wat := by
    have hw : ∀ e ∈ (cnHd h (marked h)).wat, e.1 ∈ iota (marked h).length := fun e he => en ▸ gok.wat e he
    rw [List.filter_eq_self.mpr fun e he => decide_eq_true (hw e he), (List.map_congr_left fun e he => by rw [ix_iota (hw e he)] : (cnHd h (marked h)).wat.map (fun e => (ixI (iota (marked h).length) e.1, e.2)) = (cnHd h (marked h)).wat.map fun e => e), List.map_id']
  have e6 : cnHd (cnHd h (marked h)) (iota (marked h).length) = ⟨((iota (marked h).length).length : Int), (cnHd h (marked h)).regs.map (plR (iota (marked h).length)), cnKept (iota (marked h).length) (cnHd h (marked h)).kept,
    (iota (marked h).length).filterMap fun n => (obOf (cnHd h (marked h)) n).map (cnOb (iota (marked h).length)), ((cnHd h (marked h)).wat.filter fun e => decide (e.1 ∈ iota (marked h).length)).map fun e => (ixI (iota (marked h).length) e.1, e.2)⟩ := rfl
  rw [e6, e1, e2, e3, e4, e5]
  rfl
end
end Wc
namespace Wc
open PySem L2
section
variable (K : PySem.W.Frag)
def R_renumbered : V2 := fun x y H Q => ∃ (a : Addr) (o : Ob) (pl : Addr) (ord : List Int), x = .ref a ∧ y = .ref pl ∧ ObAt K H a o ∧ o.small ∧ H pl = some (.dK (plD ord)) ∧ o.num ∈ ord ∧ (∀ e ∈ entsOb o, e.1 ∈ ord → e.2 ∈ ord) ∧ ∀ H' p, ExA H H' → ObAt K H' p (cnOb ord o) → Q (.ref p) H'
abbrev sp_renumbered : Sp := sp2 (R_renumbered K)
def R_canonical : V1 := fun x H Q => ∃ (a : Addr) (h : Hd), x = .ref a ∧ HeapAt K H a h ∧ h.Ok ∧ ∀ H' p, ExA H H' → HeapAt K H' p (cnHd h (marked h)) → Q (.ref p) H'
abbrev sp_canonical : Sp := sp1 (R_canonical K)
end
section
variable {P : Program} {w : World} {K : PySem.W.Frag} {mg : Str → Option Value} {base : Heap}
theorem ok_renumbered {f : Addr} {fd : FuncData} {cd : Value} (F : Df K "renumbered" s_renumbered f fd cd) (T : Txt mg) : FnOk P w K mg base CX0 1 f fd ["thing", "places"] (sp_renumbered K) := by
  have nd := sc_renumbered.nd
  refine F.ok sc_renumbered (fun vs H Q E h => ?_) (fun A outer s H vs Q E hr h => ?_)
  · obtain ⟨_, _, rfl, _⟩ := h; rfl
  have hu := hu_of hr
  obtain ⟨x0, x1, rfl, h⟩ := h
  refine ⟨_, (pss_cons (ps_asg (pv 0) (show PG _ _ (gTup K 3 _) from pg_tup rfl (pgs_cons (pg_name (i := 2) nd rfl (by first | exact Or.inl rfl | exact Or.inr rfl)) (pgs_cons (pg_name (i := 3) nd rfl (by first | exact Or.inl rfl | exact Or.inr rfl)) (pgs_cons (pg_name (i := 4) nd rfl (by first | exact Or.inl rfl | exact Or.inr rfl)) pgs_nil)))))
    (pss_cons (ps_if (pt_cmpR op_eq (pv 2) pe_str (nomark _)) (pss_one (ps_ret (pe_tup (pa_cons (pv 2) (pa_cons (pe_dget hu (pv 1) (pv 3) (fun _ _ => rfl)) (pa_cons (pe_callTy (r := rTupZ K) call_tupleZ rfl T.tuple (by decide +kernel) (pa_cons (pe_lc (own := [("held", 5)]) rfl nd (show PI _ _ _ (iTup K _) from pi_tup (pv 4)) (blkOk_by (own := [("held", 5)]) (N := N_renumbered) (sc := defScope s_renumbered) (by decide +kernel)) (fun _ _ _ _ _ => (pg_name (i := 5) nd rfl (by first | exact Or.inl rfl | exact Or.inr rfl))) (fun _ _ _ _ _ => pts_nil) (fun _ _ _ _ _ => (pe_dgetN hu (pv 1) (pv 5) ⟨rfl, rfl, rfl, rfl⟩))) pa_nil)) pa_nil)))))) pss_nil)
    (pss_cons (ps_if (pt_cmpR op_eq (pv 2) pe_str (nomark _)) (pss_one (ps_ret (pe_tup (pa_cons (pv 2) (pa_cons (pe_dget hu (pv 1) (pv 3) (fun _ _ => rfl)) (pa_cons (pe_dgetN hu (pv 1) (pv 4) ⟨rfl, rfl, rfl, rfl⟩) pa_nil)))))) pss_nil)
    (pss_cons (ps_setLc (i := 6) (own := [("key", 7), ("value", 8)]) rfl nd rfl rfl (sw_true rfl rfl rfl (by decide +kernel)) (show PI _ _ _ (iTup K _) from pi_tup (pv 4)) (blkOk_by (own := [("key", 7), ("value", 8)]) (N := N_renumbered) (sc := defScope s_renumbered) (by decide +kernel)) (fun _ _ _ _ _ => (show PG _ _ (gTup K 2 _) from pg_tup rfl (pgs_cons (pg_name (i := 7) nd rfl (by first | exact Or.inl rfl | exact Or.inr rfl)) (pgs_cons (pg_name (i := 8) nd rfl (by first | exact Or.inl rfl | exact Or.inr rfl)) pgs_nil)))) (fun _ _ _ _ _ => (pts_one (pt_cmp (pc_din hu (pv 7) (pv 1)) rfl))) (fun _ _ _ _ _ => (pe_tup (pa_cons (pe_dget hu (pv 1) (pv 7) (fun _ _ => rfl)) (pa_cons (pe_dget hu (pv 1) (pv 8) (fun _ _ => rfl)) pa_nil)))))
    (pss_one (ps_ret (pe_tup (pa_cons (pv 2) (pa_cons (pe_dget hu (pv 1) (pv 3) (fun _ _ => rfl)) (pa_cons (pe_callTy (r := rTupZ K) call_tupleZ rfl T.tuple (by decide +kernel) (pa_cons (pv 6) pa_nil)) pa_nil)))))))))), ?_⟩
  obtain ⟨a, o, pl, ord, rfl, rfl, hO, sm, hp, hon, hcl, q⟩ := h
  cases o with
  | rcd n fs =>
    obtain ⟨t, h1, h2⟩ := hO
    refine ⟨_, rfl, a, _, rfl, h1, rfl, _, _, rfl, _, _, rfl, _, _, rfl, rfl, ?_⟩
    refine ⟨_, rfl, rfl, _, rfl, iteT ?_⟩
    refine ⟨_, rfl, _, rfl, _, rfl, pl, _, rfl, dgI hp hon, _, rfl, t, rfl, ⟨_, h2.sq⟩, fun D hD => ?_⟩
    refine lcF K rV fs (fun _ => true) _ walk_tup rfl (List.length_map _) (Nat.le_trans sm (by decide)) (fun r => rV (plR ord r)) hD (fun H' e => Tk.all e _ _ h2.sq) (fun r H5 _ _ R z => z) (fun _ => rfl) (fun r H5 _ _ R z => tyesR z)
      (fun r H5 _ _ e R z => ⟨_, rfl, pl, rfl, .inl ⟨_, .inl (ExA.at e hp)⟩, _, rfl, dgR (ExA.at e hp) (z _ (ExM.refl _ _))⟩) (fun H5 e5 hd => ?_)
    rw [filter_all] at hd
    refine ⟨D, _, rfl, SqL.of hd, fun l o fl no => ⟨sz (by show 3 ≤ 100000; decide), fun p fp => ?_⟩⟩
    have np : p ≠ l := fun z => by rw [z, upd_same] at fp; cases fp
    refine q _ p ((e5.put (ExA.free e5 fl)).trans (ExM.new fp)) ⟨l, SqT.of upd_same, ?_⟩
    refine SqZ.of no ?_
    rw [upd_ne np.symm, upd_same, List.map_map]; rfl
  | weak n t =>
    have h1 : SqT K H a [.str "weak", .int n, rV t] := hO
    refine ⟨_, rfl, a, _, rfl, h1, rfl, _, _, rfl, _, _, rfl, _, _, rfl, rfl, ?_⟩
    refine ⟨_, rfl, rfl, _, rfl, iteF ?_⟩
    refine ⟨_, rfl, rfl, _, rfl, iteT ?_⟩
    have w3 : 3 ≤ sizeLine := sz (by decide)
    cases t with
    | none => exact ⟨_, rfl, _, rfl, _, rfl, pl, _, rfl, dgI hp hon, _, rfl, pl, rfl, .inl ⟨_, .inl hp⟩, _, rfl, .inr ⟨_, rfl, hp, w3, fun p fp => q _ p (ExM.new fp) (SqT.of upd_same)⟩⟩
    | some m =>
      have g := DGet.k (k := Sum.inl m) hp
      rw [plD_get] at g
      by_cases c : m ∈ ord
      · rw [if_pos c] at g
        refine ⟨_, rfl, _, rfl, _, rfl, pl, _, rfl, dgI hp hon, _, rfl, pl, rfl, .inl ⟨_, .inl hp⟩, _, rfl, .inl ⟨_, g, w3, fun p fp => q _ p (ExM.new fp) ?_⟩⟩
        show SqT K _ p [.str "weak", .int (ixI ord n), rV (if m ∈ ord then some (ixI ord m) else none)]
        rw [if_pos c]
        exact SqT.of upd_same
      · rw [if_neg c] at g
        refine ⟨_, rfl, _, rfl, _, rfl, pl, _, rfl, dgI hp hon, _, rfl, pl, rfl, .inl ⟨_, .inl hp⟩, _, rfl, .inl ⟨_, g, w3, fun p fp => q _ p (ExM.new fp) ?_⟩⟩
        show SqT K _ p [.str "weak", .int (ixI ord n), rV (if m ∈ ord then some (ixI ord m) else none)]
        rw [if_neg c]
        exact SqT.of upd_same
  | tab n es =>
    obtain ⟨t, ps, h1, h2, h3⟩ := hO
    refine ⟨_, rfl, a, _, rfl, h1, rfl, _, _, rfl, _, _, rfl, _, _, rfl, rfl, ?_⟩
    refine ⟨_, rfl, rfl, _, rfl, iteF ?_⟩
    refine ⟨_, rfl, rfl, _, rfl, iteF ?_⟩
    refine ⟨_, rfl, t, rfl, ⟨_, h2.sq⟩, fun D hD => ?_⟩
    have zl := plen h3
    have sm' : es.length ≤ 1000 := sm
    refine lcR K (fun q : Addr × (Int × Int) => V.ref q.1) (ps.zip es) (fun q => decide (q.2.1 ∈ ord)) (fun q y H => ∃ b, y = .ref b ∧ PairAt K H b (ixI ord q.2.1, ixI ord q.2.2)) _ walk_tup (zip_refs h3) (by rw [List.length_map, zip_len h3]) (by rw [zip_len h3]; omega) hD (fun H' e => Tk.all e _ _ h2.sq)
      (fun q y H1 H2 t z => by obtain ⟨b, rfl, z⟩ := z; exact ⟨b, rfl, PairAt.mono t z⟩) (fun q H5 hq e R z => ⟨q.1, _, rfl, Tk.all e _ _ (zip_all h3 q hq), rfl, _, _, rfl, _, _, rfl, rfl, z⟩) (fun _ => rfl)
      (fun q H5 hq e R z => ?_) (fun q H5 hq c e R z => ?_) (fun H5 ys e5 hd hp5 => ?_)
    · obtain ⟨a1, o1, k1, k2, k3⟩ := dgB (ExA.at e hp) q.2.1 (R := fun v => ∃ b, v = .bl b ∧ R b H5) ⟨_, rfl, z _ (ExM.refl _ _)⟩
      exact ⟨_, rfl, _, rfl, a1, o1, k1, k2, k3⟩
    · have hk : q.2.1 ∈ ord := of_decide_eq_true c
      have hv : q.2.2 ∈ ord := hcl q.2 (List.of_mem_zip hq).2 hk
      exact ⟨_, rfl, _, rfl, pl, _, rfl, dgI (ExA.at e hp) hk, _, rfl, _, rfl, pl, _, rfl, dgI (ExA.at e hp) hv, sz (by show 2 ≤ 100000; decide), fun p fp => z _ _ (ExM.new fp) ⟨p, rfl, SqT.of upd_same⟩⟩
    obtain ⟨bs, rfl, hbs⟩ := paired_refs hp5
    have hbs2 := paired_mapR (F := PairAt K H5) (fun q : Addr × (Int × Int) => (ixI ord q.2.1, ixI ord q.2.2)) hbs
    rw [zip_filter_map h3 (fun e => decide (e.1 ∈ ord)) (fun e => (ixI ord e.1, ixI ord e.2))] at hbs2
    refine ⟨_, rfl, _, rfl, _, rfl, pl, _, rfl, dgI (ExA.at e5 hp) hon, _, rfl, D, _, rfl, SqL.of hd, fun l o fl no => ⟨sz (by show 3 ≤ 100000; decide), fun p fp => ?_⟩⟩
    have np : p ≠ l := fun z => by rw [z, upd_same] at fp; cases fp
    refine q _ p ((e5.put (ExA.free e5 fl)).trans (ExM.new fp)) ⟨l, bs, SqT.of upd_same, SqZ.of no (by rw [upd_ne np.symm]; exact upd_same), pmp hbs2 fun _ _ z => PairAt.mono (Tk.trans (Tk.new fl) (Tk.new fp)) z⟩
theorem ok_canonical {f : Addr} {fd : FuncData} {cd : Value} (F : Df K "canonical" s_canonical f fd cd) (T : Txt mg) (C_registers_of : Cal P w K mg base 1 "registers_of" (sp_registers_of K) []) (C_kept_of : Cal P w K mg base 1 "kept_of" (sp_kept_of K) []) (C_watches_of : Cal P w K mg base 1 "watches_of" (sp_watches_of K) []) (C_by_number : Cal P w K mg base 2 "by_number" (sp_by_number K) []) (C_marking : Cal P w K mg base 3 "marking" (sp_marking K) []) (C_renumbered : Cal P w K mg base 1 "renumbered" (sp_renumbered K) []) : FnOk P w K mg base CX0 4 f fd ["heap"] (sp_canonical K) := by
  have nd := sc_canonical.nd
  refine F.ok sc_canonical (fun vs H Q E h => ?_) (fun A outer s H vs Q E hr h => ?_)
  · obtain ⟨_, rfl, _⟩ := h; rfl
  have hu := hu_of hr
  obtain ⟨x0, rfl, h⟩ := h
  refine ⟨_, (pss_cons (ps_set (i := 1) nd rfl (by first | exact Or.inl rfl | exact Or.inr rfl) (pe_c C_by_number hr (by first | exact Nat.le_refl _ | decide) rfl (pa_cons (pv 0) pa_nil)))
    (pss_cons (ps_set (i := 2) nd rfl (by first | exact Or.inl rfl | exact Or.inr rfl) (pe_c C_marking hr (by first | exact Nat.le_refl _ | decide) rfl (pa_cons (pv 0) pa_nil)))
    (pss_cons (ps_set (i := 3) nd rfl (by first | exact Or.inl rfl | exact Or.inr rfl) (pe_dc (own := [("place", 4), ("number", 5)]) rfl nd (pi_enumT rfl T.enumerate (pa_cons (pv 2) pa_nil)) (blkOk_by (own := [("place", 4), ("number", 5)]) (N := N_canonical) (sc := defScope s_canonical) (by decide +kernel)) (fun _ _ _ _ _ => (show PG _ _ (gTup K 2 _) from pg_tup rfl (pgs_cons (pg_name (i := 4) nd rfl (by first | exact Or.inl rfl | exact Or.inr rfl)) (pgs_cons (pg_name (i := 5) nd rfl (by first | exact Or.inl rfl | exact Or.inr rfl)) pgs_nil)))) (fun _ _ _ _ _ => pts_nil) (fun _ _ _ _ _ => (pv 5)) (fun _ _ _ _ _ => (pv 4))))
    (pss_cons (ps_set (i := 6) nd rfl (by first | exact Or.inl rfl | exact Or.inr rfl) (pe_callTy (r := rTupZ K) call_tupleZ rfl T.tuple (by decide +kernel) (pa_cons (pe_lc (own := [("held", 7)]) rfl nd (show PI _ _ _ (iTup K _) from pi_tup (pe_c C_registers_of hr (by first | exact Nat.le_refl _ | decide) rfl (pa_cons (pv 0) pa_nil))) (blkOk_by (own := [("held", 7)]) (N := N_canonical) (sc := defScope s_canonical) (by decide +kernel)) (fun _ _ _ _ _ => (pg_name (i := 7) nd rfl (by first | exact Or.inl rfl | exact Or.inr rfl))) (fun _ _ _ _ _ => pts_nil) (fun _ _ _ _ _ => (pe_dgetN hu (pv 3) (pv 7) ⟨rfl, rfl, rfl, rfl⟩))) pa_nil)))
    (pss_cons (ps_set (i := 8) nd rfl (by first | exact Or.inl rfl | exact Or.inr rfl) (pe_callTy (r := rTupZ K) call_tupleZ rfl T.tuple (by decide +kernel) (pa_cons (pe_callB (r := rSortedI K) cr_sortedI rfl T.sorted (by decide +kernel) (pa_cons (pe_lc (own := [("number", 5)]) rfl nd (show PI _ _ _ (iTup K _) from pi_tup (pe_c C_kept_of hr (by first | exact Nat.le_refl _ | decide) rfl (pa_cons (pv 0) pa_nil))) (blkOk_by (own := [("number", 5)]) (N := N_canonical) (sc := defScope s_canonical) (by decide +kernel)) (fun _ _ _ _ _ => (pg_name (i := 5) nd rfl (by first | exact Or.inl rfl | exact Or.inr rfl))) (fun _ _ _ _ _ => (pts_one (pt_cmp (pc_din hu (pv 5) (pv 3)) rfl))) (fun _ _ _ _ _ => (pe_dget hu (pv 3) (pv 5) (fun _ _ => rfl)))) pa_nil)) pa_nil)))
    (pss_cons (ps_set (i := 9) nd rfl (by first | exact Or.inl rfl | exact Or.inr rfl) (pe_callTy (r := rTupZ K) call_tupleZ rfl T.tuple (by decide +kernel) (pa_cons (pe_lc (own := [("number", 5)]) rfl nd (show PI _ _ _ (iTup K _) from pi_tup (pv 2)) (blkOk_by (own := [("number", 5)]) (N := N_canonical) (sc := defScope s_canonical) (by decide +kernel)) (fun _ _ _ _ _ => (pg_name (i := 5) nd rfl (by first | exact Or.inl rfl | exact Or.inr rfl))) (fun _ _ _ _ _ => pts_nil) (fun _ _ _ _ _ => (pe_c C_renumbered hr (by first | exact Nat.le_refl _ | decide) rfl (pa_cons (pe_dget hu (pv 1) (pv 5) (fun _ _ => rfl)) (pa_cons (pv 3) pa_nil))))) pa_nil)))
    (pss_cons (ps_setLc (i := 10) (own := [("number", 5), ("token", 11)]) rfl nd rfl rfl (sw_true rfl rfl rfl (by decide +kernel)) (show PI _ _ _ (iTup K _) from pi_tup (pe_c C_watches_of hr (by first | exact Nat.le_refl _ | decide) rfl (pa_cons (pv 0) pa_nil))) (blkOk_by (own := [("number", 5), ("token", 11)]) (N := N_canonical) (sc := defScope s_canonical) (by decide +kernel)) (fun _ _ _ _ _ => (show PG _ _ (gTup K 2 _) from pg_tup rfl (pgs_cons (pg_name (i := 5) nd rfl (by first | exact Or.inl rfl | exact Or.inr rfl)) (pgs_cons (pg_name (i := 11) nd rfl (by first | exact Or.inl rfl | exact Or.inr rfl)) pgs_nil)))) (fun _ _ _ _ _ => (pts_one (pt_cmp (pc_din hu (pv 5) (pv 3)) rfl))) (fun _ _ _ _ _ => (pe_tup (pa_cons (pe_dget hu (pv 3) (pv 5) (fun _ _ => rfl)) (pa_cons (pv 11) pa_nil)))))
    (pss_one (ps_ret (pe_tup (pa_cons pe_str (pa_cons (pe_callB (r := Evl.rLenS K) call_len_seq rfl T.len PySem.boot_len (pa_cons (pv 2) pa_nil)) (pa_cons (pv 6) (pa_cons (pv 8) (pa_cons (pv 9) (pa_cons (pe_callTy (r := rTupZ K) call_tupleZ rfl T.tuple (by decide +kernel) (pa_cons (pv 10) pa_nil)) pa_nil)))))))))))))))), ?_⟩
  obtain ⟨a, h, rfl, hA, ok, q⟩ := h
  refine ⟨_, rfl, _, rfl, a, h, rfl, hA, ok, fun th H1 os f1 e1 hos hth => ?_⟩
  have hT1 : ThAt K H1 th os h := ⟨hos, hth⟩
  refine ⟨_, rfl, _, rfl, a, h, rfl, HeapAt.mono (Tk.all e1) hA, ok, fun od H2 f2 e2 hod => ?_⟩
  have nd := marked_nd h
  have hnm := marked_num ok
  obtain ⟨cl1, cl2⟩ := marked_closed ok
  have zo : (marked h).length ≤ 50 := by
    have z1 := mk_len ok h.nums.length
    have z3 : h.nums.length ≤ 50 := by unfold Hd.nums; rw [List.length_map]; exact ok.size
    unfold marked; omega
  generalize hord : marked h = ord at *
  have hod' : SqT K H2 od (ord.map V.int) := SqT.of hod
  -- the places
  refine ⟨_, rfl, od, _, rfl, hod', fun pl fpl => ?_⟩
  refine dcM [] (walk_enumS (K := K) (a := od) (c := 0) (xs := ord.map V.int)) fpl (fun i acc _ => acc = plD (ord.take i)) rfl (fun H' e => Tk.all e _ _ hod') (fun i x H3 H4 acc hi e k1 k2 hacc y => ?_) (fun H3 acc e3 k1 k2 hacc => ?_)
  · obtain ⟨t, x', rfl, ft, rfl, hx⟩ := y
    rw [List.length_map] at hi
    obtain ⟨n, hn⟩ : ∃ n, ord[i]? = some n := ⟨_, List.getElem?_eq_getElem hi⟩
    rw [List.getElem?_map, hn] at hx
    obtain rfl : V.int n = x' := Option.some.inj hx
    refine ⟨t, _, rfl, SqT.of upd_same, rfl, _, _, rfl, _, _, rfl, rfl, rfl, tyes ⟨_, rfl, _, rfl, ?_⟩⟩
    refine DcP.yes (k := Sum.inl n) fpl (by simp) (by omega) e k1 k2 rfl (ExM.new ft) ?_
    have hno : n ∉ ord.take i := fun z => by
      obtain ⟨j, hj⟩ := List.getElem?_of_mem z
      have hlt : j < i := by
        have := (List.getElem?_eq_some_iff.mp hj).1
        rw [List.length_take] at this; omega
      rw [List.getElem?_take_of_lt hlt] at hj
      exact absurd (nd_ix nd hj hn) (Nat.ne_of_lt hlt)
    rw [hacc, take_snoc hn, plD_snoc, putK_new _ (by rw [plD_get, if_neg hno]), List.length_take, Nat.min_eq_left (by omega), Int.zero_add]
  rw [List.length_map, List.take_length] at hacc
  subst hacc
  have e03 := (e1.trans e2).trans e3
  have hA3 := HeapAt.mono (Tk.all e03) hA
  have hod3 := Tk.all e3 _ _ hod'
  have hT3 := hT1.keep (e2.trans e3)
  -- the registers
  refine ⟨_, rfl, _, rfl, a, h, rfl, hA3, fun r hr => ?_⟩
  refine ⟨r, rfl, ⟨_, hr.sq⟩, fun D hD => ?_⟩
  refine lcF K rV h.regs (fun _ => true) _ walk_tup rfl (List.length_map _) (Nat.le_trans ok.nreg (by decide)) (fun r => rV (plR ord r)) hD (fun H' e => Tk.all e _ _ hr.sq) (fun r H5 _ _ R z => z) (fun _ => rfl) (fun r H5 _ _ R z => tyesR z)
    (fun r H5 _ _ e R z => ⟨_, rfl, pl, rfl, .inl ⟨_, .inl (ExA.at e k1)⟩, _, rfl, dgR (ExA.at e k1) (z _ (ExM.refl _ _))⟩) (fun H5 e5 hd => ?_)
  rw [filter_all] at hd
  refine ⟨D, _, rfl, SqL.of hd, fun l1 o1 fl1 no1 => ?_⟩
  have e36 : ExA H3 (upd H5 l1 (.frz o1 (.tup (h.regs.map fun r => rV (plR ord r))))) := e5.put (ExA.free e5 fl1)
  have hr6 : SqZ (upd H5 l1 (.frz o1 (.tup (h.regs.map fun r => rV (plR ord r))))) l1 ((h.regs.map (plR ord)).map rV) := SqZ.of no1 (by rw [upd_same, List.map_map]; rfl)
  generalize upd H5 l1 (.frz o1 (.tup (h.regs.map fun r => rV (plR ord r)))) = H6 at e36 hr6 ⊢
  have k6 := ExA.at e36 k1
  -- what is kept
  have zk : h.kept.length ≤ 1000 := by
    have z1 := nd_sub (nodup_of_up ok.kup) ok.kept
    have := ok.size
    unfold Hd.nums at z1
    rw [List.length_map] at z1
    omega
  refine ⟨_, rfl, _, rfl, a, h, rfl, HeapAt.mono (Tk.all e36) hA3, fun k hk => ?_⟩
  refine ⟨k, rfl, ⟨_, hk⟩, fun D2 hD2 => ?_⟩
  refine lcF K V.int h.kept (fun n => decide (n ∈ ord)) _ walk_tup rfl (List.length_map _) (by omega) (fun n => V.int (ixI ord n)) hD2 (fun H' e => Tk.all e _ _ hk) (fun n H7 _ _ R z => z) (fun _ => rfl)
    (fun n H7 _ e R z => ?_) (fun n H7 _ c e R z => ⟨_, rfl, _, rfl, pl, _, rfl, dgI (ExA.at e k6) (of_decide_eq_true c), z _ (ExM.refl _ _)⟩) (fun H7 e7 hd2 => ?_)
  · obtain ⟨a1, o2, g1, g2, g3⟩ := dgB (ExA.at e k6) n (R := fun v => ∃ b, v = .bl b ∧ R b H7) ⟨_, rfl, z _ (ExM.refl _ _)⟩
    exact ⟨_, rfl, _, rfl, a1, o2, g1, g2, g3⟩
  have emap : (h.kept.filter fun n => decide (n ∈ ord)).map (fun n => V.int (ixI ord n)) = ((h.kept.filter fun n => decide (n ∈ ord)).map (ixI ord)).map V.int := by rw [List.map_map]; rfl
  rw [emap] at hd2
  refine ⟨D2, _, rfl, SqL.of hd2, fun ys p2 hperm hle fp2 => ?_⟩
  have ek := cnKept_eq nd ok.kup hperm hle
  subst ek
  refine ⟨p2, _, rfl, SqL.of upd_same, fun l2 o2 fl2 no2 => ?_⟩
  have e68 : ExA H6 (upd (upd H7 p2 (.lst ((cnKept ord h.kept).map V.int))) l2 (.frz o2 (.tup ((cnKept ord h.kept).map V.int)))) := (e7.put (ExA.free e7 fp2)).trans (ExM.new fl2)
  have hk8 : SqT K (upd (upd H7 p2 (.lst ((cnKept ord h.kept).map V.int))) l2 (.frz o2 (.tup ((cnKept ord h.kept).map V.int)))) l2 ((cnKept ord h.kept).map V.int) := (SqZ.of no2 upd_same).sq
  generalize upd (upd H7 p2 (.lst ((cnKept ord h.kept).map V.int))) l2 (.frz o2 (.tup ((cnKept ord h.kept).map V.int))) = H8 at e68 hk8 ⊢
  have e38 := e36.trans e68
  have k8 := ExA.at e38 k1
  have hT8 := hT3.keep e38
  have hod8 := Tk.all e38 _ _ hod3
  -- the objects
  refine ⟨_, rfl, od, rfl, ⟨_, hod8⟩, fun D3 hD3 => ?_⟩
  refine lcR K V.int ord (fun _ => true) (fun n y H => ∃ b, y = .ref b ∧ ObAt K H b (cnOb ord (obD h n))) _ walk_tup rfl (List.length_map _) (by omega) hD3 (fun H' e => Tk.all e _ _ hod8)
    (fun q y H1 H2 t z => by obtain ⟨b, rfl, z⟩ := z; exact ⟨b, rfl, ObAt.mono t z⟩) (fun n H9 _ _ R z => z) (fun _ => rfl) (fun n H9 _ _ R z => tyesR z) (fun n H9 hn _ e R z => ?_) (fun H9 ys e9 hd3 hp9 => ?_)
  · obtain ⟨a', o', v1, g, ob1, ob2, ob3, ob4⟩ := (hT8.keep e).look ok (hnm n hn)
    rw [obD_of ob1] at z
    refine ⟨_, rfl, _, rfl, th, _, rfl, g, _, rfl, _, _, rfl, a', o', pl, ord, rfl, rfl, ob4, (ok.obs _ ob2).small, ExA.at e k8, by rw [ob3]; exact hn, fun e' he' hk' => ?_, fun H' p e' hp' => z _ _ e' ⟨p, rfl, hp'⟩⟩
    exact cl2 n e'.1 e'.2 hn hk' (by unfold esOf; rw [ob1]; exact he')
  rw [filter_all] at hp9
  obtain ⟨bs, rfl, hbs⟩ := paired_refs hp9
  have hbs2 := paired_mapR (F := ObAt K H9) (fun n => cnOb ord (obD h n)) hbs
  rw [← cn_obs ord ord hnm] at hbs2
  refine ⟨D3, _, rfl, SqL.of hd3, fun l3 o3 fl3 no3 => ?_⟩
  have e8a : ExA H8 (upd H9 l3 (.frz o3 (.tup (bs.map V.ref)))) := e9.put (ExA.free e9 fl3)
  have hoa : SqT K (upd H9 l3 (.frz o3 (.tup (bs.map V.ref)))) l3 (bs.map V.ref) := (SqZ.of no3 upd_same).sq
  have hbsa := pmp hbs2 fun _ _ z => ObAt.mono (Tk.new (o := .frz o3 (.tup (bs.map V.ref))) fl3) z
  generalize upd H9 l3 (.frz o3 (.tup (bs.map V.ref))) = Ha at e8a hoa hbsa ⊢
  have e3a := e38.trans e8a
  have ka := ExA.at e3a k1
  -- the watches
  refine ⟨_, rfl, _, rfl, a, h, rfl, HeapAt.mono (Tk.all e3a) hA3, fun w ws hw hws => ?_⟩
  refine ⟨w, rfl, ⟨_, hw⟩, fun D4 hD4 => ?_⟩
  refine lcR K (fun q : Addr × (Int × Int) => V.ref q.1) (ws.zip h.wat) (fun q => decide (q.2.1 ∈ ord)) (fun q y H => ∃ b, y = .ref b ∧ PairAt K H b (ixI ord q.2.1, q.2.2)) _ walk_tup (zip_refs hws) (by rw [List.length_map, zip_len hws]) (by rw [zip_len hws, plen hws]; have := ok.nwat; omega) hD4 (fun H' e => Tk.all e _ _ hw)
    (fun q y H1 H2 t z => by obtain ⟨b, rfl, z⟩ := z; exact ⟨b, rfl, PairAt.mono t z⟩) (fun q Hb hq e R z => ⟨q.1, _, rfl, Tk.all e _ _ (zip_all hws q hq), rfl, _, _, rfl, _, _, rfl, rfl, z⟩) (fun _ => rfl)
    (fun q Hb hq e R z => ?_) (fun q Hb hq c e R z => ⟨_, rfl, _, rfl, pl, _, rfl, dgI (ExA.at e ka) (of_decide_eq_true c), _, rfl, sz (by show 2 ≤ 100000; decide), fun p fp => z _ _ (ExM.new fp) ⟨p, rfl, SqT.of upd_same⟩⟩) (fun Hb ys eb hd4 hpb => ?_)
  · obtain ⟨a1, o2, g1, g2, g3⟩ := dgB (ExA.at e ka) q.2.1 (R := fun v => ∃ b, v = .bl b ∧ R b Hb) ⟨_, rfl, z _ (ExM.refl _ _)⟩
    exact ⟨_, rfl, _, rfl, a1, o2, g1, g2, g3⟩
  obtain ⟨cs, rfl, hcs⟩ := paired_refs hpb
  have hcs2 := paired_mapR (F := PairAt K Hb) (fun q : Addr × (Int × Int) => (ixI ord q.2.1, q.2.2)) hcs
  rw [zip_filter_map hws (fun e => decide (e.1 ∈ ord)) (fun e => (ixI ord e.1, e.2))] at hcs2
  have e3b := e3a.trans eb
  refine ⟨_, rfl, od, _, rfl, .inr (Tk.all e3b _ _ hod3), _, rfl, _, rfl, _, rfl, _, rfl, D4, _, rfl, SqL.of hd4, fun l4 o4 fl4 no4 => ⟨sz (by show 6 ≤ 100000; decide), fun p fp => ?_⟩⟩
  have ec : ExA Hb (upd (upd Hb l4 (.frz o4 (.tup (cs.map V.ref)))) p (.tup [.str "heap", .int (((ord.map V.int).length : Nat) : Int), .ref l1, .ref l2, .ref l3, .ref l4])) := (ExM.new fl4).trans (ExM.new fp)
  have hw4 : SqT K (upd (upd Hb l4 (.frz o4 (.tup (cs.map V.ref)))) p (.tup [.str "heap", .int (((ord.map V.int).length : Nat) : Int), .ref l1, .ref l2, .ref l3, .ref l4])) l4 (cs.map V.ref) := Tk.new fp _ _ ((SqZ.of no4 upd_same).sq)
  refine q _ p ((e03.trans e3b).trans ec) ⟨l1, l2, l3, l4, cs, ?_, ?_, ?_, ⟨bs, ?_, ?_⟩, hw4, pmp hcs2 fun _ _ z => PairAt.mono (Tk.all ec) z⟩
  · show SqT K _ p [.str "heap", .int ((ord.length : Nat) : Int), _, _, _, _]
    rw [← List.length_map (f := V.int)]
    exact SqT.of upd_same
  · exact SqZ.mono (K := K) (Tk.all (((e68.trans e8a).trans eb).trans ec)) hr6
  · exact Tk.all ((e8a.trans eb).trans ec) _ _ hk8
  · exact Tk.all (eb.trans ec) _ _ hoa
  · exact pmp hbsa fun _ _ z => ObAt.mono (Tk.all (eb.trans ec)) z
end
end Wc
namespace Wc
open PySem L2
section
variable (K : PySem.W.Frag)
def R__law_of : V2 := fun x y H Q => ∃ (a : Addr) (h : Hd) (n : Int), x = .ref a ∧ y = .int n ∧ HeapAt K H a h ∧ h.Ok ∧ n ∈ h.nums ∧ ∀ oa o, obOf h n = some o → o ∈ h.obs → o.num = n → ObAt K H oa o → Q (.ref oa) H
abbrev sp__law_of : Sp := sp2 (R__law_of K)
def R__law_place : V2 := fun x y H Q => ∃ (a : Addr) (ord : List Int) (r : Rf), x = .ref a ∧ y = rV r ∧ SqL K H a (ord.map V.int) ∧ Q (rV (plR ord r)) H
abbrev sp__law_place : Sp := sp2 (R__law_place K)
def R__law_marked : V1 := fun x H Q => ∃ (a : Addr) (h : Hd), x = .ref a ∧ HeapAt K H a h ∧ h.Ok ∧ NewL (marked h) H Q
abbrev sp__law_marked : Sp := sp1 (R__law_marked K)
def R__law_canonical : V2 := fun x y H Q => ∃ (a : Addr) (h : Hd) (od : Addr), x = .ref a ∧ y = .ref od ∧ HeapAt K H a h ∧ h.Ok ∧ SqL K H od ((marked h).map V.int) ∧ ∀ H' p, ExA H H' → HeapAt K H' p (cnHd h (marked h)) → Q (.ref p) H'
abbrev sp__law_canonical : Sp := sp2 (R__law_canonical K)
end
theorem idx_le : ∀ (l : List Int) (m : Nat) (n : Int), l[m]? = some n → l.idxOf n ≤ m
  | [], m, n, e => by simp at e
  | x :: r, 0, n, e => by
    have e : x = n := by simpa using e
    rw [List.idxOf_cons, show (x == n) = true by simpa using e]; exact Nat.le_refl _
  | x :: r, m + 1, n, e => by
    rw [List.idxOf_cons]
    have := idx_le r m n (by simpa using e)
    cases (x == n)
    · show r.idxOf n + 1 ≤ m + 1; omega
    · exact Nat.zero_le _
theorem ixL {K : PySem.W.Frag} {H : Hp} {a : Addr} {ord : List Int} {n : Int} {Q : VK} (hn : n ∈ ord) (ha : SqL K H a (ord.map V.int)) (q : Q (.int (ixI ord n)) H) : rIndex K (.ref a) [.int n] H Q := by
  refine ⟨a, _, _, ord.idxOf n, .int n, rfl, rfl, ha, rfl, flat_ints _, by rw [List.getElem?_map, ix_at hn]; rfl, by show (n == n) = true; simp, fun m z hm hz => ?_, q⟩
  rw [List.getElem?_map] at hz
  cases e : ord[m]? with
  | none => rw [e] at hz; cases hz
  | some x =>
    rw [e] at hz
    cases hz
    show (x == n) = false
    have : x ≠ n := fun z => by
      subst z
      have := idx_le ord m x e
      omega
    simpa using this
theorem ixE {ord : List Int} {n : Int} (hn : n ∈ ord) : (ord.map V.int)[ord.idxOf n]? = some (.int n) := by rw [List.getElem?_map, ix_at hn]; rfl
theorem ixS (n : Int) : eqV (.int n) (.int n) = true := by show (n == n) = true; simp
theorem ixN {ord : List Int} {n : Int} (m : Nat) (z : V) (hm : m < ord.idxOf n) (hz : (ord.map V.int)[m]? = some z) : eqV z (.int n) = false := by
  rw [List.getElem?_map] at hz
  cases e : ord[m]? with
  | none => rw [e] at hz; cases hz
  | some x =>
    rw [e] at hz
    cases hz
    show (x == n) = false
    have : x ≠ n := fun z => by
      subst z
      have := idx_le ord m x e
      omega
    simpa using this
theorem int_eqI {a b : Int} : decide (V.int a = V.int b) = decide (a = b) := decide_eq_decide.mpr ⟨V.int.inj, fun e => by rw [e]⟩
theorem notInL {K : PySem.W.Frag} {H : Hp} {c : Addr} {gs : List Int} (hC : SqL K H c (gs.map V.int)) (n : Int) (R : Bool → Hp → Prop) (z : R (decide (n ∉ gs)) H) : rIn K true (.int n) (.ref c) H fun x H1 => ∃ b, x = .bl b ∧ R b H1 :=
  ⟨_, _, rfl, .inl hC, rfl, flat_ints _, _, rfl, by show R (!inV _ _) _; rw [inV_int, ← decide_not]; exact z⟩
theorem isInL {K : PySem.W.Frag} {H : Hp} {c : Addr} {gs : List Int} (hC : SqL K H c (gs.map V.int)) (n : Int) (R : Bool → Hp → Prop) (z : R (decide (n ∈ gs)) H) : rIn K false (.int n) (.ref c) H fun x H1 => ∃ b, x = .bl b ∧ R b H1 :=
  ⟨_, _, rfl, .inl hC, rfl, flat_ints _, _, rfl, by show R (inV _ _) _; rw [inV_int]; exact z⟩
theorem or_joinK {t u : TT} {σ : L2.St} {H : Hp} {Q : Bool → Hp → Prop} (b c : Bool) (ht : ∀ Q' : Bool → Hp → Prop, Q' b H → t σ H Q') (hu : b = false → ∀ Q' : Bool → Hp → Prop, Q' c H → u σ H Q') (h : Q (b || c) H) : tOr t u σ H Q := by
  refine ht _ ?_
  cases b with
  | true => exact iteT h
  | false => exact iteF (hu rfl _ h)
section
variable {P : Program} {w : World} {K : PySem.W.Frag} {mg : Str → Option Value} {base : Heap}
theorem ok__law_of {f : Addr} {fd : FuncData} {cd : Value} (F : Df K "_law_of" s__law_of f fd cd) (T : Txt mg) : FnOk P w K mg base CX0 1 f fd ["heap", "number"] (sp__law_of K) := by
  have nd := sc__law_of.nd
  refine F.ok sc__law_of (fun vs H Q E h => ?_) (fun A outer s H vs Q E hr h => ?_)
  · obtain ⟨_, _, rfl, _⟩ := h; rfl
  have hu := hu_of hr
  obtain ⟨x0, x1, rfl, h⟩ := h
  refine ⟨_, (pss_cons (ps_for PassesOwn.never rfl (show PI _ _ _ (iTup K _) from pi_tup (pe_ix (r := rIxT K) ix_tup (pv 0) pe_int (fun _ _ => rfl))) (pg_name (i := 2) nd rfl (by first | exact Or.inl rfl | exact Or.inr rfl))
    (pss_one (ps_if (pt_cmpR op_eq (pe_ix (r := rIxT K) ix_tup (pv 2) pe_int (fun _ _ => rfl)) (pv 1) (nomark _)) (pss_one (ps_ret (pv 2))) pss_nil)))
    (pss_one (ps_ret pe_non))), ?_⟩
  obtain ⟨a, h, n, rfl, rfl, ⟨r, k, oo, w, ws, h1, h2, h3, ⟨os, ho, hobs⟩, _⟩, ok, hn, q⟩ := h
  have hl := plen hobs
  refine ⟨_, rfl, a, _, _, _, rfl, rfl, h1, at4, oo, rfl, ⟨_, ho⟩, ?_⟩
  refine for_it (walk_tup (xs := os.map V.ref)) (fun i σ2 H2 => ∃ u2 : Option V, σ2 = [some (.ref a), some (.int n), u2] ∧ H2 = H ∧ n ∉ h.nums.take i)
    ⟨none, rfl, rfl, by simp⟩ (fun i σ2 H2 _ p => ?_) (fun i x σ2 H2 H3 hi p y => ?_) (fun σ2 H2 p => ?_)
  · obtain ⟨_, _, rfl, _⟩ := p
    exact ho
  · obtain ⟨rfl, hx⟩ := y
    obtain ⟨u2, rfl, rfl, hno⟩ := p
    rw [List.length_map] at hi
    obtain ⟨a1, hos⟩ : ∃ a1, os[i]? = some a1 := ⟨_, List.getElem?_eq_getElem hi⟩
    rw [List.getElem?_map, hos] at hx
    obtain rfl : V.ref a1 = x := Option.some.inj hx
    obtain ⟨o, hoi, hob⟩ := pget hobs hos
    obtain ⟨kn, vn, hnum⟩ := hob.num
    have hni : h.nums[i]? = some o.num := by unfold Hd.nums; rw [List.getElem?_map, hoi]; rfl
    refine ⟨_, rfl, a1, _, _, _, rfl, rfl, hnum, at1, _, rfl, rfl, _, rfl, ?_⟩
    rw [int_eqI]
    refine ite2 (fun c => ?_) (fun c => ?_)
    · have hm := List.mem_of_getElem? hoi
      have en : o.num = n := of_decide_eq_true c
      obtain ⟨o', e'⟩ := obOf_some hn
      obtain ⟨y1, y2⟩ := obOf_num e'
      have : o' = o := ob_uniq ok y1 hm (y2.trans en.symm)
      subst this
      exact ⟨_, rfl, q a1 o' e' hm en hob⟩
    · have c' := of_decide_eq_false (Bool.eq_false_iff.mpr c)
      refine ⟨_, rfl, rfl, fun z => ?_⟩
      rcases (mem_take_snoc hni).mp z with z | z
      · exact hno z
      · exact c' z.symm
  · obtain ⟨u2, rfl, rfl, hno⟩ := p
    rw [List.length_map, hl] at hno
    have e : h.nums.take h.obs.length = h.nums := by unfold Hd.nums; rw [← List.length_map (f := Ob.num), List.take_length]
    rw [e] at hno
    exact absurd hn hno
theorem ok__law_place {f : Addr} {fd : FuncData} {cd : Value} (F : Df K "_law_place" s__law_place f fd cd) (T : Txt mg) : FnOk P w K mg base CX0 1 f fd ["order", "number"] (sp__law_place K) := by
  have nd := sc__law_place.nd
  refine F.ok sc__law_place (fun vs H Q E h => ?_) (fun A outer s H vs Q E hr h => ?_)
  · obtain ⟨_, _, rfl, _⟩ := h; rfl
  have hu := hu_of hr
  obtain ⟨x0, x1, rfl, h⟩ := h
  refine ⟨_, (pss_cons (ps_if (PW.pt (pw_or (pt_cmpR op_isN (pv 1) pe_non (nomark _)) (pw_or1 (pt_cmpR (r := rIn K true) op_notIn_seq (pv 1) (pv 0) (by first | exact nomark _ | rfl))))) (pss_one (ps_ret pe_non)) pss_nil)
    (pss_one (ps_ret (show PE _ _ (tBM K "list" (rIndex K) _ _) from pe_bm PySem.F.plainAttrs_list PySem.F.slot_list_index PySem.F.type_list_index (r := rIndex K) mt_index (pv 0) (pa_cons (pv 1) pa_nil))))), ?_⟩
  obtain ⟨a, ord, r, rfl, rfl, ha, q⟩ := h
  cases r with
  | none => exact or_joinK true true (fun Q' z => ⟨_, rfl, rfl, _, rfl, z⟩) (fun e => nomatch e) (iteT q)
  | some m =>
    refine or_joinK false (decide (m ∉ ord)) (fun Q' z => ⟨_, rfl, rfl, _, rfl, z⟩) (fun _ Q' z => ⟨_, rfl, _, rfl, notInL ha m _ z⟩) ?_
    have q : Q (rV (if m ∈ ord then some (ixI ord m) else none)) H := q
    by_cases c : m ∈ ord
    · rw [if_pos c] at q
      rw [decide_eq_false (fun z => z c)]
      exact iteF ⟨_, rfl, .inl ⟨rfl, _, ha⟩, _, rfl, ixL c ha q⟩
    · rw [if_neg c] at q
      rw [decide_eq_true c]
      exact iteT q
theorem ok__law_canonical {f : Addr} {fd : FuncData} {cd : Value} (F : Df K "_law_canonical" s__law_canonical f fd cd) (T : Txt mg) (C__law_of : Cal P w K mg base 1 "_law_of" (sp__law_of K) []) (C__law_place : Cal P w K mg base 1 "_law_place" (sp__law_place K) []) : FnOk P w K mg base CX0 2 f fd ["heap", "order"] (sp__law_canonical K) := by
  have nd := sc__law_canonical.nd
  refine F.ok sc__law_canonical (fun vs H Q E h => ?_) (fun A outer s H vs Q E hr h => ?_)
  · obtain ⟨_, _, rfl, _⟩ := h; rfl
  have hu := hu_of hr
  obtain ⟨x0, x1, rfl, h⟩ := h
  refine ⟨_, (pss_cons (ps_set (i := 2) nd rfl (by first | exact Or.inl rfl | exact Or.inr rfl) (pe_lst pa_nil))
    (pss_cons (ps_for PassesOwn.never rfl (pi_range1 rfl T.range (pa_cons (pe_callB (r := Evl.rLenS K) call_len_seq rfl T.len PySem.boot_len (pa_cons (pv 1) pa_nil)) pa_nil)) (pg_name (i := 3) nd rfl (by first | exact Or.inl rfl | exact Or.inr rfl))
    (pss_cons (ps_set (i := 4) nd rfl (by first | exact Or.inl rfl | exact Or.inr rfl) (pe_c C__law_of hr (by first | exact Nat.le_refl _ | decide) rfl (pa_cons (pv 0) (pa_cons (pe_ix (r := rIxL K) ix_list (pv 1) (pv 3) (fun _ _ => rfl)) pa_nil))))
    (pss_one (ps_if (pt_cmpR op_eq (pe_ix (r := rIxT K) ix_tup (pv 4) pe_int (fun _ _ => rfl)) pe_str (nomark _)) (pss_one (ps_expr (pe_bm PySem.F.plainAttrs_list PySem.F.slot_list_append PySem.F.type_list_append mt_append (pv 2) (pa_cons (pe_tup (pa_cons pe_str (pa_cons (pv 3) (pa_cons (pe_callTy (r := rTupZ K) call_tupleZ rfl T.tuple (by decide +kernel) (pa_cons (pe_lc (own := [("number", 5)]) rfl nd (show PI _ _ _ (iTup K _) from pi_tup (pe_ix (r := rIxT K) ix_tup (pv 4) pe_int (fun _ _ => rfl))) (blkOk_by (own := [("number", 5)]) (N := N__law_canonical) (sc := defScope s__law_canonical) (by decide +kernel)) (fun _ _ _ _ _ => (pg_name (i := 5) nd rfl (by first | exact Or.inl rfl | exact Or.inr rfl))) (fun _ _ _ _ _ => pts_nil) (fun _ _ _ _ _ => (pe_c C__law_place hr (by first | exact Nat.le_refl _ | decide) rfl (pa_cons (pv 1) (pa_cons (pv 5) pa_nil))))) pa_nil)) pa_nil)))) pa_nil)))) (pss_one (ps_if (pt_cmpR op_eq (pe_ix (r := rIxT K) ix_tup (pv 4) pe_int (fun _ _ => rfl)) pe_str (nomark _)) (pss_one (ps_expr (pe_bm PySem.F.plainAttrs_list PySem.F.slot_list_append PySem.F.type_list_append mt_append (pv 2) (pa_cons (pe_tup (pa_cons pe_str (pa_cons (pv 3) (pa_cons (pe_c C__law_place hr (by first | exact Nat.le_refl _ | decide) rfl (pa_cons (pv 1) (pa_cons (pe_ix (r := rIxT K) ix_tup (pv 4) pe_int (fun _ _ => rfl)) pa_nil))) pa_nil)))) pa_nil)))) (pss_cons (ps_setLc (i := 6) (own := [("entry", 7)]) rfl nd rfl rfl (sw_true rfl rfl rfl (by decide +kernel)) (show PI _ _ _ (iTup K _) from pi_tup (pe_ix (r := rIxT K) ix_tup (pv 4) pe_int (fun _ _ => rfl))) (blkOk_by (own := [("entry", 7)]) (N := N__law_canonical) (sc := defScope s__law_canonical) (by decide +kernel)) (fun _ _ _ _ _ => (pg_name (i := 7) nd rfl (by first | exact Or.inl rfl | exact Or.inr rfl))) (fun _ _ _ _ _ => (pts_one (pt_cmpR (r := rIn K false) op_in_seq (pe_ix (r := rIxT K) ix_tup (pv 7) pe_int (fun _ _ => rfl)) (pv 1) (by first | exact nomark _ | rfl)))) (fun _ _ _ _ _ => (pe_tup (pa_cons (show PE _ _ (tBM K "list" (rIndex K) _ _) from pe_bm PySem.F.plainAttrs_list PySem.F.slot_list_index PySem.F.type_list_index (r := rIndex K) mt_index (pv 1) (pa_cons (pe_ix (r := rIxT K) ix_tup (pv 7) pe_int (fun _ _ => rfl)) pa_nil)) (pa_cons (show PE _ _ (tBM K "list" (rIndex K) _ _) from pe_bm PySem.F.plainAttrs_list PySem.F.slot_list_index PySem.F.type_list_index (r := rIndex K) mt_index (pv 1) (pa_cons (pe_ix (r := rIxT K) ix_tup (pv 7) pe_int (fun _ _ => rfl)) pa_nil)) pa_nil)))))
    (pss_one (ps_expr (pe_bm PySem.F.plainAttrs_list PySem.F.slot_list_append PySem.F.type_list_append mt_append (pv 2) (pa_cons (pe_tup (pa_cons pe_str (pa_cons (pv 3) (pa_cons (pe_callTy (r := rTupZ K) call_tupleZ rfl T.tuple (by decide +kernel) (pa_cons (pv 6) pa_nil)) pa_nil)))) pa_nil)))))))))))
    (pss_cons (ps_set (i := 8) nd rfl (by first | exact Or.inl rfl | exact Or.inr rfl) (pe_callTy (r := rTupZ K) call_tupleZ rfl T.tuple (by decide +kernel) (pa_cons (pe_lc (own := [("number", 5)]) rfl nd (show PI _ _ _ (iTup K _) from pi_tup (pe_ix (r := rIxT K) ix_tup (pv 0) pe_int (fun _ _ => rfl))) (blkOk_by (own := [("number", 5)]) (N := N__law_canonical) (sc := defScope s__law_canonical) (by decide +kernel)) (fun _ _ _ _ _ => (pg_name (i := 5) nd rfl (by first | exact Or.inl rfl | exact Or.inr rfl))) (fun _ _ _ _ _ => pts_nil) (fun _ _ _ _ _ => (pe_c C__law_place hr (by first | exact Nat.le_refl _ | decide) rfl (pa_cons (pv 1) (pa_cons (pv 5) pa_nil))))) pa_nil)))
    (pss_cons (ps_set (i := 9) nd rfl (by first | exact Or.inl rfl | exact Or.inr rfl) (pe_callTy (r := rTupZ K) call_tupleZ rfl T.tuple (by decide +kernel) (pa_cons (pe_callB (r := rSortedI K) cr_sortedI rfl T.sorted (by decide +kernel) (pa_cons (pe_lc (own := [("number", 5)]) rfl nd (show PI _ _ _ (iTup K _) from pi_tup (pe_ix (r := rIxT K) ix_tup (pv 0) pe_int (fun _ _ => rfl))) (blkOk_by (own := [("number", 5)]) (N := N__law_canonical) (sc := defScope s__law_canonical) (by decide +kernel)) (fun _ _ _ _ _ => (pg_name (i := 5) nd rfl (by first | exact Or.inl rfl | exact Or.inr rfl))) (fun _ _ _ _ _ => (pts_one (pt_cmpR (r := rIn K false) op_in_seq (pv 5) (pv 1) (by first | exact nomark _ | rfl)))) (fun _ _ _ _ _ => (show PE _ _ (tBM K "list" (rIndex K) _ _) from pe_bm PySem.F.plainAttrs_list PySem.F.slot_list_index PySem.F.type_list_index (r := rIndex K) mt_index (pv 1) (pa_cons (pv 5) pa_nil)))) pa_nil)) pa_nil)))
    (pss_cons (ps_set (i := 10) nd rfl (by first | exact Or.inl rfl | exact Or.inr rfl) (pe_callTy (r := rTupZ K) call_tupleZ rfl T.tuple (by decide +kernel) (pa_cons (pe_lc (own := [("watch", 11)]) rfl nd (show PI _ _ _ (iTup K _) from pi_tup (pe_ix (r := rIxT K) ix_tup (pv 0) pe_int (fun _ _ => rfl))) (blkOk_by (own := [("watch", 11)]) (N := N__law_canonical) (sc := defScope s__law_canonical) (by decide +kernel)) (fun _ _ _ _ _ => (pg_name (i := 11) nd rfl (by first | exact Or.inl rfl | exact Or.inr rfl))) (fun _ _ _ _ _ => (pts_one (pt_cmpR (r := rIn K false) op_in_seq (pe_ix (r := rIxT K) ix_tup (pv 11) pe_int (fun _ _ => rfl)) (pv 1) (by first | exact nomark _ | rfl)))) (fun _ _ _ _ _ => (pe_tup (pa_cons (show PE _ _ (tBM K "list" (rIndex K) _ _) from pe_bm PySem.F.plainAttrs_list PySem.F.slot_list_index PySem.F.type_list_index (r := rIndex K) mt_index (pv 1) (pa_cons (pe_ix (r := rIxT K) ix_tup (pv 11) pe_int (fun _ _ => rfl)) pa_nil)) (pa_cons (pe_ix (r := rIxT K) ix_tup (pv 11) pe_int (fun _ _ => rfl)) pa_nil))))) pa_nil)))
    (pss_one (ps_ret (pe_tup (pa_cons pe_str (pa_cons (pe_callB (r := Evl.rLenS K) call_len_seq rfl T.len PySem.boot_len (pa_cons (pv 1) pa_nil)) (pa_cons (pv 8) (pa_cons (pv 9) (pa_cons (pe_callTy (r := rTupZ K) call_tupleZ rfl T.tuple (by decide +kernel) (pa_cons (pv 2) pa_nil)) (pa_cons (pv 10) pa_nil)))))))))))))), ?_⟩
  obtain ⟨a, h, od, rfl, rfl, hA, ok, hod, q⟩ := h
  have nd := marked_nd h
  have hnm := marked_num ok
  obtain ⟨cl1, cl2⟩ := marked_closed ok
  have zo : (marked h).length ≤ 50 := by
    have z1 := mk_len ok h.nums.length
    have z3 : h.nums.length ≤ 50 := by unfold Hd.nums; rw [List.length_map]; exact ok.size
    unfold marked; omega
  generalize hord : marked h = ord at *
  refine ⟨Nat.zero_le _, fun l fl => ?_⟩
  have e1 : ExA H (upd H l (.lst [])) := ExM.new fl
  have hl1 : (upd H l (.lst [])) l = some (.lst []) := upd_same
  generalize upd H l (.lst []) = H1 at e1 hl1 ⊢
  have hod1 := SqL.all e1 hod
  have hA1 := HeapAt.mono (Tk.all e1) hA
  refine ⟨_, rfl, od, _, rfl, .inl hod1, _, rfl, by rw [List.length_map]; omega, by rw [List.length_map]; omega, ?_⟩
  refine for_range (lo := 0) (n := (((ord.map V.int).length : Nat) : Int).toNat) (fun i σ3 H3 => ∃ u3 u4 u6 bs, σ3 = [some (.ref a), some (.ref od), some (.ref l), u3, u4, none, u6, none, none, none, none, none] ∧ ExA H H3 ∧ H3 l = some (.lst (bs.map V.ref)) ∧
      Paired (ObAt K H3) bs ((ord.take i).map fun n => cnOb ord (obD h n)) ∧ bs.length ≤ i) ⟨none, none, none, [], rfl, e1, hl1, .nil, Nat.le_refl _⟩ (fun i σ3 H3 hi p => ?_) (fun σ3 H3 p => ?_)
  · obtain ⟨u3, u4, u6, bs, rfl, x3, hl3, hbs, zb⟩ := p
    rw [List.length_map] at hi
    have hi : i < ord.length := by omega
    obtain ⟨n, hn⟩ : ∃ n, ord[i]? = some n := ⟨_, List.getElem?_eq_getElem hi⟩
    have hnn : n ∈ ord := List.mem_of_getElem? hn
    have e0 : (0 : Int) + (i : Int) = (i : Int) := Int.zero_add _
    have hod3 := SqL.all x3 hod
    have hA3 := HeapAt.mono (Tk.all x3) hA
    refine ⟨_, rfl, _, rfl, _, rfl, od, _, _, V.int n, rfl, rfl, hod3, by rw [e0]; exact atI_nat (by rw [List.getElem?_map, hn]; rfl), _, _, rfl, a, h, n, rfl, rfl, hA3, ok, hnm n hnn, fun ao ob ob1 ob2 ob3 hoa => ?_⟩
    have ek : (0 : Int) + (i : Int) = ixI ord ob.num := by rw [e0, ob3]; unfold ixI; rw [ix_of nd hn]
    rw [ek]
    have eD : obD h n = ob := obD_of ob1
    have sm := (ok.obs _ ob2).small
    have fin : ∀ (p : Addr) (H5 : Hp) (v6 : Option V), ExA H3 H5 → ObAt K H5 p (cnOb ord ob) →
        ∃ bs', (upd H5 l (.lst (bs.map V.ref ++ [V.ref p]))) l = some (.lst (bs'.map V.ref)) ∧ ExA H (upd H5 l (.lst (bs.map V.ref ++ [V.ref p]))) ∧
          Paired (ObAt K (upd H5 l (.lst (bs.map V.ref ++ [V.ref p])))) bs' ((ord.take (i + 1)).map fun n => cnOb ord (obD h n)) ∧ bs'.length ≤ i + 1 := fun p H5 v6 e5 hp => by
      have tl : Tk K H5 (upd H5 l (.lst (bs.map V.ref ++ [V.ref p]))) := Tk.lst (ExA.at e5 hl3)
      refine ⟨bs ++ [p], by rw [upd_same, List.map_append]; rfl, (x3.trans e5).put fl, ?_, by rw [List.length_append, List.length_singleton]; omega⟩
      rw [take_snoc hn, List.map_append]
      refine psnoc (ObAt.mono tl ?_) (pmp hbs fun _ _ z => ObAt.mono (Tk.trans (Tk.all e5) tl) z)
      show ObAt K H5 p (cnOb ord (obD h n))
      rw [eD]; exact hp
    have zl : ∀ H5 : Hp, (bs.map V.ref).length < sizeLine := fun _ => szl (by rw [List.length_map]; omega)
    cases ob with
    | rcd m fs =>
      obtain ⟨t, g1, g2⟩ := hoa
      refine ⟨_, rfl, ao, _, _, _, rfl, rfl, g1, at0, rfl, _, rfl, iteT ?_⟩
      refine ⟨_, rfl, .inl ⟨rfl, _, SqL.of hl3⟩, _, rfl, _, rfl, ao, _, _, _, rfl, rfl, g1, at2, t, rfl, ⟨_, g2.sq⟩, fun D hD => ?_⟩
      refine lcF K rV fs (fun _ => true) _ walk_tup rfl (List.length_map _) (Nat.le_trans sm (by decide)) (fun r => rV (plR ord r)) hD (fun H' e => Tk.all e _ _ g2.sq) (fun r H5 _ _ R z => z) (fun _ => rfl) (fun r H5 _ _ R z => tyesR z)
        (fun r H5 _ _ e R z => ⟨_, rfl, _, rfl, _, _, rfl, od, ord, r, rfl, rfl, SqL.all e hod3, z _ (ExM.refl _ _)⟩) (fun H5 e5 hd => ?_)
      rw [filter_all] at hd
      refine ⟨D, _, rfl, SqL.of hd, fun l2 o2 fl2 no => ⟨sz (by show 3 ≤ 100000; decide), fun p fp => ?_⟩⟩
      have np : p ≠ l2 := fun z => by rw [z, upd_same] at fp; cases fp
      have e6 := (e5.put (o := .frz o2 (.tup (fs.map fun r => rV (plR ord r)))) (ExA.free e5 fl2)).trans (ExM.new (o := .tup [.str "record", .int (ixI ord (Ob.rcd m fs).num), .ref l2]) fp)
      obtain ⟨bs', g5, g6, g7, g8⟩ := fin p _ none e6 ⟨l2, SqT.of upd_same, SqZ.of no (by rw [upd_ne np.symm, upd_same, List.map_map]; rfl)⟩
      exact ⟨l, _, _, rfl, rfl, ExA.at e6 hl3, zl H5, _, _, _, bs', rfl, g6, g5, g7, g8⟩
    | weak m t =>
      have g1 : SqT K H3 ao [.str "weak", .int m, rV t] := hoa
      refine ⟨_, rfl, ao, _, _, _, rfl, rfl, g1, at0, rfl, _, rfl, iteF ?_⟩
      refine ⟨_, rfl, ao, _, _, _, rfl, rfl, g1, at0, rfl, _, rfl, iteT ?_⟩
      refine ⟨_, rfl, .inl ⟨rfl, _, SqL.of hl3⟩, _, rfl, _, rfl, _, rfl, ao, _, _, _, rfl, rfl, g1, at2, _, _, rfl, od, ord, t, rfl, rfl, hod3, sz (by show 3 ≤ 100000; decide), fun p fp => ?_⟩
      obtain ⟨bs', g5, g6, g7, g8⟩ := fin p _ none (ExM.new fp) (SqT.of upd_same)
      exact ⟨l, _, _, rfl, rfl, ExA.at (ExM.new fp) hl3, zl H3, _, _, _, bs', rfl, g6, g5, g7, g8⟩
    | tab m es =>
      obtain ⟨t, ps, g1, g2, g3⟩ := hoa
      refine ⟨_, rfl, ao, _, _, _, rfl, rfl, g1, at0, rfl, _, rfl, iteF ?_⟩
      refine ⟨_, rfl, ao, _, _, _, rfl, rfl, g1, at0, rfl, _, rfl, iteF ?_⟩
      refine ⟨_, rfl, ao, _, _, _, rfl, rfl, g1, at2, t, rfl, ⟨_, g2.sq⟩, fun D hD => ?_⟩
      have zl2 := plen g3
      have sm' : es.length ≤ 1000 := sm
      have hcl : ∀ e ∈ es, e.1 ∈ ord → e.2 ∈ ord := fun e he hk => cl2 n e.1 e.2 hnn hk (by unfold esOf; rw [ob1]; exact he)
      refine lcR K (fun q : Addr × (Int × Int) => V.ref q.1) (ps.zip es) (fun q => decide (q.2.1 ∈ ord)) (fun q y H => ∃ b, y = .ref b ∧ PairAt K H b (ixI ord q.2.1, ixI ord q.2.2)) _ walk_tup (zip_refs g3) (by rw [List.length_map, zip_len g3]) (by rw [zip_len g3]; omega) hD (fun H' e => Tk.all e _ _ g2.sq)
        (fun q y H1 H2 t z => by obtain ⟨b, rfl, z⟩ := z; exact ⟨b, rfl, PairAt.mono t z⟩) (fun q H5 hq e R z => z) (fun _ => rfl)
        (fun q H5 hq e R z => ⟨_, rfl, q.1, _, _, _, rfl, rfl, Tk.all e _ _ (zip_all g3 q hq), at0, _, rfl, isInL (SqL.all e hod3) _ _ (z _ (ExM.refl _ _))⟩) (fun q H5 hq c e R z => ?_) (fun H5 ys e5 hd hp5 => ?_)
      · have hk : q.2.1 ∈ ord := of_decide_eq_true c
        have hv : q.2.2 ∈ ord := hcl q.2 (List.of_mem_zip hq).2 hk
        have hq1 := Tk.all e _ _ (zip_all g3 q hq)
        exact ⟨_, rfl, .inl ⟨rfl, _, SqL.all e hod3⟩, _, rfl, q.1, _, _, _, rfl, rfl, hq1, at0, od, _, _, _, _, rfl, rfl, SqL.all e hod3, rfl, flat_ints _, ixE hk, ixS _, ixN, _, rfl, .inl ⟨rfl, _, SqL.all e hod3⟩, _, rfl, q.1, _, _, _, rfl, rfl, hq1, at1, od, _, _, _, _, rfl, rfl, SqL.all e hod3, rfl, flat_ints _, ixE hv, ixS _, ixN, sz (by show 2 ≤ 100000; decide), fun p fp => z _ _ (ExM.new fp) ⟨p, rfl, SqT.of upd_same⟩⟩
      obtain ⟨cs, rfl, hcs⟩ := paired_refs hp5
      have hcs2 := paired_mapR (F := PairAt K H5) (fun q : Addr × (Int × Int) => (ixI ord q.2.1, ixI ord q.2.2)) hcs
      rw [zip_filter_map g3 (fun e => decide (e.1 ∈ ord)) (fun e => (ixI ord e.1, ixI ord e.2))] at hcs2
      refine ⟨_, rfl, .inl ⟨rfl, _, SqL.of (ExA.at e5 hl3)⟩, _, rfl, _, rfl, D, _, rfl, SqL.of hd, fun l2 o2 fl2 no => ⟨sz (by show 3 ≤ 100000; decide), fun p fp => ?_⟩⟩
      have np : p ≠ l2 := fun z => by rw [z, upd_same] at fp; cases fp
      have e6 := (e5.put (o := .frz o2 (.tup (cs.map V.ref))) (ExA.free e5 fl2)).trans (ExM.new (o := .tup [.str "table", .int (ixI ord (Ob.tab m es).num), .ref l2]) fp)
      obtain ⟨bs', g5, g6, g7, g8⟩ := fin p _ none e6 ⟨l2, cs, SqT.of upd_same, SqZ.of no (by rw [upd_ne np.symm]; exact upd_same), pmp hcs2 fun _ _ z => PairAt.mono (Tk.trans (Tk.new fl2) (Tk.new fp)) z⟩
      exact ⟨l, _, _, rfl, rfl, ExA.at e6 hl3, zl H5, _, _, _, bs', rfl, g6, g5, g7, g8⟩
  obtain ⟨u3, u4, u6, bs, rfl, x3, hl3, hbs, zb⟩ := p
  have elen : (((ord.map V.int).length : Nat) : Int).toNat = ord.length := by rw [List.length_map]; omega
  rw [elen, List.take_length, ← cn_obs ord ord hnm] at hbs
  have hA3 := HeapAt.mono (Tk.all x3) hA
  have hod3 := SqL.all x3 hod
  obtain ⟨r, k, oo, w, ws, h1, hr, hk, _, hw, hws⟩ := id hA3
  -- the registers
  refine ⟨_, rfl, a, _, _, _, rfl, rfl, h1, at2, r, rfl, ⟨_, hr.sq⟩, fun D hD => ?_⟩
  refine lcF K rV h.regs (fun _ => true) _ walk_tup rfl (List.length_map _) (Nat.le_trans ok.nreg (by decide)) (fun r => rV (plR ord r)) hD (fun H' e => Tk.all e _ _ hr.sq) (fun r H5 _ _ R z => z) (fun _ => rfl) (fun r H5 _ _ R z => tyesR z)
    (fun r H5 _ _ e R z => ⟨_, rfl, _, rfl, _, _, rfl, od, ord, r, rfl, rfl, SqL.all e hod3, z _ (ExM.refl _ _)⟩) (fun H5 e5 hd => ?_)
  rw [filter_all] at hd
  refine ⟨D, _, rfl, SqL.of hd, fun l1 o1 fl1 no1 => ?_⟩
  have e36 : ExA H3 (upd H5 l1 (.frz o1 (.tup (h.regs.map fun r => rV (plR ord r))))) := e5.put (ExA.free e5 fl1)
  have hr6 : SqZ (upd H5 l1 (.frz o1 (.tup (h.regs.map fun r => rV (plR ord r))))) l1 ((h.regs.map (plR ord)).map rV) := SqZ.of no1 (by rw [upd_same, List.map_map]; rfl)
  generalize upd H5 l1 (.frz o1 (.tup (h.regs.map fun r => rV (plR ord r)))) = H6 at e36 hr6 ⊢
  -- what is kept
  have zk : h.kept.length ≤ 1000 := by
    have z1 := nd_sub (nodup_of_up ok.kup) ok.kept
    have := ok.size
    unfold Hd.nums at z1
    rw [List.length_map] at z1
    omega
  have hod6 := SqL.all e36 hod3
  have hk6 := Tk.all e36 _ _ hk
  refine ⟨_, rfl, a, _, _, _, rfl, rfl, Tk.all e36 _ _ h1, at3, k, rfl, ⟨_, hk6⟩, fun D2 hD2 => ?_⟩
  refine lcF K V.int h.kept (fun n => decide (n ∈ ord)) _ walk_tup rfl (List.length_map _) (by omega) (fun n => V.int (ixI ord n)) hD2 (fun H' e => Tk.all e _ _ hk6) (fun n H7 _ _ R z => z) (fun _ => rfl)
    (fun n H7 _ e R z => ⟨_, rfl, _, rfl, isInL (SqL.all e hod6) _ _ (z _ (ExM.refl _ _))⟩) (fun n H7 _ c e R z => ⟨_, rfl, .inl ⟨rfl, _, SqL.all e hod6⟩, _, rfl, od, _, _, _, _, rfl, rfl, SqL.all e hod6, rfl, flat_ints _, ixE (of_decide_eq_true c), ixS _, ixN, z _ (ExM.refl _ _)⟩) (fun H7 e7 hd2 => ?_)
  have emap : (h.kept.filter fun n => decide (n ∈ ord)).map (fun n => V.int (ixI ord n)) = ((h.kept.filter fun n => decide (n ∈ ord)).map (ixI ord)).map V.int := by rw [List.map_map]; rfl
  rw [emap] at hd2
  refine ⟨D2, _, rfl, SqL.of hd2, fun ys p2 hperm hle fp2 => ?_⟩
  have ek := cnKept_eq nd ok.kup hperm hle
  subst ek
  refine ⟨p2, _, rfl, SqL.of upd_same, fun l2 o2 fl2 no2 => ?_⟩
  have e68 : ExA H6 (upd (upd H7 p2 (.lst ((cnKept ord h.kept).map V.int))) l2 (.frz o2 (.tup ((cnKept ord h.kept).map V.int)))) := (e7.put (ExA.free e7 fp2)).trans (ExM.new fl2)
  have hk8 : SqT K (upd (upd H7 p2 (.lst ((cnKept ord h.kept).map V.int))) l2 (.frz o2 (.tup ((cnKept ord h.kept).map V.int)))) l2 ((cnKept ord h.kept).map V.int) := (SqZ.of no2 upd_same).sq
  generalize upd (upd H7 p2 (.lst ((cnKept ord h.kept).map V.int))) l2 (.frz o2 (.tup ((cnKept ord h.kept).map V.int))) = H8 at e68 hk8 ⊢
  have e38 := e36.trans e68
  have hod8 := SqL.all e38 hod3
  -- the watches
  have hw8 := Tk.all e38 _ _ hw
  have hws8 : Paired (PairAt K H8) ws h.wat := pmp hws fun _ _ z => PairAt.mono (Tk.all e38) z
  refine ⟨_, rfl, a, _, _, _, rfl, rfl, Tk.all e38 _ _ h1, at5, w, rfl, ⟨_, hw8⟩, fun D4 hD4 => ?_⟩
  refine lcR K (fun q : Addr × (Int × Int) => V.ref q.1) (ws.zip h.wat) (fun q => decide (q.2.1 ∈ ord)) (fun q y H => ∃ b, y = .ref b ∧ PairAt K H b (ixI ord q.2.1, q.2.2)) _ walk_tup (zip_refs hws8) (by rw [List.length_map, zip_len hws8]) (by rw [zip_len hws8, plen hws8]; have := ok.nwat; omega) hD4 (fun H' e => Tk.all e _ _ hw8)
    (fun q y H1 H2 t z => by obtain ⟨b, rfl, z⟩ := z; exact ⟨b, rfl, PairAt.mono t z⟩) (fun q Hb hq e R z => z) (fun _ => rfl)
    (fun q Hb hq e R z => ⟨_, rfl, q.1, _, _, _, rfl, rfl, Tk.all e _ _ (zip_all hws8 q hq), at0, _, rfl, isInL (SqL.all e hod8) _ _ (z _ (ExM.refl _ _))⟩) (fun q Hb hq c e R z => ?_) (fun Hb ys eb hd4 hpb => ?_)
  · have hq1 := Tk.all e _ _ (zip_all hws8 q hq)
    exact ⟨_, rfl, .inl ⟨rfl, _, SqL.all e hod8⟩, _, rfl, q.1, _, _, _, rfl, rfl, hq1, at0, od, _, _, _, _, rfl, rfl, SqL.all e hod8, rfl, flat_ints _, ixE (of_decide_eq_true c), ixS _, ixN, _, rfl, q.1, _, _, _, rfl, rfl, hq1, at1, sz (by show 2 ≤ 100000; decide), fun p fp => z _ _ (ExM.new fp) ⟨p, rfl, SqT.of upd_same⟩⟩
  obtain ⟨cs, rfl, hcs⟩ := paired_refs hpb
  have hcs2 := paired_mapR (F := PairAt K Hb) (fun q : Addr × (Int × Int) => (ixI ord q.2.1, q.2.2)) hcs
  rw [zip_filter_map hws8 (fun e => decide (e.1 ∈ ord)) (fun e => (ixI ord e.1, e.2))] at hcs2
  refine ⟨D4, _, rfl, SqL.of hd4, fun l4 o4 fl4 no4 => ?_⟩
  have e8c : ExA H8 (upd Hb l4 (.frz o4 (.tup (cs.map V.ref)))) := eb.put (ExA.free eb fl4)
  have hw4 : SqT K (upd Hb l4 (.frz o4 (.tup (cs.map V.ref)))) l4 (cs.map V.ref) := (SqZ.of no4 upd_same).sq
  have hcs3 := pmp hcs2 fun _ _ z => PairAt.mono (Tk.new (o := .frz o4 (.tup (cs.map V.ref))) fl4) z
  generalize upd Hb l4 (.frz o4 (.tup (cs.map V.ref))) = Hc at e8c hw4 hcs3 ⊢
  have e3c := e38.trans e8c
  refine ⟨_, rfl, od, _, rfl, .inl (SqL.all e3c hod3), _, rfl, _, rfl, _, rfl, l, _, rfl, SqL.of (ExA.at e3c hl3), fun l3 o3 fl3 no3 => ⟨_, rfl, sz (by show 6 ≤ 100000; decide), fun p fp => ?_⟩⟩
  have ec : ExA Hc (upd (upd Hc l3 (.frz o3 (.tup (bs.map V.ref)))) p (.tup [.str "heap", .int (((ord.map V.int).length : Nat) : Int), .ref l1, .ref l2, .ref l3, .ref l4])) := (ExM.new fl3).trans (ExM.new fp)
  have ho3 : SqT K (upd (upd Hc l3 (.frz o3 (.tup (bs.map V.ref)))) p (.tup [.str "heap", .int (((ord.map V.int).length : Nat) : Int), .ref l1, .ref l2, .ref l3, .ref l4])) l3 (bs.map V.ref) := Tk.new fp _ _ ((SqZ.of no3 upd_same).sq)
  refine q _ p ((x3.trans e3c).trans ec) ⟨l1, l2, l3, l4, cs, ?_, ?_, ?_, ⟨bs, ho3, ?_⟩, ?_, pmp hcs3 fun _ _ z => PairAt.mono (Tk.all ec) z⟩
  · show SqT K _ p [.str "heap", .int ((ord.length : Nat) : Int), _, _, _, _]
    rw [← List.length_map (f := V.int)]
    exact SqT.of upd_same
  · exact SqZ.mono (K := K) (Tk.all ((e68.trans e8c).trans ec)) hr6
  · exact Tk.all (e8c.trans ec) _ _ hk8
  · exact pmp hbs fun _ _ z => ObAt.mono (Tk.all (e3c.trans ec)) z
  · exact Tk.all ec _ _ hw4
end
end Wc
namespace Wc
open PySem L2
def newIn (h : Hd) (S : List Int) (n t : Int) : List Int := ((esOf h t).filter fun e => decide (e.1 ∈ S) && (decide (n = t) || decide (n = e.1))).map (·.2)
theorem foundL_vals (h : Hd) (S : List Int) (n : Int) : fldsOf h n ++ S.flatMap (newIn h S n) = foundL h S n := by
  unfold foundL pairsIn
  rw [List.filter_flatMap, List.map_flatMap]
  congr 1
  have e : newIn h S n = fun t => (((((esOf h t).filter fun e => decide (e.1 ∈ S)).map fun e => (t, e.1, e.2)).filter fun e : Int × Int × Int => decide (n = e.1) || decide (n = e.2.1)).map fun e => e.2.2) := by
    funext t
    unfold newIn
    rw [List.filter_map, List.map_map, List.filter_filter]
    refine congrArg (List.map _) (List.filter_congr fun e _ => ?_)
    exact Bool.and_comm _ _
  rw [e]
theorem new_len {h : Hd} (ok : h.Ok) (S : List Int) (n t : Int) : (newIn h S n t).length ≤ 1000 := by
  unfold newIn esOf
  rw [List.length_map]
  refine Nat.le_trans (List.length_filter_le _ _) ?_
  cases e : obOf h t with
  | none => exact Nat.zero_le _
  | some o =>
    have sm := (ok.obs _ (obOf_num e).1).small
    cases o with
    | rcd k fs => exact Nat.zero_le _
    | weak k r => exact Nat.zero_le _
    | tab k es => exact sm
theorem marked_stop {h : Hd} (ok : h.Ok) {k : Nat} (hk : k = h.nums.length ∨ (mk h k).length ≤ k) : mk h k = marked h :=
  hk.elim (fun e => by rw [e]; rfl) (marked_at ok)
theorem flds_len {h : Hd} (ok : h.Ok) (n : Int) : (fldsOf h n).length ≤ 1000 := by
  unfold fldsOf
  cases e : obOf h n with
  | none => exact Nat.zero_le _
  | some o =>
    have sm := (ok.obs _ (obOf_num e).1).small
    cases o with
    | rcd k fs => exact Nat.le_trans (List.length_filterMap_le _ _) sm
    | weak k r => exact Nat.zero_le _
    | tab k es => exact Nat.zero_le _
theorem foundL_sub {h : Hd} {S : List Int} {n m : Int} (hm : m ∈ foundL h S n) : m ∈ found h S n := by
  unfold foundL at hm
  unfold found
  rcases List.mem_append.mp hm with z | z
  · exact List.mem_append_left _ z
  · obtain ⟨e, he, ev⟩ := List.mem_map.mp z
    exact List.mem_append_right _ (List.mem_map.mpr ⟨e, (List.mem_filter.mp he).1, ev⟩)
section
variable {P : Program} {w : World} {K : PySem.W.Frag} {mg : Str → Option Value} {base : Heap}
theorem ok__law_marked {f : Addr} {fd : FuncData} {cd : Value} (F : Df K "_law_marked" s__law_marked f fd cd) (T : Txt mg) (C__law_of : Cal P w K mg base 1 "_law_of" (sp__law_of K) []) : FnOk P w K mg base CX0 2 f fd ["heap"] (sp__law_marked K) := by
  have nd := sc__law_marked.nd
  refine F.ok sc__law_marked (fun vs H Q E h => ?_) (fun A outer s H vs Q E hr h => ?_)
  · obtain ⟨_, rfl, _⟩ := h; rfl
  have hu := hu_of hr
  obtain ⟨x0, rfl, h⟩ := h
  refine ⟨_, (pss_cons (ps_set (i := 1) nd rfl (by first | exact Or.inl rfl | exact Or.inr rfl) (pe_lst pa_nil))
    (pss_cons (ps_for PassesOwn.never rfl (show PI _ _ _ (iTup K _) from pi_tup (pe_ix (r := rIxT K) ix_tup (pv 0) pe_int (fun _ _ => rfl))) (pg_name (i := 2) nd rfl (by first | exact Or.inl rfl | exact Or.inr rfl))
    (pss_one (ps_if (PW.pt (pw_and (pt_cmpR op_notN (pv 2) pe_non (nomark _)) (pw_and1 (pt_cmpR (r := rIn K true) op_notIn_seq (pv 2) (pv 1) (by first | exact nomark _ | rfl))))) (pss_one (ps_expr (pe_bm PySem.F.plainAttrs_list PySem.F.slot_list_append PySem.F.type_list_append mt_append (pv 1) (pa_cons (pv 2) pa_nil)))) pss_nil)))
    (pss_cons (ps_set (i := 3) nd rfl (by first | exact Or.inl rfl | exact Or.inr rfl) pe_int)
    (pss_cons (ps_for PassesOwn.never rfl (pi_range1 rfl T.range (pa_cons (pe_callB (r := Evl.rLenS K) call_len_seq rfl T.len PySem.boot_len (pa_cons (pe_ix (r := rIxT K) ix_tup (pv 0) pe_int (fun _ _ => rfl)) pa_nil)) pa_nil)) (pg_name (i := 4) nd rfl (by first | exact Or.inl rfl | exact Or.inr rfl))
    (pss_one (ps_if (pt_cmpR op_lt (pv 3) (pe_callB (r := Evl.rLenS K) call_len_seq rfl T.len PySem.boot_len (pa_cons (pv 1) pa_nil)) (nomark _)) (pss_cons (ps_set (i := 5) nd rfl (by first | exact Or.inl rfl | exact Or.inr rfl) (pe_c C__law_of hr (by first | exact Nat.le_refl _ | decide) rfl (pa_cons (pv 0) (pa_cons (pe_ix (r := rIxL K) ix_list (pv 1) (pv 3) (fun _ _ => rfl)) pa_nil))))
    (pss_cons (ps_set (i := 3) nd rfl (by first | exact Or.inl rfl | exact Or.inr rfl) (pe_op op_add (pv 3) pe_int))
    (pss_cons (ps_set (i := 6) nd rfl (by first | exact Or.inl rfl | exact Or.inr rfl) (pe_lst pa_nil))
    (Evl.pss_cut (ps_if (pt_cmpR op_eq (pe_ix (r := rIxT K) ix_tup (pv 5) pe_int (fun _ _ => rfl)) pe_str (nomark _)) (pss_one (ps_setLc (i := 6) (own := [("number", 2)]) rfl nd rfl rfl (sw_true rfl rfl rfl (by decide +kernel)) (show PI _ _ _ (iTup K _) from pi_tup (pe_ix (r := rIxT K) ix_tup (pv 5) pe_int (fun _ _ => rfl))) (blkOk_by (own := [("number", 2)]) (N := N__law_marked) (sc := defScope s__law_marked) (by decide +kernel)) (fun _ _ _ _ _ => (pg_name (i := 2) nd rfl (by first | exact Or.inl rfl | exact Or.inr rfl))) (fun _ _ _ _ _ => (pts_one (pt_cmpR op_notN (pv 2) pe_non (nomark _)))) (fun _ _ _ _ _ => (pv 2)))) pss_nil)
    (pss_cons (ps_for PassesOwn.never rfl (show PI _ _ _ (iList K _) from pi_list (pe_slice sl_list (pv 1) po_none (po_some (pv 3)))) (pg_name (i := 2) nd rfl (by first | exact Or.inl rfl | exact Or.inr rfl))
    (pss_cons (ps_set (i := 7) nd rfl (by first | exact Or.inl rfl | exact Or.inr rfl) (pe_c C__law_of hr (by first | exact Nat.le_refl _ | decide) rfl (pa_cons (pv 0) (pa_cons (pv 2) pa_nil))))
    (pss_one (ps_if (pt_cmpR op_eq (pe_ix (r := rIxT K) ix_tup (pv 7) pe_int (fun _ _ => rfl)) pe_str (nomark _)) (pss_one (ps_for PassesOwn.never rfl (show PI _ _ _ (iTup K _) from pi_tup (pe_ix (r := rIxT K) ix_tup (pv 7) pe_int (fun _ _ => rfl))) (pg_name (i := 8) nd rfl (by first | exact Or.inl rfl | exact Or.inr rfl))
    (pss_one (ps_if (PW.pt (pw_and (pt_cmpR (r := rIn K false) op_in_seq (pe_ix (r := rIxT K) ix_tup (pv 8) pe_int (fun _ _ => rfl)) (pe_slice sl_list (pv 1) po_none (po_some (pv 3))) (by first | exact nomark _ | rfl)) (pw_and1 (pt_cmpR (r := rIn K false) op_in_seq (pe_ix (r := rIxT K) ix_tup (pv 5) pe_int (fun _ _ => rfl)) (pe_lst (pa_cons (pv 2) (pa_cons (pe_ix (r := rIxT K) ix_tup (pv 8) pe_int (fun _ _ => rfl)) pa_nil))) (by first | exact nomark _ | rfl))))) (pss_one (ps_expr (pe_bm PySem.F.plainAttrs_list PySem.F.slot_list_append PySem.F.type_list_append mt_append (pv 6) (pa_cons (pe_ix (r := rIxT K) ix_tup (pv 8) pe_int (fun _ _ => rfl)) pa_nil)))) pss_nil)))) pss_nil))))
    (pss_one (ps_for PassesOwn.never rfl (show PI _ _ _ (iList K _) from pi_list (pv 6)) (pg_name (i := 2) nd rfl (by first | exact Or.inl rfl | exact Or.inr rfl))
    (pss_one (ps_if (pt_cmpR (r := rIn K true) op_notIn_seq (pv 2) (pv 1) (by first | exact nomark _ | rfl)) (pss_one (ps_expr (pe_bm PySem.F.plainAttrs_list PySem.F.slot_list_append PySem.F.type_list_append mt_append (pv 1) (pa_cons (pv 2) pa_nil)))) pss_nil))))))))) pss_nil)))
    (pss_one (ps_ret (pv 1))))))), ?_⟩
  obtain ⟨a, h, rfl, hA, ok, q⟩ := h
  refine ⟨Nat.zero_le _, fun od fod => ?_⟩
  have e1 : ExA H (upd H od (.lst [])) := ExM.new fod
  have hod1 : (upd H od (.lst [])) od = some (.lst []) := upd_same
  generalize upd H od (.lst []) = H1 at e1 hod1 ⊢
  have hA1 := HeapAt.mono (Tk.all e1) hA
  obtain ⟨r, k0, oo, w0, ws, h1, hr, hk, ⟨os, ho, hobs⟩, hw, hws⟩ := id hA1
  have zn : h.nums.length ≤ 50 := by unfold Hd.nums; rw [List.length_map]; exact ok.size
  have nro : r ≠ od := fun e => by
    obtain ⟨o, _, y⟩ := hr
    rw [e, hod1] at y; cases y
  -- the registers
  refine ⟨_, rfl, a, _, _, _, rfl, rfl, h1, at2, r, rfl, ⟨_, hr.sq⟩, ?_⟩
  refine for_it (walk_tup (xs := h.regs.map rV)) (fun i σ3 H3 => ∃ u2, σ3 = [some (.ref a), some (.ref od), u2, none, none, none, none, none, none] ∧ ExM [od] H1 H3 ∧ H3 od = some (.lst ((dedup ((h.regs.take i).filterMap id)).map V.int)))
    ⟨none, rfl, ExM.refl _ _, hod1⟩ (fun i σ3 H3 _ p => ?_) (fun i x σ3 H3 H4 hi p y => ?_) (fun σ3 H3 p => ?_)
  · obtain ⟨_, _, x, _⟩ := p
    exact Tk.exm x hod1 _ _ hr.sq
  · obtain ⟨rfl, hx⟩ := y
    obtain ⟨u2, rfl, x3, hod3⟩ := p
    rw [List.length_map] at hi
    obtain ⟨rf, hrf⟩ : ∃ rf, h.regs[i]? = some rf := ⟨_, List.getElem?_eq_getElem hi⟩
    rw [List.getElem?_map, hrf] at hx
    obtain rfl : rV rf = x := Option.some.inj hx
    have ht := take_snoc hrf
    cases rf with
    | none =>
      have et : (h.regs.take (i + 1)).filterMap id = (h.regs.take i).filterMap id := by rw [ht, List.filterMap_append]; simp
      exact and_join false false (fun Q' z => ⟨_, rfl, rfl, _, rfl, z⟩) (fun z => nomatch z) (iteF ⟨_, rfl, x3, by rw [et]; exact hod3⟩)
    | some m =>
      have et : (h.regs.take (i + 1)).filterMap id = (h.regs.take i).filterMap id ++ [m] := by rw [ht, List.filterMap_append]; rfl
      refine and_join true (decide (m ∉ dedup ((h.regs.take i).filterMap id))) (fun Q' z => ⟨_, rfl, rfl, _, rfl, z⟩) (fun _ Q' z => ⟨_, rfl, _, rfl, notInL (SqL.of hod3) m _ z⟩) ?_
      by_cases c : m ∈ dedup ((h.regs.take i).filterMap id)
      · rw [decide_eq_false (fun z => z c)]
        exact iteF ⟨_, rfl, x3, by rw [et, dedup_snoc, addK_in c]; exact hod3⟩
      · rw [decide_eq_true c]
        have zd : (dedup ((h.regs.take i).filterMap id)).length ≤ 50 := by
          have z1 := nd_sub (nd_dedup ((h.regs.take i).filterMap id)) (m := h.nums) fun n hn => by
            obtain ⟨rf, hrf', er⟩ := List.mem_filterMap.mp (mem_dedup.mp hn)
            exact ok.regs rf (List.mem_of_mem_take hrf') n er
          omega
        refine iteT ⟨_, rfl, .inl ⟨rfl, _, SqL.of hod3⟩, _, rfl, od, _, _, rfl, rfl, hod3, szl (by rw [List.length_map]; omega), ?_⟩
        refine ⟨_, rfl, x3.mem (by simp), ?_⟩
        rw [upd_same, et, dedup_snoc]
        unfold addK
        rw [if_neg c, List.map_append]; rfl
  obtain ⟨u2, rfl, x3, hod3⟩ := p
  rw [List.length_map, List.take_length] at hod3
  have hod3 : H3 od = some (.lst ((mk h 0).map V.int)) := hod3
  have t3 : Tk K H1 H3 := Tk.exm x3 hod1
  refine ⟨_, rfl, a, _, _, _, rfl, rfl, t3 _ _ h1, at4, oo, _, rfl, .inr (t3 _ _ ho), _, rfl, by rw [List.length_map, plen hobs]; have := ok.size; omega, by rw [List.length_map, plen hobs]; have := ok.size; omega, ?_⟩
  refine for_range (lo := 0) (n := (((os.map V.ref).length : Nat) : Int).toNat) (fun i σ4 H4 => ∃ (k : Nat) (u2 u4 u5 u6 u7 u8 : Option V), σ4 = [some (.ref a), some (.ref od), u2, some (.int (k : Int)), u4, u5, u6, u7, u8] ∧ (k = i ∨ (k ≤ i ∧ (mk h k).length ≤ k)) ∧ k ≤ (mk h k).length ∧
      ExM [od] H1 H4 ∧ H4 od = some (.lst ((mk h k).map V.int))) ⟨0, _, none, none, none, none, none, rfl, .inl rfl, Nat.zero_le _, x3, hod3⟩ (fun i σ4 H4 hi p => ?_) (fun σ4 H4 p => ?_)
  · obtain ⟨k, u2, u4, u5, u6, u7, u8, rfl, hki, hkl, x4, hod4⟩ := p
    have zk := mk_len ok k
    refine ⟨_, rfl, _, rfl, od, _, rfl, .inl (SqL.of hod4), _, _, rfl, rfl, _, rfl, ?_⟩
    rw [List.length_map]
    by_cases c : k < (mk h k).length
    · rw [decide_eq_true (show ((k : Nat) : Int) < (((mk h k).length : Nat) : Int) by omega)]
      have eki : k = i := hki.elim id fun z => by omega
      subst eki
      obtain ⟨n, hn⟩ : ∃ n, (mk h k)[k]? = some n := ⟨_, List.getElem?_eq_getElem c⟩
      have hnn : n ∈ h.nums := mk_num ok k n (List.mem_of_getElem? hn)
      have t4 : Tk K H1 H4 := Tk.exm x4 hod1
      refine iteT ?_
      refine ⟨_, rfl, _, rfl, _, rfl, od, _, _, V.int n, rfl, rfl, SqL.of hod4, atI_nat (by rw [List.getElem?_map, hn]; rfl), _, _, rfl, a, h, n, rfl, rfl, HeapAt.mono t4 hA1, ok, hnn, fun ao ob ob1 ob2 ob3 hoa => ?_⟩
      refine ⟨_, rfl, _, _, rfl, rfl, ?_⟩
      refine ⟨Nat.zero_le _, fun ml fml => ?_⟩
      refine gLit (σ' := [some (.ref a), some (.ref od), u2, some (.int ((k : Int) + 1)), some (.int (0 + (k : Int))), some (.ref ao), some (.ref ml), u7, u8]) rfl ?_
      rw [show (k : Int) + 1 = ((k + 1 : Nat) : Int) by omega]
      have e5 : ExA H4 (upd H4 ml (.lst [])) := ExM.new fml
      have hml : (upd H4 ml (.lst [])) ml = some (.lst []) := upd_same
      generalize upd H4 ml (.lst []) = H5 at e5 hml ⊢
      refine ⟨fun σ6 H6 => ∃ l6, σ6 = [some (.ref a), some (.ref od), u2, some (.int ((k + 1 : Nat) : Int)), some (.int (0 + (k : Int))), some (.ref ao), some (.ref l6), u7, u8] ∧ ExA H4 H6 ∧ H4 l6 = none ∧ H6 l6 = some (.lst ((fldsOf h n).map V.int)), ?_, ?_⟩
      · have hoa5 := ObAt.mono (Tk.all e5) hoa
        have hfl : fldsOf h n = fldsOb ob := by unfold fldsOf; rw [ob1]; rfl
        rw [hfl]
        cases ob with
        | rcd m fs =>
          obtain ⟨t, g1, g2⟩ := hoa5
          have sm : fs.length ≤ 1000 := (ok.obs _ ob2).1
          refine ⟨_, rfl, ao, _, _, _, rfl, rfl, g1, at0, rfl, _, rfl, iteT ?_⟩
          refine ⟨_, rfl, ao, _, _, _, rfl, rfl, g1, at2, t, rfl, ⟨_, g2.sq⟩, fun D hD => ?_⟩
          refine lcF K rV fs Option.isSome _ walk_tup rfl (List.length_map _) (Nat.le_trans sm (by decide)) rV hD (fun H' e => Tk.all e _ _ g2.sq) (fun r H5 _ _ R z => z) (fun _ => rfl)
            (fun r H6 _ _ R z => ⟨_, rfl, rfl, _, rfl, by cases r <;> exact z _ (ExM.refl _ _)⟩) (fun r H6 _ _ _ R z => ⟨_, rfl, z _ (ExM.refl _ _)⟩) (fun H6 e6 hd => ?_)
          have emap : ∀ l : List Rf, (l.filter Option.isSome).map rV = (l.filterMap id).map V.int := fun l => by
            induction l with
            | nil => rfl
            | cons r l ih =>
              cases r with
              | none => exact ih
              | some v =>
                show rV (some v) :: (l.filter Option.isSome).map rV = V.int v :: (l.filterMap id).map V.int
                rw [ih]; rfl
          rw [emap] at hd
          exact ⟨D, rfl, e5.trans e6, ExA.free e5 hD, hd⟩
        | weak m t =>
          have g1 : SqT K H5 ao [.str "weak", .int m, rV t] := hoa5
          exact ⟨_, rfl, ao, _, _, _, rfl, rfl, g1, at0, rfl, _, rfl, iteF ⟨ml, rfl, e5, fml, hml⟩⟩
        | tab m es =>
          obtain ⟨t, ps, g1, g2, g3⟩ := hoa5
          exact ⟨_, rfl, ao, _, _, _, rfl, rfl, g1, at0, rfl, _, rfl, iteF ⟨ml, rfl, e5, fml, hml⟩⟩
      · rintro σ6 H6 ⟨l6, rfl, e6, fl6, hl6⟩
        have hod6 := ExA.at e6 hod4
        have nlo : l6 ≠ od := fun e => by rw [e, hod4] at fl6; cases fl6
        have ecut : cutV ((mk h k).map V.int) none (some ((k + 1 : Nat) : Int)) = ((mk h k).take (k + 1)).map V.int := by
          rw [cut_to (by rw [List.length_map]; omega), List.map_take]
        have hSn : ∀ m ∈ (mk h k).take (k + 1), m ∈ h.nums := fun m hm => mk_num ok k m (List.mem_of_mem_take hm)
        have zS : ((mk h k).take (k + 1)).length ≤ 50 := by rw [List.length_take]; omega
        generalize hS : (mk h k).take (k + 1) = S at ecut hSn zS
        refine ⟨_, rfl, _, rfl, _, rfl, od, _, rfl, SqL.of hod6, fun s0 fs0 => ?_⟩
        rw [ecut]
        have e7 : ExA H6 (upd H6 s0 (.lst (S.map V.int))) := ExM.new fs0
        have hs0 : (upd H6 s0 (.lst (S.map V.int))) s0 = some (.lst (S.map V.int)) := upd_same
        have nls : s0 ≠ l6 := fun e => by rw [e, hl6] at fs0; cases fs0
        generalize upd H6 s0 (.lst (S.map V.int)) = H7 at e7 hs0 ⊢
        have hod7 := ExA.at e7 hod6
        have hl7 := ExA.at e7 hl6
        have t47 : Tk K H4 H7 := Tk.all (e6.trans e7)
        refine ⟨s0, rfl, ⟨_, SqL.of hs0⟩, ?_⟩
        refine for_it (walk_list (xs := S.map V.int)) (fun j σ8 H8 => ∃ v2 v7 v8, σ8 = [some (.ref a), some (.ref od), v2, some (.int ((k + 1 : Nat) : Int)), some (.int (0 + (k : Int))), some (.ref ao), some (.ref l6), v7, v8] ∧ ExM [l6] H7 H8 ∧
            H8 l6 = some (.lst ((fldsOf h n ++ (S.take j).flatMap (newIn h S n)).map V.int)))
          ⟨u2, u7, u8, rfl, ExM.refl _ _, by rw [List.take_zero, List.flatMap_nil, List.append_nil]; exact hl7⟩ (fun j σ8 H8 _ p => ?_) (fun j x σ8 H8 H9 hj p y => ?_) (fun σ8 H8 p => ?_)
        · obtain ⟨_, _, _, _, x, _⟩ := p
          exact SqL.of (x _ _ (by simpa using nls) hs0)
        · obtain ⟨rfl, hx⟩ := y
          obtain ⟨v2, v7, v8, rfl, x8, hl8⟩ := p
          rw [List.length_map] at hj
          obtain ⟨t, ht⟩ : ∃ t, S[j]? = some t := ⟨_, List.getElem?_eq_getElem hj⟩
          rw [List.getElem?_map, ht] at hx
          obtain rfl : V.int t = x := Option.some.inj hx
          have t8 : Tk K H4 H9 := Tk.trans t47 (Tk.exm x8 hl7)
          have hod9 := x8 _ _ (by simpa using nlo.symm) hod7
          refine ⟨_, rfl, _, rfl, _, _, rfl, a, h, t, rfl, rfl, HeapAt.mono (Tk.trans t4 t8) hA1, ok, hSn t (List.mem_of_getElem? ht), fun at' ob' b1 b2 b3 hob' => ?_⟩
          have fin0 : newIn h S n t = [] → H9 l6 = some (.lst ((fldsOf h n ++ (S.take (j + 1)).flatMap (newIn h S n)).map V.int)) := fun e => by
            rw [take_snoc ht, List.flatMap_append, List.flatMap_cons, e, List.flatMap_nil, List.append_nil, List.append_nil]; exact hl8
          cases ob' with
          | rcd m fs =>
            obtain ⟨u, g1, g2⟩ := hob'
            exact ⟨_, rfl, at', _, _, _, rfl, rfl, g1, at0, rfl, _, rfl, iteF ⟨_, _, _, rfl, x8, fin0 (by unfold newIn esOf; rw [b1]; rfl)⟩⟩
          | weak m r =>
            have g1 : SqT K H9 at' [.str "weak", .int m, rV r] := hob'
            exact ⟨_, rfl, at', _, _, _, rfl, rfl, g1, at0, rfl, _, rfl, iteF ⟨_, _, _, rfl, x8, fin0 (by unfold newIn esOf; rw [b1]; rfl)⟩⟩
          | tab m es =>
            obtain ⟨u, ps, g1, g2, g3⟩ := hob'
            have hes : esOf h t = es := by unfold esOf; rw [b1]; rfl
            have hnew : newIn h S n t = (es.filter fun e => decide (e.1 ∈ S) && (decide (n = t) || decide (n = e.1))).map (·.2) := by unfold newIn; rw [hes]
            have sm' : es.length ≤ 1000 := (ok.obs _ b2).small
            have zl := plen g3
            have zpre : (fldsOf h n ++ (S.take j).flatMap (newIn h S n)).length ≤ 60000 := by
              have z1 := flds_len ok n
              have z2 : ∀ l : List Int, (l.flatMap (newIn h S n)).length ≤ 1000 * l.length := fun l => by
                induction l with
                | nil => exact Nat.zero_le _
                | cons t l ih =>
                  rw [List.flatMap_cons, List.length_append, List.length_cons]
                  have := new_len ok S n t
                  omega
              have z3 := z2 (S.take j)
              have z4 : (S.take j).length ≤ 50 := by rw [List.length_take]; omega
              rw [List.length_append]; omega
            refine ⟨_, rfl, at', _, _, _, rfl, rfl, g1, at0, rfl, _, rfl, iteT ?_⟩
            refine ⟨_, rfl, at', _, _, _, rfl, rfl, g1, at2, u, rfl, ⟨_, g2.sq⟩, ?_⟩
            refine for_it (walk_tup (xs := ps.map V.ref)) (fun i σa Ha => ∃ w8, σa = [some (.ref a), some (.ref od), some (.int t), some (.int ((k + 1 : Nat) : Int)), some (.int (0 + (k : Int))), some (.ref ao), some (.ref l6), some (.ref at'), w8] ∧ ExM [l6] H9 Ha ∧
                Ha l6 = some (.lst ((fldsOf h n ++ (S.take j).flatMap (newIn h S n) ++ ((es.take i).filter fun e => decide (e.1 ∈ S) && (decide (n = t) || decide (n = e.1))).map (·.2)).map V.int)))
              ⟨v8, rfl, ExM.refl _ _, by rw [List.take_zero]; simpa using hl8⟩ (fun i σa Ha _ p => ?_) (fun i x σa Ha Hb hi2 p y => ?_) (fun σa Ha p => ?_)
            · obtain ⟨_, _, x, _⟩ := p
              exact Tk.exm x hl8 _ _ g2.sq
            · obtain ⟨rfl, hx⟩ := y
              obtain ⟨w8, rfl, xa, hla⟩ := p
              rw [List.length_map] at hi2
              obtain ⟨b, hb⟩ : ∃ b, ps[i]? = some b := ⟨_, List.getElem?_eq_getElem hi2⟩
              rw [List.getElem?_map, hb] at hx
              obtain rfl : V.ref b = x := Option.some.inj hx
              obtain ⟨e, he, hbe⟩ := pget g3 hb
              have ta : Tk K H9 Hb := Tk.exm xa hl8
              have hbe : SqT K Hb b [.int e.1, .int e.2] := ta _ _ hbe
              have hodb := xa _ _ (by simpa using nlo.symm) hod9
              have zi : ((es.take i).filter fun e => decide (e.1 ∈ S) && (decide (n = t) || decide (n = e.1))).length ≤ 1000 := by
                refine Nat.le_trans (List.length_filter_le _ _) ?_
                rw [List.length_take]; omega
              have hrow := ObAt.mono (Tk.trans t8 ta) hoa
              obtain ⟨kn, vn, hnr⟩ := hrow.num
              rw [ob3] at hnr
              have stay : ∀ Hz, ExA Hb Hz → (decide (e.1 ∈ S) && (decide (n = t) || decide (n = e.1))) = false → Hz l6 = some (.lst ((fldsOf h n ++ (S.take j).flatMap (newIn h S n) ++ ((es.take (i + 1)).filter fun e => decide (e.1 ∈ S) && (decide (n = t) || decide (n = e.1))).map (·.2)).map V.int)) := fun Hz ez ec => by
                rw [take_snoc he, List.filter_append, List.filter_cons_of_neg (p := fun e : Int × Int => decide (e.1 ∈ S) && (decide (n = t) || decide (n = e.1))) (by simp [ec]), List.filter_nil, List.append_nil]
                exact ExA.at ez hla
              refine ⟨_, rfl, b, _, _, _, rfl, rfl, hbe, at0, _, rfl, _, rfl, _, rfl, od, _, rfl, SqL.of hodb, fun s1 fs1 => ?_⟩
              rw [ecut]
              have es1 : ExA Hb (upd Hb s1 (.lst (S.map V.int))) := ExM.new fs1
              have hs1 : (upd Hb s1 (.lst (S.map V.int))) s1 = some (.lst (S.map V.int)) := upd_same
              generalize upd Hb s1 (.lst (S.map V.int)) = Hc at es1 hs1 ⊢
              refine isInL (SqL.of hs1) _ _ ?_
              by_cases c1 : e.1 ∈ S
              · rw [decide_eq_true c1]
                refine iteT ?_
                refine ⟨_, rfl, ao, _, _, _, rfl, rfl, Tk.all es1 _ _ hnr, at1, _, rfl, _, rfl, b, _, _, _, rfl, rfl, Tk.all es1 _ _ hbe, at0, sz (by show 2 ≤ 100000; decide), fun s2 fs2 => ?_⟩
                have es2 : ExA Hc (upd Hc s2 (.lst [.int t, .int e.1])) := ExM.new fs2
                have hs2 : (upd Hc s2 (.lst [.int t, .int e.1])) s2 = some (.lst ([t, e.1].map V.int)) := upd_same
                generalize upd Hc s2 (.lst [.int t, .int e.1]) = Hd' at es2 hs2 ⊢
                refine isInL (SqL.of hs2) _ _ ?_
                have esd := es1.trans es2
                have ebool : decide (n ∈ [t, e.1]) = (decide (n = t) || decide (n = e.1)) := by
                  rw [← Bool.decide_or]; exact decide_eq_decide.mpr (by simp)
                rw [ebool]
                cases c2 : (decide (n = t) || decide (n = e.1)) with
                | false => exact iteF ⟨_, rfl, xa.trans (ExM.of esd), stay _ esd (by rw [c2, Bool.and_false])⟩
                | true =>
                  have hld := ExA.at esd hla
                  refine iteT ⟨_, rfl, .inl ⟨rfl, _, SqL.of hld⟩, _, rfl, b, _, _, _, rfl, rfl, Tk.all esd _ _ hbe, at1, l6, _, _, rfl, rfl, hld, szl (by rw [List.length_map, List.length_append, List.length_map]; omega), ?_⟩
                  refine ⟨_, rfl, (xa.trans (ExM.of esd)).mem (by simp), ?_⟩
                  rw [upd_same, take_snoc he, List.filter_append, List.filter_cons_of_pos (p := fun e : Int × Int => decide (e.1 ∈ S) && (decide (n = t) || decide (n = e.1))) (by simp [c1, c2]), List.filter_nil]
                  simp only [List.map_append, List.map_cons, List.map_nil, List.append_assoc]
              · rw [decide_eq_false c1]
                exact iteF (iteF ⟨_, rfl, xa.trans (ExM.of es1), stay _ es1 (by rw [decide_eq_false c1, Bool.false_and])⟩)
            · obtain ⟨w8, rfl, xa, hla⟩ := p
              rw [List.length_map, zl, List.take_length, ← hnew] at hla
              refine ⟨_, _, _, rfl, x8.trans xa, ?_⟩
              rw [take_snoc ht, List.flatMap_append, List.flatMap_cons, List.flatMap_nil, List.append_nil, ← List.append_assoc]
              exact hla
        · obtain ⟨v2, v7, v8, rfl, x8, hl8⟩ := p
          rw [List.length_map, List.take_length, foundL_vals] at hl8
          have hod8 := x8 _ _ (by simpa using nlo.symm) hod7
          refine ⟨_, rfl, l6, rfl, ⟨_, SqL.of hl8⟩, ?_⟩
          have emk : mk h (k + 1) = ext (mk h k) (foundL h S n) := by rw [← hS]; exact mk_law h hn
          refine for_it (walk_list (xs := (foundL h S n).map V.int)) (fun i σa Ha => ∃ v2, σa = [some (.ref a), some (.ref od), v2, some (.int ((k + 1 : Nat) : Int)), some (.int (0 + (k : Int))), some (.ref ao), some (.ref l6), v7, v8] ∧ ExM [od] H8 Ha ∧
              Ha od = some (.lst ((ext (mk h k) ((foundL h S n).take i)).map V.int)))
            ⟨v2, rfl, ExM.refl _ _, hod8⟩ (fun i σa Ha _ p => ?_) (fun i x σa Ha Hb hi2 p y => ?_) (fun σa Ha p => ?_)
          · obtain ⟨_, _, z, _⟩ := p
            exact SqL.of (z _ _ (by simpa using nlo) hl8)
          · obtain ⟨rfl, hx⟩ := y
            obtain ⟨w2, rfl, xa, hoda⟩ := p
            rw [List.length_map] at hi2
            obtain ⟨m, hm⟩ : ∃ m, (foundL h S n)[i]? = some m := ⟨_, List.getElem?_eq_getElem hi2⟩
            rw [List.getElem?_map, hm] at hx
            obtain rfl : V.int m = x := Option.some.inj hx
            have zx : (ext (mk h k) ((foundL h S n).take i)).length ≤ 50 := by
              have z1 := nd_sub (ext_nd (xs := (foundL h S n).take i) (mk_nd h k)) (m := h.nums) fun q hq => by
                rcases mem_ext.mp hq with y | y
                · exact mk_num ok k q y
                · exact found_num ok (foundL_sub (List.mem_of_mem_take y))
              omega
            refine ⟨_, rfl, _, rfl, notInL (SqL.of hoda) m _ ?_⟩
            rw [take_snoc hm, ext_snoc]
            by_cases cm : m ∈ ext (mk h k) ((foundL h S n).take i)
            · rw [decide_eq_false (fun z => z cm), addK_in cm]
              exact iteF ⟨_, rfl, xa, hoda⟩
            · rw [decide_eq_true cm]
              refine iteT ⟨_, rfl, .inl ⟨rfl, _, SqL.of hoda⟩, _, rfl, od, _, _, rfl, rfl, hoda, szl (by rw [List.length_map]; omega), ?_⟩
              refine ⟨_, rfl, xa.mem (by simp), ?_⟩
              rw [upd_same]
              unfold addK
              rw [if_neg cm, List.map_append]; rfl
          · obtain ⟨w2, rfl, xa, hoda⟩ := p
            rw [List.length_map, List.take_length, ← emk] at hoda
            have z2 : k + 1 ≤ (mk h (k + 1)).length := by
              obtain ⟨t, et⟩ := mk_pre h k
              rw [et, List.length_append]; omega
            refine ⟨k + 1, _, _, _, _, _, _, rfl, .inl rfl, z2, fun b o nb hb => ?_, hoda⟩
            have hb4 := x4 b o nb hb
            have nbl : b ≠ l6 := fun e => by rw [e, fl6] at hb4; cases hb4
            exact xa b o nb (x8 b o (by simpa using nbl) (ExA.at (e6.trans e7) hb4))
    · rw [decide_eq_false (show ¬ ((k : Nat) : Int) < (((mk h k).length : Nat) : Int) by omega)]
      exact iteF ⟨k, u2, _, u5, u6, u7, u8, rfl, .inr ⟨by rcases hki with z | z <;> omega, by omega⟩, hkl, x4, hod4⟩
  · obtain ⟨k, u2, u4, u5, u6, u7, u8, rfl, hki, hkl, x4, hod4⟩ := p
    have em : mk h k = marked h := marked_stop ok (by
      rcases hki with z | z
      · left
        rw [z, List.length_map, plen hobs]
        unfold Hd.nums; rw [List.length_map]; omega
      · exact .inr z.2)
    rw [em] at hod4
    refine ⟨_, rfl, q od H4 fod (fun b o _ hb => ?_) hod4⟩
    have nb : b ≠ od := fun e => by rw [e, fod] at hb; cases hb
    exact x4 b o (by simpa using nb) (ExA.at e1 hb)
end
end Wc
namespace Wc
open PySem L2
section
variable (K : PySem.W.Frag)
def R__law_watched : V2 := fun x y H Q => ∃ (b d : Addr) (ds : List Int) (a : Addr) (h : Hd), x = .ref b ∧ y = .ref a ∧ Bx H b d ds ∧ HeapAt K H a h ∧ h.Ok ∧ ∀ H' p (g : Hd), ExM [b] H H' → Bx H' b d ds → HeapAt K H' p g → g.Ok → Q (.ref p) H'
abbrev sp__law_watched : Sp := sp2 (R__law_watched K)
end
/-- the same heap with other watches -/
def withW (h : Hd) (ws : List (Int × Int)) : Hd := ⟨h.nx, h.regs, h.kept, h.obs, ws⟩
theorem withW_ok {h : Hd} (ok : h.Ok) {ws : List (Int × Int)} (h1 : ∀ e ∈ ws, e.1 ∈ h.nums ∧ 0 ≤ e.2 ∧ e.2 ≤ 999) (h2 : ws.length ≤ 50) : (withW h ws).Ok :=
  ⟨ok.up, ok.size, ok.nreg, ok.regs, ok.obs, ok.kept, fun e he => (h1 e he).1, ok.low, ok.nxl, ok.kup, fun e he => (h1 e he).2, h2, ok.rpos⟩
theorem prev {α β : Type} {F : α → β → Prop} : ∀ {l : List α} {m : List β}, Paired F l m → Paired F l.reverse m.reverse
  | _, _, .nil => .nil
  | _, _, .cons r t => by rw [List.reverse_cons, List.reverse_cons]; exact papp (.cons r .nil) (prev t)
theorem ptake {α β : Type} {F : α → β → Prop} : ∀ (i : Nat) {l : List α} {m : List β}, Paired F l m → Paired F (l.take i) (m.take i)
  | 0, _, _, _ => by rw [List.take_zero, List.take_zero]; exact .nil
  | i + 1, _, _, .nil => .nil
  | i + 1, _, _, .cons r t => .cons r (ptake i t)
theorem pdrop {α β : Type} {F : α → β → Prop} : ∀ (i : Nat) {l : List α} {m : List β}, Paired F l m → Paired F (l.drop i) (m.drop i)
  | 0, _, _, p => p
  | i + 1, _, _, .nil => .nil
  | i + 1, _, _, .cons _ t => pdrop i t
theorem cut12 (xs : List V) (i : Nat) : cutV xs none (some (i : Int)) = xs.take i := by
  by_cases c : i ≤ xs.length
  · exact cut_to c
  · unfold cutV
    rw [HT.sIx_nat, HT.sIx_none, Nat.min_eq_right (by omega)]
    rw [List.take_of_length_le (show xs.length ≤ i by omega)]
    simp
section
variable {P : Program} {w : World} {K : PySem.W.Frag} {mg : Str → Option Value} {base : Heap}
theorem ok__law_watched {f : Addr} {fd : FuncData} {cd : Value} (F : Df K "_law_watched" s__law_watched f fd cd) (T : Txt mg) (C__law_draw : Cal P w K mg base 1 "_law_draw" (sp__law_draw K) []) (C__law_numbers : Cal P w K mg base 1 "_law_numbers" (sp__law_numbers K) []) : FnOk P w K mg base CX0 2 f fd ["box", "heap"] (sp__law_watched K) := by
  have nd := sc__law_watched.nd
  refine F.ok sc__law_watched (fun vs H Q E h => ?_) (fun A outer s H vs Q E hr h => ?_)
  · obtain ⟨_, _, rfl, _⟩ := h; rfl
  have hu := hu_of hr
  obtain ⟨x0, x1, rfl, h⟩ := h
  refine ⟨_, (pss_cons (ps_set (i := 2) nd rfl (by first | exact Or.inl rfl | exact Or.inr rfl) (pe_c C__law_numbers hr (by first | exact Nat.le_refl _ | decide) rfl (pa_cons (pv 1) pa_nil)))
    (pss_cons (ps_set (i := 3) nd rfl (by first | exact Or.inl rfl | exact Or.inr rfl) (pe_callTy call_list_of rfl T.list (by decide +kernel) (pa_cons (pe_ix (r := rIxT K) ix_tup (pv 1) pe_int (fun _ _ => rfl)) pa_nil)))
    (Evl.pss_cut (ps_if (pt_cmpR op_eq (pe_c C__law_draw hr (by first | exact Nat.le_refl _ | decide) rfl (pa_cons (pv 0) (pa_cons pe_int pa_nil))) pe_int (nomark _)) (pss_one (ps_set (i := 3) nd rfl (by first | exact Or.inl rfl | exact Or.inr rfl) (pe_revL (pv 3)))) pss_nil)
    (Evl.pss_cut (ps_if (pt_cmpR op_gt (pe_callB (r := Evl.rLenS K) call_len_seq rfl T.len PySem.boot_len (pa_cons (pv 2) pa_nil)) pe_int (nomark _)) (pss_one (ps_for PassesOwn.never rfl (pi_range1 rfl T.range (pa_cons (pe_c C__law_draw hr (by first | exact Nat.le_refl _ | decide) rfl (pa_cons (pv 0) (pa_cons pe_int pa_nil))) pa_nil)) (pg_name (i := 4) nd rfl (by first | exact Or.inl rfl | exact Or.inr rfl))
    (pss_one (ps_expr (pe_bm PySem.F.plainAttrs_list PySem.F.slot_list_insert PySem.F.type_list_insert mt_insert (pv 3) (pa_cons (pe_c C__law_draw hr (by first | exact Nat.le_refl _ | decide) rfl (pa_cons (pv 0) (pa_cons (pe_op op_add (pe_callB (r := Evl.rLenS K) call_len_seq rfl T.len PySem.boot_len (pa_cons (pv 3) pa_nil)) pe_int) pa_nil))) (pa_cons (pe_tup (pa_cons (pe_ix (r := rIxL K) ix_list (pv 2) (pe_c C__law_draw hr (by first | exact Nat.le_refl _ | decide) rfl (pa_cons (pv 0) (pa_cons (pe_callB (r := Evl.rLenS K) call_len_seq rfl T.len PySem.boot_len (pa_cons (pv 2) pa_nil)) pa_nil))) (fun _ _ => rfl)) (pa_cons (pe_op op_add pe_int (pe_c C__law_draw hr (by first | exact Nat.le_refl _ | decide) rfl (pa_cons (pv 0) (pa_cons pe_int pa_nil)))) pa_nil))) pa_nil))))))) pss_nil)
    (pss_one (ps_ret (pe_op (r := rCatA K) op_catA (pe_slice sl_tup (pv 1) po_none (po_some pe_int)) (pe_tup (pa_cons (pe_callTy (r := rTupS K) call_tuple_of rfl T.tuple (by decide +kernel) (pa_cons (pe_slice sl_list (pv 3) po_none (po_some pe_int)) pa_nil)) pa_nil))))))))), ?_⟩
  obtain ⟨b, d, ds, a, h, rfl, rfl, hb, hA, ok, q⟩ := h
  have zn : h.nums.length ≤ 50 := by unfold Hd.nums; rw [List.length_map]; exact ok.size
  refine ⟨_, rfl, _, rfl, a, h, rfl, hA, ok, fun nl H1 fnl e1 hnl => ?_⟩
  have b1 := hb.keep e1
  have nnl : nl ∉ [b] := hb.ne fnl
  have hA1 := HeapAt.mono (Tk.all e1) hA
  obtain ⟨r, k, o, w0, ws, h1, h2, h3, h4, h5, h6⟩ := id hA1
  refine ⟨_, rfl, a, _, _, _, rfl, rfl, h1, at5, w0, _, rfl, .inr h5, fun wl fwl => ?_⟩
  have e2 : ExA H1 (upd H1 wl (.lst (ws.map V.ref))) := ExM.new fwl
  have hwl : (upd H1 wl (.lst (ws.map V.ref))) wl = some (.lst (ws.map V.ref)) := upd_same
  have fwl0 : H wl = none := ExA.free e1 fwl
  have hnl2 : (upd H1 wl (.lst (ws.map V.ref))) nl = some (.lst (h.nums.map V.int)) := ExA.at e2 hnl
  have nwn : wl ≠ nl := fun e => by rw [e, hnl] at fwl; cases fwl
  generalize upd H1 wl (.lst (ws.map V.ref)) = H2 at e2 hwl hnl2 ⊢
  have x2 : ExM [b] H H2 := ExM.of (e1.trans e2)
  have b2 := b1.keep e2
  have h62 : Paired (PairAt K H2) ws h.wat := pmp h6 fun _ _ z => PairAt.mono (Tk.all e2) z
  have good : ∀ e ∈ h.wat, e.1 ∈ h.nums ∧ 0 ≤ e.2 ∧ e.2 ≤ 999 := fun e he => ⟨ok.wat e he, ok.tok e he⟩
  -- turned round, or not
  refine ⟨fun σ3 H3 => ∃ (wl : Addr) (as : List Addr) (es : List (Int × Int)), σ3 = [some (.ref b), some (.ref a), some (.ref nl), some (.ref wl), none] ∧ ExM [b] H H3 ∧ Bx H3 b d ds ∧ H wl = none ∧ wl ≠ nl ∧ H3 nl = some (.lst (h.nums.map V.int)) ∧ H3 wl = some (.lst (as.map V.ref)) ∧ Paired (PairAt K H3) as es ∧
      (∀ e ∈ es, e.1 ∈ h.nums ∧ 0 ≤ e.2 ∧ e.2 ≤ 999) ∧ es.length ≤ 50, ?_, ?_⟩
  · refine ⟨_, rfl, _, _, rfl, b, d, ds, 2, rfl, rfl, by decide, b2, fun H3 v x3 b3 v0 v2 => ?_⟩
    have t3 := b2.tk (K := K) x3
    have nwb : wl ∉ [b] := hb.ne fwl0
    have hwl3 := x3 _ _ nwb hwl
    have hnl3 := x3 _ _ nnl hnl2
    have h63 : Paired (PairAt K H3) ws h.wat := pmp h62 fun _ _ z => PairAt.mono t3 z
    refine ⟨rfl, _, rfl, ite2 (fun _ => ?_) (fun _ => ?_)⟩
    · refine ⟨_, rfl, wl, _, rfl, SqL.of hwl3, fun p fp => ?_⟩
      have x4 : ExM [b] H (upd H3 p (.lst (ws.map V.ref).reverse)) := (x2.trans x3).trans (ExM.of (ExM.new fp))
      exact ⟨p, ws.reverse, h.wat.reverse, rfl, x4, b3.new fp, (x2.trans x3).free (b3.ne fp) fp, (ne_of_none hnl3 fp).symm, by rw [upd_ne (ne_of_none hnl3 fp)]; exact hnl3, by rw [upd_same, List.map_reverse],
        prev (pmp h63 fun _ _ z => PairAt.mono (Tk.new fp) z), fun e he => good e (List.mem_reverse.mp he), by rw [List.length_reverse]; exact ok.nwat⟩
    · exact ⟨wl, ws, h.wat, rfl, x2.trans x3, b3, fwl0, nwn, hnl3, hwl3, h63, good, ok.nwat⟩
  · rintro σ3 H3 ⟨wl, as, es, rfl, x3, b3, fwl, nwn, hnl3, hwl3, hes, ge, ze⟩
    refine ⟨fun σ4 H4 => ∃ (u4 : Option V) (as : List Addr) (es : List (Int × Int)), σ4 = [some (.ref b), some (.ref a), some (.ref nl), some (.ref wl), u4] ∧ ExM [b] H H4 ∧ Bx H4 b d ds ∧ H4 wl = some (.lst (as.map V.ref)) ∧ Paired (PairAt K H4) as es ∧
      (∀ e ∈ es, e.1 ∈ h.nums ∧ 0 ≤ e.2 ∧ e.2 ≤ 999), ?_, ?_⟩
    · refine ⟨_, rfl, nl, _, rfl, .inl (SqL.of hnl3), _, _, rfl, rfl, _, rfl, ite2 (fun c => ?_) (fun _ => ?_)⟩
      · have zpos : 0 < h.nums.length := by
          have := of_decide_eq_true c
          rw [List.length_map] at this
          omega
        refine ⟨_, rfl, _, _, rfl, b, d, ds, 4, rfl, rfl, by decide, b3, fun H5 v x5 b5 v0 v4 => ?_⟩
        have t5 := b3.tk (K := K) x5
        have nwb : wl ∉ [b] := hb.ne fwl
        refine ⟨_, rfl, by omega, by omega, ?_⟩
        refine for_range (lo := 0) (n := v.toNat) (fun i σ6 H6 => ∃ (u4 : Option V) (as : List Addr) (es : List (Int × Int)), σ6 = [some (.ref b), some (.ref a), some (.ref nl), some (.ref wl), u4] ∧ ExM [b] H H6 ∧ Bx H6 b d ds ∧ H6 nl = some (.lst (h.nums.map V.int)) ∧ H6 wl = some (.lst (as.map V.ref)) ∧ Paired (PairAt K H6) as es ∧
          (∀ e ∈ es, e.1 ∈ h.nums ∧ 0 ≤ e.2 ∧ e.2 ≤ 999) ∧ es.length ≤ 50 + i) ⟨none, as, es, rfl, x3.trans x5, b5, x5 _ _ nnl hnl3, x5 _ _ nwb hwl3, pmp hes fun _ _ z => PairAt.mono t5 z, ge, by omega⟩ (fun i σ6 H6 hi p => ?_) (fun σ6 H6 p => ?_)
        · obtain ⟨u4, as, es, rfl, x6, b6, hnl6, hwl6, hes, ge, ze⟩ := p
          have las := plen hes
          refine ⟨_, rfl, .inl ⟨rfl, _, SqL.of hwl6⟩, _, rfl, _, rfl, wl, _, rfl, .inl (SqL.of hwl6), _, _, rfl, rfl, _, _, rfl, b, d, ds, _, rfl, rfl, by omega, b6, fun Ha i1 xa ba i0 i1' => ?_⟩
          have hnla := xa _ _ nnl hnl6
          have hwla := xa _ _ nwb hwl6
          refine ⟨_, rfl, _, rfl, _, rfl, nl, _, rfl, .inl (SqL.of hnla), _, _, rfl, b, d, ds, _, rfl, rfl, by rw [List.length_map]; omega, ba, fun Hb i2 xb bb j0 j1 => ?_⟩
          rw [List.length_map] at j1
          have hnlb := xb _ _ nnl hnla
          have hwlb := xb _ _ nwb hwla
          obtain ⟨n, hn⟩ : ∃ n, h.nums[i2.toNat]? = some n := ⟨_, List.getElem?_eq_getElem (by omega)⟩
          have hnn : n ∈ h.nums := List.mem_of_getElem? hn
          refine ⟨nl, _, _, V.int n, rfl, rfl, SqL.of hnlb, by rw [show i2 = ((i2.toNat : Nat) : Int) by omega]; exact atI_nat (by rw [List.getElem?_map, hn]; rfl), ?_⟩
          refine ⟨_, rfl, _, _, rfl, b, d, ds, 2, rfl, rfl, by decide, bb, fun Hc i3 xc bc l0 l1 => ?_⟩
          have hnlc := xc _ _ nnl hnlb
          have hwlc := xc _ _ nwb hwlb
          have t6 : Tk K H6 Hc := Tk.trans (b6.tk xa) (Tk.trans (ba.tk xb) (bb.tk xc))
          have x6c := ((x6.trans xa).trans xb).trans xc
          refine ⟨_, _, rfl, rfl, sz (by show 2 ≤ 100000; decide), fun T fT => ?_⟩
          have hT : PairAt K (upd Hc T (.tup [.int n, .int (7 + i3)])) T (n, 7 + i3) := SqT.of upd_same
          have eT : ExA Hc (upd Hc T (.tup [.int n, .int (7 + i3)])) := ExM.new fT
          have hwld := ExA.at eT hwlc
          have zi := hi
          refine ⟨wl, _, i1, _, rfl, rfl, hwld, szl (by rw [List.length_map]; omega), i0, by rw [List.length_map] at i1'; omega, ?_⟩
          have x6d := x6c.trans (ExM.of eT)
          have bd := bc.keep eT
          have td : Tk K Hc (upd Hc T (.tup [.int n, .int (7 + i3)])) := Tk.all eT
          have hesd : Paired (PairAt K (upd Hc T (.tup [.int n, .int (7 + i3)]))) as es := pmp hes fun _ _ z => PairAt.mono (Tk.trans t6 td) z
          have hnld := ExA.at eT hnlc
          generalize upd Hc T (.tup [.int n, .int (7 + i3)]) = Hd' at hT hwld x6d bd hesd hnld ⊢
          have tl : Tk K Hd' (upd Hd' wl (.lst ((as.map V.ref).take i1.toNat ++ [V.ref T] ++ (as.map V.ref).drop i1.toNat))) := Tk.lst hwld
          have fin : Paired (PairAt K (upd Hd' wl (.lst ((as.map V.ref).take i1.toNat ++ [V.ref T] ++ (as.map V.ref).drop i1.toNat)))) (as.take i1.toNat ++ [T] ++ as.drop i1.toNat) (es.take i1.toNat ++ [(n, 7 + i3)] ++ es.drop i1.toNat) := by
            have y := pmp hesd fun _ _ z => PairAt.mono tl z
            exact papp (pdrop _ y) (papp (.cons (PairAt.mono tl hT) .nil) (ptake _ y))
          refine ⟨_, as.take i1.toNat ++ [T] ++ as.drop i1.toNat, es.take i1.toNat ++ [(n, 7 + i3)] ++ es.drop i1.toNat, rfl, x6d.put fwl, bd.put hb fwl, by rw [upd_ne nwn.symm]; exact hnld, ?_, fin, fun e he => ?_, ?_⟩
          · rw [upd_same]
            simp only [List.map_append, List.map_take, List.map_drop, List.map_cons, List.map_nil]
          · rcases List.mem_append.mp he with he | he
            · rcases List.mem_append.mp he with he | he
              · exact ge e (List.mem_of_mem_take he)
              · rw [List.mem_singleton.mp he]
                exact ⟨hnn, by show 0 ≤ 7 + i3; omega, by show 7 + i3 ≤ 999; omega⟩
            · exact ge e (List.mem_of_mem_drop he)
          · rw [List.length_append, List.length_append, List.length_take, List.length_drop, List.length_singleton]; omega
        · obtain ⟨u4, as, es, rfl, x6, b6, hnl6, hwl6, hes, ge, ze⟩ := p
          exact ⟨u4, as, es, rfl, x6, b6, hwl6, hes, ge⟩
      · exact ⟨none, as, es, rfl, x3, b3, hwl3, hes, ge⟩
    · rintro σ4 H4 ⟨u4, as, es, rfl, x4, b4, hwl4, hes, ge⟩
      have t4 : Tk K H H4 := hb.tk x4
      have hA4 := HeapAt.mono t4 hA
      obtain ⟨r, k, o, w0, ws, h1, h2, h3, h4, h5, h6⟩ := id hA4
      refine ⟨_, rfl, _, rfl, ?_⟩
      refine sl_to (i := 5) h1 (show 5 < 6 by decide) fun p1 Ha ea hp1 => ?_
      refine ⟨_, rfl, _, rfl, wl, _, rfl, SqL.of (ExA.at ea hwl4), fun s0 fs0 => ?_⟩
      rw [show (12 : Int) = ((12 : Nat) : Int) from rfl, cut12, ← List.map_take]
      refine ⟨s0, _, rfl, .inl ⟨SqL.of upd_same, fun t ft => ⟨sz (by show 1 ≤ 100000; decide), fun t2 ft2 => ?_⟩⟩⟩
      have eb : ExA Ha (upd (upd (upd Ha s0 (.lst ((as.take 12).map V.ref))) t (.tup ((as.take 12).map V.ref))) t2 (.tup [.ref t])) := ((ExM.new fs0).trans (ExM.new ft)).trans (ExM.new ft2)
      have ht : SqT K (upd (upd (upd Ha s0 (.lst ((as.take 12).map V.ref))) t (.tup ((as.take 12).map V.ref))) t2 (.tup [.ref t])) t ((as.take 12).map V.ref) := Tk.new ft2 _ _ (SqT.of upd_same)
      refine cat_any (Tk.all eb _ _ hp1) (SqT.of upd_same) (show 5 + 1 ≤ 100000 by decide) fun p Hc ec hp => ?_
      have e4c := ea.trans (eb.trans ec)
      refine q Hc p (withW h (es.take 12)) (x4.trans (ExM.of e4c)) (b4.keep e4c) ⟨r, k, o, t, as.take 12, hp, SqZ.mono (K := K) (Tk.all e4c) h2, Tk.all e4c _ _ h3, ?_, Tk.all ec _ _ ht, ptake 12 (pmp hes fun _ _ z => PairAt.mono (Tk.all e4c) z)⟩ (withW_ok ok (fun e he => ge e (List.mem_of_mem_take he)) (by rw [List.length_take]; omega))
      obtain ⟨os, g1, g2⟩ := h4
      exact ⟨os, Tk.all e4c _ _ g1, pmp g2 fun _ _ z => ObAt.mono (Tk.all e4c) z⟩
end
end Wc
namespace Wc
open PySem L2
theorem tupIs {K : PySem.W.Frag} {H : Hp} {t : Addr} {ns : List Int} (h : SqT K H t (ns.map V.int)) : Is K H (.tup (ns.map Dt.int)) (.ref t) := ⟨_, _, rfl, h, IsL.ints _⟩
theorem tup_dep (ns : List Int) : (Dt.tup (ns.map Dt.int)).dep < 9 := by show 1 + Dt.depL (ns.map Dt.int) < 9; rw [depL_ints]; decide
theorem tup_thin {ns : List Int} (h : ns.length ≤ 100000) : (Dt.tup (ns.map Dt.int)).thin := ⟨by rw [List.length_map]; exact h, thin_ints ns⟩
theorem hd_thinO {h : Hd} (ok : h.Ok) : (hdDt h).thin := by
  have z1 := nd_sub (nodup_of_up ok.kup) ok.kept
  have := ok.size
  unfold Hd.nums at z1
  rw [List.length_map] at z1
  exact hd_thin (Nat.le_trans ok.nreg (by decide)) (by omega) (Nat.le_trans ok.size (by decide)) (Nat.le_trans ok.nwat (by decide)) fun o ho => (ok.obs o ho).small
section
variable (K : PySem.W.Frag)
def R_law : V1 := fun x H Q => ∃ (a : Addr) (ns : List Int), x = .ref a ∧ SqL K H a (ns.map V.int) ∧ ns.length ≤ 63 ∧ ∀ H', Q (.bl true) H'
abbrev sp_law : Sp := sp1 (R_law K)
end
section
variable {P : Program} {w : World} {K : PySem.W.Frag} {mg : Str → Option Value} {base : Heap}
theorem ok_law {f : Addr} {fd : FuncData} {cd : Value} (F : Df K "law" s_law f fd cd) (T : Txt mg) (C_marking : Cal P w K mg base 3 "marking" (sp_marking K) []) (C_canonical : Cal P w K mg base 4 "canonical" (sp_canonical K) []) (C__law_box : Cal P w K mg base 3 "_law_box" (sp__law_box K) []) (C__law_heap : Cal P w K mg base 4 "_law_heap" (sp__law_heap K) []) (C__law_same : Cal P w K mg base 9 "_law_same" (sp__law_same K) []) (C__law_marked : Cal P w K mg base 2 "_law_marked" (sp__law_marked K) []) (C__law_canonical : Cal P w K mg base 2 "_law_canonical" (sp__law_canonical K) []) (C__law_watched : Cal P w K mg base 2 "_law_watched" (sp__law_watched K) []) : FnOk P w K mg base CX0 10 f fd ["script"] (sp_law K) := by
  have nd := sc_law.nd
  refine F.ok sc_law (fun vs H Q E h => ?_) (fun A outer s H vs Q E hr h => ?_)
  · obtain ⟨_, rfl, _⟩ := h; rfl
  have hu := hu_of hr
  obtain ⟨x0, rfl, h⟩ := h
  refine ⟨_, (pss_cons (ps_set (i := 1) nd rfl (by first | exact Or.inl rfl | exact Or.inr rfl) (pe_c C__law_box hr (by first | exact Nat.le_refl _ | decide) rfl (pa_cons (pv 0) (pa_cons pe_int (pa_cons pe_int pa_nil)))))
    (pss_cons (ps_set (i := 2) nd rfl (by first | exact Or.inl rfl | exact Or.inr rfl) (pe_c C__law_watched hr (by first | exact Nat.le_refl _ | decide) rfl (pa_cons (pv 1) (pa_cons (pe_c C__law_heap hr (by first | exact Nat.le_refl _ | decide) rfl (pa_cons (pv 1) (pa_cons pe_int pa_nil))) pa_nil))))
    (pss_cons (ps_set (i := 3) nd rfl (by first | exact Or.inl rfl | exact Or.inr rfl) (pe_c C__law_marked hr (by first | exact Nat.le_refl _ | decide) rfl (pa_cons (pv 2) pa_nil)))
    (pss_cons (ps_if (pt_not (pt_val (pe_c C__law_same hr (by first | exact Nat.le_refl _ | decide) rfl (pa_cons (pe_c C_marking hr (by first | exact Nat.le_refl _ | decide) rfl (pa_cons (pv 2) pa_nil)) (pa_cons (pe_callTy (r := rTupS K) call_tuple_of rfl T.tuple (by decide +kernel) (pa_cons (pv 3) pa_nil)) pa_nil))))) (pss_one (ps_ret pe_bl)) pss_nil)
    (pss_cons (ps_set (i := 4) nd rfl (by first | exact Or.inl rfl | exact Or.inr rfl) (pe_c C__law_canonical hr (by first | exact Nat.le_refl _ | decide) rfl (pa_cons (pv 2) (pa_cons (pv 3) pa_nil))))
    (pss_one (ps_ret (pe_and (pe_c C__law_same hr (by first | exact Nat.le_refl _ | decide) rfl (pa_cons (pe_c C_canonical hr (by first | exact Nat.le_refl _ | decide) rfl (pa_cons (pv 2) pa_nil)) (pa_cons (pv 4) pa_nil))) (pe_one (pe_c C__law_same hr (by first | exact Nat.le_refl _ | decide) rfl (pa_cons (pe_c C_canonical hr (by first | exact Nat.le_refl _ | decide) rfl (pa_cons (pv 4) pa_nil)) (pa_cons (pv 4) pa_nil)))))))))))), ?_⟩
  obtain ⟨sa, sn, rfl, hS, h63, q⟩ := h
  refine ⟨_, rfl, _, _, _, rfl, sa, sn, 0, 63, rfl, rfl, rfl, hS, by decide, by decide, by decide, fun b d ds H1 f1 e1 b1 => ?_⟩
  refine ⟨_, rfl, _, rfl, _, _, rfl, b, d, ds, 9, rfl, rfl, by decide, by decide, b1, fun H2 a0 h0 x2 b2 hA0 ok0 z9 => ?_⟩
  refine ⟨_, _, rfl, b, d, ds, a0, h0, rfl, rfl, b2, hA0, ok0, fun H3 a h x3 b3 hA ok => ?_⟩
  have zm := mlen ok
  refine ⟨_, rfl, _, rfl, a, h, rfl, hA, ok, fun od H4 fod e4 hod => ?_⟩
  refine ⟨_, rfl, _, rfl, a, h, rfl, HeapAt.mono (Tk.all e4) hA, ok, fun mt H5 fmt e5 hmt => ?_⟩
  refine ⟨_, rfl, od, _, rfl, .inl ⟨SqL.of (ExA.at e5 hod), fun t ft => ?_⟩⟩
  have e6 : ExA H5 (upd H5 t (.tup ((marked h).map V.int))) := ExM.new ft
  have ht : SqT K (upd H5 t (.tup ((marked h).map V.int))) t ((marked h).map V.int) := SqT.of upd_same
  generalize upd H5 t (.tup ((marked h).map V.int)) = H6 at e6 ht ⊢
  refine ⟨_, _, rfl, _, tupIs (Tk.all e6 _ _ (SqT.of hmt)), tupIs ht, tup_dep _, tup_thin (by omega), _, rfl, iteF ?_⟩
  have e46 := e5.trans e6
  have hA6 := HeapAt.mono (Tk.all (e4.trans e46)) hA
  refine ⟨_, rfl, _, rfl, _, _, rfl, a, h, od, rfl, rfl, hA6, ok, SqL.of (ExA.at e46 hod), fun H7 du e7 hdu => ?_⟩
  have gok := cn_ok ok
  refine ⟨_, rfl, _, rfl, a, h, rfl, HeapAt.mono (Tk.all e7) hA6, ok, fun H8 p8 e8 hp8 => ?_⟩
  have hdu8 := HeapAt.mono (Tk.all e8) hdu
  refine ⟨_, rfl, _, _, rfl, _, hd_is hp8, hd_is hdu8, hd_dep _, hd_thinO gok, true, rfl, ?_⟩
  refine iteT ?_
  refine ⟨_, rfl, _, rfl, du, _, rfl, hdu8, gok, fun H9 p9 e9 hp9 => ?_⟩
  rw [cn_cn ok] at hp9
  exact ⟨_, rfl, _, _, rfl, _, hd_is hp9, hd_is (HeapAt.mono (Tk.all e9) hdu8), hd_dep _, hd_thinO gok, q _⟩
end
end Wc
namespace Wc
open PySem L2
theorem all_mk {l : PySem.W.OpenLaw} {w : World} {K : PySem.W.Frag} {h : Heap} {mg : Str → Option Value} {fa : Addr} (X : K.In h) (G : h.Ns mainGlobals mg) (hfa : mg "law" = some (.ref fa))
    {f1 f2 f3 f4 f5 f6 f7 f8 f9 f10 f11 f12 f13 f14 f15 f16 f17 f18 f19 f20 f21 f22 f23 f24 f25 : Addr} {od1 an1 od2 an2 od3 an3 od4 an4 od5 an5 od6 an6 od7 an7 od8 an8 od9 an9 od10 an10 od11 an11 od12 an12 od13 an13 od14 an14 od15 an15 od16 an16 od17 an17 od18 an18 od19 an19 od20 an20 od21 an21 od22 an22 od23 an23 od24 an24 od25 an25 : Option Addr} {sl1 sl2 sl3 sl4 sl5 sl6 sl7 sl8 sl9 sl10 sl11 sl12 sl13 sl14 sl15 sl16 sl17 sl18 sl19 sl20 sl21 sl22 sl23 sl24 sl25 : Array (Option Value)} {oc1 kV1 dc1 pm1 cd1 ct1 oc2 kV2 dc2 pm2 cd2 ct2 oc3 kV3 dc3 pm3 cd3 ct3 oc4 kV4 dc4 pm4 cd4 ct4 oc5 kV5 dc5 pm5 cd5 ct5 oc6 kV6 dc6 pm6 cd6 ct6 oc7 kV7 dc7 pm7 cd7 ct7 oc8 kV8 dc8 pm8 cd8 ct8 oc9 kV9 dc9 pm9 cd9 ct9 oc10 kV10 dc10 pm10 cd10 ct10 oc11 kV11 dc11 pm11 cd11 ct11 oc12 kV12 dc12 pm12 cd12 ct12 oc13 kV13 dc13 pm13 cd13 ct13 oc14 kV14 dc14 pm14 cd14 ct14 oc15 kV15 dc15 pm15 cd15 ct15 oc16 kV16 dc16 pm16 cd16 ct16 oc17 kV17 dc17 pm17 cd17 ct17 oc18 kV18 dc18 pm18 cd18 ct18 oc19 kV19 dc19 pm19 cd19 ct19 oc20 kV20 dc20 pm20 cd20 ct20 oc21 kV21 dc21 pm21 cd21 ct21 oc22 kV22 dc22 pm22 cd22 ct22 oc23 kV23 dc23 pm23 cd23 ct23 oc24 kV24 dc24 pm24 cd24 ct24 oc25 kV25 dc25 pm25 cd25 ct25 : Value}
    (a1 : PySem.W.nsIn K mainGlobals "registers_of" = some (some (.ref f1))) (l1 : K.lookup f1 = some ⟨oc1, od1, .func (PySem.W.fnOf "registers_of" "registers_of" (defArgs s_registers_of) (defBody s_registers_of) (defScope s_registers_of) .none kV1 dc1 pm1 an1 cd1 ct1), sl1⟩) (c1 : PySem.W.codeIn K cd1 "registers_of" = true) (k1 : PySem.W.keepIn K (.ref f1) = true)
    (a2 : PySem.W.nsIn K mainGlobals "kept_of" = some (some (.ref f2))) (l2 : K.lookup f2 = some ⟨oc2, od2, .func (PySem.W.fnOf "kept_of" "kept_of" (defArgs s_kept_of) (defBody s_kept_of) (defScope s_kept_of) .none kV2 dc2 pm2 an2 cd2 ct2), sl2⟩) (c2 : PySem.W.codeIn K cd2 "kept_of" = true) (k2 : PySem.W.keepIn K (.ref f2) = true)
    (a3 : PySem.W.nsIn K mainGlobals "objects_of" = some (some (.ref f3))) (l3 : K.lookup f3 = some ⟨oc3, od3, .func (PySem.W.fnOf "objects_of" "objects_of" (defArgs s_objects_of) (defBody s_objects_of) (defScope s_objects_of) .none kV3 dc3 pm3 an3 cd3 ct3), sl3⟩) (c3 : PySem.W.codeIn K cd3 "objects_of" = true) (k3 : PySem.W.keepIn K (.ref f3) = true)
    (a4 : PySem.W.nsIn K mainGlobals "watches_of" = some (some (.ref f4))) (l4 : K.lookup f4 = some ⟨oc4, od4, .func (PySem.W.fnOf "watches_of" "watches_of" (defArgs s_watches_of) (defBody s_watches_of) (defScope s_watches_of) .none kV4 dc4 pm4 an4 cd4 ct4), sl4⟩) (c4 : PySem.W.codeIn K cd4 "watches_of" = true) (k4 : PySem.W.keepIn K (.ref f4) = true)
    (a5 : PySem.W.nsIn K mainGlobals "by_number" = some (some (.ref f5))) (l5 : K.lookup f5 = some ⟨oc5, od5, .func (PySem.W.fnOf "by_number" "by_number" (defArgs s_by_number) (defBody s_by_number) (defScope s_by_number) .none kV5 dc5 pm5 an5 cd5 ct5), sl5⟩) (c5 : PySem.W.codeIn K cd5 "by_number" = true) (k5 : PySem.W.keepIn K (.ref f5) = true)
    (a6 : PySem.W.nsIn K mainGlobals "objects_among" = some (some (.ref f6))) (l6 : K.lookup f6 = some ⟨oc6, od6, .func (PySem.W.fnOf "objects_among" "objects_among" (defArgs s_objects_among) (defBody s_objects_among) (defScope s_objects_among) .none kV6 dc6 pm6 an6 cd6 ct6), sl6⟩) (c6 : PySem.W.codeIn K cd6 "objects_among" = true) (k6 : PySem.W.keepIn K (.ref f6) = true)
    (a7 : PySem.W.nsIn K mainGlobals "marking" = some (some (.ref f7))) (l7 : K.lookup f7 = some ⟨oc7, od7, .func (PySem.W.fnOf "marking" "marking" (defArgs s_marking) (defBody s_marking) (defScope s_marking) .none kV7 dc7 pm7 an7 cd7 ct7), sl7⟩) (c7 : PySem.W.codeIn K cd7 "marking" = true) (k7 : PySem.W.keepIn K (.ref f7) = true)
    (a8 : PySem.W.nsIn K mainGlobals "found_by_scanning" = some (some (.ref f8))) (l8 : K.lookup f8 = some ⟨oc8, od8, .func (PySem.W.fnOf "found_by_scanning" "found_by_scanning" (defArgs s_found_by_scanning) (defBody s_found_by_scanning) (defScope s_found_by_scanning) .none kV8 dc8 pm8 an8 cd8 ct8), sl8⟩) (c8 : PySem.W.codeIn K cd8 "found_by_scanning" = true) (k8 : PySem.W.keepIn K (.ref f8) = true)
    (a9 : PySem.W.nsIn K mainGlobals "canonical" = some (some (.ref f9))) (l9 : K.lookup f9 = some ⟨oc9, od9, .func (PySem.W.fnOf "canonical" "canonical" (defArgs s_canonical) (defBody s_canonical) (defScope s_canonical) .none kV9 dc9 pm9 an9 cd9 ct9), sl9⟩) (c9 : PySem.W.codeIn K cd9 "canonical" = true) (k9 : PySem.W.keepIn K (.ref f9) = true)
    (a10 : PySem.W.nsIn K mainGlobals "renumbered" = some (some (.ref f10))) (l10 : K.lookup f10 = some ⟨oc10, od10, .func (PySem.W.fnOf "renumbered" "renumbered" (defArgs s_renumbered) (defBody s_renumbered) (defScope s_renumbered) .none kV10 dc10 pm10 an10 cd10 ct10), sl10⟩) (c10 : PySem.W.codeIn K cd10 "renumbered" = true) (k10 : PySem.W.keepIn K (.ref f10) = true)
    (a11 : PySem.W.nsIn K mainGlobals "_law_of" = some (some (.ref f11))) (l11 : K.lookup f11 = some ⟨oc11, od11, .func (PySem.W.fnOf "_law_of" "_law_of" (defArgs s__law_of) (defBody s__law_of) (defScope s__law_of) .none kV11 dc11 pm11 an11 cd11 ct11), sl11⟩) (c11 : PySem.W.codeIn K cd11 "_law_of" = true) (k11 : PySem.W.keepIn K (.ref f11) = true)
    (a12 : PySem.W.nsIn K mainGlobals "_law_cell" = some (some (.ref f12))) (l12 : K.lookup f12 = some ⟨oc12, od12, .func (PySem.W.fnOf "_law_cell" "_law_cell" (defArgs s__law_cell) (defBody s__law_cell) (defScope s__law_cell) .none kV12 dc12 pm12 an12 cd12 ct12), sl12⟩) (c12 : PySem.W.codeIn K cd12 "_law_cell" = true) (k12 : PySem.W.keepIn K (.ref f12) = true)
    (a13 : PySem.W.nsIn K mainGlobals "_law_digits" = some (some (.ref f13))) (l13 : K.lookup f13 = some ⟨oc13, od13, .func (PySem.W.fnOf "_law_digits" "_law_digits" (defArgs s__law_digits) (defBody s__law_digits) (defScope s__law_digits) .none kV13 dc13 pm13 an13 cd13 ct13), sl13⟩) (c13 : PySem.W.codeIn K cd13 "_law_digits" = true) (k13 : PySem.W.keepIn K (.ref f13) = true)
    (a14 : PySem.W.nsIn K mainGlobals "_law_box" = some (some (.ref f14))) (l14 : K.lookup f14 = some ⟨oc14, od14, .func (PySem.W.fnOf "_law_box" "_law_box" (defArgs s__law_box) (defBody s__law_box) (defScope s__law_box) .none kV14 dc14 pm14 an14 cd14 ct14), sl14⟩) (c14 : PySem.W.codeIn K cd14 "_law_box" = true) (k14 : PySem.W.keepIn K (.ref f14) = true)
    (a15 : PySem.W.nsIn K mainGlobals "_law_draw" = some (some (.ref f15))) (l15 : K.lookup f15 = some ⟨oc15, od15, .func (PySem.W.fnOf "_law_draw" "_law_draw" (defArgs s__law_draw) (defBody s__law_draw) (defScope s__law_draw) .none kV15 dc15 pm15 an15 cd15 ct15), sl15⟩) (c15 : PySem.W.codeIn K cd15 "_law_draw" = true) (k15 : PySem.W.keepIn K (.ref f15) = true)
    (a16 : PySem.W.nsIn K mainGlobals "_law_number" = some (some (.ref f16))) (l16 : K.lookup f16 = some ⟨oc16, od16, .func (PySem.W.fnOf "_law_number" "_law_number" (defArgs s__law_number) (defBody s__law_number) (defScope s__law_number) .none kV16 dc16 pm16 an16 cd16 ct16), sl16⟩) (c16 : PySem.W.codeIn K cd16 "_law_number" = true) (k16 : PySem.W.keepIn K (.ref f16) = true)
    (a17 : PySem.W.nsIn K mainGlobals "_law_object" = some (some (.ref f17))) (l17 : K.lookup f17 = some ⟨oc17, od17, .func (PySem.W.fnOf "_law_object" "_law_object" (defArgs s__law_object) (defBody s__law_object) (defScope s__law_object) .none kV17 dc17 pm17 an17 cd17 ct17), sl17⟩) (c17 : PySem.W.codeIn K cd17 "_law_object" = true) (k17 : PySem.W.keepIn K (.ref f17) = true)
    (a18 : PySem.W.nsIn K mainGlobals "_law_heap" = some (some (.ref f18))) (l18 : K.lookup f18 = some ⟨oc18, od18, .func (PySem.W.fnOf "_law_heap" "_law_heap" (defArgs s__law_heap) (defBody s__law_heap) (defScope s__law_heap) .none kV18 dc18 pm18 an18 cd18 ct18), sl18⟩) (c18 : PySem.W.codeIn K cd18 "_law_heap" = true) (k18 : PySem.W.keepIn K (.ref f18) = true)
    (a19 : PySem.W.nsIn K mainGlobals "_law_same" = some (some (.ref f19))) (l19 : K.lookup f19 = some ⟨oc19, od19, .func (PySem.W.fnOf "_law_same" "_law_same" (defArgs s__law_same) (defBody s__law_same) (defScope s__law_same) .none kV19 dc19 pm19 an19 cd19 ct19), sl19⟩) (c19 : PySem.W.codeIn K cd19 "_law_same" = true) (k19 : PySem.W.keepIn K (.ref f19) = true)
    (a20 : PySem.W.nsIn K mainGlobals "_law_marked" = some (some (.ref f20))) (l20 : K.lookup f20 = some ⟨oc20, od20, .func (PySem.W.fnOf "_law_marked" "_law_marked" (defArgs s__law_marked) (defBody s__law_marked) (defScope s__law_marked) .none kV20 dc20 pm20 an20 cd20 ct20), sl20⟩) (c20 : PySem.W.codeIn K cd20 "_law_marked" = true) (k20 : PySem.W.keepIn K (.ref f20) = true)
    (a21 : PySem.W.nsIn K mainGlobals "_law_place" = some (some (.ref f21))) (l21 : K.lookup f21 = some ⟨oc21, od21, .func (PySem.W.fnOf "_law_place" "_law_place" (defArgs s__law_place) (defBody s__law_place) (defScope s__law_place) .none kV21 dc21 pm21 an21 cd21 ct21), sl21⟩) (c21 : PySem.W.codeIn K cd21 "_law_place" = true) (k21 : PySem.W.keepIn K (.ref f21) = true)
    (a22 : PySem.W.nsIn K mainGlobals "_law_canonical" = some (some (.ref f22))) (l22 : K.lookup f22 = some ⟨oc22, od22, .func (PySem.W.fnOf "_law_canonical" "_law_canonical" (defArgs s__law_canonical) (defBody s__law_canonical) (defScope s__law_canonical) .none kV22 dc22 pm22 an22 cd22 ct22), sl22⟩) (c22 : PySem.W.codeIn K cd22 "_law_canonical" = true) (k22 : PySem.W.keepIn K (.ref f22) = true)
    (a23 : PySem.W.nsIn K mainGlobals "_law_numbers" = some (some (.ref f23))) (l23 : K.lookup f23 = some ⟨oc23, od23, .func (PySem.W.fnOf "_law_numbers" "_law_numbers" (defArgs s__law_numbers) (defBody s__law_numbers) (defScope s__law_numbers) .none kV23 dc23 pm23 an23 cd23 ct23), sl23⟩) (c23 : PySem.W.codeIn K cd23 "_law_numbers" = true) (k23 : PySem.W.keepIn K (.ref f23) = true)
    (a24 : PySem.W.nsIn K mainGlobals "_law_watched" = some (some (.ref f24))) (l24 : K.lookup f24 = some ⟨oc24, od24, .func (PySem.W.fnOf "_law_watched" "_law_watched" (defArgs s__law_watched) (defBody s__law_watched) (defScope s__law_watched) .none kV24 dc24 pm24 an24 cd24 ct24), sl24⟩) (c24 : PySem.W.codeIn K cd24 "_law_watched" = true) (k24 : PySem.W.keepIn K (.ref f24) = true)
    (a25 : PySem.W.nsIn K mainGlobals "law" = some (some (.ref f25))) (l25 : K.lookup f25 = some ⟨oc25, od25, .func (PySem.W.fnOf "law" "law" (defArgs s_law) (defBody s_law) (defScope s_law) .none kV25 dc25 pm25 an25 cd25 ct25), sl25⟩) (c25 : PySem.W.codeIn K cd25 "law" = true) (k25 : PySem.W.keepIn K (.ref f25) = true)
    (z_bool : PySem.W.nsIn K mainGlobals "bool" = some none)
    (z_enumerate : PySem.W.nsIn K mainGlobals "enumerate" = some none)
    (z_int : PySem.W.nsIn K mainGlobals "int" = some none)
    (z_isinstance : PySem.W.nsIn K mainGlobals "isinstance" = some none)
    (z_len : PySem.W.nsIn K mainGlobals "len" = some none)
    (z_list : PySem.W.nsIn K mainGlobals "list" = some none)
    (z_range : PySem.W.nsIn K mainGlobals "range" = some none)
    (z_sorted : PySem.W.nsIn K mainGlobals "sorted" = some none)
    (z_str : PySem.W.nsIn K mainGlobals "str" = some none)
    (z_tuple : PySem.W.nsIn K mainGlobals "tuple" = some none)
    : ∃ fd : FuncData, (∀ (s : Shared) (v : Value), BindsTo s fd ⟨[v], []⟩ [("script", v)]) ∧ ∀ base : Heap, K.In base → base.Ns mainGlobals mg → FnOk l.prog w K mg base CX0 10 fa fd ["script"] (sp_law K) := by
  have e := hfa.symm.trans (PySem.W.mg_of X G a25)
  cases e
  have T : Txt mg := ⟨PySem.W.mg_none_of X G z_bool, PySem.W.mg_none_of X G z_enumerate, PySem.W.mg_none_of X G z_int, PySem.W.mg_none_of X G z_isinstance, PySem.W.mg_none_of X G z_len, PySem.W.mg_none_of X G z_list, PySem.W.mg_none_of X G z_range, PySem.W.mg_none_of X G z_sorted, PySem.W.mg_none_of X G z_str, PySem.W.mg_none_of X G z_tuple⟩
  have F1 := Df.of (st := s_registers_of) l1 c1
  have G1 := fun_mk (st := s_registers_of) l1 c1 k1
  have F2 := Df.of (st := s_kept_of) l2 c2
  have G2 := fun_mk (st := s_kept_of) l2 c2 k2
  have F3 := Df.of (st := s_objects_of) l3 c3
  have G3 := fun_mk (st := s_objects_of) l3 c3 k3
  have F4 := Df.of (st := s_watches_of) l4 c4
  have G4 := fun_mk (st := s_watches_of) l4 c4 k4
  have F5 := Df.of (st := s_by_number) l5 c5
  have G5 := fun_mk (st := s_by_number) l5 c5 k5
  have F6 := Df.of (st := s_objects_among) l6 c6
  have G6 := fun_mk (st := s_objects_among) l6 c6 k6
  have F7 := Df.of (st := s_marking) l7 c7
  have G7 := fun_mk (st := s_marking) l7 c7 k7
  have F8 := Df.of (st := s_found_by_scanning) l8 c8
  have G8 := fun_mk (st := s_found_by_scanning) l8 c8 k8
  have F9 := Df.of (st := s_canonical) l9 c9
  have G9 := fun_mk (st := s_canonical) l9 c9 k9
  have F10 := Df.of (st := s_renumbered) l10 c10
  have G10 := fun_mk (st := s_renumbered) l10 c10 k10
  have F11 := Df.of (st := s__law_of) l11 c11
  have G11 := fun_mk (st := s__law_of) l11 c11 k11
  have F12 := Df.of (st := s__law_cell) l12 c12
  have G12 := fun_mk (st := s__law_cell) l12 c12 k12
  have F13 := Df.of (st := s__law_digits) l13 c13
  have G13 := fun_mk (st := s__law_digits) l13 c13 k13
  have F14 := Df.of (st := s__law_box) l14 c14
  have G14 := fun_mk (st := s__law_box) l14 c14 k14
  have F15 := Df.of (st := s__law_draw) l15 c15
  have G15 := fun_mk (st := s__law_draw) l15 c15 k15
  have F16 := Df.of (st := s__law_number) l16 c16
  have G16 := fun_mk (st := s__law_number) l16 c16 k16
  have F17 := Df.of (st := s__law_object) l17 c17
  have G17 := fun_mk (st := s__law_object) l17 c17 k17
  have F18 := Df.of (st := s__law_heap) l18 c18
  have G18 := fun_mk (st := s__law_heap) l18 c18 k18
  have F19 := Df.of (st := s__law_same) l19 c19
  have G19 := fun_mk (st := s__law_same) l19 c19 k19
  have F20 := Df.of (st := s__law_marked) l20 c20
  have G20 := fun_mk (st := s__law_marked) l20 c20 k20
  have F21 := Df.of (st := s__law_place) l21 c21
  have G21 := fun_mk (st := s__law_place) l21 c21 k21
  have F22 := Df.of (st := s__law_canonical) l22 c22
  have G22 := fun_mk (st := s__law_canonical) l22 c22 k22
  have F23 := Df.of (st := s__law_numbers) l23 c23
  have G23 := fun_mk (st := s__law_numbers) l23 c23 k23
  have F24 := Df.of (st := s__law_watched) l24 c24
  have G24 := fun_mk (st := s__law_watched) l24 c24 k24
  have F25 := Df.of (st := s_law) l25 c25
  have G25 := fun_mk (st := s_law) l25 c25 k25
  refine ⟨PySem.W.fnOf "law" "law" (defArgs s_law) (defBody s_law) (defScope s_law) .none kV25 dc25 pm25 an25 cd25 ct25, fun s v => .of_eq rfl, fun base _ _ => ?_⟩
  have b1 := G1.binds (ps := ["heap"]) fun _ _ _ _ _ _ us hl => match us, hl with | [_], _ => rfl
  have C_registers_of : Cal l.prog w K mg base 1 "registers_of" (sp_registers_of K) [] := Cal.mk0 (ok_registers_of F1 T) (PySem.W.mg_of X G a1) k1 b1
  have b2 := G2.binds (ps := ["heap"]) fun _ _ _ _ _ _ us hl => match us, hl with | [_], _ => rfl
  have C_kept_of : Cal l.prog w K mg base 1 "kept_of" (sp_kept_of K) [] := Cal.mk0 (ok_kept_of F2 T) (PySem.W.mg_of X G a2) k2 b2
  have b3 := G3.binds (ps := ["heap"]) fun _ _ _ _ _ _ us hl => match us, hl with | [_], _ => rfl
  have C_objects_of : Cal l.prog w K mg base 1 "objects_of" (sp_objects_of K) [] := Cal.mk0 (ok_objects_of F3 T) (PySem.W.mg_of X G a3) k3 b3
  have b4 := G4.binds (ps := ["heap"]) fun _ _ _ _ _ _ us hl => match us, hl with | [_], _ => rfl
  have C_watches_of : Cal l.prog w K mg base 1 "watches_of" (sp_watches_of K) [] := Cal.mk0 (ok_watches_of F4 T) (PySem.W.mg_of X G a4) k4 b4
  have b6 := G6.binds (ps := ["references"]) fun _ _ _ _ _ _ us hl => match us, hl with | [_], _ => rfl
  have C_objects_among : Cal l.prog w K mg base 1 "objects_among" (sp_objects_among K) [] := Cal.mk0 (ok_objects_among F6 T) (PySem.W.mg_of X G a6) k6 b6
  have b10 := G10.binds (ps := ["thing", "places"]) fun _ _ _ _ _ _ us hl => match us, hl with | [_, _], _ => rfl
  have C_renumbered : Cal l.prog w K mg base 1 "renumbered" (sp_renumbered K) [] := Cal.mk0 (ok_renumbered F10 T) (PySem.W.mg_of X G a10) k10 b10
  have b11 := G11.binds (ps := ["heap", "number"]) fun _ _ _ _ _ _ us hl => match us, hl with | [_, _], _ => rfl
  have C__law_of : Cal l.prog w K mg base 1 "_law_of" (sp__law_of K) [] := Cal.mk0 (ok__law_of F11 T) (PySem.W.mg_of X G a11) k11 b11
  have b12 := G12.binds (ps := ["script", "k"]) fun _ _ _ _ _ _ us hl => match us, hl with | [_, _], _ => rfl
  have C__law_cell : Cal l.prog w K mg base 1 "_law_cell" (sp__law_cell K) [] := Cal.mk0 (ok__law_cell F12 T) (PySem.W.mg_of X G a12) k12 b12
  have b15 := G15.binds (ps := ["box", "many"]) fun _ _ _ _ _ _ us hl => match us, hl with | [_, _], _ => rfl
  have C__law_draw : Cal l.prog w K mg base 1 "_law_draw" (sp__law_draw K) [] := Cal.mk0 (ok__law_draw F15 T) (PySem.W.mg_of X G a15) k15 b15
  have b21 := G21.binds (ps := ["order", "number"]) fun _ _ _ _ _ _ us hl => match us, hl with | [_, _], _ => rfl
  have C__law_place : Cal l.prog w K mg base 1 "_law_place" (sp__law_place K) [] := Cal.mk0 (ok__law_place F21 T) (PySem.W.mg_of X G a21) k21 b21
  have b23 := G23.binds (ps := ["heap"]) fun _ _ _ _ _ _ us hl => match us, hl with | [_], _ => rfl
  have C__law_numbers : Cal l.prog w K mg base 1 "_law_numbers" (sp__law_numbers K) [] := Cal.mk0 (ok__law_numbers F23 T) (PySem.W.mg_of X G a23) k23 b23
  have b5 := G5.binds (ps := ["heap"]) fun _ _ _ _ _ _ us hl => match us, hl with | [_], _ => rfl
  have C_by_number : Cal l.prog w K mg base 2 "by_number" (sp_by_number K) [] := Cal.mk0 (ok_by_number F5 T C_objects_of) (PySem.W.mg_of X G a5) k5 b5
  have b8 := G8.binds (ps := ["things", "number", "scanned"]) fun _ _ _ _ _ _ us hl => match us, hl with | [_, _, _], _ => rfl
  have C_found_by_scanning : Cal l.prog w K mg base 2 "found_by_scanning" (sp_found_by_scanning K) [] := Cal.mk0 (ok_found_by_scanning F8 T C_objects_among) (PySem.W.mg_of X G a8) k8 b8
  have b13 := G13.binds (ps := ["script", "first", "last"]) fun _ _ _ _ _ _ us hl => match us, hl with | [_, _, _], _ => rfl
  have C__law_digits : Cal l.prog w K mg base 2 "_law_digits" (sp__law_digits K) [] := Cal.mk0 (ok__law_digits F13 T C__law_cell) (PySem.W.mg_of X G a13) k13 b13
  have b16 := G16.binds (ps := ["box", "numbers"]) fun _ _ _ _ _ _ us hl => match us, hl with | [_, _], _ => rfl
  have C__law_number : Cal l.prog w K mg base 2 "_law_number" (sp__law_number K) [] := Cal.mk0 (ok__law_number F16 T C__law_draw) (PySem.W.mg_of X G a16) k16 b16
  have b20 := G20.binds (ps := ["heap"]) fun _ _ _ _ _ _ us hl => match us, hl with | [_], _ => rfl
  have C__law_marked : Cal l.prog w K mg base 2 "_law_marked" (sp__law_marked K) [] := Cal.mk0 (ok__law_marked F20 T C__law_of) (PySem.W.mg_of X G a20) k20 b20
  have b22 := G22.binds (ps := ["heap", "order"]) fun _ _ _ _ _ _ us hl => match us, hl with | [_, _], _ => rfl
  have C__law_canonical : Cal l.prog w K mg base 2 "_law_canonical" (sp__law_canonical K) [] := Cal.mk0 (ok__law_canonical F22 T C__law_of C__law_place) (PySem.W.mg_of X G a22) k22 b22
  have b24 := G24.binds (ps := ["box", "heap"]) fun _ _ _ _ _ _ us hl => match us, hl with | [_, _], _ => rfl
  have C__law_watched : Cal l.prog w K mg base 2 "_law_watched" (sp__law_watched K) [] := Cal.mk0 (ok__law_watched F24 T C__law_draw C__law_numbers) (PySem.W.mg_of X G a24) k24 b24
  have b7 := G7.binds (ps := ["heap"]) fun _ _ _ _ _ _ us hl => match us, hl with | [_], _ => rfl
  have C_marking : Cal l.prog w K mg base 3 "marking" (sp_marking K) [] := Cal.mk0 (ok_marking F7 T C_registers_of C_by_number C_objects_among C_found_by_scanning) (PySem.W.mg_of X G a7) k7 b7
  have b14 := G14.binds (ps := ["script", "first", "last"]) fun _ _ _ _ _ _ us hl => match us, hl with | [_, _, _], _ => rfl
  have C__law_box : Cal l.prog w K mg base 3 "_law_box" (sp__law_box K) [] := Cal.mk0 (ok__law_box F14 T C__law_digits) (PySem.W.mg_of X G a14) k14 b14
  have b17 := G17.binds (ps := ["box", "number", "numbers"]) fun _ _ _ _ _ _ us hl => match us, hl with | [_, _, _], _ => rfl
  have C__law_object : Cal l.prog w K mg base 3 "_law_object" (sp__law_object K) [] := Cal.mk0 (ok__law_object F17 T C__law_draw C__law_number) (PySem.W.mg_of X G a17) k17 b17
  have b9 := G9.binds (ps := ["heap"]) fun _ _ _ _ _ _ us hl => match us, hl with | [_], _ => rfl
  have C_canonical : Cal l.prog w K mg base 4 "canonical" (sp_canonical K) [] := Cal.mk0 (ok_canonical F9 T C_registers_of C_kept_of C_watches_of C_by_number C_marking C_renumbered) (PySem.W.mg_of X G a9) k9 b9
  have b18 := G18.binds (ps := ["box", "most"]) fun _ _ _ _ _ _ us hl => match us, hl with | [_, _], _ => rfl
  have C__law_heap : Cal l.prog w K mg base 4 "_law_heap" (sp__law_heap K) [] := Cal.mk0 (ok__law_heap F18 T C__law_draw C__law_number C__law_object) (PySem.W.mg_of X G a18) k18 b18
  have b19 := G19.binds (ps := ["actual", "expected"]) fun _ _ _ _ _ _ us hl => match us, hl with | [_, _], _ => rfl
  have C__law_same : Cal l.prog w K mg base 9 "_law_same" (sp__law_same K) [] := ok__law_same F19 T b19 (PySem.W.mg_of X G a19) k19
  exact ok_law F25 T C_marking C_canonical C__law_box C__law_heap C__law_same C__law_marked C__law_canonical C__law_watched
theorem walk {l : PySem.W.OpenLaw} {q : Program} {loose : List Str} {XP : (Str → Option Value) → Heap → Prop} {YP : World → Heap → Prop} {d : DefRec} {K : Params → PySem.W.Frag} (hn : l.most = some 63) (hdf : d.params.defaults = [])
    (hY : ∀ (w : World) (h : Heap), YP w h → (K w.params).In h)
    (F : ∀ (w : World) (mg : Str → Option Value) (fa : Addr) (h : Heap), (K w.params).In h → h.Ns mainGlobals mg → mg d.name = some (.ref fa) →
      ∃ fd : FuncData, (∀ (s : Shared) (u : Value), BindsTo s fd ⟨[u], []⟩ [("script", u)]) ∧ ∀ base : Heap, (K w.params).In base → base.Ns mainGlobals mg → FnOk l.prog w (K w.params) mg base CX0 10 fa fd ["script"] (sp_law (K w.params))) :
    PySem.W.WalkO q loose XP YP l.row.toRowW d [] (fun f vs => PySem.call f vs) :=
  L2.walk_of (n := 63) (k := 10) (x := "script") (CX := fun _ => CX0) (sp := fun w => sp_law (K w.params)) hn (by decide) hdf ⟨rfl, by decide, by decide⟩ hY F (fun _ _ a ns hl _ hS => ⟨_, rfl, a, ns, rfl, hS, hl, fun _ => rfl⟩) fun _ _ _ _ _ z => z
end Wc
open PySem PySem.W PyProof.Rows
set_option maxRecDepth 100000 in
set_option maxHeartbeats 0 in
theorem PySem.Challenge.cw_weakcourt_k24_canonical_heaps_holds : PySem.Challenge.rw_weakcourt_k24_canonical_heaps.Holds := by
  w_on; o_law; k_head; (case hw => w_witness2)
  k_fill
  refine Wc.walk (l := PySem.Challenge.rw_weakcourt_k24_canonical_heaps) rfl rfl (fun w h Y => PySem.W.kIn_of Y) ?F
  case F =>
    intro w mg fa h KX G hmg
    refine' Wc.all_mk KX G hmg ?a1 ?l1 ?c1 ?k1 ?a2 ?l2 ?c2 ?k2 ?a3 ?l3 ?c3 ?k3 ?a4 ?l4 ?c4 ?k4 ?a5 ?l5 ?c5 ?k5 ?a6 ?l6 ?c6 ?k6 ?a7 ?l7 ?c7 ?k7 ?a8 ?l8 ?c8 ?k8 ?a9 ?l9 ?c9 ?k9 ?a10 ?l10 ?c10 ?k10 ?a11 ?l11 ?c11 ?k11 ?a12 ?l12 ?c12 ?k12 ?a13 ?l13 ?c13 ?k13 ?a14 ?l14 ?c14 ?k14 ?a15 ?l15 ?c15 ?k15 ?a16 ?l16 ?c16 ?k16 ?a17 ?l17 ?c17 ?k17 ?a18 ?l18 ?c18 ?k18 ?a19 ?l19 ?c19 ?k19 ?a20 ?l20 ?c20 ?k20 ?a21 ?l21 ?c21 ?k21 ?a22 ?l22 ?c22 ?k22 ?a23 ?l23 ?c23 ?k23 ?a24 ?l24 ?c24 ?k24 ?a25 ?l25 ?c25 ?k25 ?z_bool ?z_enumerate ?z_int ?z_isinstance ?z_len ?z_list ?z_range ?z_sorted ?z_str ?z_tuple
    (case a1 => k_is); (case l1 => k_is); (case c1 => k_is); (case k1 => k_is)
    (case a2 => k_is); (case l2 => k_is); (case c2 => k_is); (case k2 => k_is)
    (case a3 => k_is); (case l3 => k_is); (case c3 => k_is); (case k3 => k_is)
    (case a4 => k_is); (case l4 => k_is); (case c4 => k_is); (case k4 => k_is)
    (case a5 => k_is); (case l5 => k_is); (case c5 => k_is); (case k5 => k_is)
    (case a6 => k_is); (case l6 => k_is); (case c6 => k_is); (case k6 => k_is)
    (case a7 => k_is); (case l7 => k_is); (case c7 => k_is); (case k7 => k_is)
    (case a8 => k_is); (case l8 => k_is); (case c8 => k_is); (case k8 => k_is)
    (case a9 => k_is); (case l9 => k_is); (case c9 => k_is); (case k9 => k_is)
    (case a10 => k_is); (case l10 => k_is); (case c10 => k_is); (case k10 => k_is)
    (case a11 => k_is); (case l11 => k_is); (case c11 => k_is); (case k11 => k_is)
    (case a12 => k_is); (case l12 => k_is); (case c12 => k_is); (case k12 => k_is)
    (case a13 => k_is); (case l13 => k_is); (case c13 => k_is); (case k13 => k_is)
    (case a14 => k_is); (case l14 => k_is); (case c14 => k_is); (case k14 => k_is)
    (case a15 => k_is); (case l15 => k_is); (case c15 => k_is); (case k15 => k_is)
    (case a16 => k_is); (case l16 => k_is); (case c16 => k_is); (case k16 => k_is)
    (case a17 => k_is); (case l17 => k_is); (case c17 => k_is); (case k17 => k_is)
    (case a18 => k_is); (case l18 => k_is); (case c18 => k_is); (case k18 => k_is)
    (case a19 => k_is); (case l19 => k_is); (case c19 => k_is); (case k19 => k_is)
    (case a20 => k_is); (case l20 => k_is); (case c20 => k_is); (case k20 => k_is)
    (case a21 => k_is); (case l21 => k_is); (case c21 => k_is); (case k21 => k_is)
    (case a22 => k_is); (case l22 => k_is); (case c22 => k_is); (case k22 => k_is)
    (case a23 => k_is); (case l23 => k_is); (case c23 => k_is); (case k23 => k_is)
    (case a24 => k_is); (case l24 => k_is); (case c24 => k_is); (case k24 => k_is)
    (case a25 => k_is); (case l25 => k_is); (case c25 => k_is); (case k25 => k_is)
    (case z_bool => k_is)
    (case z_enumerate => k_is)
    (case z_int => k_is)
    (case z_isinstance => k_is)
    (case z_len => k_is)
    (case z_list => k_is)
    (case z_range => k_is)
    (case z_sorted => k_is)
    (case z_str => k_is)
    (case z_tuple => k_is)
#print axioms PySem.Challenge.cw_weakcourt_k24_canonical_heaps_holds
