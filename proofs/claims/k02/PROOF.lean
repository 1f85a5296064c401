import PyProof.Rows.All
import Wide.All
import OpenK.AllK
import Wide.FinOn
import PyProof.EqAt
import PyProof.EqKinds
import PyProof.TupleCall
import PyProof.Rows.ListStrD
import HandS.ForMost
import HandS.IsInst
import HandS.RaiseMore
import HandS.Codes
import HandS.Walk
import PyProof.ReprRoads
import HandS.TupAny
import HandS.TupMul
import HandS.Set
import HandS.SetFor
import HandS.Strs
import HandS.Zip
import HandS.More
import HandS.WrittenGet
import HandS.RevRange
import HandS.Conv
import HandS.Style
import HandS.StrMore
import PySem.Challenge.RW_restwise_k02_labels_and_integers_judged
set_option Elab.async false
set_option linter.all false
set_option maxRecDepth 100000
set_option maxHeartbeats 4000000
namespace Rw
open PySem PySem.Spec PyProof.Rows L2
theorem bt_len : bootBuiltins "len" = some (.builtin "len") := by decide +kernel
theorem bt_abs : bootBuiltins "abs" = some (.builtin "abs") := by decide +kernel
theorem bt_max : bootBuiltins "max" = some (.builtin "max") := by decide +kernel
theorem bt_min : bootBuiltins "min" = some (.builtin "min") := by decide +kernel
theorem bt_all : bootBuiltins "all" = some (.builtin "all") := by decide +kernel
theorem bt_any : bootBuiltins "any" = some (.builtin "any") := by decide +kernel
theorem bt_repr : bootBuiltins "repr" = some (.builtin "repr") := by decide +kernel
theorem bt_isinstance : bootBuiltins "isinstance" = some (.builtin "isinstance") := by decide +kernel
theorem bt_sorted : bootBuiltins "sorted" = some (.builtin "sorted") := by decide +kernel
theorem bt_int : bootBuiltins "int" = some (.type "int") := by decide +kernel
theorem bt_str : bootBuiltins "str" = some (.type "str") := by decide +kernel
theorem bt_list : bootBuiltins "list" = some (.type "list") := by decide +kernel
theorem bt_tuple : bootBuiltins "tuple" = some (.type "tuple") := by decide +kernel
theorem bt_bool : bootBuiltins "bool" = some (.type "bool") := by decide +kernel
theorem bt_dict : bootBuiltins "dict" = some (.type "dict") := by decide +kernel
theorem bt_set : bootBuiltins "set" = some (.type "set") := by decide +kernel
theorem bt_range : bootBuiltins "range" = some (.type "range") := by decide +kernel
theorem bt_zip : bootBuiltins "zip" = some (.type "zip") := by decide +kernel
section
variable {X : Cx}
def CPowW (i j : Int) : Prop := 0 ≤ j ∧ (Builtin.Int.intBits i : Int) * j ≤ 2 ^ 27
theorem op_powW : OpR X (binaryOp .Pow) (rI CPowW fun i j => .int (i ^ j.toNat)) := opI fun _ _ _ _ _ _ _ hc q => PyProof.Rows.pow_int hc.1 hc.2 q
theorem call_repr_bool : CallR X (.builtin "repr") (fun xs H Q => ∃ b, xs = [.bl b] ∧ Q (.str (if b then "True" else "False")) H) := by
  intro pins s σ H xs us Q I r h
  obtain ⟨b, rfl, q⟩ := h
  obtain ⟨u, rfl, rfl⟩ := vals1 r
  exact PySem.P.repr_of_bool ⟨.str _, H, I.tok _, ⟨_, rfl⟩, q⟩
/-- the signs of a text, each as a text -/
def sgn (z : Str) : List V := z.cps.toList.map fun c => V.str ⟨#[c]⟩
theorem call_list_str (hc : X.calm = true) : CallR X (.type "list") (fun xs H Q => ∃ z, xs = [.str z] ∧ z.length ≤ sizeLine ∧ ∀ l, H l = none → Q (.ref l) (upd H l (.lst (sgn z)))) := by
  intro pins s σ H xs us Q I r h
  obtain ⟨z, rfl, hz, q⟩ := h
  obtain ⟨u, rfl, t, rfl⟩ := vals1 r
  refine PySem.call_list_str (I.ok.hd hc) z t (hn := hz) fun h' tk acc' c' hk hS' hacc => ?_
  have hv : ∀ (ys : List Value) (cs : List Nat), ys.length = cs.length → (∀ (j : Nat) (v : Value), ys[j]? = some v → ∃ (c : Nat) (u : Tok), cs[j]? = some c ∧ v = Value.str ⟨#[c]⟩ u) → Vals (cs.map fun c => V.str ⟨#[c]⟩) ys := by
    intro ys
    induction ys with
    | nil =>
      intro cs hl _
      cases cs with
      | nil => exact .nil
      | cons c cs => simp at hl
    | cons y ys ih =>
      intro cs hl hg
      cases cs with
      | nil => simp at hl
      | cons c cs =>
        obtain ⟨c', u, e1, e2⟩ := hg 0 y rfl
        have e3 : c = c' := by simpa using e1
        subst e3
        exact .cons ⟨u, e2⟩ (ih cs (by simpa using hl) fun j v hj => hg (j + 1) v (by simpa using hj))
  have hvv : Vals (sgn z) acc'.toList := by
    refine hv acc'.toList z.cps.toList ?_ fun j v hj => ?_
    · have := hacc.1
      simpa using this
    · obtain ⟨c, u, hc', rfl⟩ := hacc.2 j v (by simpa using hj)
      exact ⟨c, u, by simpa using hc', rfl⟩
  refine ⟨.ref s.heap.objs.size, _, I.laid (t' := tk) hk (Nat.le_refl _) (show ObjOk X.prog X.w _ h' _ (.lst (sgn z)) from ⟨?_, acc'.toList, c', hvv, by simpa using hS'⟩), rfl, q _ (I.hok.fresh (Nat.le_refl _))⟩
  have : (sgn z).length = z.cps.size := by simp [sgn]
  rw [this]; exact hz
end
theorem small1000000 {n : Nat} (h : n ≤ 1000000) : n < sizeLine := Nat.lt_of_le_of_lt h (by decide)
theorem erase_perm {α : Type} : ∀ {l : List α} {i : Nat} (h : i < l.length), (l[i] :: l.eraseIdx i).Perm l
  | [], _, h => absurd h (Nat.not_lt_zero _)
  | a :: l, 0, _ => List.Perm.refl _
  | a :: l, i + 1, h => by
    have h' : i < l.length := Nat.lt_of_succ_lt_succ h
    have ih := erase_perm (l := l) (i := i) h'
    show (l[i] :: a :: l.eraseIdx i).Perm (a :: l)
    exact (List.Perm.swap _ _ _).trans (ih.cons a)
/-! ### dice and heaps -/
def Dice (H : Hp) (d : Addr) : Prop := ∃ x y z : Int, 0 ≤ x ∧ 0 ≤ y ∧ 0 ≤ z ∧ H d = some (.lst [.int x, .int y, .int z])
/-- what a def that throws the dice at d leaves: all else that was tracked is as it was -/
def SB (d : Addr) (H H' : Hp) : Prop := ∀ b o, b ≠ d → H b = some o → H' b = some o
theorem SB.refl (d : Addr) (H : Hp) : SB d H H := fun _ _ _ h => h
theorem SB.trans {d : Addr} {H H1 H2 : Hp} (a : SB d H H1) (b : SB d H1 H2) : SB d H H2 := fun c o n h => b c o n (a c o n h)
theorem SB.of {d : Addr} {H H1 : Hp} (a : Same H H1) : SB d H H1 := fun c o _ h => a c o h
theorem SB.upd {d : Addr} {H : Hp} {o : HO} : SB d H (upd H d o) := fun c u n h => by rw [upd_ne n]; exact h
theorem SB.new {d p : Addr} {H : Hp} {o : HO} (h : H p = none) : SB d H (L2.upd H p o) := fun c u _ e => by rw [upd_ne (ne_of_none e h)]; exact e
theorem Same.new {p : Addr} {H : Hp} {o : HO} (h : H p = none) : Same H (L2.upd H p o) := fun c u e => by rw [upd_ne (ne_of_none e h)]; exact e
theorem Dice.new {d p : Addr} {H : Hp} {o : HO} (D : Dice H d) (h : H p = none) : Dice (L2.upd H p o) d := by
  obtain ⟨x, y, z, h1, h2, h3, e⟩ := D
  exact ⟨x, y, z, h1, h2, h3, by rw [upd_ne (ne_of_none e h)]; exact e⟩
theorem Dice.same {d : Addr} {H H' : Hp} (D : Dice H d) (h : Same H H') : Dice H' d := by
  obtain ⟨x, y, z, h1, h2, h3, e⟩ := D
  exact ⟨x, y, z, h1, h2, h3, h _ _ e⟩
theorem Dice.ne {d p : Addr} {H : Hp} (D : Dice H d) (h : H p = none) : d ≠ p := by
  obtain ⟨x, y, z, h1, h2, h3, e⟩ := D
  exact ne_of_none e h
/-- an object that is no such list stands elsewhere -/
theorem Dice.ne' {d p : Addr} {H : Hp} {o : HO} (D : Dice H d) (h : H p = some o) (n : ∀ x y z : Int, o ≠ .lst [.int x, .int y, .int z]) : p ≠ d := by
  obtain ⟨x, y, z, h1, h2, h3, e⟩ := D
  intro q
  rw [q, e] at h
  exact n x y z (Option.some.inj h).symm
/-- a name that holds the address of a def, the def there with what it keeps -/
def Ok (P : Program) (w : World) (K : PySem.W.Frag) (mg : Str → Option Value) (base : Heap) (k : Nat) (x : Str) (ps : List Str) (sp : Sp) : Prop :=
  ∃ f fd, mg x = some (.ref f) ∧ PySem.W.keepIn K (.ref f) = true ∧ L2.Binds K fd ps [] ∧ FnOk P w K mg base CX0 k f fd ps sp
/-- the def of the text at its name -/
def Has (K : PySem.W.Frag) (mg : Str → Option Value) (x : Str) (st : Stmt) (ps : List Str) : Prop :=
  ∃ f fd, mg x = some (.ref f) ∧ Fun K x x st f fd ∧ L2.Binds K fd ps []
/-! ### the rules with the written part K by its own name (within comprehensions the context is not the def's) -/
section
variable {X : Cx} {K : PySem.W.Frag}
def rLen (K : PySem.W.Frag) : List V → Hp → VK → Prop := fun xs H Q => ∃ p ys, xs = [.ref p] ∧ (SqL K H p ys ∨ SqT K H p ys) ∧ Q (.int ys.length) H
theorem k_len (hK : X.K = K := by rfl) : CallR X (.builtin "len") (rLen K) := by subst hK; exact call_len_seq
def rList (K : PySem.W.Frag) : List V → Hp → VK → Prop := fun xs H Q => ∃ p ys, xs = [.ref p] ∧ (SqL K H p ys ∨ SqT K H p ys) ∧ ∀ l, H l = none → Q (.ref l) (upd H l (.lst ys))
theorem k_listof (hK : X.K = K := by rfl) : CallR X (.type "list") (rList K) := by subst hK; exact call_list_of
def rTuple (K : PySem.W.Frag) : List V → Hp → VK → Prop := fun xs H Q => ∃ p ys, xs = [.ref p] ∧ ((SqL K H p ys ∧ ∀ l, H l = none → Q (.ref l) (upd H l (.tup ys))) ∨ (SqT K H p ys ∧ Q (.ref p) H))
theorem k_tupleof (hK : X.K = K := by rfl) : CallR X (.type "tuple") (rTuple K) := by subst hK; exact call_tuple_of
theorem k_sortedS (hK : X.K = K := by rfl) : CallR X (.builtin "sorted") (rSortedS K) := by subst hK; exact cr_sortedS
theorem k_isi (hK : X.K = K := by rfl) : CallR X (.builtin "isinstance") (rIsi K) := by subst hK; exact call_isi
theorem k_all (hc : X.calm = true := by rfl) (hK : X.K = K := by rfl) : CallR X (.builtin "all") (rAll K) := by subst hK; exact cr_all hc
theorem k_any (hc : X.calm = true := by rfl) (hK : X.K = K := by rfl) : CallR X (.builtin "any") (rAny K) := by subst hK; exact cr_any hc
theorem k_in (hK : X.K = K := by rfl) : OpR X (compareOp .In) (rIn K false) := by subst hK; exact op_in_seq
theorem k_notIn (hK : X.K = K := by rfl) : OpR X (compareOp .NotIn) (rIn K true) := by subst hK; exact op_notIn_seq
theorem k_eqD (hu : X.A.units + 64 < cLine) (hK : X.K = K := by rfl) : OpR X (compareOp .Eq) (rEqD K) := by subst hK; exact op_eqD hu
theorem k_neD (hu : X.A.units + 64 < cLine) (hK : X.K = K := by rfl) : OpR X (compareOp .NotEq) (rNeD K) := by subst hK; exact op_neD hu
theorem k_catT (hK : X.K = K := by rfl) : OpR X (binaryOp .Add) (rCatT K) := by subst hK; exact op_catT
theorem k_ixL (hK : X.K = K := by rfl) : IxR X (rIxL K) := by subst hK; exact ix_list
theorem k_ixT (hK : X.K = K := by rfl) : IxR X (rIxT K) := by subst hK; exact ix_tup
theorem k_ix (hK : X.K = K := by rfl) : IxR X (rIx K) := by subst hK; exact ix_seq
theorem k_slL (hK : X.K = K := by rfl) : SlR X (rSlL K) := by subst hK; exact sl_list
theorem k_slT (hK : X.K = K := by rfl) : SlR X (rSlT K) := by subst hK; exact sl_tup
theorem k_pl {tg l : Expr} {tl : TE} (h : PE X l tl) (hK : X.K = K := by rfl) : PI X tg l (iList K tl) := by subst hK; exact pi_list h
theorem k_pt {tg l : Expr} {tl : TE} (h : PE X l tl) (hK : X.K = K := by rfl) : PI X tg l (iTup K tl) := by subst hK; exact pi_tup h
theorem k_bm {e : Expr} {T : String} {r : V → List V → Hp → VK → Prop} {to : TE} {t : TA} (h : PE X e (tBM X.K T r to t)) (hK : X.K = K := by rfl) : PE X e (tBM K T r to t) := by subst hK; exact h
theorem k_bm0 {e : Expr} {T : String} {r : V → List V → Hp → VK → Prop} {to : TE} (h : PE X e (tBM0 X.K T r to)) (hK : X.K = K := by rfl) : PE X e (tBM0 K T r to) := by subst hK; exact h
def rJoin (K : PySem.W.Frag) : V → List V → Hp → VK → Prop := fun x xs H Q => ∃ a p, ∃ ys : List Str, x = .str a ∧ xs = [.ref p] ∧ (SqL K H p (ys.map V.str) ∨ SqT K H p (ys.map V.str)) ∧ (ys.map (·.length)).sum + ys.length * a.length ≤ 16777216 ∧ Q (.str (Txt.join a ys)) H
theorem k_join {e : Expr} {to te : TE} (h : PE X e (tM1 (rJoin X.K) to te)) (hK : X.K = K := by rfl) : PE X e (tM1 (rJoin K) to te) := by subst hK; exact h
theorem k_truth {e : Expr} {te : TE} (h : PT X e (fun σ H Q => te σ H fun x H' => ∃ k, TruV X.K x H' k ∧ Q k H')) (hK : X.K = K := by rfl) : PT X e (fun σ H Q => te σ H fun x H' => ∃ k, TruV K x H' k ∧ Q k H') := by subst hK; exact h
theorem k_gtup {tg : Expr} {n : Nat} {t : TGs} (h : PG X tg (gTup X.K n t)) (hK : X.K = K := by rfl) : PG X tg (gTup K n t) := by subst hK; exact h
end

/-! ### comprehensions that leave all that was tracked: behind i turns the new list at D holds acc i -/
def PvA (H1 : Hp) (D : Addr) (acc : Nat → List V) (i : Nat) (H : Hp) : Prop := Same H1 H ∧ H D = some (.lst (acc i))
section
variable {H1 H4 : Hp} {D : Addr} {acc : Nat → List V} {i : Nat} {y : V}
theorem PvA.start (nD : H1 D = none) (a0 : acc 0 = []) : PvA H1 D acc 0 (upd H1 D (.lst [])) := ⟨Same.new nD, by rw [a0]; exact upd_same⟩
theorem PvA.put (nD : H1 D = none) (s : Same H1 H4) (e : H4 D = some (.lst (acc i))) (hz : (acc i).length < sizeLine) (ha : acc (i + 1) = acc i ++ [y]) :
    ∃ a, H4 D = some (.lst a) ∧ a.length < sizeLine ∧ PvA H1 D acc (i + 1) (upd H4 D (.lst (a ++ [y]))) :=
  ⟨acc i, e, hz, fun b o hb => by rw [upd_ne (ne_of_none hb nD)]; exact s b o hb, by rw [ha]; exact upd_same⟩
theorem PvA.skip (p : PvA H1 D acc i H4) (ha : acc (i + 1) = acc i) : PvA H1 D acc (i + 1) H4 := ⟨p.1, by rw [ha]; exact p.2⟩
end
theorem take_put {α : Type} {l : List α} {i : Nat} {x : α} (h : l[i]? = some x) : l.take (i + 1) = l.take i ++ [x] := by
  rw [List.take_add_one, h]
  rfl
theorem take_lt {α : Type} {l : List α} {i : Nat} (h : i < l.length) (hz : l.length ≤ sizeLine) : (l.take i).length < sizeLine := by
  rw [List.length_take]
  omega
/-- what a filter keeps of the first i -/
theorem filter_put {α : Type} {l : List α} {i : Nat} {x : α} (p : α → Bool) (h : l[i]? = some x) : (l.take (i + 1)).filter p = (l.take i).filter p ++ (if p x then [x] else []) := by
  rw [take_put h, List.filter_append]
  cases e : p x <;> simp [e]

/-! ### data -/
theorem canAll_map {α : Type} (f : α → PyData) : ∀ l : List α, (∀ x ∈ l, (f x).canLay0 = true) → PyData.canLayAll0 (l.map f) = true
  | [], _ => by simp [PyData.canLayAll0]
  | x :: l, h => by
    have ih := canAll_map f l fun y hy => h y (List.mem_cons_of_mem _ hy)
    simp only [List.map_cons, PyData.canLayAll0, ih, h x List.mem_cons_self, Bool.and_self]
theorem depthAll_map {α : Type} (f : α → PyData) (n : Nat) : ∀ l : List α, (∀ x ∈ l, (f x).depth ≤ n) → PyData.depthAll (l.map f) ≤ n
  | [], _ => by simp [PyData.depthAll]
  | x :: l, h => by
    have ih := depthAll_map f n l fun y hy => h y (List.mem_cons_of_mem _ hy)
    have := h x List.mem_cons_self
    simp only [List.map_cons, PyData.depthAll]
    omega
theorem shaped_list {ds : List PyData} (h : PyData.canLayAll0 ds = true) (d : PyData.depthAll ds ≤ 63) : SeqAt.shaped (.list ds) = true := by
  refine Bool.and_eq_true_iff.mpr ⟨?_, decide_eq_true ?_⟩
  · simp only [PyData.canLay0]
    exact h
  · simp only [PyData.depth]
    omega
theorem shaped_tuple {ds : List PyData} (h : PyData.canLayAll0 ds = true) (d : PyData.depthAll ds ≤ 63) : SeqAt.shaped (.tuple ds) = true := by
  refine Bool.and_eq_true_iff.mpr ⟨?_, decide_eq_true ?_⟩
  · simp only [PyData.canLay0]
    exact h
  · simp only [PyData.depth]
    omega
/-- a text whose signs are signs -/
def okS (z : Str) : Prop := ∀ c ∈ z.cps.toList, c < 0x110000
theorem okS.can {z : Str} (h : okS z) : (PyData.str z).canLay0 = true := by
  simp only [PyData.canLay0, PyData.strOk]
  rw [← Array.all_toList, List.all_eq_true]
  intro c hc
  exact decide_eq_true (h c hc)
theorem shaped_strs {zs : List Str} (h : ∀ z ∈ zs, okS z) : SeqAt.shaped (.list (zs.map PyData.str)) = true :=
  shaped_list (canAll_map _ _ fun z hz => (h z hz).can) (Nat.le_trans (depthAll_map _ 0 _ fun z _ => by simp [PyData.depth]) (by decide))
theorem shaped_strsT {zs : List Str} (h : ∀ z ∈ zs, okS z) : SeqAt.shaped (.tuple (zs.map PyData.str)) = true :=
  shaped_tuple (canAll_map _ _ fun z hz => (h z hz).can) (Nat.le_trans (depthAll_map _ 0 _ fun z _ => by simp [PyData.depth]) (by decide))
section
variable {K : PySem.W.Frag} {H : Hp}
theorem dp_map {α : Type} (f : α → V) (g : α → PyData) : ∀ l : List α, (∀ x ∈ l, Dp K H (f x) (g x)) → DpAll K H (l.map f) (l.map g)
  | [], _ => .nil
  | x :: l, h => .cons (h x List.mem_cons_self) (dp_map f g l fun y hy => h y (List.mem_cons_of_mem _ hy))
theorem dp_strs (zs : List Str) : DpAll K H (zs.map V.str) (zs.map PyData.str) := dp_map _ _ _ fun z _ => .str z
theorem dp_bls (bs : List Bool) : DpAll K H (bs.map V.bl) (bs.map PyData.bool) := dp_map _ _ _ fun z _ => .bl z
theorem dp_ints (ns : List Int) : DpAll K H (ns.map V.int) (ns.map PyData.int) := dp_map _ _ _ fun z _ => .int z
end
theorem shaped_bls (bs : List Bool) : SeqAt.shaped (.list (bs.map PyData.bool)) = true :=
  shaped_list (canAll_map _ _ fun _ _ => by simp [PyData.canLay0]) (Nat.le_trans (depthAll_map _ 0 _ fun z _ => by simp [PyData.depth]) (by decide))
theorem shaped_blsT (bs : List Bool) : SeqAt.shaped (.tuple (bs.map PyData.bool)) = true :=
  shaped_tuple (canAll_map _ _ fun _ _ => by simp [PyData.canLay0]) (Nat.le_trans (depthAll_map _ 0 _ fun z _ => by simp [PyData.depth]) (by decide))
theorem eqv_nil : ∀ ds : List PyData, PyData.eqv (.list ds) (.list []) = ds.isEmpty
  | [] => by simp [PyData.eqv, PyData.eqvAll]
  | d :: ds => by simp [PyData.eqv, PyData.eqvAll]

/-! ### texts -/
theorem okS.app {a b : Str} (ha : okS a) (hb : okS b) : okS (a ++ b) := by
  intro c hc
  have : c ∈ a.cps.toList ++ b.cps.toList := by
    have e : (a ++ b).cps.toList = a.cps.toList ++ b.cps.toList := by rw [Str.cps_append, Array.toList_append]
    rw [← e]
    exact hc
  rcases List.mem_append.mp this with h | h
  · exact ha c h
  · exact hb c h
theorem okS.sg {c : Nat} (h : c < 0x110000) : okS ⟨#[c]⟩ := by
  intro c' hc'
  have e9 : c' = c := by simpa using hc'
  rw [e9]
  exact h
/-- the texts one behind another -/
def cat : List Str → Str
  | [] => Str.empty
  | z :: zs => z ++ cat zs
theorem cat_len : ∀ zs : List Str, (cat zs).length = (zs.map (·.length)).sum
  | [] => rfl
  | z :: zs => by
    show (z ++ cat zs).length = _
    rw [Str.length_append, cat_len zs, List.map_cons, List.sum_cons]
theorem cat_ok : ∀ {zs : List Str}, (∀ z ∈ zs, okS z) → okS (cat zs)
  | [], _ => fun c hc => by simp [cat, Str.empty] at hc
  | z :: zs, h => (h z List.mem_cons_self).app (cat_ok fun y hy => h y (List.mem_cons_of_mem _ hy))
theorem cat_list : ∀ zs : List Str, (cat zs).cps.toList = (zs.map (·.cps.toList)).flatten
  | [] => rfl
  | z :: zs => by
    show (z ++ cat zs).cps.toList = _
    rw [Str.cps_append, Array.toList_append, cat_list zs, List.map_cons, List.flatten_cons]
theorem join_nil (zs : List Str) : Txt.join (Str.ofString "") zs = cat zs := by
  rw [TL.join_eq]
  have e : Str.ofString "" = Str.empty := rfl
  rw [e]
  have h : ∀ ys : List Str, Str.join Str.empty ys = cat ys := by
    intro ys
    induction ys with
    | nil => rfl
    | cons y ys ih =>
      cases ys with
      | nil =>
        show y = y ++ Str.empty
        rw [Str.append_empty]
      | cons w ys =>
        show y ++ Str.empty ++ Str.join Str.empty (w :: ys) = y ++ cat (w :: ys)
        rw [ih, Str.append_empty]
  exact h zs
theorem sum_ones : ∀ {zs : List Str}, (∀ z ∈ zs, z.length = 1) → (zs.map (·.length)).sum = zs.length
  | [], _ => rfl
  | z :: zs, h => by
    rw [List.map_cons, List.sum_cons, h z List.mem_cons_self, sum_ones fun y hy => h y (List.mem_cons_of_mem _ hy), List.length_cons]
    omega
theorem sgn_mem {z : Str} {v : V} (h : v ∈ sgn z) : ∃ c, c ∈ z.cps.toList ∧ v = .str ⟨#[c]⟩ := by
  obtain ⟨c, hc, rfl⟩ := List.mem_map.mp h
  exact ⟨c, hc, rfl⟩
theorem sgn_len (z : Str) : (sgn z).length = z.length := by
  unfold sgn
  rw [List.length_map, Array.length_toList]
  rfl
/-- a new object: the heap behind it by what is known of it -/
theorem newly {H : Hp} {p : Addr} {o : HO} {G : Hp → Prop} (np : H p = none) (h : ∀ H', Same H H' → H' p = some o → G H') : G (upd H p o) := h _ (Same.new np) upd_same
theorem newly2 {α β : Type} {H : Hp} {p : Addr} {o : HO} {t : β → Hp → α → Prop} {b : β} {k : α} (np : H p = none) (h : ∀ H', Same H H' → H' p = some o → t b H' k) : t b (upd H p o) k := h _ (Same.new np) upd_same
/-! ### defs that are called while no repr is under way -/
structure FnG (P : Program) (w : World) (K : PySem.W.Frag) (mg : Str → Option Value) (base : Heap) (CX : CXT) (k : Nat) (f : Addr) (fd : FuncData) (ps : List Str) (sp : Sp) : Prop where
  few : ∀ as G Y Z, sp as G Y Z → as.length = ps.length
  go : ∀ (B : Around), B.guards = some [] → Room k B → ∀ (fs : List Env) (t : Shared) (G : Hp) (ar : Args) (xs : List Value) (as : List V) (Y : VK) (Z : XK),
    Env0 P w K mg base B fs t G → BindsTo t fd ar (ps.zip xs) → Vals as xs → sp as G Y Z → codeAny (model P w) B (.call (.ref f) ar) (CR CX fs P w G t Y Z) t
section
variable {P : Program} {w : World} {K : PySem.W.Frag} {mg : Str → Option Value} {base : Heap} {CX : CXT} {k j : Nat} {f : Addr} {fd : FuncData} {ps : List Str} {sp : Sp}
theorem FnG.of (F : FnOk P w K mg base CX k f fd ps sp) : FnG P w K mg base CX k f fd ps sp :=
  ⟨F.len, fun B _ r fs t G ar xs as Y Z e0 b v h => F.run B fs t G ar xs as Y Z r e0 b v h⟩
theorem FnG.mono (F : FnG P w K mg base CX j f fd ps sp) (h : j ≤ k) : FnG P w K mg base CX k f fd ps sp :=
  ⟨F.few, fun B g r => F.go B g (r.mono h)⟩
theorem fng_of {name qual : Str} {params : Arguments} {body : List Stmt} {scope : Scope} {dV kV doc pm cdv ct oc : Value} {an od : Option Addr} {osl : Array (Option Value)} {N : List Str}
    (at_ : K.lookup f = some ⟨oc, od, .func (PySem.W.fnOf name qual params body scope dV kV doc pm an cdv ct), osl⟩) (code : PySem.W.codeIn K cdv qual = true) (S : FnScope N ps scope) (few : ∀ as G Y Z, sp as G Y Z → as.length = ps.length)
    (walk : ∀ (B : Around) (fs : List Env) (t : Shared) (G : Hp) (as : List V) (Y : VK) (Z : XK), B.guards = some [] → Room k (B.deeper (envOfC qual scope t.heap.objs.size f cdv)) → sp as G Y Z →
      ∃ r, PSs (cxOf CX P w K mg base N qual scope f cdv B fs t G Z) body r ∧ r { nx := fun _ G' => Y .non G', rt := Y } (start N as) G) :
    FnG P w K mg base CX (k + 1) f (PySem.W.fnOf name qual params body scope dV kV doc pm an cdv ct) ps sp := by
  refine ⟨few, fun B gd room fs t G ar xs as Y Z e0 binds vals pr => ?_⟩
  have ins : K.In t.heap := e0.mod.kin.keeps fun b o q => (e0.bs b o q).1
  have nolim : t.heap.NoLimit := e0.mod.nolimit.keeps fun b o q => (e0.bs b o q).1
  have kinds : ∀ y ∈ ps.zip xs, scope.names.lookup y.1 = some .local ∨ (scope.names.lookup y.1 = some .cell ∧ ((cellsFrom (t.heap.objs.size + 1) scope.names []).lookup y.1).isSome = true) := by
    rintro ⟨n, v⟩ hy
    cases S.par n (List.of_mem_zip hy).1 with
    | inl q => exact .inl q
    | inr q => exact .inr ⟨q, PySem.W.cellsFrom_some _ _ _ (.inl q)⟩
  refine codeAny_call_function room.depth (ins _ _ at_) rfl S.co S.gen rfl (PySem.W.codeRec_of ins code) (binds _ _ _ _ ?_)
  refine wpAny_newFunctionEnv_cells S.kind kinds fun env he t1 x => ?_
  subst he
  refine ⟨nolim.keeps x.toInCall.keep, codeAny_func ?_⟩
  obtain ⟨r, hr, hq⟩ := walk B fs t G as Y Z gd (room.deeper _) pr
  have J0 := inv_start (CX := CX) (E := Z) S room.hd e0 (few _ _ _ _ pr) vals x
  refine wpAny_mono (hr.run [] t1 (start N as) G _ J0 hq) (fun fl t' hs => ?_) fun e t' hs => hs
  cases fl with
  | ret u =>
    obtain ⟨v, σ', G', J, rv, q⟩ := hs
    exact ⟨v, G', J.os, J.bare, J.base, J.hok, rv, q⟩
  | next =>
    obtain ⟨σ', G', J, q⟩ := hs
    exact ⟨V.non, G', J.os, J.bare, J.base, J.hok, rfl, q⟩
  | brk =>
    obtain ⟨_, _, _, q⟩ := hs
    exact q.elim
  | cont =>
    obtain ⟨_, _, _, q⟩ := hs
    exact q.elim
end
theorem Fun.okG {P : Program} {w : World} {K : PySem.W.Frag} {mg : Str → Option Value} {base : Heap} {x qual : Str} {st : Stmt} {f : Addr} {fd : FuncData} {N ps : List Str} {k : Nat} {sp : Sp} (F : Fun K x qual st f fd) (S : FnScope N ps (defScope st)) (few : ∀ as G Y Z, sp as G Y Z → as.length = ps.length)
    (walk : ∀ (cdv : Value) (B : Around) (fs : List Env) (t : Shared) (G : Hp) (as : List V) (Y : VK) (Z : XK), B.guards = some [] → Room k (B.deeper (envOfC qual (defScope st) t.heap.objs.size f cdv)) → sp as G Y Z →
      ∃ r, PSs (cxOf CX0 P w K mg base N qual (defScope st) f cdv B fs t G Z).nox (defBody st) r ∧ r { nx := fun _ G' => Y .non G', rt := Y } (start N as) G) : FnG P w K mg base CX0 (k + 1) f fd ps sp := by
  obtain ⟨oc, od, kV, doc, pm, an, cdv, ct, osl, rfl, lk, hcd⟩ := F.ex
  refine fng_of lk hcd S few fun B fs t G as Y Z gd room pr => ?_
  obtain ⟨r, h, q⟩ := walk cdv B fs t G as Y Z gd room pr
  exact ⟨r, h.nox, q⟩
section
variable {X : Cx} {CX : CXT} {k : Nat} {f : Addr} {fd : FuncData} {ps : List Str} {sp : Sp} {ds : List Value} {dvs : List V} {E : XK}
theorem run_g {pins : List (Addr × Obj)} {σ : L2.St} {H : Hp} {s : Shared} {Q : VK} {us : List Value} {vs : List V} (F : FnG X.prog X.w X.K X.mg X.base CX k f fd ps sp) (gd : X.A.guards = some []) (room : Room k X.A) (binds : L2.Binds X.K fd ps ds) (dv : Vals dvs ds) (pass : Passes CX X E)
    (I : Inv X pins σ H s) (v : Vals vs us) (pr : sp (vs ++ dvs) H Q E) : wpAny (model X.prog X.w) X.A (call (.ref f) us) (EP X pins σ Q) X.xe s := by
  have all : Vals (vs ++ dvs) (us ++ ds) := v.append dv
  have len : (us ++ ds).length = ps.length := all.length.symm.trans (F.few _ _ _ _ pr)
  refine wpAny_call (codeAny_mono (F.go X.A gd room X.stack s H ⟨us, []⟩ (us ++ ds) (vs ++ dvs) Q E I.env0 (binds s us I.kIn len) all pr) fun r s' q => ?_)
  cases r with
  | error e => exact pass pins σ H s e s' I q
  | ok fl =>
    cases fl with
    | ret u => exact I.after q
    | next => exact q.elim
    | brk => exact q.elim
    | cont => exact q.elim
variable {x : Str} {e : Expr} {es : List Expr} {t : TA} {p pos : Pos}
theorem pe_callG (F : FnG X.prog X.w X.K X.mg X.base CX k f fd ps sp) (gd : X.A.guards = some []) (room : Room k X.A) (glob : Gl X x) (at_ : X.mg x = some (.ref f)) (keep : PySem.W.keepIn X.K (.ref f) = true) (binds : L2.Binds X.K fd ps ds) (dv : Vals dvs ds) (pass : Passes CX X E)
    (args : PA X (e :: es) t) (nodbg : (x == ("__debug__" : Str)) = false := by decide) (h1 : starEach (e :: es) X.env = (false, eval e X.env) :: starEach es X.env := by rfl) (h2 : (backTo pos (starEach es X.env)).any (·.1) = false := by rfl) :
    PE X (.Call (.Name x p) (e :: es) [] pos) (tCall sp dvs E t) :=
  ⟨fun pins s σ H Q I h => wpAny_Call_Name_kw (ld_glob I glob at_ (PySem.W.callWith_K (h₀ := X.base) I.ok.mod.kin keep (thn (args.run pos pins s σ H _ I h) fun us s1 ⟨vs, H1, I1, r, q⟩ => ⟨I1.kIn, run_g F gd room binds dv pass I1 r q⟩) h1 h2) nodbg)⟩
theorem pe_callG0 (F : FnG X.prog X.w X.K X.mg X.base CX k f fd ps sp) (gd : X.A.guards = some []) (room : Room k X.A) (glob : Gl X x) (at_ : X.mg x = some (.ref f)) (keep : PySem.W.keepIn X.K (.ref f) = true) (binds : L2.Binds X.K fd ps ds) (dv : Vals dvs ds) (pass : Passes CX X E)
    (nodbg : (x == ("__debug__" : Str)) = false := by decide) : PE X (.Call (.Name x p) [] [] pos) (tCall sp dvs E tNil) :=
  ⟨fun pins s σ H Q I h => wpAny_Call_Name_kw (ld_glob I glob at_ (PySem.W.callWith_K0 I.kIn keep (run_g (us := []) F gd room binds dv pass I .nil h)) nodbg)⟩
end
/-! ### repr of data -/
section
variable {X : Cx} {K : PySem.W.Frag}
def rRepr (K : PySem.W.Frag) : List V → Hp → VK → Prop := fun xs H Q => ∃ v d, xs = [v] ∧ Dp K H v d ∧ d.showable = true ∧ d.hasDict = false ∧ d.depth ≤ 60 ∧ d.shown.length ≤ sizeLine ∧ Q (.str d.shown) H
theorem k_repr (gd : X.A.guards = some []) (hu : X.A.units + 64 < cLine) (hK : X.K = K := by rfl) : CallR X (.builtin "repr") (rRepr K) := by
  subst hK
  intro pins s σ H xs us Q I r h
  obtain ⟨v, d, rfl, dp, sh, nd, de, sz, q⟩ := h
  obtain ⟨u, rfl, rv⟩ := vals1 r
  have ends : ∀ h' tk t, (∀ b o, s.heap.get? b = some o → h'.get? b = some o) → EP X pins σ Q (.str d.shown t) { s with heap := h', toks := tk } := fun h' tk t k => ⟨.str d.shown, H, I.kept k, ⟨_, rfl⟩, q⟩
  cases dp with
  | non =>
    cases rv
    exact PySem.P.repr_of_none (ends s.heap _ _ fun _ _ q => q)
  | bl b =>
    cases rv
    exact PySem.P.repr_of_bool (ends s.heap _ _ fun _ _ q => q)
  | int i =>
    obtain ⟨t, rfl⟩ := rv
    exact PySem.P.repr_of_int (of_decide_eq_true sh) (ends s.heap _ _ fun _ _ q => q)
  | str x =>
    obtain ⟨t, rfl⟩ := rv
    exact PySem.P.repr_of_str (ends s.heap _ _ fun _ _ q => q) sz
  | lst hq hs =>
    obtain ⟨as, rd⟩ := Dp.reads I _ _ _ (.lst hq hs) rv
    cases rv
    exact repr_of_reads' rd sh (PyData.noDict_hsm nd) gd (by omega) (fun _ _ q => q) (fun h' t tk k => ends h' tk t k) sz
  | tup hq hs =>
    obtain ⟨as, rd⟩ := Dp.reads I _ _ _ (.tup hq hs) rv
    cases rv
    exact repr_of_reads' rd sh (PyData.noDict_hsm nd) gd (by omega) (fun _ _ q => q) (fun h' t tk k => ends h' tk t k) sz
end
/-! ### the law's call -/
theorem law_callG {P : Program} {w : World} {K : PySem.W.Frag} {mg mb : Str → Option Value} {CX : CXT} {k : Nat} {fa a : Addr} {fd : FuncData} {x : Str} {sp : Sp} {t : Shared} {us : List Value} {zs : List Int}
    (ins : K.In t.heap) (gl : t.heap.Ns mainGlobals mg) (bl : t.heap.Ns builtinsNs mb) (boot : ∀ x : Str, x ≠ "__name__" → mb x = bootBuiltins x) (nolim : t.heap.NoLimit) (nogen : t.gens = #[])
    (obj : t.heap.get? a = some { cls := .type "list", data := .seq us.toArray }) (nums : IntsAre us zs) (few : zs.length ≤ sizeLine) (room : Room k callerA)
    (F : ∀ base : Heap, K.In base → base.Ns mainGlobals mg → FnG P w K mg base CX k fa fd [x] sp) (binds : ∀ (s : Shared) (u : Value), BindsTo s fd ⟨[u], []⟩ [(x, u)])
    (pr : ∀ H : Hp, Only H → SqL K H a (zs.map V.int) → sp [.ref a] H (fun v _ => v = .bl true) fun _ _ _ => False) (noerr : ∀ H e s', CX [] H t (fun _ _ _ => False) e s' → False) :
    codeAny (model P w) callerA (.call (.ref fa) ⟨[.ref a], []⟩) (fun r s' => r = .ok (.ret (.bool true)) ∧ OldK t.heap s'.heap ∧ s'.os = t.os ∧ AllBare s'.gens) t := by
  have vi := vals_ints nums
  have key : ∀ Z : Hp, Only Z → SqL K Z a (zs.map V.int) → HOk P w Z t.heap → (∀ b, Z b ≠ none → b = a) → (Z a ≠ none → K.lookup a = none) →
      codeAny (model P w) callerA (.call (.ref fa) ⟨[.ref a], []⟩) (fun r s' => r = .ok (.ret (.bool true)) ∧ OldK t.heap s'.heap ∧ s'.os = t.os ∧ AllBare s'.gens) t := by
    intro Z only seq zok one notK
    have keep : ∀ {b : Addr} {o : Obj}, t.heap.get? b = some o → Z b = none → (hidT t.heap Z).get? b = some o := fun e n => hidT_get e n
    have nod : ∀ {b : Addr} {o : Obj} {es : Array DictEntry} {ep : Nat}, t.heap.get? b = some o → o.data = .dict es ep → Z b = none := by
      intro b o es ep g d
      cases q : Z b with
      | none => rfl
      | some u =>
        obtain rfl := one b (by rw [q]; exact Option.some_ne_none u)
        rw [obj] at g
        cases g
        cases (show Data.seq us.toArray _ = Data.dict es ep from d)
    have nsZ : ∀ {b : Addr} {m : Str → Option Value}, t.heap.Ns b m → (hidT t.heap Z).Ns b m := by
      rintro b m ⟨o, es, ep, g, d, r⟩
      exact ⟨o, es, ep, keep g (nod g d), d, r⟩
    have insZ : K.In (hidT t.heap Z) := by
      intro b o g
      refine keep (ins b o g) ?_
      cases q : Z b with
      | none => rfl
      | some u =>
        obtain rfl := one b (by rw [q]; exact Option.some_ne_none u)
        rw [notK (by rw [q]; exact Option.some_ne_none u)] at g
        cases g
    have md : Mod K mg (hidT t.heap Z) := by
      obtain ⟨mc, l1, l2⟩ := nolim
      exact ⟨insZ, nsZ gl, ⟨mb, nsZ bl, boot⟩, mc, nsZ l1, l2⟩
    have env : Env0 P w K mg (hidT t.heap Z) callerA [] t Z :=
      { frames := rfl, mod := md, bs := fun b o g => of_hidT g, bsz := Nat.le_of_eq (hidT_size _ _), funs := trivial, frf := (fun b hb => nomatch (show b ∈ ([] : List Addr) from hb)), hok := zok, bare := .of_eq nogen }
    refine codeAny_mono ((F _ insZ (nsZ gl)).go callerA rfl room [] t Z ⟨[.ref a], []⟩ [.ref a] [.ref a] _ _ env (binds t (.ref a)) (.cons rfl .nil) (pr Z only seq)) fun r s' h => ?_
    cases r with
    | error e => exact (noerr Z e s' h).elim
    | ok fl =>
      cases fl with
      | next => exact h.elim
      | brk => exact h.elim
      | cont => exact h.elim
      | ret u =>
        obtain ⟨v, Z', os, bare, un, zok', rel, q⟩ := h
        obtain rfl : v = .bl true := q
        cases rel
        refine ⟨rfl, OldK.of_keep fun b o g => ?_, os, bare⟩
        rcases only b with n | ⟨ob, xs, n⟩
        · exact un.keep b o g n (by intro z; cases z) (by intro z; cases z)
        · have g1 := (zok b _ n).1
          have g2 := (zok' b _ (un.frzs b ob _ n)).1
          rw [g] at g1
          cases g1
          exact g2
  cases q : K.lookup a with
  | some o =>
    have g := ins a o q
    rw [obj] at g
    cases g
    refine key (fun _ => none) (fun _ => .inl rfl) (.inr ⟨_, us.toArray, _, q, rfl, rfl, rfl, ?_, vi⟩) (fun b u z => by cases z) (fun b z => absurd rfl z) fun z => absurd rfl z
    rw [List.size_toArray, nums.length]
    exact few
  | none =>
    let ob : Obj := { cls := .type "list", data := .seq us.toArray }
    have here : ∀ b, b ≠ a → (fun b => if b = a then some (HO.frz ob (.lst (zs.map V.int))) else none) b = none := fun b n => if_neg n
    refine key (fun b => if b = a then some (.frz ob (.lst (zs.map V.int))) else none) (fun b => ?_) (.inl (.inr ⟨ob, if_pos rfl⟩)) (fun b u z => ?_) (fun b z => ?_) fun _ => q
    · by_cases n : b = a
      · exact .inr ⟨_, _, if_pos n⟩
      · exact .inl (if_neg n)
    · by_cases n : b = a
      · subst n
        have z' := (if_pos rfl).symm.trans z
        cases z'
        exact ⟨obj, by rw [List.length_map]; exact few, us, _, vi, obj⟩
      · have z' := (if_neg n).symm.trans z
        cases z'
    · by_cases n : b = a
      · exact n
      · exact absurd (if_neg n) z
theorem walk_ofG {l : PySem.W.OpenLaw} {k : Nat} {q : Program} {loose : List Str} {XP : (Str → Option Value) → Heap → Prop} {YP : World → Heap → Prop} {d : DefRec} {K : Params → PySem.W.Frag} {sp : PySem.W.Frag → Sp} {x : Str}
    (most : l.most = some 63) (nodef : d.params.defaults = []) (room : Room k callerA) (ins : ∀ (w : World) (h : Heap), YP w h → (K w.params).In h)
    (F : ∀ (w : World) (mg : Str → Option Value) (fa : Addr) (h : Heap), (K w.params).In h → h.Ns mainGlobals mg → mg d.name = some (.ref fa) →
      ∃ fd : FuncData, (∀ (s : Shared) (u : Value), BindsTo s fd ⟨[u], []⟩ [(x, u)]) ∧ ∀ base : Heap, (K w.params).In base → base.Ns mainGlobals mg → FnG l.prog w (K w.params) mg base CX0 k fa fd [x] (sp (K w.params)))
    (pr : ∀ (K : PySem.W.Frag) (H : Hp) (a : Addr) (ns : List Int), ns.length ≤ 63 → SqL K H a (ns.map V.int) → sp K [.ref a] H (fun v _ => v = .bl true) fun _ _ _ => False) :
    PySem.W.WalkO q loose XP YP l.row.toRowW d [] (fun f vs => PySem.call f vs) := by
  refine Att.attach_call most nodef fun w s₀ t mg mb fa o pm cd doc a us zs G Y ho hd hcd hmg obj nums few nogen => ?_
  obtain ⟨fd, hb, hF⟩ := F w mg fa _ (ins w _ Y) G.T.g hmg
  exact law_callG (ins w _ Y) G.T.g G.T.b G.T.builtins G.T.nolimit nogen obj nums (Nat.le_trans few (by decide)) room hF hb (fun H _ S => pr _ H a zs few S) fun _ _ _ z => z
/-! ### more operators -/
section
variable {X : Cx} {K : PySem.W.Frag}
def repS (z : Str) (n : Int) : Str := ⟨(List.replicate n.toNat z.cps).foldl (· ++ ·) #[]⟩
def rRepS : R2 := fun x y H Q => ∃ z n, x = .str z ∧ y = .int n ∧ z.length = 1 ∧ 2 ≤ n ∧ n ≤ 1000 ∧ Q (.str (repS z n)) H
theorem repS_len (z : Str) (n : Int) : (repS z n).length = n.toNat * z.length := by
  have h : ∀ (k : Nat) (acc : Array Nat), ((List.replicate k z.cps).foldl (· ++ ·) acc).size = acc.size + k * z.cps.size := by
    intro k
    induction k with
    | zero => intro acc; simp
    | succ k ih =>
      intro acc
      rw [List.replicate_succ, List.foldl_cons, ih, Array.size_append, Nat.succ_mul]
      omega
  show ((List.replicate n.toNat z.cps).foldl (· ++ ·) #[]).size = _
  rw [h]
  simp [Str.length]
theorem op_repS : OpR X (binaryOp .Mult) rRepS := by
  intro pins s σ H x y v u Q I rx ry h
  obtain ⟨z, n, rfl, rfl, hz, h2, h3, q⟩ := h
  obtain ⟨t, rfl⟩ := rx
  obtain ⟨t', rfl⟩ := ry
  have e1 : ¬ n < 1 := by omega
  have e2 : (n == 1 || z.length == 0) = false := by
    rw [hz]
    have : n ≠ 1 := by omega
    simp [this]
  refine PySem.P.mul_str ?_ (fun _ _ => ?_) (fun _ _ => ?_) ?_
  · have a1 : ¬ n < -(2 ^ 63 : Int) := by omega
    have a2 : ¬ n ≥ 2 ^ 63 := by omega
    rw [decide_eq_false a1, decide_eq_false a2]
    rfl
  · rw [hz]
    have : (2 ^ 63 - 1) / n ≥ 1 := by
      have h5 : (1 : Int) * n ≤ 2 ^ 63 - 1 := by omega
      exact Int.le_ediv_of_mul_le (by omega) h5
    omega
  · rw [hz]
    refine decide_eq_false (Nat.not_lt.mpr ?_)
    exact Nat.le_of_lt (small1000 (by omega))
  · rw [if_neg e1, e2]
    exact ⟨by
      show (repS z n).length ≤ sizeLine
      rw [repS_len, hz]
      exact Nat.le_of_lt (small1000 (by omega)), ⟨.str (repS z n), H, I.tok _, ⟨_, rfl⟩, q⟩⟩
theorem k_catA (hK : X.K = K := by rfl) : OpR X (binaryOp .Add) (rCatA K) := by subst hK; exact op_catA
theorem k_repT (hK : X.K = K := by rfl) : OpR X (binaryOp .Mult) (rRepT K) := by subst hK; exact op_repT
end
theorem seqT_same {K : PySem.W.Frag} {H H' : Hp} {a : Addr} {xs : List V} (e : Same H H') (h : SqT K H a xs) : SqT K H' a xs := by
  rcases h with (h | ⟨o, h⟩) | h
  · exact .inl (.inl (e _ _ h))
  · exact .inl (.inr ⟨o, e _ _ h⟩)
  · exact .inr h
theorem tyTup {K : PySem.W.Frag} {H : Hp} {a : Addr} {xs : List V} (h : SqT K H a xs) : TyX K H (.ref a) (.type "tuple") := by
  rcases h with (h | ⟨o, h⟩) | ⟨o, its, n, h, c, _⟩
  · exact .base (.tup h)
  · exact .fTuple h
  · exact .kTuple h c
theorem tyx_same {K : PySem.W.Frag} {H H' : Hp} {v : V} {t : Value} (s : Same H H') (h : TyX K H v t) : TyX K H' v t := by
  cases h with
  | base b =>
    cases b with
    | non => exact .base .non
    | bl y => exact .base (.bl y)
    | int i => exact .base (.int i)
    | str y => exact .base (.str y)
    | flt y => exact .base (.flt y)
    | lst e => exact .base (.lst (s _ _ e))
    | frz e => exact .base (.frz (s _ _ e))
    | tup e => exact .base (.tup (s _ _ e))
    | dK e => exact .base (.dK (s _ _ e))
    | dT e => exact .base (.dT (s _ _ e))
    | ins e cl ha hn htk hm => exact .base (.ins (s _ _ e) cl ha hn htk hm)
  | byt y => exact .byt y
  | set e => exact .set (s _ _ e)
  | kList e c => exact .kList e c
  | kTuple e c => exact .kTuple e c
  | kDict e c => exact .kDict e c
  | fTuple e => exact .fTuple (s _ _ e)
  | fDict e => exact .fDict (s _ _ e)
/-- what isinstance(.., T) answers of a value -/
def Isi (K : PySem.W.Frag) (T : String) (H : Hp) (v : V) (b : Bool) : Prop := ∃ t, TyX K H v t ∧ PySem.W.kitOne K t (.type T) = some b
theorem Isi.same {K : PySem.W.Frag} {T : String} {H H' : Hp} {v : V} {b : Bool} (s : Same H H') (h : Isi K T H v b) : Isi K T H' v b := by
  obtain ⟨t, ty, e⟩ := h
  exact ⟨t, tyx_same s ty, e⟩
theorem isi_ty {K : PySem.W.Frag} {T t : String} {H : Hp} {v : V} {b : Bool} (h : TyX K H v (.type t)) (hb : kitB t T = some b) : Isi K T H v b := ⟨_, h, kit_ty hb⟩
/-- an object that was tracked ahead is not at a place that was free -/
theorem SB.same {d : Addr} {H0 H H' : Hp} (s : Same H0 H) (n : H0 d = none) (b : SB d H H') : Same H0 H' := fun c o h => b c o (ne_of_none h n) (s c o h)
theorem cat_any {K : PySem.W.Frag} {a b : Addr} {xs ys : List V} {H : Hp} {Q : VK} (ha : SqT K H a xs) (hb : SqT K H b ys) (hz : xs.length + ys.length ≤ sizeLine) (h : ∀ r H', Same H H' → SqT K H' r (xs ++ ys) → Q (.ref r) H') : rCatA K (.ref a) (.ref b) H Q := by
  refine ⟨a, b, xs, ys, rfl, rfl, ha, hb, hz, fun e => ?_, fun _ e => ?_, fun _ _ p np => ?_⟩
  · exact h b H (Same.refl H) (by rw [e, List.nil_append]; exact hb)
  · exact h a H (Same.refl H) (by rw [e, List.append_nil]; exact ha)
  · exact h p _ (Same.new np) (SqT.of upd_same)
/-- an item of a mapped list -/
theorem map_at {α β : Type} {f : α → β} {l : List α} {i : Nat} {y : β} (h : (l.map f)[i]? = some y) : ∃ x, l[i]? = some x ∧ y = f x := by
  rw [List.getElem?_map] at h
  cases e : l[i]? with
  | none => rw [e] at h; cases h
  | some x => rw [e] at h; exact ⟨x, rfl, (Option.some.inj h).symm⟩
theorem at_map {α β : Type} (f : α → β) {l : List α} {i : Nat} {x : α} (h : l[i]? = some x) : (l.map f)[i]? = some (f x) := by
  rw [List.getElem?_map, h]
  rfl
theorem eqv_refl_shaped {d : PyData} (h : SeqAt.shaped d = true) : PyData.eqv d d = true := SeqAt.eqv_refl d (SeqAt.canLay_of_shaped h)
/-! ### what repr may be asked of -/
def RepOk (d : PyData) : Prop := d.showable = true ∧ d.hasDict = false ∧ d.depth ≤ 60 ∧ d.shown.length ≤ sizeLine
theorem repr_ok {K : PySem.W.Frag} {H : Hp} {v : V} {d : PyData} {Q : VK} (dp : Dp K H v d) (r : RepOk d) (q : Q (.str d.shown) H) : rRepr K [v] H Q := ⟨v, d, rfl, dp, r.1, r.2.1, r.2.2.1, r.2.2.2, q⟩
theorem repOk_of {d : PyData} (c : d.canLay0 = true) (sh : d.showable = true) (i : d.intsShort 13 = true) (dp : d.depth ≤ 60) (w : d.weight ≤ 2 ^ 20) : RepOk d := by
  have hl : d.layable0 = true := by
    refine Bool.and_eq_true_iff.mpr ⟨Bool.and_eq_true_iff.mpr ⟨c, decide_eq_true (by omega)⟩, decide_eq_true w⟩
  refine ⟨sh, PyData.hasDict_of_layable hl, dp, ?_⟩
  have := shown_le13 hl i
  exact Nat.le_trans this (by decide)
theorem intsShort_map {α : Type} (f : α → PyData) (B : Nat) : ∀ l : List α, (∀ x ∈ l, (f x).intsShort B = true) → PyData.intsShortAll B (l.map f) = true
  | [], _ => by simp [PyData.intsShortAll]
  | x :: l, h => by
    have ih := intsShort_map f B l fun y hy => h y (List.mem_cons_of_mem _ hy)
    simp only [List.map_cons, PyData.intsShortAll, ih, h x List.mem_cons_self, Bool.and_self]
theorem weight_map {α : Type} (f : α → PyData) (n : Nat) : ∀ l : List α, (∀ x ∈ l, (f x).weight ≤ n) → PyData.weightAll (l.map f) ≤ l.length * (n + 1)
  | [], _ => by simp [PyData.weightAll]
  | x :: l, h => by
    have ih := weight_map f n l fun y hy => h y (List.mem_cons_of_mem _ hy)
    have := h x List.mem_cons_self
    simp only [List.map_cons, PyData.weightAll, List.length_cons, Nat.succ_mul]
    omega
theorem repOk_boolsT {bs : List Bool} (h : bs.length ≤ 100000) : RepOk (.tuple (bs.map PyData.bool)) := by
  refine repOk_of ?_ ?_ ?_ ?_ ?_
  · simp only [PyData.canLay0]
    exact canAll_map _ _ fun _ _ => by simp [PyData.canLay0]
  · simp only [PyData.showable]
    exact PyData.showableAll_bools bs
  · simp only [PyData.intsShort]
    exact intsShort_map _ _ _ fun _ _ => by simp [PyData.intsShort]
  · simp only [PyData.depth]
    have := depthAll_map PyData.bool 0 bs fun _ _ => by simp [PyData.depth]
    omega
  · simp only [PyData.weight]
    have := weight_map PyData.bool 0 bs fun _ _ => by simp [PyData.weight]
    omega
theorem seqT_sb {K : PySem.W.Frag} {d : Addr} {H H' : Hp} {a : Addr} {xs : List V} (n : a ≠ d) (e : SB d H H') (h : SqT K H a xs) : SqT K H' a xs := by
  rcases h with (h | ⟨o, h⟩) | h
  · exact .inl (.inl (e _ _ n h))
  · exact .inl (.inr ⟨o, e _ _ n h⟩)
  · exact .inr h
theorem dp_boolsT {K : PySem.W.Frag} {H : Hp} {p : Addr} {bs : List Bool} (h : SqT K H p (bs.map V.bl)) : Dp K H (.ref p) (.tuple (bs.map PyData.bool)) := .tup h (dp_bls _)
theorem dp_boolsL {K : PySem.W.Frag} {H : Hp} {p : Addr} {bs : List Bool} (h : SqL K H p (bs.map V.bl)) : Dp K H (.ref p) (.list (bs.map PyData.bool)) := .lst h (dp_bls _)
/-- the dice behind an item put to another list -/
theorem Dice.put {d D : Addr} {H : Hp} {o : HO} (h : Dice H d) (n : d ≠ D) : Dice (L2.upd H D o) d := by
  obtain ⟨x, y, z, g1, g2, g3, e⟩ := h
  exact ⟨x, y, z, g1, g2, g3, by rw [upd_ne n]; exact e⟩
/-- what was tracked ahead of a list at D, behind an item put to it -/
theorem SB.put {d D : Addr} {H0 H : Hp} {o : HO} (n : H0 D = none) (h : SB d H0 H) : SB d H0 (L2.upd H D o) := fun b u nb hb => by
  rw [upd_ne (ne_of_none hb n)]
  exact h b u nb hb
/-! ### sets of texts: what was put into them, whatever their order -/
def tx (e : Int × Value) : Str := match e.2 with
  | .str x _ => x
  | _ => Str.empty
def TxE (w : World) (e : Int × Value) : Prop := ∃ x u, e.2 = Value.str x u ∧ e.1 = hashStr w x
/-- the set of texts at a: L tells what is in it, m bounds how many -/
def SetS (w : World) (h : Heap) (a : Addr) (L : List Str) (m : Nat) : Prop :=
  ∃ ob rows ep tab, h.get? a = some ob ∧ ob.ExactSet ∧ ob.data = .set rows ep tab ∧
    ((∀ e ∈ rows.toList, TxE w e) ∧ (rows.toList.map tx).Nodup ∧ (∀ x, x ∈ L ↔ x ∈ rows.toList.map tx) ∧ rows.size ≤ m ∧ m + 1 < scanBound ∧ tab.fits rows.size = true ∧
      Ris tab.place.toList ∧ (w.params.followText "set-order" = true ∨ tab.led = true))
section
variable {P : Program} {w : World} {A : Around} {E : Value → Shared → Prop} {s : Shared} {a : Addr} {L : List Str} {m : Nat}
theorem SetS.stay {h h' : Heap} (R : SetS w h a L m) (k : ∀ o, h.get? a = some o → h'.get? a = some o) : SetS w h' a L m := by
  obtain ⟨ob, rows, ep, tab, g, rest⟩ := R
  exact ⟨ob, rows, ep, tab, k ob g, rest⟩
theorem tx_elems {l : List (Int × Value)} (g : ∀ e ∈ l, TxE w e) : ElemsOf (PySem.strKind P w) l := by
  intro e he
  obtain ⟨x, u, h1, h2⟩ := g e he
  refine ⟨⟨x, ?_, h2⟩, ?_⟩
  · rw [h1]
    exact strKind_is P w x u
  · rw [h1]
    rfl
theorem tx_is {e : Int × Value} (g : TxE w e) (x : Str) : (PySem.strKind P w).is x e.2 = true ↔ tx e = x := by
  obtain ⟨y, u, h1, _⟩ := g
  unfold tx
  rw [h1]
  show Value.isStrOf x (Value.str y u) = true ↔ y = x
  constructor
  · intro q
    obtain ⟨t, e⟩ := Value.isStrOf_shape q
    injection e
  · rintro rfl
    exact strKind_is P w y u
theorem tx_mem {l : List (Int × Value)} (g : ∀ e ∈ l, TxE w e) (x : Str) : x ∈ l.map tx ↔ ∃ e ∈ l, (PySem.strKind P w).is x e.2 = true := by
  rw [List.mem_map]
  exact ⟨fun ⟨e, he, q⟩ => ⟨e, he, (tx_is (g e he) x).2 q⟩, fun ⟨e, he, q⟩ => ⟨e, he, (tx_is (g e he) x).1 q⟩⟩
/-- behind a new row: the store, and the table laid anew where it is full -/
theorem put_tail {gave : Bool → Sem Unit} (hg : ∀ (b : Bool) (z : Shared) (Y : Unit → Shared → Prop), Y () z → wpAny (model P w) A (gave b) Y E z) {ob : Obj} {rows new : Array (Int × Value)} {ep : Nat} {tab tab' : SetTable} (g : s.heap.get? a = some ob) (ex : ob.ExactSet) (da : ob.data = .set rows ep tab)
    (good : (∀ e ∈ new.toList, TxE w e) ∧ (new.toList.map tx).Nodup ∧ (∀ x, x ∈ L ↔ x ∈ new.toList.map tx) ∧ new.size ≤ m ∧ m + 1 < scanBound ∧ tab'.fits new.size = true ∧ Ris tab'.place.toList ∧ (w.params.followText "set-order" = true ∨ tab'.led = true))
    {dummy : Bool} {Y : Option Bool → Shared → Prop} (hY : ∀ h', Heap.SameBut a s.heap h' → SetS w h' a L m → Y (some true) { s with heap := h' }) :
    wpAny (model P w) A (do
      storeSet a new tab'
      if (!dummy && tab'.tooFull) = true then do
        gave (relayAll tab' new (SetTable.grown new.size)).2.2
        storeSet a (relayAll tab' new (SetTable.grown new.size)).1 (relayAll tab' new (SetTable.grown new.size)).2.1
        pure (some true)
      else pure (some true)) Y E s := by
  obtain ⟨b1, b2, b3, b4, b5, b6, b7, b8⟩ := good
  have few : new.size < scanBound := by omega
  refine wpAny_bind (wpAny_storeSet_of g da ?_ (fits_of_scanBound few))
  have g1 := store_at (es' := new) (t' := tab') g da
  have same1 := Heap.SameBut.update s.heap a (Obj.putSet new tab')
  split
  · have p1 := relayAll_perm tab' new (SetTable.grown new.size)
    have p2 := relayAll_fits tab' new (SetTable.grown new.size)
    have p3 := relayAll_ris tab' new (SetTable.grown new.size)
    have p4 := relayAll_led tab' new (SetTable.grown new.size)
    generalize relayAll tab' new (SetTable.grown new.size) = T at p1 p2 p3 p4 ⊢
    obtain ⟨again, tab2, way⟩ := T
    dsimp only at p1 p2 p3 p4 ⊢
    have sz : again.size = new.size := by
      have := p1.length_eq
      simpa using this
    refine wpAny_bind (hg _ _ _ (wpAny_bind (wpAny_storeSet_of g1 rfl ?_ (fits_of_scanBound (by omega)))))
    have g2 := store_at (es' := again) (t' := tab2) g1 rfl
    refine wpAny_pure (hY _ (same1.trans (Heap.SameBut.update _ a _)) ⟨_, again, _, tab2, g2, ex, rfl, ?_⟩)
    refine ⟨fun e he => b1 e (p1.mem_iff.mp he), (p1.map tx).nodup_iff.mpr b2, fun x => (b3 x).trans (p1.map tx).mem_iff.symm, by omega, b5, p2, p3, ?_⟩
    exact b8.imp id fun q => by rw [p4]; exact q
  · exact wpAny_pure (hY _ same1 ⟨_, new, _, tab', g1, ex, rfl, b1, b2, b3, b4, b5, b6, b7, b8⟩)
theorem put_text {x : Str} {u : Tok} {Y : Bool → Shared → Prop} (R : SetS w s.heap a L m) (room : m + 2 < scanBound)
    (hY : ∀ b h', Heap.SameBut a s.heap h' → SetS w h' a (x :: L) (m + 1) → Y b { s with heap := h' }) : wpAny (model P w) A (setAddHashed a (.str x u) (hashStr w x)) Y E s := by
  obtain ⟨ob, rows, ep, tab, g, ex, da, b1, b2, b3, b4, b5, b6, b7, b8⟩ := R
  have key : (PySem.strKind P w).is x (.str x u) = true := strKind_is P w x u
  have scan : (Value.str x u).scannable = true := rfl
  have els : ElemsOf (PySem.strKind P w) rows.toList := tx_elems b1
  have few : rows.size < scanBound := by omega
  unfold setAddHashed setAddHashedIn
  refine wpAny_holding (wpAny_bind (wpAny_setState_of g da b6 ?_))
  dsimp only
  rw [byScan_of scan few els]
  simp only [↓reduceIte]
  unfold setAddByScan
  refine wpAny_bind (wpAny_bind (wpAny_rule ?_))
  refine wpAny_bind (wpAny_setScan_of (knd := PySem.strKind P w) key g da b6 els ?_)
  cases found : List.findIdx? (fun e => (PySem.strKind P w).is x e.2) rows.toList with
  | some j =>
    dsimp only
    obtain ⟨hj, pj, _⟩ := List.findIdx?_eq_some_iff_getElem.mp found
    have inL : x ∈ L := (b3 x).2 ((tx_mem (P := P) b1 x).2 ⟨_, List.getElem_mem hj, pj⟩)
    refine wpAny_pure (wpAny_pure (hY _ s.heap (Heap.SameBut.refl a s.heap) ⟨ob, rows, ep, tab, g, ex, da, b1, b2, fun y => ?_, by omega, by omega, b6, b7, b8⟩))
    rw [← b3 y, List.mem_cons]
    exact ⟨fun q => q.elim (fun e => e ▸ inL) id, .inr⟩
  | none =>
    dsimp only
    have out : x ∉ rows.toList.map tx := by
      intro q
      obtain ⟨e, he, q⟩ := (tx_mem (P := P) b1 x).1 q
      have c := List.findIdx?_eq_none_iff.mp found e he
      rw [q] at c
      cases c
    have way : ∀ (b : Bool) {z : Shared} {Y' : Unit → Shared → Prop}, Y' () z → wpAny (model P w) A (match b with | true => rule "set.scan.the-table-gave-way" | false => pure ()) Y' E z := by
      intro b z Y' q
      cases b <;> first | exact wpAny_pure q | exact wpAny_rule q
    have p1 := layNew_perm tab rows (hashStr w x) (.str x u)
    have p2 := layNew_fits tab rows (hashStr w x) (.str x u)
    have p3 := layNew_ris tab rows (hashStr w x) (.str x u) b7
    have p4 := layNew_led tab rows (hashStr w x) (.str x u)
    show wpAny _ _ _ _ _ _
    have hh : (PySem.strKind P w).hash x = hashStr w x := rfl
    generalize layNew tab rows (hashStr w x) (.str x u) = T at p1 p2 p3 p4 ⊢
    obtain ⟨new, tab1, dummy, gw⟩ := T
    dsimp only at p1 p2 p3 p4 ⊢
    rw [Array.toList_push] at p1
    have pc : new.toList.Perm ((hashStr w x, Value.str x u) :: rows.toList) := p1.trans (List.perm_append_singleton _ _)
    have pk : (new.toList.map tx).Perm (x :: rows.toList.map tx) := pc.map tx
    have sz : new.size = rows.size + 1 := by
      have := pc.length_eq
      simpa using this
    have led : w.params.followText "set-order" = true ∨ tab1.led = true := b8.imp id fun q => by rw [p4]; exact q
    have all : (∀ e ∈ new.toList, TxE w e) ∧ (new.toList.map tx).Nodup ∧ (∀ y, y ∈ x :: L ↔ y ∈ new.toList.map tx) ∧ new.size ≤ m + 1 ∧ m + 1 + 1 < scanBound := by
      refine ⟨fun e he => ?_, pk.nodup_iff.mpr (List.nodup_cons.mpr ⟨out, b2⟩), fun y => ?_, by omega, by omega⟩
      · rcases List.mem_cons.mp (pc.mem_iff.mp he) with q | q
        · rw [q]
          exact ⟨x, u, rfl, rfl⟩
        · exact b1 e q
      · rw [pk.mem_iff, List.mem_cons, List.mem_cons, b3 y]
    obtain ⟨c1, c2, c3, c4, c5⟩ := all
    refine wpAny_bind (way _ ?_)
    split
    · refine wpAny_bind ?_
      rw [hashByValue_scannable 8 scan]
      refine wpAny_pure (put_tail ?_ g ex da ⟨c1, c2, c3, c4, c5, ?_, ?_, ?_⟩ ?_)
      · intro b z Y' q
        cases b <;> first | exact wpAny_pure q | exact wpAny_rule q
      · first | (split <;> first | exact p2 | exact SetTable.fits_plain_off p2) | exact p2
      · first | (split <;> exact p3) | exact p3
      · first | (split <;> exact led) | exact led
      · intro h' sb r
        dsimp only
        exact wpAny_pure (hY _ h' sb r)
    · refine wpAny_bind (wpAny_pure ?_)
      simp only [↓reduceIte]
      refine put_tail ?_ g ex da ⟨c1, c2, c3, c4, c5, p2, p3, led⟩ ?_
      · intro b z Y' q
        cases b <;> first | exact wpAny_pure q | exact wpAny_rule q
      · intro h' sb r
        dsimp only
        exact wpAny_pure (hY _ h' sb r)
end
section
variable {P : Program} {w : World} {A : Around} {E : Value → Shared → Prop} {s : Shared}
theorem sets_new {h : Heap} {a : Addr} (g : h.get? a = some { cls := .type "set", dict := none, data := .set #[] 0 (.fresh 0 0 (!w.params.followText "set-order")) }) : SetS w h a [] 0 := by
  refine ⟨_, #[], 0, _, g, ⟨rfl, rfl, rfl⟩, rfl, (fun e he => by simp at he), by simp, fun x => by simp, Nat.le_refl _, by decide, rfl, List.Pairwise.nil, ?_⟩
  show _ ∨ (!w.params.followText "set-order") = true
  cases w.params.followText "set-order" with
  | true => exact .inl rfl
  | false => exact .inr rfl
theorem sets_more {h : Heap} {a : Addr} {L L' : List Str} {m : Nat} (R : SetS w h a L m) (e : ∀ x, x ∈ L' ↔ x ∈ L) : SetS w h a L' m := by
  obtain ⟨ob, rows, ep, tab, g, ex, da, b1, b2, b3, r⟩ := R
  exact ⟨ob, rows, ep, tab, g, ex, da, b1, b2, fun x => (e x).trans (b3 x), r⟩
theorem update_texts {I : Addr} {fp wr : List Addr} {G : Array GenState → Array GenState → Prop} {n : Nat} {Pv : Nat → Value → Prop} {St : Nat → Shared → Prop} {R : Result → Shared → Prop}
    (W : WalksS P w A.in1 I fp wr G n Pv St) (T : Addr) (apart : T ∉ fp) (zs : List Str) (len : n = zs.length) (room : zs.length + 2 < scanBound) (is : ∀ i v, Pv i v → ∃ z u, zs[i]? = some z ∧ v = .str z u) :
    ∀ (left i : Nat) (s : Shared), n - i = left → i ≤ n → St i s → SetS w s.heap T (zs.take i) i →
      (∀ s', Moved (T :: wr) G s s' → SetS w s'.heap T zs n → R (.ok (.ret .none)) s') → codeAny (model P w) A (.builtin "set.update.loop" ⟨[.ref T, .ref I], []⟩) R s := by
  have nw : T ∉ wr := fun q => apart (W.sub _ q)
  have sub : ∀ b ∈ wr, b ∈ T :: wr := fun b q => List.mem_cons_of_mem _ q
  intro left
  induction left with
  | zero =>
    intro i s e le st set fin
    obtain rfl : i = n := by omega
    refine codeAny_builtin F.entry_set_update_loop ?_
    rw [Around.under_plainId F.plain_set_update_loop _]
    show wpAny _ A.in1 (pyNext (.ref I) >>= _) _ _ s
    refine wpAny_bind (W.done s _ _ st fun s' mv => ?_)
    show wpAny _ A.in1 (ret Value.none) _ _ s'
    rw [List.take_of_length_le (by omega)] at set
    exact wpAny_pure (fin s' (mv.mono sub) (set.stay fun o q => mv.heap T o nw q))
  | succ left ih =>
    intro i s e le st set fin
    have lt : i < n := by omega
    refine codeAny_builtin F.entry_set_update_loop ?_
    rw [Around.under_plainId F.plain_set_update_loop _]
    show wpAny _ A.in1 (pyNext (.ref I) >>= _) _ _ s
    refine wpAny_bind (W.item i s _ _ lt st fun v s' pv st' mv => ?_)
    obtain ⟨z, u, hz, rfl⟩ := is i v pv
    have set' := set.stay (h' := s'.heap) fun o q => mv.heap T o nw q
    show wpAny _ A.in1 (holding [Value.str z u] (setAdd T (.str z u)) >>= _) _ _ s'
    refine wpAny_bind (wpAny_holding ?_)
    unfold setAdd
    refine wpAny_holding (wpAny_bind ((PySem.strKind P w).pyHash (k := z) (strKind_is _ _ _ _) ?_))
    refine put_text (s := { s' with toks := s'.toks + 1 }) set' (by omega) fun b h' same set2 => ?_
    have set3 : SetS w h' T (zs.take (i + 1)) (i + 1) := sets_more set2 fun x => by
      rw [List.take_add_one, hz]
      simp only [Option.toList, List.mem_append, List.mem_cons, List.not_mem_nil, or_false]
      exact Or.comm
    refine wpAny_pure ⟨plainId_quiet F.plain_set_update_loop _, ih (i + 1) _ (by omega) lt (W.frame _ s' _ _ st' (Nat.le_succ _) fun b hb o q => ?_) set3 fun s2 mv2 set4 => ?_⟩
    · rw [same.2 b (fun c : b = T => apart (by rw [← c]; exact hb))]
      exact q
    · refine fin s2 (Moved.trans W.gtrans ((mv.mono sub).then_heap (Nat.le_succ _) fun b o hb q => ?_) mv2) set4
      rw [same.2 b (fun c : b = T => hb (by rw [c]; exact List.mem_cons_self))]
      exact q
set_option maxHeartbeats 3200000 in
theorem set_of_tuple {l : Addr} {items : Array Value} (zs : List Str) {Q : Value → Shared → Prop} (hh : A.handled = none) (hl : s.heap.IsTuple l items) (len : items.size = zs.length) (room : zs.length + 2 < scanBound)
    (is : ∀ (i : Nat) (v : Value), items[i]? = some v → ∃ (z : Str) (u : Tok), zs[i]? = some z ∧ v = Value.str z u)
    (h : ∀ (h' : Heap) (tk : Nat), SetS w h' s.heap.objs.size zs zs.length → (∀ b o, s.heap.get? b = some o → h'.get? b = some o) → Q (.ref s.heap.objs.size) { s with heap := h', toks := tk }) :
    wpAny (model P w) A (call (.type "set") [.ref l]) Q E s := by
  obtain ⟨c, tl, hmro⟩ := F.called_set.mro
  have hmade := F.called_set.made
  have hsub := F.called_set.sub
  refine wpAny_call (codeAny_of_tree ?_)
  show wpAny _ _ (callAny (.type "set") _) _ _ _
  refine wpAny_pure ⟨Code.quiet_builtin _ (by decide +kernel), codeAny_builtin F.entry_type_call ?_⟩
  rw [Around.under_plain (weight_type_call_type "set" [.ref l] []) rfl]
  have h1 := F.called_set.notType
  have h2 := F.called_set.canCreate
  have hct := F.typeCall_set_1 (.ref l)
  repeat (any_goals (first | assumption | wp_step))
  refine codeAny_mono (code_set_led1 (.ref l) (E := E) (Q₁ := fun ob z => ob = .ref s.heap.objs.size ∧ z = { s with heap := s.heap.push { cls := .type "set", dict := none, data := .set #[] 0 (.fresh 0 0 (!w.params.followText "set-order")) } }) ⟨rfl, rfl⟩) fun r z hr => ?_
  cases r with
  | error e => exact hr
  | ok fl =>
    cases fl with
    | ret ob =>
      obtain ⟨rfl, rfl⟩ := hr
      have hS : (s.heap.push { cls := .type "set", dict := none, data := .set #[] 0 (.fresh 0 0 (!w.params.followText "set-order")) }).get? s.heap.objs.size = some { cls := .type "set", dict := none, data := .set #[] 0 (.fresh 0 0 (!w.params.followText "set-order")) } := Heap.get?_push_size _ rfl
      have hT : Shared.TypeIs { s with heap := s.heap.push { cls := .type "set", dict := none, data := .set #[] 0 (.fresh 0 0 (!w.params.followText "set-order")) } } (.ref s.heap.objs.size) "set" := ⟨_, hS, rfl⟩
      have hli := F.called_set.init.lookup
      have hbi := F.called_set.init.bind (.ref s.heap.objs.size)
      repeat (any_goals (first | assumption | wp_step))
      refine codeAny_mono (codeAny_call_builtin (R := wants (fun r z => r = .none ∧ ∃ h' tk, z = { s with heap := h', toks := tk } ∧ SetS w h' s.heap.objs.size zs zs.length ∧ (∀ b o, s.heap.get? b = some o → h'.get? b = some o)) E) F.called_set.init.plain F.entry_set_init (check_set_init_1 hT ?_)) fun r2 z2 hr2 => ?_
      · obtain ⟨ol, hol, hcl, nl, hdl⟩ := hl
        obtain ⟨ocls, odict, odata, oslots⟩ := ol
        simp only at hcl hdl
        subst hcl
        subst hdl
        have hol' : (s.heap.push { cls := .type "set", dict := none, data := .set #[] 0 (.fresh 0 0 (!w.params.followText "set-order")) }).get? l = some { cls := .type "tuple", dict := odict, data := .seq items nl, slots := oslots } := Heap.get?_push_of_some _ hol
        have q1 := F.sub_tuple_set
        have q2 := F.sub_tuple_frozenset
        have q3 : (Value.type "tuple" == Value.type "dict") = false := by decide
        have hl1 : (s.heap.push { cls := .type "set", dict := none, data := .set #[] 0 (.fresh 0 0 (!w.params.followText "set-order")) }).IsTuple l items := ⟨_, hol', rfl, nl, rfl⟩
        unfold Builtin.«set.__init__» noKeywords Builtin.Frozenset.updateFrom
        generalize hPI : pyIter = PI
        wp_walk
        subst hPI
        refine wpAny_pyIter_tuple hl1 (wpAny_bind (wpAny_runValue ?_))
        have hlS : l < s.heap.objs.size := Heap.lt_size hol
        have h3 : A.in1.in1.in1.handled = none := by simp [hh]
        have apart1 : l ≠ (s.heap.push { cls := .type "set", dict := none, data := .set #[] 0 (.fresh 0 0 (!w.params.followText "set-order")) }).objs.size := by
          rw [Heap.size_push]
          exact Nat.ne_of_lt (Nat.lt_succ_of_lt hlS)
        have apart2 : s.heap.objs.size ∉ [(s.heap.push { cls := .type "set", dict := none, data := .set #[] 0 (.fresh 0 0 (!w.params.followText "set-order")) }).objs.size, l] := by
          rw [Heap.size_push]
          simp only [List.mem_cons, List.mem_singleton, List.not_mem_nil, or_false, not_or]
          exact ⟨Nat.ne_of_lt (Nat.lt_succ_self _), Nat.ne_of_gt hlS⟩
        refine update_texts ((Walks.tuple h3 _ l apart1 items).toS) s.heap.objs.size apart2 zs len room is (items.size - 0) 0 _ (by omega) (Nat.zero_le _) ⟨⟨_, Heap.get?_push_size _ rfl, rfl, rfl⟩, (hl1.push _)⟩ ?first ?last
        case first =>
          exact sets_new (Heap.get?_push_of_some _ hS)
        case last =>
          intro s' mv set
          obtain ⟨h', g2, d', tk', os'⟩ := s'
          obtain rfl : g2 = s.gens := mv.gens
          obtain rfl : d' = s.drawn := mv.drawn
          obtain rfl : os' = s.os := mv.os
          show wpAny _ _ _ _ _ _
          refine wpAny_pure ?_
          show wpAny _ _ (ret Value.none) _ _ _
          rw [len] at set
          refine wpAny_pure ⟨rfl, h', tk', rfl, set, fun b o e => ?_⟩
          have b0 : b < s.heap.objs.size := Heap.lt_size e
          have b1 : b ≠ s.heap.objs.size := Nat.ne_of_lt b0
          have b2 : b ≠ (s.heap.push { cls := .type "set", dict := none, data := .set #[] 0 (.fresh 0 0 (!w.params.followText "set-order")) }).objs.size := by
            rw [Heap.size_push]
            exact Nat.ne_of_lt (Nat.lt_succ_of_lt b0)
          refine mv.heap b o ?_ (Heap.get?_push_of_some _ (Heap.get?_push_of_some _ e))
          simp only [List.mem_cons, List.mem_singleton, List.not_mem_nil, or_false, not_or]
          exact ⟨b1, b2⟩
      · cases r2 with
        | error e => exact hr2
        | ok fl2 =>
          cases fl2 with
          | ret r =>
            obtain ⟨rfl, h', tk, rfl, set, keep⟩ := hr2
            repeat (any_goals (first | assumption | wp_step))
            exact h _ _ set keep
          | _ => exact hr2.elim
    | _ => exact hr.elim
set_option maxHeartbeats 3200000 in
theorem set_of_list {l : Addr} {items : Array Value} (zs : List Str) {Q : Value → Shared → Prop} (hh : A.handled = none) (hl : s.heap.IsList l items) (len : items.size = zs.length) (room : zs.length + 2 < scanBound)
    (is : ∀ (i : Nat) (v : Value), items[i]? = some v → ∃ (z : Str) (u : Tok), zs[i]? = some z ∧ v = Value.str z u)
    (h : ∀ (h' : Heap) (tk : Nat), SetS w h' s.heap.objs.size zs zs.length → (∀ b o, s.heap.get? b = some o → h'.get? b = some o) → Q (.ref s.heap.objs.size) { s with heap := h', toks := tk }) :
    wpAny (model P w) A (call (.type "set") [.ref l]) Q E s := by
  obtain ⟨c, tl, hmro⟩ := F.called_set.mro
  have hmade := F.called_set.made
  have hsub := F.called_set.sub
  refine wpAny_call (codeAny_of_tree ?_)
  show wpAny _ _ (callAny (.type "set") _) _ _ _
  refine wpAny_pure ⟨Code.quiet_builtin _ (by decide +kernel), codeAny_builtin F.entry_type_call ?_⟩
  rw [Around.under_plain (weight_type_call_type "set" [.ref l] []) rfl]
  have h1 := F.called_set.notType
  have h2 := F.called_set.canCreate
  have hct := F.typeCall_set_1 (.ref l)
  repeat (any_goals (first | assumption | wp_step))
  refine codeAny_mono (code_set_led1 (.ref l) (E := E) (Q₁ := fun ob z => ob = .ref s.heap.objs.size ∧ z = { s with heap := s.heap.push { cls := .type "set", dict := none, data := .set #[] 0 (.fresh 0 0 (!w.params.followText "set-order")) } }) ⟨rfl, rfl⟩) fun r z hr => ?_
  cases r with
  | error e => exact hr
  | ok fl =>
    cases fl with
    | ret ob =>
      obtain ⟨rfl, rfl⟩ := hr
      have hS : (s.heap.push { cls := .type "set", dict := none, data := .set #[] 0 (.fresh 0 0 (!w.params.followText "set-order")) }).get? s.heap.objs.size = some { cls := .type "set", dict := none, data := .set #[] 0 (.fresh 0 0 (!w.params.followText "set-order")) } := Heap.get?_push_size _ rfl
      have hT : Shared.TypeIs { s with heap := s.heap.push { cls := .type "set", dict := none, data := .set #[] 0 (.fresh 0 0 (!w.params.followText "set-order")) } } (.ref s.heap.objs.size) "set" := ⟨_, hS, rfl⟩
      have hli := F.called_set.init.lookup
      have hbi := F.called_set.init.bind (.ref s.heap.objs.size)
      repeat (any_goals (first | assumption | wp_step))
      refine codeAny_mono (codeAny_call_builtin (R := wants (fun r z => r = .none ∧ ∃ h' tk, z = { s with heap := h', toks := tk } ∧ SetS w h' s.heap.objs.size zs zs.length ∧ (∀ b o, s.heap.get? b = some o → h'.get? b = some o)) E) F.called_set.init.plain F.entry_set_init (check_set_init_1 hT ?_)) fun r2 z2 hr2 => ?_
      · obtain ⟨ol, hol, hcl, nl, hdl⟩ := hl
        obtain ⟨ocls, odict, odata, oslots⟩ := ol
        simp only at hcl hdl
        subst hcl
        subst hdl
        have hol' : (s.heap.push { cls := .type "set", dict := none, data := .set #[] 0 (.fresh 0 0 (!w.params.followText "set-order")) }).get? l = some { cls := .type "list", dict := odict, data := .seq items nl, slots := oslots } := Heap.get?_push_of_some _ hol
        have q1 := F.sub_list_set
        have q2 := F.sub_list_frozenset
        have q3 : (Value.type "list" == Value.type "dict") = false := by decide
        have hl1 : (s.heap.push { cls := .type "set", dict := none, data := .set #[] 0 (.fresh 0 0 (!w.params.followText "set-order")) }).IsList l items := ⟨_, hol', rfl, nl, rfl⟩
        unfold Builtin.«set.__init__» noKeywords Builtin.Frozenset.updateFrom
        generalize hPI : pyIter = PI
        wp_walk
        subst hPI
        refine wpAny_pyIter_list hl1 (wpAny_bind (wpAny_runValue ?_))
        have hlS : l < s.heap.objs.size := Heap.lt_size hol
        have h3 : A.in1.in1.in1.handled = none := by simp [hh]
        have apart1 : l ≠ (s.heap.push { cls := .type "set", dict := none, data := .set #[] 0 (.fresh 0 0 (!w.params.followText "set-order")) }).objs.size := by
          rw [Heap.size_push]
          exact Nat.ne_of_lt (Nat.lt_succ_of_lt hlS)
        have apart2 : s.heap.objs.size ∉ [(s.heap.push { cls := .type "set", dict := none, data := .set #[] 0 (.fresh 0 0 (!w.params.followText "set-order")) }).objs.size, l] := by
          rw [Heap.size_push]
          simp only [List.mem_cons, List.mem_singleton, List.not_mem_nil, or_false, not_or]
          exact ⟨Nat.ne_of_lt (Nat.lt_succ_self _), Nat.ne_of_gt hlS⟩
        refine update_texts ((Walks.list h3 _ l apart1 items).toS) s.heap.objs.size apart2 zs len room is (items.size - 0) 0 _ (by omega) (Nat.zero_le _) ⟨⟨_, Heap.get?_push_size _ rfl, rfl, rfl⟩, (hl1.push _)⟩ ?first ?last
        case first =>
          exact sets_new (Heap.get?_push_of_some _ hS)
        case last =>
          intro s' mv set
          obtain ⟨h', g2, d', tk', os'⟩ := s'
          obtain rfl : g2 = s.gens := mv.gens
          obtain rfl : d' = s.drawn := mv.drawn
          obtain rfl : os' = s.os := mv.os
          show wpAny _ _ _ _ _ _
          refine wpAny_pure ?_
          show wpAny _ _ (ret Value.none) _ _ _
          rw [len] at set
          refine wpAny_pure ⟨rfl, h', tk', rfl, set, fun b o e => ?_⟩
          have b0 : b < s.heap.objs.size := Heap.lt_size e
          have b1 : b ≠ s.heap.objs.size := Nat.ne_of_lt b0
          have b2 : b ≠ (s.heap.push { cls := .type "set", dict := none, data := .set #[] 0 (.fresh 0 0 (!w.params.followText "set-order")) }).objs.size := by
            rw [Heap.size_push]
            exact Nat.ne_of_lt (Nat.lt_succ_of_lt b0)
          refine mv.heap b o ?_ (Heap.get?_push_of_some _ (Heap.get?_push_of_some _ e))
          simp only [List.mem_cons, List.mem_singleton, List.not_mem_nil, or_false, not_or]
          exact ⟨b1, b2⟩
      · cases r2 with
        | error e => exact hr2
        | ok fl2 =>
          cases fl2 with
          | ret r =>
            obtain ⟨rfl, h', tk, rfl, set, keep⟩ := hr2
            repeat (any_goals (first | assumption | wp_step))
            exact h _ _ set keep
          | _ => exact hr2.elim
    | _ => exact hr.elim
end
section
variable {P : Program} {w : World} {A : Around} {E : Value → Shared → Prop} {s : Shared} {a : Addr}
theorem strs_all : ∀ l : List Value, (∀ v ∈ l, ∃ x u, v = Value.str x u) → StrsAre l (l.map strOf) := fun l h => strsAre_map l h
theorem tx_of (e : Int × Value) (w : World) (g : TxE w e) : strOf e.2 = tx e := by
  obtain ⟨x, u, h1, _⟩ := g
  unfold tx
  rw [h1]
  rfl
theorem sorted_sets {L : List Str} {m : Nat} {Q : Value → Shared → Prop} (R : SetS w s.heap a L m) (hh : A.handled = none) (few : m < 64)
    (hQ : ∀ s' p (out : Array Value) (c : Nat) (ys : List Str), (∀ b o, s.heap.get? b = some o → s'.heap.get? b = some o) → s'.gens = s.gens → s'.os = s.os → s.heap.objs.size ≤ p → s'.heap.get? p = some (seqObj "list" out c) → StrsAre out.toList ys →
      ys.length ≤ m → PyProof.Rows.sortedS ys = true → ys.Nodup → (∀ x, x ∈ ys ↔ x ∈ L) → Q (.ref p) s') : wpAny (model P w) A (call (.builtin "sorted") [.ref a]) Q E s := by
  obtain ⟨ob, rows, ep, tab, g, ex, da, b1, b2, b3, b4, b5, b6, b7, b8⟩ := R
  refine Calls.call_function_entry kind_sorted plain_sorted entry_sorted (args_sorted1 _) ?_
  unfold Builtin.«sorted»
  refine wpAny_bind (m := checkCount "sorted" 1 1 _) (wpAny_pure ?_)
  refine wpAny_bind (collect_set (A := A.in1) hh ⟨ob, g, ex.1, da⟩ b6 (by omega) b7 b8 fun s1 vs keep sz g1 o1 pm => ?_)
  have hvl : vs.length = rows.size := by
    rw [pm.length_eq, List.length_map, Array.length_toList]
  have all : ∀ v ∈ vs, ∃ x u, v = Value.str x u := by
    intro v hv
    obtain ⟨e, he, rfl⟩ := List.mem_map.mp (pm.mem_iff.mp hv)
    obtain ⟨x, u, h1, _⟩ := b1 e he
    exact ⟨x, u, h1⟩
  have hS : StrsAre vs (vs.map strOf) := strs_all vs all
  have pk : (vs.map strOf).Perm (rows.toList.map tx) := by
    have q := pm.map strOf
    rw [List.map_map] at q
    have e : rows.toList.map (strOf ∘ fun x => x.2) = rows.toList.map tx := List.map_congr_left fun e he => tx_of e w (b1 e he)
    rwa [e] at q
  refine wpAny_bind (wpAny_newList ?_ (by rw [hvl, sizeLine_eq]; omega))
  have hoL : (s1.heap.push (seqObj "list" vs.toArray 0)).get? s1.heap.objs.size = some (seqObj "list" vs.toArray 0) := Heap.get?_push_size _ rfl
  refine wpAny_bind (wpAny_holding (wpAny_call_entry slot_list_sort ⟨_, hoL, rfl⟩ entry_list_sort
    (list_sort_treeK PyProof.Rows.strKind_oneLt hoL hS.keysOf (fun v1 v2 rest e => PyProof.Rows.keyKind_strs (by rw [← e]; exact hS)) (by rw [hvl]; omega) fun st' hp hs => ⟨_, rfl, ?_⟩) (args_list_sort _)))
  obtain ⟨ys, y1, y2, y3⟩ := PyProof.Rows.sorted_out_str hS hp hs
  obtain ⟨c, hc⟩ := sortedHeap_at (vs := vs) (out := (arrOf st').map (·.2)) hoL
  have pn : ys.Perm (rows.toList.map tx) := y2.trans pk
  refine wpAny_pure ⟨_, rfl, hQ _ s1.heap.objs.size ((arrOf st').map (·.2)) c ys (fun b u e => ?_) g1 o1 sz hc y1 ?_ y3 (pn.nodup_iff.mpr b2) (fun x => by rw [pn.mem_iff, ← b3 x])⟩
  · have q := keep b u e
    have lt := Heap.lt_size q
    show (sortedHeap (s1.heap.push (seqObj "list" vs.toArray 0)) s1.heap.objs.size vs ((arrOf st').map (·.2))).get? b = some u
    rw [sortedHeap_old (Nat.ne_of_lt lt) (by rw [size_push']; exact Nat.lt_succ_of_lt lt)]
    exact Heap.get?_push_of_some _ q
  · rw [pn.length_eq, List.length_map, Array.length_toList]
    exact b4
end
/-! ### the layer's rules -/
def SetSO (w : World) (a : Addr) (L : List Str) (m : Nat) : HO := .ext fun h => SetS w h a L m
section
variable {X : Cx} {K : PySem.W.Frag}
theorem setSO_ok {P : Program} {w : World} {H : Hp} {h : Heap} {a : Addr} {L : List Str} {m : Nat} (R : SetS w h a L m) : ObjOk P w H h a (SetSO w a L m) := by
  obtain ⟨ob, rows, ep, tab, g, _⟩ := id R
  exact ⟨R, ⟨ob, g⟩, fun h1 h2 r k => SetS.stay r k⟩
/-- set(l), l a list or a tuple of texts -/
def rSetS (K : PySem.W.Frag) (w : World) : List V → Hp → VK → Prop := fun xs H Q => ∃ (l : Addr) (zs : List Str), xs = [.ref l] ∧ (SqL K H l (zs.map V.str) ∨ SqT K H l (zs.map V.str)) ∧ zs.length ≤ 1000 ∧ ∀ p, H p = none → Q (.ref p) (upd H p (SetSO w p zs zs.length))
theorem vals_at {zs : List Str} {its : List Value} (r : Vals (zs.map V.str) its) : its.toArray.size = zs.length ∧ ∀ (i : Nat) (v : Value), its.toArray[i]? = some v → ∃ (z : Str) (u : Tok), zs[i]? = some z ∧ v = Value.str z u := by
  have len := r.length
  rw [List.length_map] at len
  refine ⟨by rw [List.size_toArray]; exact len.symm, fun i v hv => ?_⟩
  have hv' : its[i]? = some v := by simpa using hv
  have hi : i < zs.length := by
    rw [len]
    exact (List.getElem?_eq_some_iff.mp hv').1
  obtain ⟨u, hu, ru⟩ := r.get (i := i) (x := V.str zs[i]) (by rw [List.getElem?_map, List.getElem?_eq_getElem hi]; rfl)
  rw [hv'] at hu
  obtain rfl := Option.some.inj hu
  obtain ⟨t, e⟩ := ru
  exact ⟨zs[i], t, List.getElem?_eq_getElem hi, e⟩
theorem k_setS (hc : X.calm = true := by rfl) (hK : X.K = K := by rfl) (hw : X.w = w := by rfl) : CallR X (.type "set") (rSetS K w) := by
  subst hK
  subst hw
  intro pins s σ H xs us Q I r h
  obtain ⟨l, zs, rfl, hq, len, q⟩ := h
  obtain ⟨u, rfl, rx⟩ := vals1 r
  cases rx
  have room : zs.length + 2 < scanBound := Nat.lt_of_le_of_lt (Nat.add_le_add_right len 2) (by decide)
  have fin : ∀ (h' : Heap) (tk : Nat), SetS X.w h' s.heap.objs.size zs zs.length → (∀ b o, s.heap.get? b = some o → h'.get? b = some o) → EP X pins σ Q (.ref s.heap.objs.size) { s with heap := h', toks := tk } := fun h' tk R k =>
    ⟨.ref s.heap.objs.size, _, I.laid (t' := tk) k (Nat.le_refl _) (setSO_ok R), rfl, q _ (I.hok.fresh (Nat.le_refl _))⟩
  rcases hq with hq | hq
  · obtain ⟨its, rv, pl, _⟩ := I.list hq
    obtain ⟨a1, a2⟩ := vals_at rv
    exact set_of_list zs (I.ok.hd hc) pl.isList a1 room a2 fin
  · obtain ⟨its, rv, pl, _⟩ := I.tuple hq
    obtain ⟨a1, a2⟩ := vals_at rv
    exact set_of_tuple zs (I.ok.hd hc) pl a1 room a2 fin
/-- sorted(z), z such a set: its texts, ascending, each once -/
def rSortedSet (w : World) : List V → Hp → VK → Prop := fun xs H Q => ∃ (a : Addr) (L : List Str) (m : Nat), xs = [.ref a] ∧ H a = some (SetSO w a L m) ∧ m < 64 ∧
  ∀ (ys : List Str) (p : Addr), PyProof.Rows.sortedS ys = true → ys.Nodup → (∀ x, x ∈ ys ↔ x ∈ L) → ys.length ≤ m → H p = none → Q (.ref p) (upd H p (.lst (ys.map V.str)))
theorem k_sortedSet (hc : X.calm = true := by rfl) (hw : X.w = w := by rfl) : CallR X (.builtin "sorted") (Rw.rSortedSet w) := by
  subst hw
  intro pins s σ H xs us Q I r h
  obtain ⟨a, L, m, rfl, ha, few, q⟩ := h
  obtain ⟨u, rfl, rx⟩ := vals1 r
  cases rx
  have R : SetS X.w s.heap a L m := (I.hok a _ ha).1
  refine sorted_sets R (I.ok.hd hc) few fun s' p out c ys k g o hp hg hy hl hs hn hm => ?_
  have len : (ys.map V.str).length ≤ sizeLine := by
    rw [List.length_map]
    exact Nat.le_of_lt (small1000 (by omega))
  have hn0 : H p = none := I.hok.fresh hp
  have J : Inv X pins σ (upd H p (.lst (ys.map V.str))) { s with heap := s'.heap, gens := s'.gens, drawn := s'.drawn, toks := s'.toks } :=
    I.call (ch := []) (Un.laid k hp hn0) (I.hok.laid k hp ⟨len, out.toList, c, vals_of_strs hy, hg⟩) (by rw [g]; exact I.bare) (fun _ z => nomatch z)
  have e : s' = { s with heap := s'.heap, gens := s'.gens, drawn := s'.drawn, toks := s'.toks } := by
    cases s'
    cases s
    cases o
    rfl
  rw [e]
  exact ⟨.ref p, _, J, rfl, q ys p hs hn hm hl hn0⟩
end
/-! ### texts in their order -/
def slt (a b : Str) : Prop := a.cps.toList < b.cps.toList
instance (a b : Str) : Decidable (slt a b) := inferInstanceAs (Decidable (a.cps.toList < b.cps.toList))
theorem slt_irrefl (a : Str) : ¬ slt a a := List.lt_irrefl _
theorem slt_trans {a b c : Str} (h1 : slt a b) (h2 : slt b c) : slt a c := List.lt_trans h1 h2
theorem slt_total {a b : Str} (n : a ≠ b) (h : ¬ slt b a) : slt a b := by
  by_cases h2 : slt a b
  · exact h2
  · refine absurd ?_ n
    have e : a.cps.toList = b.cps.toList := List.le_antisymm h h2
    exact Str.ext' (Array.toList_inj.mp e)
/-- strictly ascending, one behind the other -/
def asc : List Str → Bool
  | x :: y :: r => decide (slt x y) && asc (y :: r)
  | _ => true
theorem asc_pair : ∀ {l : List Str}, asc l = true → l.Pairwise slt
  | [], _ => List.Pairwise.nil
  | [x], _ => List.pairwise_singleton _ _
  | x :: y :: r, h => by
    obtain ⟨h1, h2⟩ := Bool.and_eq_true_iff.mp h
    have ih := asc_pair h2
    refine List.pairwise_cons.mpr ⟨fun z hz => ?_, ih⟩
    have hxy := of_decide_eq_true h1
    rcases List.mem_cons.mp hz with rfl | hz
    · exact hxy
    · exact slt_trans hxy ((List.pairwise_cons.mp ih).1 z hz)
theorem pair_asc : ∀ {l : List Str}, l.Pairwise slt → asc l = true
  | [], _ => rfl
  | [x], _ => rfl
  | x :: y :: r, h => by
    obtain ⟨h1, h2⟩ := List.pairwise_cons.mp h
    exact Bool.and_eq_true_iff.mpr ⟨decide_eq_true (h1 y List.mem_cons_self), pair_asc h2⟩
theorem sorted_rising : ∀ (p : Str) (l : List Str), PyProof.Rows.risingS p l = true → (p :: l).Nodup → (p :: l).Pairwise slt
  | p, [], _, _ => List.pairwise_singleton _ _
  | p, x :: r, h, n => by
    have h' : (!PySem.Spec.ltCps x.cps.toList p.cps.toList && PyProof.Rows.risingS x r) = true := h
    obtain ⟨h1, h2⟩ := Bool.and_eq_true_iff.mp h'
    obtain ⟨n1, n2⟩ := List.nodup_cons.mp n
    have ih := sorted_rising x r h2 n2
    have lt : slt p x := by
      refine slt_total (fun e => n1 (e ▸ List.mem_cons_self)) fun q => ?_
      have q' : PySem.Spec.ltCps x.cps.toList p.cps.toList = true := by
        rw [PyProof.Rows.ltCps_eq]
        exact decide_eq_true q
      rw [q'] at h1
      exact absurd h1 (by decide)
    refine List.pairwise_cons.mpr ⟨fun z hz => ?_, ih⟩
    rcases List.mem_cons.mp hz with rfl | hz
    · exact lt
    · exact slt_trans lt ((List.pairwise_cons.mp ih).1 z hz)
theorem sortedS_pair : ∀ {l : List Str}, PyProof.Rows.sortedS l = true → l.Nodup → l.Pairwise slt
  | [], _, _ => List.Pairwise.nil
  | x :: r, h, n => sorted_rising x r h n
/-- what is in it tells an ascending row -/
theorem asc_unique : ∀ {as bs : List Str}, as.Pairwise slt → bs.Pairwise slt → (∀ x, x ∈ as ↔ x ∈ bs) → as = bs
  | [], [], _, _, _ => rfl
  | [], b :: bs, _, _, h => absurd ((h b).2 List.mem_cons_self) (by simp)
  | a :: as, [], _, _, h => absurd ((h a).1 List.mem_cons_self) (by simp)
  | a :: as, b :: bs, ha, hb, h => by
    obtain ⟨a1, a2⟩ := List.pairwise_cons.mp ha
    obtain ⟨b1, b2⟩ := List.pairwise_cons.mp hb
    have e : a = b := by
      rcases List.mem_cons.mp ((h a).1 List.mem_cons_self) with e | e
      · exact e
      · rcases List.mem_cons.mp ((h b).2 List.mem_cons_self) with e' | e'
        · exact e'.symm
        · exact absurd (slt_trans (a1 b e') (b1 a e)) (slt_irrefl a)
    subst e
    have ih : as = bs := asc_unique a2 b2 fun x => by
      constructor
      · intro hx
        rcases List.mem_cons.mp ((h x).1 (List.mem_cons_of_mem _ hx)) with e | e
        · exact absurd (e ▸ a1 x hx) (slt_irrefl _)
        · exact e
      · intro hx
        rcases List.mem_cons.mp ((h x).2 (List.mem_cons_of_mem _ hx)) with e | e
        · exact absurd (e ▸ b1 x hx) (slt_irrefl _)
        · exact e
    rw [ih]
section
variable {X : Cx} {K : PySem.W.Frag}
theorem k_slA (hK : X.K = K := by rfl) : SlR X (rSlA K) := by subst hK; exact sl_tupA
theorem k_zipA {tg it : Expr} {ta : TA} (h : PI X tg it (RZ.iZipA X.K ta)) (hK : X.K = K := by rfl) : PI X tg it (RZ.iZipA K ta) := by subst hK; exact h
theorem walk_zipT {a b : Addr} {xs ys : List V} {n : Nat} (hn : n = min xs.length ys.length) : Walk (RZ.ItzT K a b) n (fun H => SqT K H a xs ∧ SqT K H b ys) (YPair (fun i => xs[i]?) (fun i => ys[i]?)) := by
  subst hn
  refine ⟨fun i _ hi q => ?_, fun _ q => ⟨xs, ys, q.1, q.2, by omega⟩, fun i H v H' _ q y => ?_⟩
  · have h1 : i < xs.length := by omega
    have h2 : i < ys.length := by omega
    exact ⟨xs, ys, xs[i], ys[i], q.1, q.2, List.getElem?_eq_getElem h1, List.getElem?_eq_getElem h2⟩
  · obtain ⟨T, x, z, h1, h2, h3, h4, h5⟩ := y
    exact ⟨T, x, z, h1, h2, h3, h4 xs q.1, h5 ys q.2⟩
end
/-- the rows of a tuple behind its first item -/
theorem cut_tail {α : Type} (n : Nat) : HT.sIx n 0 (some 1) = min 1 n ∧ HT.sIx n n none = n := ⟨HT.sIx_nat n 0 1, HT.sIx_none _ _⟩
theorem cutV_tail (xs : List V) : cutV xs (some 1) none = xs.drop 1 := by
  unfold cutV
  rw [(cut_tail (α := V) xs.length).1, (cut_tail (α := V) xs.length).2]
  cases xs with
  | nil => rfl
  | cons x r =>
    have e : min 1 (x :: r).length = 1 := by
      rw [List.length_cons]
      omega
    rw [e]
    show List.take ((x :: r).length - 1) r = r
    rw [List.length_cons, Nat.add_sub_cancel]
    exact List.take_length
theorem eqv_strs : ∀ (as bs : List Str), PyData.eqv (.list (as.map PyData.str)) (.list (bs.map PyData.str)) = decide (as = bs)
  | [], [] => by simp [PyData.eqv, PyData.eqvAll]
  | [], b :: bs => by simp [PyData.eqv, PyData.eqvAll]
  | a :: as, [] => by simp [PyData.eqv, PyData.eqvAll]
  | a :: as, b :: bs => by
    have ih := eqv_strs as bs
    simp only [PyData.eqv] at ih
    simp only [PyData.eqv, PyData.eqvAll, List.map_cons, ih]
    rw [Bool.eq_iff_iff]
    simp
theorem sl_any {K : PySem.W.Frag} {a : Addr} {xs : List V} {lo hi : Option Int} {H : Hp} {Q : VK} (ha : SqT K H a xs) (h : ∀ r H', Same H H' → SqT K H' r (cutV xs lo hi) → Q (.ref r) H') : rSlA K (.ref a) lo hi H Q := by
  refine ⟨a, xs, rfl, ha, fun e => h a H (Same.refl H) ?_, fun _ p np => h p _ (Same.new np) (SqT.of upd_same)⟩
  have e2 : cutV xs lo hi = xs := by
    unfold cutV
    rw [e.1, e.2, List.drop_zero, Nat.sub_zero, List.take_length]
  rw [e2]
  exact ha
/-! ### d.get(k, x) of a written dict with texts as keys -/
/-- the written dict at a -/
def KDic (K : PySem.W.Frag) (w : World) (a : Addr) : Prop := ∃ es n, K.lookup a = some ⟨.type "dict", none, .dict es n, #[]⟩ ∧ PySem.W.KeysLit w.params es.toList ∧ (a == sysModules) = false
/-- what it has at x -/
def KHas (K : PySem.W.Frag) (a : Addr) (x : Str) (o : Option V) : Prop := (∃ u v, PySem.W.nsIn K a x = some (some u) ∧ RelV v u ∧ o = some v) ∨ (PySem.W.nsIn K a x = some none ∧ o = none)
def tKGet (K : PySem.W.Frag) (w : World) (td ty tx : TE) : TE := fun σ H Q => td σ H fun x H1 => ∃ a, x = .ref a ∧ KDic K w a ∧ ty σ H1 fun y H2 => tx σ H2 fun z H3 => ∃ k o, y = .str k ∧ KHas K a k o ∧ Q (o.getD z) H3
section
variable {X : Cx} {K : PySem.W.Frag} {w : World} {o e f : Expr} {apos cpos : Pos} {td ty tx : TE}
theorem pe_kget (ho : PE X o td) (he : PE X e ty) (hf : PE X f tx) (m : M2 X o "get" apos e f cpos) (hK : X.K = K := by rfl) (hw : X.w = w := by rfl) : PE X (.Call (.Attribute o "get" apos) [e, f] [] cpos) (tKGet K w td ty tx) := by
  subst hK hw
  refine ⟨fun pins s σ H Q I h => ?_⟩
  refine wpAny_Call_method m.base m.few m.line PySem.F.plainAttrs_dict PySem.F.slot_dict_get PySem.F.type_dict_get (thn (ho.run pins s σ H _ I h) fun u s1 ⟨x, H1, I1, rx, a, ex, ⟨es, n, hl, hk, low⟩, q1⟩ => ?_)
  subst ex
  obtain rfl : u = Value.ref a := rx
  have hm1 := PySem.W.mapOf_K (prog := X.prog) (w := X.w) I1.kIn hl hk
  refine ⟨hm1.typeIs, fun b q => ?_, ?_⟩
  · cases q
    exact ⟨_, I1.kIn _ _ hl, rfl⟩
  rw [m.trees]
  refine Calls.callWith_builtin rfl (Calls.evalArgs_plain (Calls.spliced_cons (thn (he.run pins s1 σ H1 _ I1 q1) fun iv s2 ⟨y, H2, I2, ry, q2⟩ =>
    Calls.spliced_cons (thn (hf.run pins s2 σ H2 _ I2 q2) fun fv s3 ⟨z, H3, I3, rz, k, o, ey, g, q3⟩ => Calls.spliced_nil ?_))))
  subst ey
  obtain ⟨t, rfl⟩ := (show ∃ t, iv = Value.str k t from ry)
  have hm := PySem.W.mapOf_K (prog := X.prog) (w := X.w) I3.kIn hl hk
  rcases g with ⟨v, r, g, rr, rfl⟩ | ⟨g, rfl⟩
  · refine call_meetsIn PySem.F.slot_dict_get hm.typeIs PySem.F.entry_dict_get (PySem.F.args_dict_get_3 _ _ _) (meets_dict_get_default (strKind X.prog X.w) a (strKind_is X.prog X.w k t) low fv) ⟨_, hm, ?_⟩
    rw [PySem.W.find_K hl g]
    exact ⟨r, H3, I3.tok _, rr, q3⟩
  · refine call_meetsIn PySem.F.slot_dict_get hm.typeIs PySem.F.entry_dict_get (PySem.F.args_dict_get_3 _ _ _) (meets_dict_get_default (strKind X.prog X.w) a (strKind_is X.prog X.w k t) low fv) ⟨_, hm, ?_⟩
    rw [PySem.W.find_K hl g]
    exact ⟨z, H3, I3.tok _, rz, q3⟩
end
/-! ### a loop over a list or a tuple -/
def iAny (K : PySem.W.Frag) (tl : TE) : TI := fun σ H R => iList K tl σ H R ∨ iTup K tl σ H R
theorem pi_any {X : Cx} {tg l : Expr} {tl : TE} (hl : PE X l tl) : PI X tg l (iAny X.K tl) := by
  refine ⟨fun pins s σ H R I h => ?_⟩
  rcases h with h | h
  · exact (pi_list hl).run pins s σ H R I h
  · exact (pi_tup hl).run pins s σ H R I h
theorem k_pa {X : Cx} {K : PySem.W.Frag} {tg l : Expr} {tl : TE} (h : PE X l tl) (hK : X.K = K := by rfl) : PI X tg l (iAny K tl) := by subst hK; exact pi_any h
section
variable {K : PySem.W.Frag}
def rInKD (K : PySem.W.Frag) (w : World) (neg : Bool) : R2 := fun x y H Q => ∃ (z : Str) (a : Addr) (es : Array DictEntry) (n : Nat) (r : Option Value), x = .str z ∧ y = .ref a ∧ KDict K w a es n ∧ PySem.W.nsIn K a z = some r ∧ Q (.bl (if neg then !r.isSome else r.isSome)) H
theorem k_inKD {X : Cx} {w : World} (hK : X.K = K := by rfl) (hw : X.w = w := by rfl) : OpR X (compareOp .In) (rInKD K w false) := by
  subst hK hw
  intro pins s σ H x y v u Q I rx ry h
  obtain ⟨z, a, es, n, r, rfl, rfl, D, e, q⟩ := h
  exact op_in_kd D pins s σ H _ _ v u Q I rx ry ⟨z, r, rfl, rfl, e, q⟩
theorem k_notinKD {X : Cx} {w : World} (hK : X.K = K := by rfl) (hw : X.w = w := by rfl) : OpR X (compareOp .NotIn) (rInKD K w true) := by
  subst hK hw
  intro pins s σ H x y v u Q I rx ry h
  obtain ⟨z, a, es, n, r, rfl, rfl, D, e, q⟩ := h
  exact op_notIn_kd D pins s σ H _ _ v u Q I rx ry ⟨z, r, rfl, rfl, e, q⟩
end
def HasKD (K : PySem.W.Frag) (w : World) (a : Addr) (has : Str → Bool) : Prop := (∃ es n, KDict K w a es n) ∧ ∀ z, ∃ r, PySem.W.nsIn K a z = some r ∧ r.isSome = has z
/-- the rows of a written dict with these texts as keys -/
def KeyRow (w : World) (e : DictEntry) (k : Str) : Prop := (∃ t, e.key = .str k t) ∧ e.hash = PyData.keyHash w.params k
theorem keyRows_lit {w : World} : ∀ {es : List DictEntry} {ks : List Str}, Paired (KeyRow w) es ks → PySem.W.KeysLit w.params es
  | _, _, .nil => by rw [PySem.W.KeysLit.eq_1]; trivial
  | _, _, .cons ⟨⟨t, e⟩, h⟩ p => by
    rw [PySem.W.KeysLit.eq_2]
    exact ⟨⟨_, t, e, h⟩, keyRows_lit p⟩
theorem keyRows_find {w : World} (z : Str) : ∀ {es : List DictEntry} {ks : List Str}, Paired (KeyRow w) es ks → (es.find? fun x => x.key.isStr z).isSome = ks.contains z ∧ (es.any fun x => x.refKey) = false
  | _, _, .nil => ⟨rfl, rfl⟩
  | _, _, .cons (a := e) (b := k) (l₂ := ks) ⟨⟨t, ek⟩, h⟩ p => by
    obtain ⟨h1, h2⟩ := keyRows_find z p
    have e1 : e.key.isStr z = (k == z) := by rw [ek]; rfl
    have e2 : e.refKey = false := by
      unfold DictEntry.refKey
      rw [ek]
    refine ⟨?_, by rw [List.any_cons, e2, h2]; rfl⟩
    have e3 : (k :: ks).contains z = ((z == k) || ks.contains z) := rfl
    rw [List.find?_cons, e1, e3, Bool.beq_comm (a := z), ← h1]
    cases k == z <;> rfl
theorem hasKD_of {K : PySem.W.Frag} {w : World} {a : Addr} {es : Array DictEntry} {n : Nat} {ks : List Str} (at_ : K.lookup a = some ⟨.type "dict", none, .dict es n, #[]⟩) (rows : Paired (KeyRow w) es.toList ks) (low : (a == sysModules) = false) : HasKD K w a ks.contains := by
  refine ⟨⟨es, n, ⟨at_, keyRows_lit rows, low⟩⟩, fun z => ?_⟩
  obtain ⟨h1, h2⟩ := keyRows_find z rows
  unfold PySem.W.nsIn
  rw [at_]
  simp only [h2]
  cases e : es.toList.find? fun x => x.key.isStr z with
  | none =>
    rw [e] at h1
    exact ⟨none, rfl, h1⟩
  | some x =>
    rw [e] at h1
    exact ⟨some x.val, rfl, h1⟩
def topS (i : Nat) : Stmt := PySem.Challenge.pw_restwise_k02_labels_and_integers_judged.main.body.getD i (.Pass ⟨0, 0, 0, 0⟩)

local macro_rules | `(tactic| walk_at "rd1") => `(tactic| first
  | refine ⟨_, rfl, ?_⟩ | refine ⟨_, _, rfl, rfl, ?_⟩ | refine .inl ⟨_, rfl, ?_⟩ | refine .inr ⟨_, rfl, ?_⟩
  | refine And.intro rfl ?_ | refine And.intro ⟨_, rfl⟩ ?_ | refine And.intro (by assumption) ?_ | refine And.intro (by decide) ?_ | refine And.intro (.inl ⟨by decide, by decide⟩) ?_ | refine And.intro (.inr ⟨by decide, by decide⟩) ?_ | refine And.intro ⟨by decide, by decide⟩ ?_ | refine And.intro ⟨by decide, by decide, by decide⟩ ?_
  | refine And.intro (by show (0:Int) < _; first | decide | decide +kernel | assumption | omega) ?_ | refine And.intro (by simp only [List.length_cons, List.length_nil]; decide) ?_ | refine And.intro (by decide +kernel) ?_ | refine And.intro ⟨by decide, by decide +kernel⟩ ?_)
local macro_rules | `(tactic| walk_at "rd") => `(tactic| repeat (walk_at "rd1"))

abbrev s__law_dice : Stmt := topS 9
abbrev N__law_dice : List Str := ["script", "spot", "cell", "great", "blend"]
theorem sc__law_dice : FnScope N__law_dice ["script", "spot"] (defScope s__law_dice) := ⟨rfl, rfl, rfl, by decide +kernel, rfl, by decide +kernel, by decide +kernel⟩

def spDice (K : PySem.W.Frag) : Sp := fun vs H Q _ => ∃ (a : Addr) (ns : List Int) (n : Nat), vs = [.ref a, .int n] ∧ SqL K H a (ns.map V.int) ∧ ns.length ≤ 63 ∧ ∀ H' p, Same H H' → H p = none → Dice H' p → Q (.ref p) H'
section
variable {P : Program} {w : World} {K : PySem.W.Frag} {mg : Str → Option Value} {base : Heap}
theorem ok_dice (h : Has K mg "_law_dice" s__law_dice ["script", "spot"]) (z_len : mg "len" = none) (z_int : mg "int" = none) (z_abs : mg "abs" = none) (z_max : mg "max" = none) : Ok P w K mg base 1 "_law_dice" ["script", "spot"] (spDice K) := by
  obtain ⟨f, fd, g, F, b⟩ := h
  refine ⟨f, fd, g, F.kp, b, F.ok sc__law_dice (fun vs H Q E h => ?_) (fun cdv A outer s H vs Q E hr h => ?_)⟩
  · obtain ⟨a, ns, n, rfl, _⟩ := h
    rfl
  · obtain ⟨a, ns, n, rfl, hS, hlen, q⟩ := h
    refine ⟨_, (pss_cons (ps_set (i := 2) sc__law_dice.nd rfl (.inl rfl) (pe_op op_add (pe_op op_mul pe_int (pv 1)) pe_int))
  (pss_cons (ps_if (pt_cmpR op_lt (pv 1) (pe_callB (Rw.k_len (K := K)) (by rfl) z_len Rw.bt_len (pa_cons (pv 0) pa_nil)) (nomark _)) (pss_one (ps_set (i := 2) sc__law_dice.nd rfl (.inl rfl) (pe_ix (Rw.k_ixL (K := K)) (pv 0) (pv 1) (fun _ _ => rfl)))) pss_nil)
  (pss_cons (ps_set (i := 3) sc__law_dice.nd rfl (.inl rfl) (pe_op op_mod (pe_callTy call_int1 (by rfl) z_int Rw.bt_int (pa_cons (pe_callB call_abs (by rfl) z_abs Rw.bt_abs (pa_cons (pv 2) pa_nil)) pa_nil)) (pe_op Rw.op_powW (pe_op op_pow pe_int pe_int) pe_int)))
  (pss_cons (ps_set (i := 4) sc__law_dice.nd rfl (.inl rfl) (pe_op op_add (pe_op op_add (pe_op op_add (pe_op op_mul (pe_op op_mod (pe_callTy call_int1 (by rfl) z_int Rw.bt_int (pa_cons (pv 3) pa_nil)) pe_int) pe_int) (pe_op op_mul pe_int (pv 1))) (pe_op op_mul pe_int (pe_callTy call_int1 (by rfl) z_int Rw.bt_int (pa_cons (pe_cmpR op_lt (pv 2) pe_int (nomark _)) pa_nil)))) pe_int))
  (pss_one (ps_ret (pe_lst (pa_cons (pe_callB (call_max2 rfl) (by rfl) z_max Rw.bt_max (pa_cons pe_int (pa_cons (pe_op op_sub (pv 3) (pe_op op_pow pe_int pe_int)) pa_nil))) (pa_cons (pe_op op_mod (pe_callTy call_int1 (by rfl) z_int Rw.bt_int (pa_cons (pv 4) pa_nil)) pe_int) (pa_cons pe_int pa_nil)))))))))), ?_⟩
    walk_at "rd"
    refine ⟨a, _, rfl, .inl hS, ?_⟩
    walk_at "rd"
    refine ite2 (fun c => ?_) (fun c => ?_)
    · have hn : n < (ns.map V.int).length := by
        have := of_decide_eq_true c
        omega
      have hn' : n < ns.length := by simpa using hn
      have ha : atI (ns.map V.int) (n : Int) = some (.int ns[n]) := atI_nat (by rw [List.getElem?_map, List.getElem?_eq_getElem hn']; rfl)
      walk_at "rd"
      refine ⟨a, _, _, _, rfl, rfl, hS, ha, ?_⟩
      walk_at "rd"
      refine ⟨_, _, rfl, ?_⟩
      walk_at "rd"
      intro p hp
      refine q _ p (Same.new hp) hp ⟨_, _, _, ?_, ?_, ?_, upd_same⟩
      · split <;> omega
      · exact Int.emod_nonneg _ (by decide)
      · decide
    · walk_at "rd"
      refine ⟨_, _, rfl, ?_⟩
      walk_at "rd"
      intro p hp
      refine q _ p (Same.new hp) hp ⟨_, _, _, ?_, ?_, ?_, upd_same⟩
      · split <;> omega
      · exact Int.emod_nonneg _ (by decide)
      · decide
end

abbrev s__law_roll : Stmt := topS 10
abbrev N__law_roll : List Str := ["dice", "total", "found", "one", "two"]
theorem sc__law_roll : FnScope N__law_roll ["dice", "total"] (defScope s__law_roll) := ⟨rfl, rfl, rfl, by decide +kernel, rfl, by decide +kernel, by decide +kernel⟩

def spRoll : Sp := fun vs H Q _ => ∃ (d : Addr) (n : Int), vs = [.ref d, .int n] ∧ 0 < n ∧ n < 1073741824 ∧ Dice H d ∧ ∀ H' r, SB d H H' → Dice H' d → 0 ≤ r → r < n → Q (.int r) H'
section
variable {P : Program} {w : World} {K : PySem.W.Frag} {mg : Str → Option Value} {base : Heap}
theorem ok_roll (h : Has K mg "_law_roll" s__law_roll ["dice", "total"]) (z_int : mg "int" = none) : Ok P w K mg base 1 "_law_roll" ["dice", "total"] spRoll := by
  obtain ⟨f, fd, g, F, b⟩ := h
  refine ⟨f, fd, g, F.kp, b, F.ok sc__law_roll (fun vs H Q E h => ?_) (fun cdv A outer s H vs Q E hr h => ?_)⟩
  · obtain ⟨d, n, rfl, _⟩ := h
    rfl
  · obtain ⟨d, n, rfl, hn, hn2, ⟨x, y, z, h1, h2, h3, hd⟩, q⟩ := h
    have hL : SqL K H d [.int x, .int y, .int z] := SqL.of hd
    refine ⟨_, (pss_cons (ps_if (pt_cmpR op_gt (pe_ix (Rw.k_ixL (K := K)) (pv 0) pe_int (fun _ _ => rfl)) pe_int (nomark _)) (pss_cons (ps_set (i := 2) sc__law_roll.nd rfl (.inl rfl) (pe_op op_mod (pe_callTy call_int1 (by rfl) z_int Rw.bt_int (pa_cons (pe_ix (Rw.k_ixL (K := K)) (pv 0) pe_int (fun _ _ => rfl)) pa_nil)) (pv 1)))
  (pss_cons (ps_asg (pe_op op_fdiv (pe_ix (Rw.k_ixL (K := K)) (pv 0) pe_int (fun _ _ => rfl)) (pv 1)) (pg_sub (pv 0) pe_int set_list))
  (pss_one (ps_ret (pv 2))))) pss_nil)
  (pss_cons (ps_asg (pe_op op_add (pe_ix (Rw.k_ixL (K := K)) (pv 0) pe_int (fun _ _ => rfl)) pe_int) (pg_sub (pv 0) pe_int set_list))
  (pss_cons (ps_set (i := 3) sc__law_roll.nd rfl (.inl rfl) (pe_op op_mod (pe_callTy call_int1 (by rfl) z_int Rw.bt_int (pa_cons (pe_op op_add (pe_ix (Rw.k_ixL (K := K)) (pv 0) pe_int (fun _ _ => rfl)) (pe_op op_mul pe_int (pe_ix (Rw.k_ixL (K := K)) (pv 0) pe_int (fun _ _ => rfl)))) pa_nil)) pe_int))
  (pss_cons (ps_set (i := 4) sc__law_roll.nd rfl (.inl rfl) (pe_op op_add (pe_op op_mul (pe_op op_mod (pe_callTy call_int1 (by rfl) z_int Rw.bt_int (pa_cons (pe_op op_mul (pv 3) (pv 3)) pa_nil)) pe_int) (pv 3)) (pe_op op_mul pe_int (pe_ix (Rw.k_ixL (K := K)) (pv 0) pe_int (fun _ _ => rfl)))))
  (pss_cons (ps_set (i := 4) sc__law_roll.nd rfl (.inl rfl) (pe_op op_mod (pe_callTy call_int1 (by rfl) z_int Rw.bt_int (pa_cons (pv 4) pa_nil)) pe_int))
  (pss_one (ps_ret (pe_op op_mod (pe_callTy call_int1 (by rfl) z_int Rw.bt_int (pa_cons (pe_op op_fdiv (pv 4) pe_int) pa_nil)) (pv 1))))))))), ?_⟩
    walk_at "rd"
    refine ⟨d, _, _, _, rfl, rfl, hL, rfl, ?_⟩
    walk_at "rd"
    refine ite2 (fun c => ?_) (fun c => ?_)
    · walk_at "rd"
      refine ⟨d, _, _, _, rfl, rfl, hL, rfl, ?_⟩
      walk_at "rd"
      refine ⟨d, _, _, _, rfl, rfl, hL, rfl, ?_⟩
      walk_at "rd"
      refine ⟨⟨hn, hn2⟩, ?_⟩
      walk_at "rd"
      refine ⟨d, _, _, 0, rfl, rfl, hd, rfl, ?_⟩
      walk_at "rd"
      have hx : 0 ≤ x / n := Int.ediv_nonneg h1 (by omega)
      exact q _ _ SB.upd ⟨x / n, y, z, hx, h2, h3, upd_same⟩ (Int.emod_nonneg _ (by omega)) (Int.emod_lt_of_pos _ hn)
    · walk_at "rd"
      refine ⟨d, _, _, _, rfl, rfl, hL, rfl, ?_⟩
      walk_at "rd"
      refine ⟨d, _, _, 2, rfl, rfl, hd, rfl, ?_⟩
      have hL2 : SqL K (upd H d (.lst [.int x, .int y, .int (z + 1)])) d [.int x, .int y, .int (z + 1)] := SqL.of upd_same
      walk_at "rd"
      refine ⟨d, _, _, _, rfl, rfl, hL2, rfl, ?_⟩
      walk_at "rd"
      refine ⟨d, _, _, _, rfl, rfl, hL2, rfl, ?_⟩
      walk_at "rd"
      have p1 : ∀ t : Int, 0 ≤ t % 2305843009213693951 ∧ t % 2305843009213693951 < 2305843009213693951 := fun t => ⟨Int.emod_nonneg _ (by decide), Int.emod_lt_of_pos _ (by decide)⟩
      have p2 : ∀ t : Int, 0 ≤ t % 2305843009213693907 ∧ t % 2305843009213693907 < 2305843009213693907 := fun t => ⟨Int.emod_nonneg _ (by decide), Int.emod_lt_of_pos _ (by decide)⟩
      obtain ⟨o1, o2⟩ := p1 (y + 998244391 * (z + 1))
      refine ⟨.inl ⟨by omega, by omega⟩, ?_⟩
      walk_at "rd"
      obtain ⟨t1, t2⟩ := p2 ((y + 998244391 * (z + 1)) % 2305843009213693951 * ((y + 998244391 * (z + 1)) % 2305843009213693951))
      refine ⟨.inl ⟨Int.lt_of_lt_of_le (by decide) t1, Int.lt_trans t2 (by decide)⟩, ?_⟩
      walk_at "rd"
      refine ⟨d, _, _, _, rfl, rfl, hL2, rfl, ?_⟩
      walk_at "rd"
      exact q _ _ SB.upd ⟨x, y, z + 1, h1, h2, by omega, upd_same⟩ (Int.emod_nonneg _ (by omega)) (Int.emod_lt_of_pos _ hn)
end

abbrev s__law_pick : Stmt := topS 11
abbrev N__law_pick : List Str := ["dice", "items"]
theorem sc__law_pick : FnScope N__law_pick ["dice", "items"] (defScope s__law_pick) := ⟨rfl, rfl, rfl, by decide +kernel, rfl, by decide +kernel, by decide +kernel⟩

def spPick (K : PySem.W.Frag) : Sp := fun vs H Q _ => ∃ (d l : Addr) (xs : List V), vs = [.ref d, .ref l] ∧ 0 < xs.length ∧ xs.length < 1073741824 ∧ Dice H d ∧ (∀ H', SB d H H' → SqL K H' l xs ∨ SqT K H' l xs) ∧ ∀ H' v, SB d H H' → Dice H' d → v ∈ xs → Q v H'
section
variable {P : Program} {w : World} {K : PySem.W.Frag} {mg : Str → Option Value} {base : Heap}
theorem ok_pick (h : Has K mg "_law_pick" s__law_pick ["dice", "items"]) (R : Ok P w K mg base 1 "_law_roll" ["dice", "total"] spRoll) (z_len : mg "len" = none) : Ok P w K mg base 2 "_law_pick" ["dice", "items"] (spPick K) := by
  obtain ⟨f, fd, g, F, b⟩ := h
  obtain ⟨fR, fdR, g__law_roll, k__law_roll, b__law_roll, G__law_roll⟩ := R
  refine ⟨f, fd, g, F.kp, b, F.ok sc__law_pick (fun vs H Q E h => ?_) (fun cdv A outer s H vs Q E hr h => ?_)⟩
  · obtain ⟨d, l, xs, rfl, _⟩ := h
    rfl
  · obtain ⟨d, l, xs, rfl, h0, h1, hD, hS, q⟩ := h
    have hr__law_roll := hr
    refine ⟨_, (pss_one (ps_ret (pe_ix (Rw.k_ix (K := K)) (pv 1) (pe_call G__law_roll hr__law_roll (by rfl) g__law_roll k__law_roll b__law_roll .nil pass0 (pa_cons (pv 0) (pa_cons (pe_callB (Rw.k_len (K := K)) (by rfl) z_len Rw.bt_len (pa_cons (pv 1) pa_nil)) pa_nil))) (fun _ _ => rfl)))), ?_⟩
    walk_at "rd"
    refine ⟨l, xs, rfl, hS H (SB.refl _ _), ?_⟩
    refine ⟨d, (xs.length : Int), rfl, by omega, by omega, hD, fun H' r sb hD' r0 r1 => ?_⟩
    have hr' : r.toNat < xs.length := by omega
    have ha : atI xs r = some xs[r.toNat] := by
      have := atI_nat (xs := xs) (j := r.toNat) (List.getElem?_eq_getElem hr')
      rwa [Int.toNat_of_nonneg r0] at this
    have hq := q H' _ sb hD' (List.getElem_mem hr')
    rcases hS H' sb with hl | ht
    · exact .inl ⟨l, xs, _, _, rfl, rfl, hl, ha, hq⟩
    · exact .inr (.inl ⟨l, xs, _, _, rfl, rfl, ht, ha, hq⟩)
end

abbrev s__law_some : Stmt := topS 12
abbrev N__law_some : List Str := ["dice", "items", "size", "left", "turn"]
theorem sc__law_some : FnScope N__law_some ["dice", "items", "size"] (defScope s__law_some) := ⟨rfl, rfl, rfl, by decide +kernel, rfl, by decide +kernel, by decide +kernel⟩

/-- a new list of some of the items, each at most as often as it stands there -/
def spSome (K : PySem.W.Frag) : Sp := fun vs H Q _ => ∃ (d l : Addr) (xs : List V) (n : Int), vs = [.ref d, .ref l, .int n] ∧ 0 ≤ n ∧ n < 1000000 ∧ xs.length < 1000000 ∧ Dice H d ∧ (SqL K H l xs ∨ SqT K H l xs) ∧
  ∀ H' p ys zs, SB d H H' → Dice H' d → H p = none → p ≠ d → H' p = some (.lst ys) → (ys ++ zs).Perm xs → ys.length = min n.toNat xs.length → Q (.ref p) H'
section
variable {P : Program} {w : World} {K : PySem.W.Frag} {mg : Str → Option Value} {base : Heap}
theorem ok_some (h : Has K mg "_law_some" s__law_some ["dice", "items", "size"]) (R : Ok P w K mg base 1 "_law_roll" ["dice", "total"] spRoll) (z_len : mg "len" = none) (z_list : mg "list" = none) (z_range : mg "range" = none) (z_min : mg "min" = none) : Ok P w K mg base 2 "_law_some" ["dice", "items", "size"] (spSome K) := by
  obtain ⟨f, fd, g, F, b⟩ := h
  obtain ⟨fR, fdR, g__law_roll, k__law_roll, b__law_roll, G__law_roll⟩ := R
  refine ⟨f, fd, g, F.kp, b, F.ok sc__law_some (fun vs H Q E h => ?_) (fun cdv A outer s H vs Q E hr h => ?_)⟩
  · obtain ⟨d, l, xs, n, rfl, _⟩ := h
    rfl
  · obtain ⟨d, l, xs, n, rfl, n0, n1, hx, hD, hS, q⟩ := h
    have hr__law_roll := hr
    refine ⟨_, (pss_cons (ps_set (i := 3) sc__law_some.nd rfl (.inr rfl) (pe_callTy (Rw.k_listof (K := K)) (by rfl) z_list Rw.bt_list (pa_cons (pv 1) pa_nil)))
  (pss_one (ps_ret (pe_lc (own := [("turn", 4)]) rfl sc__law_some.nd (pi_range1 (by rfl) z_range (pa_cons (pe_callB (call_min2 rfl) (by rfl) z_min Rw.bt_min (pa_cons (pv 2) (pa_cons (pe_callB (Rw.k_len (K := K)) (by rfl) z_len Rw.bt_len (pa_cons (pv 3) pa_nil)) pa_nil))) pa_nil)) (blkOk_by (own := [("turn", 4)]) (N := N__law_some) (sc := defScope s__law_some) (by decide +kernel)) (fun _ _ _ _ _ => (pg_name (i := 4) sc__law_some.nd rfl (.inl rfl))) (fun _ _ _ _ _ => pts_nil) (fun _ _ _ _ _ => (Rw.k_bm (K := K) (pe_bm PySem.F.plainAttrs_list PySem.F.slot_list_pop PySem.F.type_list_pop mt_popAt (pv 3) (pa_cons (pe_call G__law_roll hr__law_roll (by rfl) g__law_roll k__law_roll b__law_roll .nil pass0 (pa_cons (pv 0) (pa_cons (pe_callB (Rw.k_len (K := K)) (by rfl) z_len Rw.bt_len (pa_cons (pv 3) pa_nil)) pa_nil))) pa_nil)))))))), ?_⟩
    walk_at "rd"
    refine ⟨l, xs, rfl, hS, fun L nL => ?_⟩
    have dL : d ≠ L := hD.ne nL
    have D1 : Dice (upd H L (.lst xs)) d := hD.new nL
    walk_at "rd"
    refine ⟨L, xs, rfl, .inl (SqL.of upd_same), ?_⟩
    refine ⟨_, _, rfl, ?_⟩
    have em : (if ((xs.length : Nat) : Int) < n then ((xs.length : Nat) : Int) else n).toNat = min n.toNat xs.length := by split <;> omega
    refine ⟨_, rfl, by split <;> omega, by split <;> omega, fun D nD => ?_⟩
    have LD : L ≠ D := ne_of_none (H := upd H L (.lst xs)) upd_same nD
    have dD : d ≠ D := D1.ne nD
    have nD0 : H D = none := by
      rw [upd_ne LD.symm] at nD
      exact nD
    refine lc_range (lo := 0) (n := _) (fun i H1 => ∃ ys zs, H1 D = some (.lst ys) ∧ H1 L = some (.lst zs) ∧ (ys ++ zs).Perm xs ∧ ys.length = i ∧ SB d H H1 ∧ Dice H1 d)
      ⟨[], xs, upd_same, by rw [upd_ne LD]; exact upd_same, List.Perm.refl _, rfl, (SB.new nL).trans (SB.new nD), D1.new nD⟩ (fun i H1 hi hp => ?_) (fun H1 hp => ?_)
    · obtain ⟨ys, zs, e1, e2, pm, ly, sb, hD1⟩ := hp
      refine ⟨rfl, ?_⟩
      have lz : ys.length + zs.length = xs.length := by
        have := pm.length_eq
        rwa [List.length_append] at this
      have hz : 0 < zs.length := by
        rw [em] at hi
        omega
      walk_at "rd"
      refine ⟨.inl ⟨rfl, _, SqL.of e2⟩, ?_⟩
      walk_at "rd"
      refine ⟨L, zs, rfl, .inl (SqL.of e2), ?_⟩
      refine ⟨d, (zs.length : Int), rfl, by omega, by omega, hD1, fun H2 r sb2 hD2 r0 r1 => ?_⟩
      have hr' : r.toNat < zs.length := by omega
      have e2' : H2 L = some (.lst zs) := sb2 _ _ dL.symm e2
      have e1' : H2 D = some (.lst ys) := sb2 _ _ dD.symm e1
      refine ⟨L, zs, r, r.toNat, zs[r.toNat], rfl, rfl, e2', by omega, by omega, seqIndex_of r0 (by omega), List.getElem?_eq_getElem hr', ?_⟩
      refine ⟨ys, by rw [upd_ne LD.symm]; exact e1', small1000000 (by omega), ys ++ [zs[r.toNat]], zs.eraseIdx r.toNat, upd_same, by rw [upd_ne LD]; exact upd_same, ?_, by simp [ly], ?_, ?_⟩
      · rw [List.append_assoc]
        exact ((List.Perm.refl ys).append (erase_perm hr')).trans pm
      · intro b o nb hb
        have h1 : b ≠ D := ne_of_none hb nD0
        have h2 : b ≠ L := ne_of_none hb nL
        rw [upd_ne h1, upd_ne h2]
        exact sb2 _ _ nb (sb _ _ nb hb)
      · obtain ⟨x, y, z, g1, g2, g3, e⟩ := hD2
        exact ⟨x, y, z, g1, g2, g3, by rw [upd_ne dD, upd_ne dL]; exact e⟩
    · obtain ⟨ys, zs, e1, e2, pm, ly, sb, hD1⟩ := hp
      exact q H1 D ys zs sb hD1 nD0 dD.symm e1 pm (ly.trans em)
end





/-- a value that isinstance(.., str) denies -/
def NotStr (K : PySem.W.Frag) (H : Hp) (v : V) : Prop := ∃ t, TyX K H v t ∧ PySem.W.kitOne K t (.type "str") = some false
def kws : List Str := ["ask", "call", "done", "handle", "hold", "rest", "step", "test", "then"]
def lowOk (z : Str) : Bool := z.cps.toList.all fun c => decide (97 ≤ c) && decide (c ≤ 122)
def isName (z : Str) : Bool := (decide (1 ≤ z.length) && decide (z.length ≤ 8)) && (!kws.contains z && lowOk z)
theorem isStr {K : PySem.W.Frag} : PySem.W.kitOne K (.type "str") (.type "str") = some true := kit_ty (by decide +kernel)
theorem inV_strs (z : Str) : ∀ ks : List Str, inV (.str z) (ks.map V.str) = ks.contains z
  | [] => rfl
  | k :: ks => by
    have ih := inV_strs z ks
    have e1 : inV (.str z) ((k :: ks).map V.str) = ((k == z) || inV (.str z) (ks.map V.str)) := rfl
    have e2 : ((k :: ks).contains z) = ((z == k) || ks.contains z) := rfl
    rw [e1, e2, ih, Bool.beq_comm]
theorem lt1 (a b : Nat) : decide ([a] < [b]) = decide (a < b) := by
  by_cases h : a < b
  · rw [decide_eq_true h]
    exact decide_eq_true (List.Lex.rel h)
  · rw [decide_eq_false h]
    refine decide_eq_false fun q => ?_
    cases q with
    | rel r => exact h r
    | cons r => cases r
theorem low_a (c : Nat) : (!decide ((⟨#[c]⟩ : Str).cps.toList < (Str.ofString "a").cps.toList)) = decide (97 ≤ c) := by
  show (!decide ([c] < [97])) = _
  rw [lt1]
  by_cases h : c < 97
  · rw [decide_eq_true h, decide_eq_false (by omega)]
    rfl
  · rw [decide_eq_false h, decide_eq_true (by omega)]
    rfl
theorem low_z (c : Nat) : (!decide ((Str.ofString "z").cps.toList < (⟨#[c]⟩ : Str).cps.toList)) = decide (c ≤ 122) := by
  show (!decide ([122] < [c])) = _
  rw [lt1]
  by_cases h : 122 < c
  · rw [decide_eq_true h, decide_eq_false (by omega)]
    rfl
  · rw [decide_eq_false h, decide_eq_true (by omega)]
    rfl
def lowC (c : Nat) : Bool := decide (97 ≤ c) && decide (c ≤ 122)
def bits (z : Str) : List Bool := z.cps.toList.map lowC
theorem flats (ks : List Str) : (ks.map V.str).all flatV = true := by
  rw [List.all_map, List.all_eq_true]
  intro x _
  rfl

theorem ascii_facts : ∀ c < 128, Unicode.isAlpha c = (lowC c || (decide (65 ≤ c) && decide (c ≤ 90))) ∧ Unicode.isUpper c = (decide (65 ≤ c) && decide (c ≤ 90)) ∧ Unicode.isTitle c = false ∧ Unicode.isLower c = lowC c := by decide +kernel
theorem name_methods {z : Str} (h : 1 ≤ z.length) : (Txt.isalpha z && Txt.islower z && Txt.isascii z) = z.cps.toList.all lowC := by
  unfold Txt.isalpha Txt.islower Txt.isascii
  have hl : (z.length > 0) = True := by simp; omega
  simp only [hl, decide_true, Bool.true_and]
  rw [← Array.all_toList, ← Array.any_toList, ← Array.any_toList, ← Array.all_toList]
  have hne : z.cps.toList ≠ [] := by
    intro e
    have : z.cps.toList.length = z.length := by simp [Str.length]
    rw [e] at this
    simp at this
    omega
  generalize z.cps.toList = l at hne
  by_cases ha : l.all (fun x => decide (x < 128)) = true
  · have ha' : ∀ c ∈ l, c < 128 := fun c hc => by simpa using List.all_eq_true.mp ha c hc
    rw [ha, Bool.and_true]
    by_cases hz : l.all lowC = true
    · rw [hz]
      have hz' := List.all_eq_true.mp hz
      have e1 : l.all Unicode.isAlpha = true := List.all_eq_true.mpr fun c hc => by rw [(ascii_facts c (ha' c hc)).1, hz' c hc]; rfl
      have e2 : l.any Unicode.isLower = true := by
        cases l with
        | nil => exact absurd rfl hne
        | cons c r => exact List.any_eq_true.mpr ⟨c, List.mem_cons_self, by rw [(ascii_facts c (ha' c List.mem_cons_self)).2.2.2]; exact hz' c List.mem_cons_self⟩
      have e3 : l.any (fun c => Unicode.isUpper c || Unicode.isTitle c) = false := List.any_eq_false.mpr fun c hc => by
        have f := ascii_facts c (ha' c hc)
        have g := hz' c hc
        unfold lowC at g
        simp only [Bool.and_eq_true, decide_eq_true_eq] at g
        rw [f.2.1, f.2.2.1]
        simp
        omega
      rw [e1, e2, e3]
      rfl
    · have hz1 : l.all lowC = false := by simpa using hz
      rw [hz1]
      obtain ⟨c, hc, n⟩ : ∃ c ∈ l, lowC c = false := by
        have := List.all_eq_false.mp hz1
        obtain ⟨c, hc, n⟩ := this
        exact ⟨c, hc, by simpa using n⟩
      have f := ascii_facts c (ha' c hc)
      by_cases hu : 65 ≤ c ∧ c ≤ 90
      · have e3 : l.any (fun c => Unicode.isUpper c || Unicode.isTitle c) = true := List.any_eq_true.mpr ⟨c, hc, by rw [f.2.1]; simp [hu]⟩
        rw [e3]
        simp
      · have e1 : l.all Unicode.isAlpha = false := List.all_eq_false.mpr ⟨c, hc, by rw [f.1, n]; simp; omega⟩
        rw [e1]
        rfl
  · have ha1 : l.all (fun x => decide (x < 128)) = false := by simpa using ha
    rw [ha1, Bool.and_false]
    symm
    refine List.all_eq_false.mpr ?_
    obtain ⟨c, hc, n⟩ := List.all_eq_false.mp ha1
    refine ⟨c, hc, ?_⟩
    unfold lowC
    simp at n ⊢
    omega
abbrev s_is_name : Stmt := topS 5
abbrev N_is_name : List Str := ["value"]
theorem sc_is_name : FnScope N_is_name ["value"] (defScope s_is_name) := ⟨rfl, rfl, rfl, by decide +kernel, rfl, by decide +kernel, by decide +kernel⟩

def spName (K : PySem.W.Frag) : Sp := fun vs H Q _ => ∃ v, vs = [v] ∧ ((∃ z, v = .str z ∧ z.length ≤ sizeLine ∧ ∀ H', Same H H' → Q (.bl (isName z)) H') ∨ (NotStr K H v ∧ ∀ H', Same H H' → Q (.bl false) H'))
section
variable {P : Program} {w : World} {K : PySem.W.Frag} {mg : Str → Option Value} {base : Heap}
theorem ok_name {aNO : Addr} {t8 : Tok} (h : Has K mg "is_name" s_is_name ["value"]) (g_MAX_LETTERS : mg "MAX_LETTERS" = some (.int 8 t8)) (g_NO_NAMES : mg "NO_NAMES" = some (.ref aNO)) (hk : HasKD K w aNO kws.contains) (z_len : mg "len" = none) (z_isinstance : mg "isinstance" = none) (z_str : mg "str" = none) : Ok P w K mg base 1 "is_name" ["value"] (spName K) := by
  obtain ⟨f, fd, g, F, b⟩ := h
  refine ⟨f, fd, g, F.kp, b, F.ok sc_is_name (fun vs H Q E h => ?_) (fun cdv A outer s H vs Q E hr h => ?_)⟩
  · obtain ⟨v, rfl, _⟩ := h
    rfl
  · obtain ⟨v, rfl, h⟩ := h
    refine ⟨_, (pss_cons (ps_if (PW.pt (pw_or (pt_not (pt_val (pe_callB (Rw.k_isi (K := K)) (by rfl) z_isinstance Rw.bt_isinstance (pa_cons (pv 0) (pa_cons (pe_bltn (v := .ty "str") (by rfl) z_str Rw.bt_str rfl) pa_nil))))) (pw_or1 (pt_not (pt_chain op_le op_le pe_int (pe_callB call_len_str (by rfl) z_len Rw.bt_len (pa_cons (pv 0) pa_nil)) (pe_glob (v := .int 8) rfl g_MAX_LETTERS ⟨_, rfl⟩)))))) (pss_one (ps_ret pe_bl)) pss_nil)
  (pss_one (ps_ret (pe_and (pe_m0 PySem.F.slot_str_isalpha PySem.F.type_str_isalpha mt_isalpha (pv 0)) (pe_and (pe_m0 PySem.F.slot_str_islower PySem.F.type_str_islower mt_islower (pv 0)) (pe_and (pe_m0 PySem.F.slot_str_isascii PySem.F.type_str_isascii mt_isascii (pv 0)) (pe_one (pe_cmpR (Rw.k_notinKD (K := K) (w := w)) (pv 0) (pe_glob (v := .ref aNO) rfl g_NO_NAMES rfl) rfl)))))))), ?_⟩
    rcases h with ⟨z, rfl, hz, q⟩ | ⟨⟨t, ty, ki⟩, q⟩
    · walk_at "rd"
      refine ⟨_, _, _, _, true, rfl, .ty _, .base (.str _), isStr, ?_⟩
      walk_at "rd"
      refine ite2 (fun c => ?_) (fun c => ?_)
      · have c1 := of_decide_eq_true c
        walk_at "rd"
        by_cases c2 : ((z.length : Nat) : Int) ≤ 8
        · rw [decide_eq_true c2]
          walk_at "rd"
          have h1 : 1 ≤ z.length := by omega
          have h2 : z.length ≤ 8 := by omega
          have em := name_methods h1
          have en : isName z = (!kws.contains z && z.cps.toList.all lowC) := by
            unfold isName
            rw [decide_eq_true h1, decide_eq_true h2]
            rfl
          have q := q H (Same.refl H)
          rw [en, ← em] at q
          obtain ⟨⟨es, n, D⟩, hz'⟩ := hk
          obtain ⟨r, er, er2⟩ := hz' z
          cases ea : Txt.isalpha z with
          | false =>
            rw [ea] at q
            rw [if_neg (by decide)]
            simpa using q
          | true =>
            rw [ea] at q
            rw [if_pos rfl]
            walk_at "rd"
            cases eb : Txt.islower z with
            | false =>
              rw [eb] at q
              walk_at "rd"
              simpa using q
            | true =>
              rw [eb] at q
              walk_at "rd"
              cases ec : Txt.isascii z with
              | false =>
                rw [ec] at q
                walk_at "rd"
                simpa using q
              | true =>
                rw [ec] at q
                walk_at "rd"
                refine ⟨z, aNO, es, n, r, rfl, rfl, D, er, ?_⟩
                rw [er2]
                simpa using q
        · have e : isName z = false := by
            have : ¬ (z.length ≤ 8) := fun q => c2 (by omega)
            unfold isName
            rw [decide_eq_false this, Bool.and_false]
            rfl
          have := q H (Same.refl H)
          rw [e] at this
          rw [decide_eq_false c2]
          walk_at "rd"
          exact this
      · have e : isName z = false := by
          have : ¬ (1 ≤ z.length) := fun q => c (decide_eq_true (by omega))
          unfold isName
          rw [decide_eq_false this]
          rfl
        have := q H (Same.refl H)
        rw [e] at this
        walk_at "rd"
        exact this
    · walk_at "rd"
      refine ⟨_, _, _, _, false, rfl, .ty _, ty, ki, ?_⟩
      walk_at "rd"
      exact q H (Same.refl H)
end

abbrev s_is_integer : Stmt := topS 4
abbrev N_is_integer : List Str := ["value"]
theorem sc_is_integer : FnScope N_is_integer ["value"] (defScope s_is_integer) := ⟨rfl, rfl, rfl, by decide +kernel, rfl, by decide +kernel, by decide +kernel⟩

/-- what is_integer is to say of a value -/
def IntV (K : PySem.W.Frag) (H : Hp) (v : V) (b : Bool) : Prop := (∃ n : Int, v = .int n ∧ b = (decide (-(10 ^ 60) < n) && decide (n < 10 ^ 60))) ∨ (b = false ∧ ((∃ k, v = .bl k) ∨ Isi K "int" H v false))
def spInteger (K : PySem.W.Frag) : Sp := fun vs H Q _ => ∃ v b, vs = [v] ∧ IntV K H v b ∧ Q (.bl b) H
section
variable {P : Program} {w : World} {K : PySem.W.Frag} {mg : Str → Option Value} {base : Heap}
theorem ok_integer (h : Has K mg "is_integer" s_is_integer ["value"]) (z_isinstance : mg "isinstance" = none) (z_int : mg "int" = none) (z_bool : mg "bool" = none) : Ok P w K mg base 1 "is_integer" ["value"] (spInteger K) := by
  obtain ⟨f, fd, g, F, b⟩ := h
  refine ⟨f, fd, g, F.kp, b, F.ok sc_is_integer (fun vs H Q E h => ?_) (fun cdv A outer s H vs Q E hr h => ?_)⟩
  · obtain ⟨v, b, rfl, _⟩ := h
    rfl
  · obtain ⟨v, b, rfl, h, q⟩ := h
    refine ⟨_, (pss_cons (ps_if (PW.pt (pw_or (pt_not (pt_val (pe_callB (Rw.k_isi (K := K)) (by rfl) z_isinstance Rw.bt_isinstance (pa_cons (pv 0) (pa_cons (pe_bltn (v := .ty "int") (by rfl) z_int Rw.bt_int rfl) pa_nil))))) (pw_or1 (pt_val (pe_callB (Rw.k_isi (K := K)) (by rfl) z_isinstance Rw.bt_isinstance (pa_cons (pv 0) (pa_cons (pe_bltn (v := .ty "bool") (by rfl) z_bool Rw.bt_bool rfl) pa_nil))))))) (pss_one (ps_ret pe_bl)) pss_nil)
  (pss_one (ps_ret (pe_chain op_lt op_lt (pe_un un_neg (pe_op op_pow pe_int pe_int)) (pv 0) (pe_op op_pow pe_int pe_int))))), ?_⟩
    rcases h with ⟨n, rfl, rfl⟩ | ⟨rfl, ⟨k, rfl⟩ | ⟨t, ty, ki⟩⟩
    · walk_at "rd"
      refine ⟨_, _, _, _, true, rfl, .ty _, .base (.int _), kit_ty (by decide +kernel), ?_⟩
      walk_at "rd"
      refine ⟨_, _, _, _, false, rfl, .ty _, .base (.int _), kit_ty (by decide +kernel), ?_⟩
      walk_at "rd"
      by_cases c : -(10 ^ (60 : Int).toNat) < n
      · rw [decide_eq_true c]
        walk_at "rd"
        rw [decide_eq_true (show -(10 ^ 60) < n from c), Bool.true_and] at q
        exact q
      · rw [decide_eq_false c]
        walk_at "rd"
        rw [decide_eq_false (show ¬ -(10 ^ 60) < n from c), Bool.false_and] at q
        exact q
    · walk_at "rd"
      refine ⟨_, _, _, _, true, rfl, .ty _, .base (.bl _), kit_ty (by decide +kernel), ?_⟩
      walk_at "rd"
      refine ⟨_, _, _, _, true, rfl, .ty _, .base (.bl _), kit_ty (by decide +kernel), ?_⟩
      walk_at "rd"
      exact q
    · walk_at "rd"
      refine ⟨_, _, _, _, false, rfl, .ty _, ty, ki, ?_⟩
      walk_at "rd"
      exact q
end




abbrev s_is_ascending : Stmt := topS 6
abbrev N_is_ascending : List Str := ["items", "item", "later"]
theorem sc_is_ascending : FnScope N_is_ascending ["items"] (defScope s_is_ascending) := ⟨rfl, rfl, rfl, by decide +kernel, rfl, by decide +kernel, by decide +kernel⟩

def spAsc (K : PySem.W.Frag) : Sp := fun vs H Q _ => ∃ a zs, vs = [.ref a] ∧ SqT K H a (zs.map V.str) ∧ zs.length ≤ 1000 ∧ ∀ H', Same H H' → Q (.bl (asc zs)) H'
/-- which neighbours ascend -/
def steps (zs : List Str) : List Bool := (zs.zip (zs.drop 1)).map fun p => decide (slt p.1 p.2)
theorem steps_len (zs : List Str) : (steps zs).length = min zs.length (zs.drop 1).length := by
  unfold steps
  rw [List.length_map, List.length_zip]
theorem steps_all : ∀ zs : List Str, (steps zs).all id = asc zs
  | [] => rfl
  | [_] => rfl
  | x :: y :: r => by
    have ih := steps_all (y :: r)
    have e : steps (x :: y :: r) = decide (slt x y) :: steps (y :: r) := rfl
    rw [e, List.all_cons, ih]
    rfl
theorem steps_at {zs : List Str} {i : Nat} {x y : Str} (h1 : zs[i]? = some x) (h2 : (zs.drop 1)[i]? = some y) : (steps zs)[i]? = some (decide (slt x y)) := by
  unfold steps
  rw [List.getElem?_map, (List.getElem?_zip_eq_some (z := (x, y))).mpr ⟨h1, h2⟩]
  rfl
section
variable {P : Program} {w : World} {K : PySem.W.Frag} {mg : Str → Option Value} {base : Heap}
theorem ok_ascending (h : Has K mg "is_ascending" s_is_ascending ["items"]) (z_all : mg "all" = none) (z_zip : mg "zip" = none) : Ok P w K mg base 1 "is_ascending" ["items"] (spAsc K) := by
  obtain ⟨f, fd, g, F, b⟩ := h
  refine ⟨f, fd, g, F.kp, b, F.ok sc_is_ascending (fun vs H Q E h => ?_) (fun cdv A outer s H vs Q E hr h => ?_)⟩
  · obtain ⟨a, zs, rfl, _⟩ := h
    rfl
  · obtain ⟨a, zs, rfl, hS, hl, q⟩ := h
    refine ⟨_, (pss_one (ps_ret (pe_callB (Rw.k_all (K := K)) (by rfl) z_all Rw.bt_all (pa_cons (pe_lc (own := [("item", 1), ("later", 2)]) rfl sc_is_ascending.nd (Rw.k_zipA (K := K) (RZ.pi_zipA (by rfl) z_zip (pa_cons (pv 0) (pa_cons (pe_slice (Rw.k_slA (K := K)) (pv 0) (po_some pe_int) po_none) pa_nil)))) (blkOk_by (own := [("item", 1), ("later", 2)]) (N := N_is_ascending) (sc := defScope s_is_ascending) (by decide +kernel)) (fun _ _ _ _ _ => (Rw.k_gtup (K := K) (pg_tup (n := 2) rfl (pgs_cons (pg_name (i := 1) sc_is_ascending.nd rfl (.inl rfl)) (pgs_cons (pg_name (i := 2) sc_is_ascending.nd rfl (.inl rfl)) pgs_nil))))) (fun _ _ _ _ _ => pts_nil) (fun _ _ _ _ _ => (pe_cmpR op_lt_str (pv 1) (pv 2) (nomark _)))) pa_nil)))), ?_⟩
    walk_at "rd"
    simp only [tNoPart]
    refine sl_any (lo := some 1) (hi := none) hS fun r H1 s1 t1 => ?_
    rw [cutV_tail, ← List.map_drop] at t1
    walk_at "rd"
    refine ⟨a, r, _, _, rfl, .inr ⟨seqT_same s1 hS, t1, fun D nD => ?_⟩⟩
    refine lc_it (walk_zipT (xs := zs.map V.str) (ys := (zs.drop 1).map V.str) rfl) (PvA H1 D fun i => ((steps zs).map V.bl).take i) (PvA.start nD rfl) (fun i H2 _ p => ⟨seqT_same (s1.trans p.1) hS, seqT_same p.1 t1⟩) (fun i v H2 H3 hi p hy => ?_) (fun H2 p => ?_)
    · obtain ⟨T, x, y, rfl, nT, rfl, hx, hy⟩ := hy
      obtain ⟨zx, hzx, rfl⟩ := map_at hx
      obtain ⟨zy, hzy, rfl⟩ := map_at hy
      have hb := at_map V.bl (steps_at hzx hzy)
      have s3 := Same.new (o := HO.tup [.str zx, .str zy]) nT
      refine ⟨T, [.str zx, .str zy], rfl, SqT.of upd_same, rfl, _, _, rfl, _, _, rfl, rfl, ?_⟩
      refine ⟨rfl, ?_⟩
      walk_at "rd"
      refine PvA.put nD (p.1.trans s3) (s3 _ _ p.2) (take_lt (List.getElem?_eq_some_iff.mp hb).1 ?_) (take_put hb)
      rw [List.length_map, steps_len]
      exact Nat.le_of_lt (small1000 (by omega))
    · have e2 : H2 D = some (.lst ((steps zs).map V.bl)) := by
        have h4 : H2 D = some (.lst (((steps zs).map V.bl).take (min (zs.map V.str).length ((zs.drop 1).map V.str).length))) := p.2
        rwa [List.take_of_length_le (by rw [List.length_map, steps_len, List.length_map, List.length_map]; exact Nat.le_refl _)] at h4
      walk_at "rd"
      refine ⟨D, steps zs, rfl, SqL.of e2, ?_⟩
      rw [steps_all]
      exact q H2 (s1.trans p.1)
end




abbrev s_is_labels : Stmt := topS 7
abbrev N_is_labels : List Str := ["value", "label"]
theorem sc_is_labels : FnScope N_is_labels ["value"] (defScope s_is_labels) := ⟨rfl, rfl, rfl, by decide +kernel, rfl, by decide +kernel, by decide +kernel⟩

def nm : V → Bool
  | .str z => isName z
  | _ => false
def sv : V → Str
  | .str z => z
  | _ => Str.empty
def labels (xs : List V) : Bool := decide (xs.length ≤ 3) && (xs.all nm && asc (xs.map sv))
theorem nm_strs : ∀ {xs : List V}, xs.all nm = true → xs = (xs.map sv).map V.str
  | [], _ => rfl
  | x :: xs, h => by
    rw [List.all_cons, Bool.and_eq_true] at h
    have ih := nm_strs h.2
    cases x with
    | str z =>
      show V.str z :: xs = V.str z :: (xs.map sv).map V.str
      rw [← ih]
    | _ => exact absurd h.1 Bool.false_ne_true
theorem notStr_nm {K : PySem.W.Frag} {H : Hp} {x : V} (h : NotStr K H x) : nm x = false := by
  cases x with
  | str z =>
    obtain ⟨t, ty, e⟩ := h
    cases ty with
    | base b =>
      cases b
      rw [isStr] at e
      exact absurd e (by decide)
  | _ => rfl
theorem NotStr.same {K : PySem.W.Frag} {H H' : Hp} {v : V} (s : Same H H') (h : NotStr K H v) : NotStr K H' v := by
  obtain ⟨t, ty, e⟩ := h
  exact ⟨t, tyx_same s ty, e⟩
def Lab (K : PySem.W.Frag) (H : Hp) (x : V) : Prop := (∃ z, x = .str z ∧ z.length ≤ sizeLine) ∨ NotStr K H x
def spLabels (K : PySem.W.Frag) : Sp := fun vs H Q _ => ∃ v, vs = [v] ∧ ((∃ a xs, v = .ref a ∧ SqT K H a xs ∧ xs.length ≤ 1000 ∧ (∀ x ∈ xs, Lab K H x) ∧ ∀ H', Same H H' → Q (.bl (labels xs)) H') ∨ (Isi K "tuple" H v false ∧ ∀ H', Same H H' → Q (.bl false) H'))
section
variable {P : Program} {w : World} {K : PySem.W.Frag} {mg : Str → Option Value} {base : Heap}
theorem ok_labels {t3 : Tok} (h : Has K mg "is_labels" s_is_labels ["value"]) (RN : Ok P w K mg base 1 "is_name" ["value"] (spName K)) (RA : Ok P w K mg base 1 "is_ascending" ["items"] (spAsc K)) (g_MAX_LABELS : mg "MAX_LABELS" = some (.int 3 t3))
    (z_len : mg "len" = none) (z_isinstance : mg "isinstance" = none) (z_tuple : mg "tuple" = none) (z_all : mg "all" = none) : Ok P w K mg base 2 "is_labels" ["value"] (spLabels K) := by
  obtain ⟨f, fd, g, F, b⟩ := h
  obtain ⟨fN, fdN, g_is_name, k_is_name, b_is_name, G_is_name⟩ := RN
  obtain ⟨fA, fdA, g_is_ascending, k_is_ascending, b_is_ascending, G_is_ascending⟩ := RA
  refine ⟨f, fd, g, F.kp, b, F.ok sc_is_labels (fun vs H Q E h => ?_) (fun cdv A outer s H vs Q E hr h => ?_)⟩
  · obtain ⟨v, rfl, _⟩ := h
    rfl
  · obtain ⟨v, rfl, h⟩ := h
    have hr_is_name := hr
    have hr_is_ascending := hr
    refine ⟨_, (pss_cons (ps_if (PW.pt (pw_or (pt_not (pt_val (pe_callB (Rw.k_isi (K := K)) (by rfl) z_isinstance Rw.bt_isinstance (pa_cons (pv 0) (pa_cons (pe_bltn (v := .ty "tuple") (by rfl) z_tuple Rw.bt_tuple rfl) pa_nil))))) (pw_or1 (pt_cmpR op_gt (pe_callB (Rw.k_len (K := K)) (by rfl) z_len Rw.bt_len (pa_cons (pv 0) pa_nil)) (pe_glob (v := .int 3) rfl g_MAX_LABELS ⟨_, rfl⟩) (nomark _))))) (pss_one (ps_ret pe_bl)) pss_nil)
  (pss_one (ps_ret (pe_and (pe_callB (Rw.k_all (K := K)) (by rfl) z_all Rw.bt_all (pa_cons (pe_lc (own := [("label", 1)]) rfl sc_is_labels.nd (Rw.k_pt (K := K) (pv 0)) (blkOk_by (own := [("label", 1)]) (N := N_is_labels) (sc := defScope s_is_labels) (by decide +kernel)) (fun _ _ _ _ _ => (pg_name (i := 1) sc_is_labels.nd rfl (.inl rfl))) (fun _ _ _ _ _ => pts_nil) (fun _ _ _ _ _ => (pe_call G_is_name hr_is_name (by rfl) g_is_name k_is_name b_is_name .nil pass0 (pa_cons (pv 1) pa_nil)))) pa_nil)) (pe_one (pe_call G_is_ascending hr_is_ascending (by rfl) g_is_ascending k_is_ascending b_is_ascending .nil pass0 (pa_cons (pv 0) pa_nil))))))), ?_⟩
    rcases h with ⟨a, xs, rfl, hS, hl, hx, q⟩ | ⟨⟨t, ty, ki⟩, q⟩
    · walk_at "rd"
      refine ⟨_, _, _, _, true, rfl, .ty _, tyTup hS, kit_ty (by decide +kernel), ?_⟩
      walk_at "rd"
      refine ⟨a, xs, rfl, .inr hS, ?_⟩
      walk_at "rd"
      by_cases c : (3 : Int) < ((xs.length : Nat) : Int)
      · rw [decide_eq_true c]
        have e : labels xs = false := by
          unfold labels
          rw [decide_eq_false (show ¬ xs.length ≤ 3 by omega)]
          rfl
        rw [e] at q
        walk_at "rd"
        exact q H (Same.refl H)
      · rw [decide_eq_false c]
        have e : labels xs = (xs.all nm && asc (xs.map sv)) := by
          unfold labels
          rw [decide_eq_true (show xs.length ≤ 3 by omega)]
          rfl
        rw [e] at q
        walk_at "rd"
        refine ⟨⟨_, hS⟩, fun D nD => ?_⟩
        refine lc_tup (K := K) (a := a) (xs := xs) (PvA H D fun i => ((xs.map nm).map V.bl).take i) (PvA.start nD rfl) (fun i H2 _ p => seqT_same p.1 hS) (fun i x H2 hxi p => ?_) (fun H2 p => ?_)
        · have hb := at_map V.bl (at_map nm hxi)
          have hz := take_lt (List.getElem?_eq_some_iff.mp hb).1 (by rw [List.length_map, List.length_map]; exact Nat.le_of_lt (small1000 hl))
          refine ⟨rfl, ?_⟩
          walk_at "rd"
          rcases hx x (List.mem_of_getElem? hxi) with ⟨z, rfl, zl⟩ | hn
          · exact .inl ⟨z, rfl, zl, fun H5 s5 => PvA.put nD (p.1.trans s5) (s5 _ _ p.2) hz (take_put hb)⟩
          · rw [notStr_nm hn] at hb
            exact .inr ⟨hn.same p.1, fun H5 s5 => PvA.put nD (p.1.trans s5) (s5 _ _ p.2) hz (take_put hb)⟩
        · have e2 : H2 D = some (.lst ((xs.map nm).map V.bl)) := by
            have h4 : H2 D = some (.lst (((xs.map nm).map V.bl).take xs.length)) := p.2
            rwa [List.take_of_length_le (by rw [List.length_map, List.length_map]; exact Nat.le_refl _)] at h4
          walk_at "rd"
          refine ⟨D, xs.map nm, rfl, SqL.of e2, ?_⟩
          have e3 : (xs.map nm).all id = xs.all nm := by
            rw [List.all_map]
            rfl
          rw [e3]
          cases ea : xs.all nm with
          | false =>
            rw [ea, Bool.false_and] at q
            walk_at "rd"
            exact q H2 p.1
          | true =>
            rw [ea, Bool.true_and] at q
            walk_at "rd"
            have hS2 := seqT_same p.1 hS
            rw [nm_strs ea] at hS2
            exact ⟨a, xs.map sv, rfl, hS2, by rw [List.length_map]; exact hl, fun H3 s3 => q H3 (p.1.trans s3)⟩
    · walk_at "rd"
      refine ⟨_, _, _, _, false, rfl, .ty _, ty, ki, ?_⟩
      walk_at "rd"
      exact q H (Same.refl H)
end




abbrev s__law_are_labels : Stmt := topS 13
abbrev N__law_are_labels : List Str := ["value", "one"]
theorem sc__law_are_labels : FnScope N__law_are_labels ["value"] (defScope s__law_are_labels) := ⟨rfl, rfl, rfl, by decide +kernel, rfl, by decide +kernel, by decide +kernel⟩

mutual
theorem dp_same {K : PySem.W.Frag} {H H' : Hp} (s : Same H H') : ∀ (d : PyData) (v : V), Dp K H v d → Dp K H' v d
  | .none, _, h => by cases h; exact .non
  | .bool b, _, h => by cases h; exact .bl b
  | .int i, _, h => by cases h; exact .int i
  | .str x, _, h => by cases h; exact .str x
  | .list ds, _, h => by
    cases h with
    | lst hq hs => exact .lst (s.seq hq) (dpAll_same s ds _ hs)
  | .tuple ds, _, h => by
    cases h with
    | tup hq hs => exact .tup (seqT_same s hq) (dpAll_same s ds _ hs)
  | .dict _, _, h => by cases h
theorem dpAll_same {K : PySem.W.Frag} {H H' : Hp} (s : Same H H') : ∀ (ds : List PyData) (vs : List V), DpAll K H vs ds → DpAll K H' vs ds
  | [], _, h => by cases h; exact .nil
  | d :: ds, _, h => by
    cases h with
    | cons h1 h2 => exact .cons (dp_same s d _ h1) (dpAll_same s ds _ h2)
end
/-- data of a value, small -/
def Dat (K : PySem.W.Frag) (H : Hp) (x : V) : Prop := ∃ d, Dp K H x d ∧ d.canLay0 = true ∧ d.depth ≤ 5
theorem Dat.same {K : PySem.W.Frag} {H H' : Hp} {x : V} (s : Same H H') (h : Dat K H x) : Dat K H' x := by
  obtain ⟨d, h1, h2⟩ := h
  exact ⟨d, dp_same s d x h1, h2⟩
theorem dat_all {K : PySem.W.Frag} {H : Hp} : ∀ ys : List V, (∀ y ∈ ys, Dat K H y) → ∃ ds, DpAll K H ys ds ∧ PyData.canLayAll0 ds = true ∧ PyData.depthAll ds ≤ 5 ∧ ds.isEmpty = ys.isEmpty
  | [], _ => ⟨[], .nil, by simp [PyData.canLayAll0], by simp [PyData.depthAll], rfl⟩
  | y :: ys, h => by
    obtain ⟨d, h1, h2, h3⟩ := h y List.mem_cons_self
    obtain ⟨ds, k1, k2, k3, _⟩ := dat_all ys fun z hz => h z (List.mem_cons_of_mem _ hz)
    refine ⟨d :: ds, .cons h1 k1, ?_, ?_, rfl⟩
    · simp only [PyData.canLayAll0, h2, k2, Bool.and_self]
    · simp only [PyData.depthAll]
      omega
def menu : List Str := ["a", "b", "get", "or", "put", "to", "z"]
def zz : List Str := ["a", "b", "get", "or", "put", "to", "z", "ask", "", "A", "abcdefghi"]
theorem zz_ok : ∀ z ∈ zz, okS z ∧ z.length ≤ 10 ∧ isName z = menu.contains z := by
  have h : zz.all (fun s => s.cps.toList.all (fun c => decide (c < 0x110000)) && (decide (s.length ≤ 10) && (isName s == menu.contains s))) = true := by decide +kernel
  intro s hs
  have h1 := List.all_eq_true.mp h s hs
  rw [Bool.and_eq_true, Bool.and_eq_true, decide_eq_true_eq, List.all_eq_true, beq_iff_eq] at h1
  exact ⟨fun c hc => of_decide_eq_true (h1.1 c hc), h1.2⟩
theorem menu_sub {z : Str} (h : z ∈ menu) : z ∈ zz := by
  have e : zz = menu ++ (["ask", "", "A", "abcdefghi"] : List Str) := rfl
  rw [e]
  exact List.mem_append_left _ h
def inMenu : V → Bool
  | .str z => menu.contains z
  | _ => false
def It (K : PySem.W.Frag) (H : Hp) (x : V) : Prop := (∃ z, x = .str z ∧ z ∈ zz) ∨ (NotStr K H x ∧ Dat K H x)
theorem It.same {K : PySem.W.Frag} {H H' : Hp} {x : V} (s : Same H H') (h : It K H x) : It K H' x := by
  rcases h with h | ⟨h1, h2⟩
  · exact .inl h
  · exact .inr ⟨h1.same s, h2.same s⟩
theorem It.dat {K : PySem.W.Frag} {H : Hp} {x : V} (h : It K H x) : Dat K H x := by
  rcases h with ⟨z, rfl, hz⟩ | ⟨_, h2⟩
  · exact ⟨.str z, .str z, (zz_ok z hz).1.can, by simp [PyData.depth]⟩
  · exact h2
theorem It.lab {K : PySem.W.Frag} {H : Hp} {x : V} (h : It K H x) : Lab K H x := by
  rcases h with ⟨z, rfl, hz⟩ | ⟨h1, _⟩
  · exact .inl ⟨z, rfl, Nat.le_of_lt (small1000 (by have := (zz_ok z hz).2.1; omega))⟩
  · exact .inr h1
theorem It.eq {K : PySem.W.Frag} {H : Hp} {x : V} (h : It K H x) : nm x = inMenu x := by
  rcases h with ⟨z, rfl, hz⟩ | ⟨h1, _⟩
  · exact (zz_ok z hz).2.2
  · rw [notStr_nm h1]
    cases x with
    | str z =>
      obtain ⟨t, ty, e⟩ := h1
      cases ty with
      | base b =>
        cases b
        rw [isStr] at e
        exact absurd e (by decide)
    | _ => rfl
theorem menu_strs : ∀ {xs : List V}, xs.all inMenu = true → xs = (xs.map sv).map V.str ∧ ∀ z ∈ xs.map sv, z ∈ menu
  | [], _ => ⟨rfl, fun z hz => by simp at hz⟩
  | x :: xs, h => by
    rw [List.all_cons, Bool.and_eq_true] at h
    obtain ⟨i1, i2⟩ := menu_strs h.2
    cases x with
    | str z =>
      refine ⟨?_, fun y hy => ?_⟩
      · show V.str z :: xs = V.str z :: (xs.map sv).map V.str
        rw [← i1]
      · rcases List.mem_cons.mp (show y ∈ z :: xs.map sv from hy) with rfl | hy
        · exact List.contains_iff_mem.mp h.1
        · exact i2 y hy
    | _ => exact absurd h.1 Bool.false_ne_true
def labels2 (xs : List V) : Bool := decide (xs.length ≤ 3) && (xs.all inMenu && asc (xs.map sv))
theorem filter_none (p : V → Bool) : ∀ xs : List V, (xs.filter fun x => !p x).isEmpty = xs.all p
  | [] => rfl
  | x :: xs => by
    have ih := filter_none p xs
    rw [List.filter_cons, List.all_cons, ← ih]
    cases p x <;> rfl
def spAre (K : PySem.W.Frag) : Sp := fun vs H Q _ => ∃ v, vs = [v] ∧ ((∃ a xs, v = .ref a ∧ SqT K H a xs ∧ xs.length ≤ 1000 ∧ (∀ x ∈ xs, It K H x) ∧ ∀ H', Same H H' → Q (.bl (labels2 xs)) H') ∨ (Isi K "tuple" H v false ∧ ∀ H', Same H H' → Q (.bl false) H'))
theorem sorted_is {zs ys : List Str} (h1 : PyProof.Rows.sortedS ys = true) (h2 : ys.Nodup) (h3 : ∀ x, x ∈ ys ↔ x ∈ zs) : decide (zs = ys) = asc zs := by
  have hp := sortedS_pair h1 h2
  cases e : asc zs with
  | true => exact decide_eq_true (asc_unique (asc_pair e) hp fun x => (h3 x).symm)
  | false =>
    refine decide_eq_false fun q => ?_
    rw [q, pair_asc hp] at e
    cases e
section
variable {P : Program} {w : World} {K : PySem.W.Frag} {mg : Str → Option Value} {base : Heap}
theorem ok_are (h : Has K mg "_law_are_labels" s__law_are_labels ["value"]) (z_len : mg "len" = none) (z_isinstance : mg "isinstance" = none) (z_tuple : mg "tuple" = none) (z_str : mg "str" = none) (z_list : mg "list" = none) (z_set : mg "set" = none) (z_sorted : mg "sorted" = none) : Ok P w K mg base 1 "_law_are_labels" ["value"] (spAre K) := by
  obtain ⟨f, fd, g, F, b⟩ := h
  refine ⟨f, fd, g, F.kp, b, F.ok sc__law_are_labels (fun vs H Q E h => ?_) (fun cdv A outer s H vs Q E hr h => ?_)⟩
  · obtain ⟨v, rfl, _⟩ := h
    rfl
  · obtain ⟨v, rfl, h⟩ := h
    refine ⟨_, (pss_cons (ps_if (PW.pt (pw_or (pt_not (pt_val (pe_callB (Rw.k_isi (K := K)) (by rfl) z_isinstance Rw.bt_isinstance (pa_cons (pv 0) (pa_cons (pe_bltn (v := .ty "tuple") (by rfl) z_tuple Rw.bt_tuple rfl) pa_nil))))) (pw_or1 (pt_cmpR op_gt (pe_callB (Rw.k_len (K := K)) (by rfl) z_len Rw.bt_len (pa_cons (pv 0) pa_nil)) pe_int (nomark _))))) (pss_one (ps_ret pe_bl)) pss_nil)
  (pss_cons (ps_if (pt_cmpR (Rw.k_neD (K := K) hr.units) (pe_lc (own := [("one", 1)]) rfl sc__law_are_labels.nd (Rw.k_pt (K := K) (pv 0)) (blkOk_by (own := [("one", 1)]) (N := N__law_are_labels) (sc := defScope s__law_are_labels) (by decide +kernel)) (fun _ _ _ _ _ => (pg_name (i := 1) sc__law_are_labels.nd rfl (.inl rfl))) (fun _ _ _ _ _ => (pts_one (PW.pt (pw_or (pt_not (pt_val (pe_callB (Rw.k_isi (K := K)) (by rfl) z_isinstance Rw.bt_isinstance (pa_cons (pv 1) (pa_cons (pe_bltn (v := .ty "str") (by rfl) z_str Rw.bt_str rfl) pa_nil))))) (pw_or1 (pt_cmpR (Rw.k_notIn (K := K)) (pv 1) (pe_lst (pa_cons pe_str (pa_cons pe_str (pa_cons pe_str (pa_cons pe_str (pa_cons pe_str (pa_cons pe_str (pa_cons pe_str pa_nil)))))))) rfl)))))) (fun _ _ _ _ _ => (pv 1))) (pe_lst pa_nil) (nomark _)) (pss_one (ps_ret pe_bl)) pss_nil)
  (pss_one (ps_ret (pe_cmpR (Rw.k_eqD (K := K) hr.units) (pe_callTy (Rw.k_listof (K := K)) (by rfl) z_list Rw.bt_list (pa_cons (pv 0) pa_nil)) (pe_callB (Rw.k_sortedSet (w := w)) (by rfl) z_sorted Rw.bt_sorted (pa_cons (pe_callTy (Rw.k_setS (K := K) (w := w)) (by rfl) z_set Rw.bt_set (pa_cons (pv 0) pa_nil)) pa_nil)) (nomark _)))))), ?_⟩
    rcases h with ⟨a, xs, rfl, hS, hl, hx, q⟩ | ⟨⟨t, ty, ki⟩, q⟩
    · walk_at "rd"
      refine ⟨_, _, _, _, true, rfl, .ty _, tyTup hS, kit_ty (by decide +kernel), ?_⟩
      walk_at "rd"
      refine ⟨a, xs, rfl, .inr hS, ?_⟩
      walk_at "rd"
      by_cases c : (3 : Int) < ((xs.length : Nat) : Int)
      · rw [decide_eq_true c]
        have e : labels2 xs = false := by
          unfold labels2
          rw [decide_eq_false (show ¬ xs.length ≤ 3 by omega)]
          rfl
        rw [e] at q
        walk_at "rd"
        exact q H (Same.refl H)
      · rw [decide_eq_false c]
        have e : labels2 xs = (xs.all inMenu && asc (xs.map sv)) := by
          unfold labels2
          rw [decide_eq_true (show xs.length ≤ 3 by omega)]
          rfl
        rw [e] at q
        walk_at "rd"
        refine ⟨⟨_, hS⟩, fun D nD => ?_⟩
        refine lc_tup (K := K) (a := a) (xs := xs) (PvA H D fun i => (xs.take i).filter fun x => !inMenu x) (PvA.start nD rfl) (fun i H2 _ p => seqT_same p.1 hS) (fun i x H2 hxi p => ?_) (fun H2 p => ?_)
        · have hput := filter_put (fun x => !inMenu x) hxi
          have hz : ((xs.take i).filter fun x => !inMenu x).length < sizeLine := by
            refine Nat.lt_of_le_of_lt (List.length_filter_le _ _) (small1000 ?_)
            rw [List.length_take]
            omega
          refine ⟨rfl, ?_⟩
          walk_at "rd"
          rcases hx x (List.mem_of_getElem? hxi) with ⟨z, rfl, hzz⟩ | ⟨⟨t, ty, ki⟩, hd⟩
          · refine ⟨_, _, _, _, true, rfl, .ty _, .base (.str _), isStr, ?_⟩
            walk_at "rd"
            intro p1 n1
            have s1 := Same.new (o := HO.lst (menu.map V.str)) n1
            refine ⟨p1, menu.map V.str, rfl, .inl (SqL.of upd_same), rfl, flats _, ?_⟩
            rw [inV_strs]
            have ei : inMenu (.str z) = menu.contains z := rfl
            rw [ei] at hput
            cases em : menu.contains z with
            | true =>
              rw [em] at hput
              walk_at "rd"
              exact PvA.skip (acc := fun i => (xs.take i).filter fun x => !inMenu x) ⟨fun b o hb => s1 _ _ (p.1 b o hb), s1 _ _ p.2⟩ (by show _ = _; rw [hput]; simp)
            | false =>
              rw [em] at hput
              walk_at "rd"
              exact PvA.put nD (p.1.trans s1) (s1 _ _ p.2) hz hput
          · refine ⟨_, _, _, _, false, rfl, .ty _, tyx_same p.1 ty, ki, ?_⟩
            have ei : inMenu x = false := by
              rw [← It.eq (K := K) (H := H) (.inr ⟨⟨t, ty, ki⟩, hd⟩)]
              exact notStr_nm ⟨t, ty, ki⟩
            rw [ei] at hput
            walk_at "rd"
            exact PvA.put nD p.1 p.2 hz hput
        · have e2 : H2 D = some (.lst (xs.filter fun x => !inMenu x)) := by
            have h4 : H2 D = some (.lst ((xs.take xs.length).filter fun x => !inMenu x)) := p.2
            rwa [List.take_length] at h4
          walk_at "rd"
          intro p1 n1
          have s1 := Same.new (o := HO.lst []) n1
          obtain ⟨ds, d1, d2, d3, d4⟩ := dat_all (K := K) (H := upd H2 p1 (.lst [])) (xs.filter fun x => !inMenu x) fun y hy => ((hx y (List.mem_filter.mp hy).1).dat.same p.1).same s1
          refine ⟨.list ds, .list [], .lst (s1.seq (SqL.of e2)) d1, .lst (SqL.of upd_same) .nil, shaped_list d2 (Nat.le_trans d3 (by decide)), by decide, ?_⟩
          rw [eqv_nil, d4, filter_none]
          cases ea : xs.all inMenu with
          | false =>
            rw [ea, Bool.false_and] at q
            walk_at "rd"
            exact q _ (p.1.trans s1)
          | true =>
            rw [ea, Bool.true_and] at q
            obtain ⟨m1, m2⟩ := menu_strs ea
            have hS2 := seqT_same (p.1.trans s1) hS
            rw [m1] at hS2
            generalize hX : upd H2 p1 _ = H3 at s1 hS2 ⊢
            walk_at "rd"
            refine ⟨a, (xs.map sv).map V.str, rfl, .inr hS2, fun l nl => ?_⟩
            have s4 := Same.new (o := HO.lst ((xs.map sv).map V.str)) nl
            have hS4 := seqT_same s4 hS2
            generalize hY : upd H3 l _ = H4 at s4 hS4 ⊢
            have eL : SqL K H4 l ((xs.map sv).map V.str) := SqL.of (by rw [← hY]; exact upd_same)
            walk_at "rd"
            refine ⟨a, xs.map sv, rfl, .inr hS4, by rw [List.length_map]; exact hl, fun p5 n5 => ?_⟩
            have s5 := Same.new (o := SetSO w p5 (xs.map sv) (xs.map sv).length) n5
            have eL5 := s5.seq eL
            generalize hZ : upd H4 p5 _ = H5 at s5 eL5 ⊢
            have eS : H5 p5 = some (SetSO w p5 (xs.map sv) (xs.map sv).length) := by
              rw [← hZ]
              exact upd_same
            walk_at "rd"
            refine ⟨p5, xs.map sv, (xs.map sv).length, rfl, eS, by rw [List.length_map]; omega, fun ys p6 y1 y2 y3 y4 n6 => ?_⟩
            have s6 := Same.new (o := HO.lst (ys.map V.str)) n6
            walk_at "rd"
            refine ⟨.list ((xs.map sv).map PyData.str), .list (ys.map PyData.str), .lst (s6.seq eL5) (dp_strs _), .lst (SqL.of upd_same) (dp_strs _), shaped_strs fun z hz => ?_, shaped_strs fun z hz => ?_, ?_⟩
            · exact (zz_ok z (menu_sub (m2 z hz))).1
            · exact (zz_ok z (menu_sub (m2 z ((y3 z).mp hz)))).1
            · rw [eqv_strs, sorted_is y1 y2 y3]
              exact q _ (((p.1.trans s1).trans s4).trans (s5.trans s6))
    · walk_at "rd"
      refine ⟨_, _, _, _, false, rfl, .ty _, ty, ki, ?_⟩
      walk_at "rd"
      exact q H (Same.refl H)
end




abbrev s__law_value : Stmt := topS 14
abbrev N__law_value : List Str := ["dice", "some", "odd"]
theorem sc__law_value : FnScope N__law_value ["dice"] (defScope s__law_value) := ⟨rfl, rfl, rfl, by decide +kernel, rfl, by decide +kernel, by decide +kernel⟩

/-- an item that stays one, whatever the dice throw -/
def ItS (K : PySem.W.Frag) (d : Addr) (H : Hp) (x : V) : Prop := ∀ H', SB d H H' → It K H' x
theorem ItS.sb {K : PySem.W.Frag} {d : Addr} {H H' : Hp} {x : V} (h : ItS K d H x) (e : SB d H H') : ItS K d H' x := fun H'' e' => h H'' (e.trans e')
def TupS (K : PySem.W.Frag) (d : Addr) (H : Hp) (v : V) : Prop := (∃ a xs, v = .ref a ∧ xs.length ≤ 7 ∧ ∀ H', SB d H H' → SqT K H' a xs ∧ ∀ x ∈ xs, It K H' x) ∨ ∀ H', SB d H H' → Isi K "tuple" H' v false
theorem TupS.sb {K : PySem.W.Frag} {d : Addr} {H H' : Hp} {v : V} (h : TupS K d H v) (e : SB d H H') : TupS K d H' v := by
  rcases h with ⟨a, xs, rfl, hl, h⟩ | h
  · exact .inl ⟨a, xs, rfl, hl, fun H'' e' => h H'' (e.trans e')⟩
  · exact .inr fun H'' e' => h H'' (e.trans e')
def spValue2 (K : PySem.W.Frag) : Sp := fun vs H Q _ => ∃ d, vs = [.ref d] ∧ Dice H d ∧ ∀ H' v, SB d H H' → Dice H' d → TupS K d H' v → Q v H'
theorem notStr {K : PySem.W.Frag} {H : Hp} {v : V} {t : String} (h : TyOf K H v (.type t)) (hb : kitB t "str" = some false) : NotStr K H v := ⟨_, .base h, kit_ty hb⟩
theorem strs_of : ∀ {xs : List V}, (∀ x ∈ xs, ∃ z ∈ menu, x = .str z) → ∃ ws : List Str, xs = ws.map V.str ∧ ∀ z ∈ ws, z ∈ menu
  | [], _ => ⟨[], rfl, fun z hz => by simp at hz⟩
  | x :: xs, h => by
    obtain ⟨ws, rfl, h2⟩ := strs_of fun y hy => h y (List.mem_cons_of_mem _ hy)
    obtain ⟨z, hz, rfl⟩ := h x List.mem_cons_self
    refine ⟨z :: ws, rfl, fun y hy => ?_⟩
    rcases List.mem_cons.mp hy with rfl | hy
    · exact hz
    · exact h2 y hy
section
variable {K : PySem.W.Frag} {d p : Addr} {H : Hp}
theorem it_str {z : Str} (h : z ∈ zz) : ItS K d H (.str z) := fun _ _ => .inl ⟨z, rfl, h⟩
theorem it_non : ItS K d H .non := fun _ _ => .inr ⟨notStr .non (by decide +kernel), .none, .non, by simp [PyData.canLay0], by simp [PyData.depth]⟩
theorem it_zero : ItS K d H (.int 0) := fun _ _ => .inr ⟨notStr (.int _) (by decide +kernel), .int 0, .int 0, by simp [PyData.canLay0], by simp [PyData.depth]⟩
theorem it_unit (n : p ≠ d) (e : H p = some (.tup [])) : ItS K d H (.ref p) := fun _ sb => .inr ⟨notStr (.tup (sb _ _ n e)) (by decide +kernel), .tuple [], .tup (SqT.of (sb _ _ n e)) .nil, by simp [PyData.canLay0, PyData.canLayAll0], by simp [PyData.depth, PyData.depthAll]⟩
theorem it_one {xs : List V} (n : p ≠ d) (hx : ∀ x ∈ xs, ∃ z ∈ menu, x = .str z) (e : H p = some (.lst xs)) : ItS K d H (.ref p) := fun H' sb => by
  obtain ⟨ws, rfl, hw⟩ := strs_of hx
  refine .inr ⟨notStr (.lst (sb _ _ n e)) (by decide +kernel), .list (ws.map PyData.str), .lst (SqL.of (sb _ _ n e)) (dp_strs _), ?_, ?_⟩
  · simp only [PyData.canLay0]
    exact canAll_map _ _ fun z hz => (zz_ok z (menu_sub (hw z hz))).1.can
  · simp only [PyData.depth]
    have := depthAll_map PyData.str 0 ws fun z _ => by simp [PyData.depth]
    omega
end
theorem sb_none {d p : Addr} {H H' : Hp} (s : SB d H H') (n : p ≠ d) (e : H' p = none) : H p = none := by
  cases h : H p with
  | none => rfl
  | some o =>
    rw [s _ _ n h] at e
    cases e
theorem cutV_mem {xs : List V} {lo hi : Option Int} {x : V} (h : x ∈ cutV xs lo hi) : x ∈ xs := List.mem_of_mem_drop (List.mem_of_mem_take h)
section
variable {P : Program} {w : World} {K : PySem.W.Frag} {mg : Str → Option Value} {base : Heap}
theorem ok_value (h : Has K mg "_law_value" s__law_value ["dice"]) (R : Ok P w K mg base 1 "_law_roll" ["dice", "total"] spRoll) (RP : Ok P w K mg base 2 "_law_pick" ["dice", "items"] (spPick K)) (RS : Ok P w K mg base 2 "_law_some" ["dice", "items", "size"] (spSome K))
    (z_len : mg "len" = none) (z_tuple : mg "tuple" = none) (z_sorted : mg "sorted" = none) : Ok P w K mg base 3 "_law_value" ["dice"] (spValue2 K) := by
  obtain ⟨f, fd, g, F, b⟩ := h
  obtain ⟨fR, fdR, g__law_roll, k__law_roll, b__law_roll, G__law_roll⟩ := R
  obtain ⟨fP, fdP, g__law_pick, k__law_pick, b__law_pick, G__law_pick⟩ := RP
  obtain ⟨fS, fdS, g__law_some, k__law_some, b__law_some, G__law_some⟩ := RS
  refine ⟨f, fd, g, F.kp, b, F.ok sc__law_value (fun vs H Q E h => ?_) (fun cdv A outer s H vs Q E hr h => ?_)⟩
  · obtain ⟨d, rfl, _⟩ := h
    rfl
  · obtain ⟨d, rfl, hD, q⟩ := h
    have hr__law_pick := hr
    have hr__law_some := hr
    have hr__law_roll : Room 1 _ := hr.mono (by decide)
    refine ⟨_, (pss_cons (ps_set (i := 1) sc__law_value.nd rfl (.inl rfl) (pe_call G__law_some hr__law_some (by rfl) g__law_some k__law_some b__law_some .nil pass0 (pa_cons (pv 0) (pa_cons (pe_lst (pa_cons pe_str (pa_cons pe_str (pa_cons pe_str (pa_cons pe_str (pa_cons pe_str (pa_cons pe_str (pa_cons pe_str pa_nil)))))))) (pa_cons (pe_call G__law_roll hr__law_roll (by rfl) g__law_roll k__law_roll b__law_roll .nil pass0 (pa_cons (pv 0) (pa_cons pe_int pa_nil))) pa_nil)))))
  (pss_cons (ps_set (i := 1) sc__law_value.nd rfl (.inl rfl) (pe_ifExp (pt_cmpR op_gt (pe_call G__law_roll hr__law_roll (by rfl) g__law_roll k__law_roll b__law_roll .nil pass0 (pa_cons (pv 0) (pa_cons pe_int pa_nil))) pe_int (nomark _)) (pe_callB (Rw.k_sortedS (K := K)) (by rfl) z_sorted Rw.bt_sorted (pa_cons (pv 1) pa_nil)) (pv 1)))
  (pss_cons (ps_if (pt_cmpR op_eq (pe_call G__law_roll hr__law_roll (by rfl) g__law_roll k__law_roll b__law_roll .nil pass0 (pa_cons (pv 0) (pa_cons pe_int pa_nil))) pe_int (nomark _)) (pss_cons (ps_set (i := 2) sc__law_value.nd rfl (.inl rfl) (pe_call G__law_pick hr__law_pick (by rfl) g__law_pick k__law_pick b__law_pick .nil pass0 (pa_cons (pv 0) (pa_cons (pe_lst (pa_cons pe_str (pa_cons pe_str (pa_cons pe_str (pa_cons pe_non (pa_cons pe_int (pa_cons (pe_tup pa_nil) (pa_cons (pe_slice (Rw.k_slL (K := K)) (pv 1) po_none (po_some pe_int)) (pa_cons pe_str (pa_cons pe_str pa_nil)))))))))) pa_nil))))
  (pss_one (ps_expr (Rw.k_bm (K := K) (pe_bm PySem.F.plainAttrs_list PySem.F.slot_list_insert PySem.F.type_list_insert mt_insert (pv 1) (pa_cons (pe_call G__law_roll hr__law_roll (by rfl) g__law_roll k__law_roll b__law_roll .nil pass0 (pa_cons (pv 0) (pa_cons (pe_op op_add (pe_callB (Rw.k_len (K := K)) (by rfl) z_len Rw.bt_len (pa_cons (pv 1) pa_nil)) pe_int) pa_nil))) (pa_cons (pv 2) pa_nil))))))) pss_nil)
  (pss_cons (ps_if (pt_cmpR op_gt (pe_call G__law_roll hr__law_roll (by rfl) g__law_roll k__law_roll b__law_roll .nil pass0 (pa_cons (pv 0) (pa_cons pe_int pa_nil))) pe_int (nomark _)) (pss_one (ps_ret (pe_callTy (Rw.k_tupleof (K := K)) (by rfl) z_tuple Rw.bt_tuple (pa_cons (pv 1) pa_nil)))) pss_nil)
  (pss_one (ps_ret (pe_call G__law_pick hr__law_pick (by rfl) g__law_pick k__law_pick b__law_pick .nil pass0 (pa_cons (pv 0) (pa_cons (pe_lst (pa_cons (pv 1) (pa_cons pe_non (pa_cons pe_str (pa_cons pe_int (pa_cons pe_dnewK (pa_cons pe_bl pa_nil))))))) pa_nil))))))))), ?_⟩
    walk_at "rd"
    intro l nl
    walk_at "rd"
    have D1 := hD.new (o := HO.lst (menu.map V.str)) nl
    have l1 : (upd H l (.lst (menu.map V.str))) l = some (.lst (menu.map V.str)) := upd_same
    have s1 : SB d H (upd H l (.lst (menu.map V.str))) := SB.new nl
    refine ⟨d, 6, rfl, by decide, by decide, D1, fun H2 r2 sb2 D2 r20 r21 => ?_⟩
    have l2 := sb2 _ _ (hD.ne nl).symm l1
    have s2 := s1.trans sb2
    clear l1 s1 sb2 D1
    walk_at "rd"
    refine ⟨d, l, menu.map V.str, r2, rfl, r20, by omega, by decide, D2, .inl (SqL.of l2), fun H3 p ys zs sb3 D3 np npd e3 pm ly => ?_⟩
    have s3 := s2.trans sb3
    have hy : ∀ y ∈ ys, ∃ z ∈ menu, y = .str z := fun y hy => by
      have := pm.subset (List.mem_append_left zs hy)
      obtain ⟨z, hz, e⟩ := List.mem_map.mp this
      exact ⟨z, hz, e.symm⟩
    obtain ⟨ws, rfl, hw⟩ := strs_of hy
    have wl : ws.length ≤ 5 := by
      rw [List.length_map] at ly
      omega
    have s2' := s2
    clear ly pm hy s2 sb3 l2
    walk_at "rd"
    refine ⟨d, 3, rfl, by decide, by decide, D3, fun H4 r4 sb4 D4 r40 r41 => ?_⟩
    have e4 := sb4 _ _ npd e3
    have s4 := s3.trans sb4
    clear s3 sb4 e3 D3
    walk_at "rd"
    by_cases c : 0 < r4
    · rw [decide_eq_true c]
      walk_at "rd"
      refine ⟨p, ws, rfl, SqL.of e4, by omega, fun us p5 u1 _ n5 => ?_⟩
      have s5 : SB d H (upd H4 p5 (.lst (us.map V.str))) := s4.trans (SB.new n5)
      have D5 := D4.new (o := HO.lst (us.map V.str)) n5
      have e5 : (upd H4 p5 (.lst (us.map V.str))) p5 = some (.lst (us.map V.str)) := upd_same
      have n5d : p5 ≠ d := (D4.ne n5).symm
      have h5 : H p5 = none := sb_none s4 n5d n5
      have hu : ∀ z ∈ us, z ∈ menu := fun z hz => hw z (u1.subset hz)
      have ul : us.length ≤ 5 := by
        rw [u1.length_eq]
        exact wl
      generalize hX : upd H4 p5 _ = H5 at s5 D5 e5 ⊢
      walk_at "rd"
      refine ⟨d, 3, rfl, by decide, by decide, D5, fun H6 r6 sb6 D6 r60 r61 => ?_⟩
      have e6 := sb6 _ _ n5d e5
      have s6 := s5.trans sb6
      clear sb6 e5 s5 D5
      have hI : ∀ G, ∀ x ∈ us.map V.str, ItS K d G x := fun G x hx => by
        obtain ⟨z, hz, rfl⟩ := List.mem_map.mp hx
        exact it_str (menu_sub (hu z hz))
      have hL : (us.map V.str).length ≤ 5 := by
        rw [List.length_map]
        omega
      have hM : ∀ x ∈ us.map V.str, ∃ z ∈ menu, x = V.str z := fun x hx => by
        obtain ⟨z, hz, rfl⟩ := List.mem_map.mp hx
        exact ⟨z, hu z hz, rfl⟩
      generalize us.map V.str = xs at hI hL hM e6
      walk_at "rd"
      by_cases c6 : V.int r6 = V.int 0
      · rw [decide_eq_true c6]
        walk_at "rd"
        intro p1 n1
        first | refine newly n1 fun H7 s7 f7 => ?_ | refine newly2 n1 fun H7 s7 f7 => ?_
        walk_at "rd"
        have D7 := D6.same s7
        have e7 := s7 _ _ e6
        refine ⟨p5, _, rfl, SqL.of e7, fun p2 n2 => ?_⟩
        first | refine newly n2 fun H8 s8 f8 => ?_ | refine newly2 n2 fun H8 s8 f8 => ?_
        walk_at "rd"
        intro p3 n3
        first | refine newly n3 fun H9 s9 f9 => ?_ | refine newly2 n3 fun H9 s9 f9 => ?_
        have D8 := D7.same s8
        have D9 := D8.same s9
        have e9 := s9 _ _ (s8 _ _ e7)
        walk_at "rd"
        refine ⟨d, p3, _, rfl, by simp, by simp, D9, fun H' sb => .inl (SqL.of (sb _ _ (D8.ne n3).symm f9)), fun HA v sbA DA hv => ?_⟩
        have eA := sbA _ _ n5d e9
        walk_at "rd"
        refine ⟨.inl ⟨rfl, _, SqL.of eA⟩, ?_⟩
        walk_at "rd"
        refine ⟨p5, xs, rfl, .inl (SqL.of eA), ?_⟩
        walk_at "rd"
        refine ⟨d, _, rfl, by omega, by omega, DA, fun HB rB sbB DB rB0 rB1 => ?_⟩
        have eB := sbB _ _ n5d eA
        walk_at "rd"
        refine ⟨p5, xs, rB, v, rfl, rfl, eB, small1000 (by omega), rB0, by omega, ?_⟩
        have sB : SB d H HB := (((s6.trans (.of s7)).trans ((SB.of s8).trans (.of s9))).trans sbA).trans sbB
        have sH := SB.put (o := .lst (xs.take rB.toNat ++ [v] ++ xs.drop rB.toNat)) h5 sB
        have DH := DB.put (o := .lst (xs.take rB.toNat ++ [v] ++ xs.drop rB.toNat)) n5d.symm
        have far : ∀ a o, H9 a = some o → a ≠ d → p5 ≠ a → (upd HB p5 (.lst (xs.take rB.toNat ++ [v] ++ xs.drop rB.toNat))) a = some o := fun a o e n m => by
          rw [upd_ne m.symm]
          exact sbB _ _ n (sbA _ _ n e)
        have iv : ItS K d (upd HB p5 (.lst (xs.take rB.toNat ++ [v] ++ xs.drop rB.toNat))) v := by
          simp only [List.mem_cons, List.not_mem_nil, or_false] at hv
          rcases hv with e | e | e | e | e | e | e | e | e
          · rw [e]; exact it_str (by decide +kernel)
          · rw [e]; exact it_str (by decide +kernel)
          · rw [e]; exact it_str (by decide +kernel)
          · rw [e]; exact it_non
          · rw [e]; exact it_zero
          · have i := it_unit (K := K) (D6.ne n1).symm (far _ _ (s9 _ _ (s8 _ _ f7)) (D6.ne n1).symm (ne_of_none e6 n1))
            rw [← e] at i
            exact i
          · have i := it_one (K := K) (D7.ne n2).symm (fun x hx => hM x (cutV_mem hx)) (far _ _ (s9 _ _ f8) (D7.ne n2).symm (ne_of_none e7 n2))
            rw [← e] at i
            exact i
          · rw [e]; exact it_str (by decide +kernel)
          · rw [e]; exact it_str (by decide +kernel)
        have hI2 : ∀ x ∈ xs.take rB.toNat ++ [v] ++ xs.drop rB.toNat, ItS K d (upd HB p5 (.lst (xs.take rB.toNat ++ [v] ++ xs.drop rB.toNat))) x := fun x hx => by
          rcases List.mem_append.mp hx with hx | hx
          · rcases List.mem_append.mp hx with hx | hx
            · exact hI _ x (List.mem_of_mem_take hx)
            · rw [List.mem_singleton.mp hx]
              exact iv
          · exact hI _ x (List.mem_of_mem_drop hx)
        have hL2 : (xs.take rB.toNat ++ [v] ++ xs.drop rB.toNat).length ≤ 6 := by
          rw [List.length_append, List.length_append, List.length_take, List.length_drop, List.length_singleton]
          omega
        have eH : (upd HB p5 (.lst (xs.take rB.toNat ++ [v] ++ xs.drop rB.toNat))) p5 = some (.lst (xs.take rB.toNat ++ [v] ++ xs.drop rB.toNat)) := upd_same
        generalize xs.take rB.toNat ++ [v] ++ xs.drop rB.toNat = ys at sH DH hI2 hL2 eH ⊢
        generalize upd HB p5 _ = HH at sH DH hI2 eH ⊢
        clear iv far sB
        walk_at "rd"
        refine ⟨d, 8, rfl, by decide, by decide, DH, fun HJ rj sbj DJ rj0 rj1 => ?_⟩
        have eJ := sbj _ _ n5d eH
        have sJ := sH.trans sbj
        walk_at "rd"
        by_cases cj : 0 < rj
        · rw [decide_eq_true cj]
          walk_at "rd"
          refine ⟨p5, ys, rfl, .inl ⟨SqL.of eJ, fun l nl => ?_⟩⟩
          exact q _ _ (sJ.trans (SB.new nl)) (DJ.new nl) (.inl ⟨l, ys, rfl, by omega, fun H' e' => ⟨seqT_sb (DJ.ne nl).symm e' (SqT.of upd_same), fun x hx => hI2 x hx _ ((sbj.trans (SB.new nl)).trans e')⟩⟩)
        · rw [decide_eq_false cj]
          walk_at "rd"
          intro pd nd
          first | refine newly nd fun HK sk fk => ?_ | refine newly2 nd fun HK sk fk => ?_
          walk_at "rd"
          intro pl nl
          first | refine newly nl fun HL sl fl => ?_ | refine newly2 nl fun HL sl fl => ?_
          have DK := DJ.same sk
          have DL := DK.same sl
          walk_at "rd"
          refine ⟨d, pl, _, rfl, by simp, by simp, DL, fun H' sb => .inl (SqL.of (sb _ _ (DK.ne nl).symm fl)), fun HM v sbm DM hv => ?_⟩
          refine q HM v ((sJ.trans ((SB.of sk).trans (.of sl))).trans sbm) DM (.inr fun H' e' => ?_)
          simp only [List.mem_cons, List.not_mem_nil, or_false] at hv
          rcases hv with rfl | rfl | rfl | rfl | rfl | rfl
          · exact isi_ty (.base (.lst (e' _ _ n5d (sbm _ _ n5d (sl _ _ (sk _ _ eJ)))))) (by decide +kernel)
          · exact isi_ty (.base .non) (by decide +kernel)
          · exact isi_ty (.base (.str _)) (by decide +kernel)
          · exact isi_ty (.base (.int _)) (by decide +kernel)
          · exact isi_ty (.base (.dK (e' _ _ (DJ.ne nd).symm (sbm _ _ (DJ.ne nd).symm (sl _ _ fk))))) (by decide +kernel)
          · exact isi_ty (.base (.bl _)) (by decide +kernel)
      · rw [decide_eq_false c6]
        have hI2 := hI H6
        have hL2 : xs.length ≤ 6 := by omega
        have sH := s6
        have DH := D6
        have eH := e6
        generalize H6 = HH at sH DH eH hI2 ⊢
        generalize xs = ys at hI2 hL2 eH ⊢
        walk_at "rd"
        refine ⟨d, 8, rfl, by decide, by decide, DH, fun HJ rj sbj DJ rj0 rj1 => ?_⟩
        have eJ := sbj _ _ n5d eH
        have sJ := sH.trans sbj
        walk_at "rd"
        by_cases cj : 0 < rj
        · rw [decide_eq_true cj]
          walk_at "rd"
          refine ⟨p5, ys, rfl, .inl ⟨SqL.of eJ, fun l nl => ?_⟩⟩
          exact q _ _ (sJ.trans (SB.new nl)) (DJ.new nl) (.inl ⟨l, ys, rfl, by omega, fun H' e' => ⟨seqT_sb (DJ.ne nl).symm e' (SqT.of upd_same), fun x hx => hI2 x hx _ ((sbj.trans (SB.new nl)).trans e')⟩⟩)
        · rw [decide_eq_false cj]
          walk_at "rd"
          intro pd nd
          first | refine newly nd fun HK sk fk => ?_ | refine newly2 nd fun HK sk fk => ?_
          walk_at "rd"
          intro pl nl
          first | refine newly nl fun HL sl fl => ?_ | refine newly2 nl fun HL sl fl => ?_
          have DK := DJ.same sk
          have DL := DK.same sl
          walk_at "rd"
          refine ⟨d, pl, _, rfl, by simp, by simp, DL, fun H' sb => .inl (SqL.of (sb _ _ (DK.ne nl).symm fl)), fun HM v sbm DM hv => ?_⟩
          refine q HM v ((sJ.trans ((SB.of sk).trans (.of sl))).trans sbm) DM (.inr fun H' e' => ?_)
          simp only [List.mem_cons, List.not_mem_nil, or_false] at hv
          rcases hv with rfl | rfl | rfl | rfl | rfl | rfl
          · exact isi_ty (.base (.lst (e' _ _ n5d (sbm _ _ n5d (sl _ _ (sk _ _ eJ)))))) (by decide +kernel)
          · exact isi_ty (.base .non) (by decide +kernel)
          · exact isi_ty (.base (.str _)) (by decide +kernel)
          · exact isi_ty (.base (.int _)) (by decide +kernel)
          · exact isi_ty (.base (.dK (e' _ _ (DJ.ne nd).symm (sbm _ _ (DJ.ne nd).symm (sl _ _ fk))))) (by decide +kernel)
          · exact isi_ty (.base (.bl _)) (by decide +kernel)

    · rw [decide_eq_false c]
      have s5 := s4
      have D5 := D4
      have e5 := e4
      have n5d := npd
      have h5 : H p = none := sb_none s2' npd np
      have hu := hw
      have ul := wl
      generalize H4 = H5 at s5 D5 e5 ⊢
      generalize p = p5 at n5d h5 e5 ⊢
      generalize ws = us at e5 hu ul ⊢
      clear c D4 e4 s4
      walk_at "rd"
      refine ⟨d, 3, rfl, by decide, by decide, D5, fun H6 r6 sb6 D6 r60 r61 => ?_⟩
      have e6 := sb6 _ _ n5d e5
      have s6 := s5.trans sb6
      clear sb6 e5 s5 D5
      have hI : ∀ G, ∀ x ∈ us.map V.str, ItS K d G x := fun G x hx => by
        obtain ⟨z, hz, rfl⟩ := List.mem_map.mp hx
        exact it_str (menu_sub (hu z hz))
      have hL : (us.map V.str).length ≤ 5 := by
        rw [List.length_map]
        omega
      have hM : ∀ x ∈ us.map V.str, ∃ z ∈ menu, x = V.str z := fun x hx => by
        obtain ⟨z, hz, rfl⟩ := List.mem_map.mp hx
        exact ⟨z, hu z hz, rfl⟩
      generalize us.map V.str = xs at hI hL hM e6
      walk_at "rd"
      by_cases c6 : V.int r6 = V.int 0
      · rw [decide_eq_true c6]
        walk_at "rd"
        intro p1 n1
        first | refine newly n1 fun H7 s7 f7 => ?_ | refine newly2 n1 fun H7 s7 f7 => ?_
        walk_at "rd"
        have D7 := D6.same s7
        have e7 := s7 _ _ e6
        refine ⟨p5, _, rfl, SqL.of e7, fun p2 n2 => ?_⟩
        first | refine newly n2 fun H8 s8 f8 => ?_ | refine newly2 n2 fun H8 s8 f8 => ?_
        walk_at "rd"
        intro p3 n3
        first | refine newly n3 fun H9 s9 f9 => ?_ | refine newly2 n3 fun H9 s9 f9 => ?_
        have D8 := D7.same s8
        have D9 := D8.same s9
        have e9 := s9 _ _ (s8 _ _ e7)
        walk_at "rd"
        refine ⟨d, p3, _, rfl, by simp, by simp, D9, fun H' sb => .inl (SqL.of (sb _ _ (D8.ne n3).symm f9)), fun HA v sbA DA hv => ?_⟩
        have eA := sbA _ _ n5d e9
        walk_at "rd"
        refine ⟨.inl ⟨rfl, _, SqL.of eA⟩, ?_⟩
        walk_at "rd"
        refine ⟨p5, xs, rfl, .inl (SqL.of eA), ?_⟩
        walk_at "rd"
        refine ⟨d, _, rfl, by omega, by omega, DA, fun HB rB sbB DB rB0 rB1 => ?_⟩
        have eB := sbB _ _ n5d eA
        walk_at "rd"
        refine ⟨p5, xs, rB, v, rfl, rfl, eB, small1000 (by omega), rB0, by omega, ?_⟩
        have sB : SB d H HB := (((s6.trans (.of s7)).trans ((SB.of s8).trans (.of s9))).trans sbA).trans sbB
        have sH := SB.put (o := .lst (xs.take rB.toNat ++ [v] ++ xs.drop rB.toNat)) h5 sB
        have DH := DB.put (o := .lst (xs.take rB.toNat ++ [v] ++ xs.drop rB.toNat)) n5d.symm
        have far : ∀ a o, H9 a = some o → a ≠ d → p5 ≠ a → (upd HB p5 (.lst (xs.take rB.toNat ++ [v] ++ xs.drop rB.toNat))) a = some o := fun a o e n m => by
          rw [upd_ne m.symm]
          exact sbB _ _ n (sbA _ _ n e)
        have iv : ItS K d (upd HB p5 (.lst (xs.take rB.toNat ++ [v] ++ xs.drop rB.toNat))) v := by
          simp only [List.mem_cons, List.not_mem_nil, or_false] at hv
          rcases hv with e | e | e | e | e | e | e | e | e
          · rw [e]; exact it_str (by decide +kernel)
          · rw [e]; exact it_str (by decide +kernel)
          · rw [e]; exact it_str (by decide +kernel)
          · rw [e]; exact it_non
          · rw [e]; exact it_zero
          · have i := it_unit (K := K) (D6.ne n1).symm (far _ _ (s9 _ _ (s8 _ _ f7)) (D6.ne n1).symm (ne_of_none e6 n1))
            rw [← e] at i
            exact i
          · have i := it_one (K := K) (D7.ne n2).symm (fun x hx => hM x (cutV_mem hx)) (far _ _ (s9 _ _ f8) (D7.ne n2).symm (ne_of_none e7 n2))
            rw [← e] at i
            exact i
          · rw [e]; exact it_str (by decide +kernel)
          · rw [e]; exact it_str (by decide +kernel)
        have hI2 : ∀ x ∈ xs.take rB.toNat ++ [v] ++ xs.drop rB.toNat, ItS K d (upd HB p5 (.lst (xs.take rB.toNat ++ [v] ++ xs.drop rB.toNat))) x := fun x hx => by
          rcases List.mem_append.mp hx with hx | hx
          · rcases List.mem_append.mp hx with hx | hx
            · exact hI _ x (List.mem_of_mem_take hx)
            · rw [List.mem_singleton.mp hx]
              exact iv
          · exact hI _ x (List.mem_of_mem_drop hx)
        have hL2 : (xs.take rB.toNat ++ [v] ++ xs.drop rB.toNat).length ≤ 6 := by
          rw [List.length_append, List.length_append, List.length_take, List.length_drop, List.length_singleton]
          omega
        have eH : (upd HB p5 (.lst (xs.take rB.toNat ++ [v] ++ xs.drop rB.toNat))) p5 = some (.lst (xs.take rB.toNat ++ [v] ++ xs.drop rB.toNat)) := upd_same
        generalize xs.take rB.toNat ++ [v] ++ xs.drop rB.toNat = ys at sH DH hI2 hL2 eH ⊢
        generalize upd HB p5 _ = HH at sH DH hI2 eH ⊢
        clear iv far sB
        walk_at "rd"
        refine ⟨d, 8, rfl, by decide, by decide, DH, fun HJ rj sbj DJ rj0 rj1 => ?_⟩
        have eJ := sbj _ _ n5d eH
        have sJ := sH.trans sbj
        walk_at "rd"
        by_cases cj : 0 < rj
        · rw [decide_eq_true cj]
          walk_at "rd"
          refine ⟨p5, ys, rfl, .inl ⟨SqL.of eJ, fun l nl => ?_⟩⟩
          exact q _ _ (sJ.trans (SB.new nl)) (DJ.new nl) (.inl ⟨l, ys, rfl, by omega, fun H' e' => ⟨seqT_sb (DJ.ne nl).symm e' (SqT.of upd_same), fun x hx => hI2 x hx _ ((sbj.trans (SB.new nl)).trans e')⟩⟩)
        · rw [decide_eq_false cj]
          walk_at "rd"
          intro pd nd
          first | refine newly nd fun HK sk fk => ?_ | refine newly2 nd fun HK sk fk => ?_
          walk_at "rd"
          intro pl nl
          first | refine newly nl fun HL sl fl => ?_ | refine newly2 nl fun HL sl fl => ?_
          have DK := DJ.same sk
          have DL := DK.same sl
          walk_at "rd"
          refine ⟨d, pl, _, rfl, by simp, by simp, DL, fun H' sb => .inl (SqL.of (sb _ _ (DK.ne nl).symm fl)), fun HM v sbm DM hv => ?_⟩
          refine q HM v ((sJ.trans ((SB.of sk).trans (.of sl))).trans sbm) DM (.inr fun H' e' => ?_)
          simp only [List.mem_cons, List.not_mem_nil, or_false] at hv
          rcases hv with rfl | rfl | rfl | rfl | rfl | rfl
          · exact isi_ty (.base (.lst (e' _ _ n5d (sbm _ _ n5d (sl _ _ (sk _ _ eJ)))))) (by decide +kernel)
          · exact isi_ty (.base .non) (by decide +kernel)
          · exact isi_ty (.base (.str _)) (by decide +kernel)
          · exact isi_ty (.base (.int _)) (by decide +kernel)
          · exact isi_ty (.base (.dK (e' _ _ (DJ.ne nd).symm (sbm _ _ (DJ.ne nd).symm (sl _ _ fk))))) (by decide +kernel)
          · exact isi_ty (.base (.bl _)) (by decide +kernel)
      · rw [decide_eq_false c6]
        have hI2 := hI H6
        have hL2 : xs.length ≤ 6 := by omega
        have sH := s6
        have DH := D6
        have eH := e6
        generalize H6 = HH at sH DH eH hI2 ⊢
        generalize xs = ys at hI2 hL2 eH ⊢
        walk_at "rd"
        refine ⟨d, 8, rfl, by decide, by decide, DH, fun HJ rj sbj DJ rj0 rj1 => ?_⟩
        have eJ := sbj _ _ n5d eH
        have sJ := sH.trans sbj
        walk_at "rd"
        by_cases cj : 0 < rj
        · rw [decide_eq_true cj]
          walk_at "rd"
          refine ⟨p5, ys, rfl, .inl ⟨SqL.of eJ, fun l nl => ?_⟩⟩
          exact q _ _ (sJ.trans (SB.new nl)) (DJ.new nl) (.inl ⟨l, ys, rfl, by omega, fun H' e' => ⟨seqT_sb (DJ.ne nl).symm e' (SqT.of upd_same), fun x hx => hI2 x hx _ ((sbj.trans (SB.new nl)).trans e')⟩⟩)
        · rw [decide_eq_false cj]
          walk_at "rd"
          intro pd nd
          first | refine newly nd fun HK sk fk => ?_ | refine newly2 nd fun HK sk fk => ?_
          walk_at "rd"
          intro pl nl
          first | refine newly nl fun HL sl fl => ?_ | refine newly2 nl fun HL sl fl => ?_
          have DK := DJ.same sk
          have DL := DK.same sl
          walk_at "rd"
          refine ⟨d, pl, _, rfl, by simp, by simp, DL, fun H' sb => .inl (SqL.of (sb _ _ (DK.ne nl).symm fl)), fun HM v sbm DM hv => ?_⟩
          refine q HM v ((sJ.trans ((SB.of sk).trans (.of sl))).trans sbm) DM (.inr fun H' e' => ?_)
          simp only [List.mem_cons, List.not_mem_nil, or_false] at hv
          rcases hv with rfl | rfl | rfl | rfl | rfl | rfl
          · exact isi_ty (.base (.lst (e' _ _ n5d (sbm _ _ n5d (sl _ _ (sk _ _ eJ)))))) (by decide +kernel)
          · exact isi_ty (.base .non) (by decide +kernel)
          · exact isi_ty (.base (.str _)) (by decide +kernel)
          · exact isi_ty (.base (.int _)) (by decide +kernel)
          · exact isi_ty (.base (.dK (e' _ _ (DJ.ne nd).symm (sbm _ _ (DJ.ne nd).symm (sl _ _ fk))))) (by decide +kernel)
          · exact isi_ty (.base (.bl _)) (by decide +kernel)

end




abbrev s__law_number : Stmt := topS 15
abbrev N__law_number : List Str := ["dice", "size", "some"]
theorem sc__law_number : FnScope N__law_number ["dice"] (defScope s__law_number) := ⟨rfl, rfl, rfl, by decide +kernel, rfl, by decide +kernel, by decide +kernel⟩

theorem big1 {n : Int} (h : 0 ≤ n) : ¬ (10 ^ (60 : Int).toNat + n < 10 ^ 60) := by
  show ¬ ((10 : Int) ^ 60 + n < 10 ^ 60)
  omega
theorem big2 {n : Int} (h : 0 ≤ n) : ¬ (-(10 ^ 60) < -(10 ^ (60 : Int).toNat) - n) := by
  show ¬ (-((10 : Int) ^ 60) < -(10 ^ 60) - n)
  omega
/-- a pair of a value and whether it is such an integer -/
def NumS (K : PySem.W.Frag) (d : Addr) (H : Hp) (v : V) : Prop := ∃ a x b, v = .ref a ∧ ∀ H', SB d H H' → SqT K H' a [x, .bl b] ∧ IntV K H' x b
def spNumber (K : PySem.W.Frag) : Sp := fun vs H Q _ => ∃ d, vs = [.ref d] ∧ Dice H d ∧ ∀ H' v, SB d H H' → Dice H' d → NumS K d H' v → Q v H'
section
variable {P : Program} {w : World} {K : PySem.W.Frag} {mg : Str → Option Value} {base : Heap}
theorem ok_number (h : Has K mg "_law_number" s__law_number ["dice"]) (RP : Ok P w K mg base 2 "_law_pick" ["dice", "items"] (spPick K)) : Ok P w K mg base 3 "_law_number" ["dice"] (spNumber K) := by
  obtain ⟨f, fd, g, F, b⟩ := h
  obtain ⟨fP, fdP, g__law_pick, k__law_pick, b__law_pick, G__law_pick⟩ := RP
  refine ⟨f, fd, g, F.kp, b, F.ok sc__law_number (fun vs H Q E h => ?_) (fun cdv A outer s H vs Q E hr h => ?_)⟩
  · obtain ⟨d, rfl, _⟩ := h
    rfl
  · obtain ⟨d, rfl, hD, q⟩ := h
    have hr__law_pick := hr
    refine ⟨_, (pss_cons (ps_set (i := 1) sc__law_number.nd rfl (.inl rfl) (pe_call G__law_pick hr__law_pick (by rfl) g__law_pick k__law_pick b__law_pick .nil pass0 (pa_cons (pv 0) (pa_cons (pe_lst (pa_cons pe_int (pa_cons pe_int (pa_cons (pe_op op_pow pe_int pe_int) (pa_cons (pe_op op_sub (pe_op op_pow pe_int pe_int) pe_int) pa_nil))))) pa_nil))))
  (pss_cons (ps_set (i := 2) sc__law_number.nd rfl (.inl rfl) (pe_lst (pa_cons (pe_tup (pa_cons (pv 1) (pa_cons pe_bl pa_nil))) (pa_cons (pe_tup (pa_cons (pe_un un_neg (pv 1)) (pa_cons pe_bl pa_nil))) (pa_cons (pe_tup (pa_cons (pe_op op_add (pe_op op_pow pe_int pe_int) (pv 1)) (pa_cons pe_bl pa_nil))) (pa_cons (pe_tup (pa_cons (pe_op op_sub (pe_un un_neg (pe_op op_pow pe_int pe_int)) (pv 1)) (pa_cons pe_bl pa_nil))) (pa_cons (pe_tup (pa_cons (pe_cmpR op_eq (pv 1) pe_int (nomark _)) (pa_cons pe_bl pa_nil))) pa_nil)))))))
  (pss_one (ps_ret (pe_call G__law_pick hr__law_pick (by rfl) g__law_pick k__law_pick b__law_pick .nil pass0 (pa_cons (pv 0) (pa_cons (pe_op op_cat (pv 2) (pe_lst (pa_cons (pe_tup (pa_cons pe_non (pa_cons pe_bl pa_nil))) (pa_cons (pe_tup (pa_cons pe_str (pa_cons pe_bl pa_nil))) (pa_cons (pe_tup (pa_cons (pe_tup (pa_cons pe_int pa_nil)) (pa_cons pe_bl pa_nil))) (pa_cons (pe_tup (pa_cons (pe_lst pa_nil) (pa_cons pe_bl pa_nil))) (pa_cons (pe_tup (pa_cons pe_dnewK (pa_cons pe_bl pa_nil))) pa_nil))))))) pa_nil))))))), ?_⟩
    walk_at "rd"
    intro l nl
    walk_at "rd"
    refine newly2 nl fun H1 s1 f1 => ?_
    have D1 := hD.same s1
    refine ⟨d, l, _, rfl, by simp, by simp, D1, fun H' sb => .inl (SqL.of (sb _ _ (hD.ne nl).symm f1)), fun HA v sbA DA hv => ?_⟩
    have sA : SB d H HA := (SB.of s1).trans sbA
    obtain ⟨n, rfl, n0, n1⟩ : ∃ n : Int, v = .int n ∧ 0 ≤ n ∧ n < 10 ^ 60 := by
      simp only [List.mem_cons, List.not_mem_nil, or_false] at hv
      rcases hv with rfl | rfl | rfl | rfl
      · exact ⟨0, rfl, by decide, by decide⟩
      · exact ⟨1, rfl, by decide, by decide⟩
      · exact ⟨_, rfl, by decide +kernel, by decide +kernel⟩
      · exact ⟨_, rfl, by decide +kernel, by decide +kernel⟩
    clear hv s1 f1 D1 sbA
    walk_at "rd"
    intro t1 nt1
    first | refine newly nt1 fun J0 st1 ft1 => ?_ | refine newly2 nt1 fun J0 st1 ft1 => ?_
    have Dt1 := DA.same st1
    have dt1 : t1 ≠ d := (DA.ne nt1).symm
    walk_at "rd"
    intro t2 nt2
    first | refine newly nt2 fun J1 st2 ft2 => ?_ | refine newly2 nt2 fun J1 st2 ft2 => ?_
    have Dt2 := Dt1.same st2
    have dt2 : t2 ≠ d := (Dt1.ne nt2).symm
    walk_at "rd"
    intro t3 nt3
    first | refine newly nt3 fun J2 st3 ft3 => ?_ | refine newly2 nt3 fun J2 st3 ft3 => ?_
    have Dt3 := Dt2.same st3
    have dt3 : t3 ≠ d := (Dt2.ne nt3).symm
    walk_at "rd"
    intro t4 nt4
    first | refine newly nt4 fun J3 st4 ft4 => ?_ | refine newly2 nt4 fun J3 st4 ft4 => ?_
    have Dt4 := Dt3.same st4
    have dt4 : t4 ≠ d := (Dt3.ne nt4).symm
    walk_at "rd"
    intro t5 nt5
    first | refine newly nt5 fun J4 st5 ft5 => ?_ | refine newly2 nt5 fun J4 st5 ft5 => ?_
    have Dt5 := Dt4.same st5
    have dt5 : t5 ≠ d := (Dt4.ne nt5).symm
    walk_at "rd"
    intro ps nps
    first | refine newly nps fun J5 sps fps => ?_ | refine newly2 nps fun J5 sps fps => ?_
    have Dps := Dt5.same sps
    have dps : ps ≠ d := (Dt5.ne nps).symm
    walk_at "rd"
    intro u1 nu1
    first | refine newly nu1 fun J6 su1 fu1 => ?_ | refine newly2 nu1 fun J6 su1 fu1 => ?_
    have Du1 := Dps.same su1
    have du1 : u1 ≠ d := (Dps.ne nu1).symm
    walk_at "rd"
    intro u2 nu2
    first | refine newly nu2 fun J7 su2 fu2 => ?_ | refine newly2 nu2 fun J7 su2 fu2 => ?_
    have Du2 := Du1.same su2
    have du2 : u2 ≠ d := (Du1.ne nu2).symm
    walk_at "rd"
    intro o3 no3
    first | refine newly no3 fun J8 so3 fo3 => ?_ | refine newly2 no3 fun J8 so3 fo3 => ?_
    have Do3 := Du2.same so3
    have do3 : o3 ≠ d := (Du2.ne no3).symm
    walk_at "rd"
    intro u3 nu3
    first | refine newly nu3 fun J9 su3 fu3 => ?_ | refine newly2 nu3 fun J9 su3 fu3 => ?_
    have Du3 := Do3.same su3
    have du3 : u3 ≠ d := (Do3.ne nu3).symm
    walk_at "rd"
    intro o4 no4
    first | refine newly no4 fun J10 so4 fo4 => ?_ | refine newly2 no4 fun J10 so4 fo4 => ?_
    have Do4 := Du3.same so4
    have do4 : o4 ≠ d := (Du3.ne no4).symm
    walk_at "rd"
    intro u4 nu4
    first | refine newly nu4 fun J11 su4 fu4 => ?_ | refine newly2 nu4 fun J11 su4 fu4 => ?_
    have Du4 := Do4.same su4
    have du4 : u4 ≠ d := (Do4.ne nu4).symm
    walk_at "rd"
    intro o5 no5
    first | refine newly no5 fun J12 so5 fo5 => ?_ | refine newly2 no5 fun J12 so5 fo5 => ?_
    have Do5 := Du4.same so5
    have do5 : o5 ≠ d := (Du4.ne no5).symm
    walk_at "rd"
    intro u5 nu5
    first | refine newly nu5 fun J13 su5 fu5 => ?_ | refine newly2 nu5 fun J13 su5 fu5 => ?_
    have Du5 := Do5.same su5
    have du5 : u5 ≠ d := (Do5.ne nu5).symm
    walk_at "rd"
    intro pl npl
    first | refine newly npl fun J14 spl fpl => ?_ | refine newly2 npl fun J14 spl fpl => ?_
    have Dpl := Du5.same spl
    have dpl : pl ≠ d := (Du5.ne npl).symm
    walk_at "rd"
    refine ⟨ps, pl, _, _, rfl, rfl, (spl _ _ (su5 _ _ (so5 _ _ (su4 _ _ (so4 _ _ (su3 _ _ (so3 _ _ (su2 _ _ (su1 _ _ fps))))))))), fpl, by show 5 + 5 ≤ sizeLine; decide, fun pc nc => ?_⟩
    first | refine newly nc fun JC sc fc => ?_ | refine newly2 nc fun JC sc fc => ?_
    have Dc := Dpl.same sc
    have dc : pc ≠ d := (Dpl.ne nc).symm
    walk_at "rd"
    refine ⟨d, pc, _, rfl, by simp, by simp, Dc, fun H' sb => .inl (SqL.of (sb _ _ dc fc)), fun HM v sbm DM hv => ?_⟩
    have all : SB d H JC := sA.trans ((((((((((((((((SB.of st1).trans (SB.of st2)).trans (SB.of st3)).trans (SB.of st4)).trans (SB.of st5)).trans (SB.of sps)).trans (SB.of su1)).trans (SB.of su2)).trans (SB.of so3)).trans (SB.of su3)).trans (SB.of so4)).trans (SB.of su4)).trans (SB.of so5)).trans (SB.of su5)).trans (SB.of spl)).trans (SB.of sc))
    have far : ∀ a o, J14 a = some o → a ≠ d → ∀ H', SB d HM H' → H' a = some o := fun a o e n H' e' => e' _ _ n (sbm _ _ n (sc _ _ e))
    refine q HM v (all.trans sbm) DM ?_
    simp only [List.cons_append, List.nil_append, List.mem_cons, List.not_mem_nil, or_false] at hv
    rcases hv with rfl | rfl | rfl | rfl | rfl | rfl | rfl | rfl | rfl | rfl
    · exact ⟨t1, _, _, rfl, fun H' e' => ⟨SqT.of (far _ _ (spl _ _ (su5 _ _ (so5 _ _ (su4 _ _ (so4 _ _ (su3 _ _ (so3 _ _ (su2 _ _ (su1 _ _ (sps _ _ (st5 _ _ (st4 _ _ (st3 _ _ (st2 _ _ ft1)))))))))))))) dt1 H' e'), .inl ⟨n, rfl, by rw [decide_eq_true (show -(10 ^ 60) < n by omega), decide_eq_true n1]; rfl⟩⟩⟩
    · exact ⟨t2, _, _, rfl, fun H' e' => ⟨SqT.of (far _ _ (spl _ _ (su5 _ _ (so5 _ _ (su4 _ _ (so4 _ _ (su3 _ _ (so3 _ _ (su2 _ _ (su1 _ _ (sps _ _ (st5 _ _ (st4 _ _ (st3 _ _ ft2))))))))))))) dt2 H' e'), .inl ⟨-n, rfl, by rw [decide_eq_true (show -(10 ^ 60) < -n by omega), decide_eq_true (show -n < 10 ^ 60 by omega)]; rfl⟩⟩⟩
    · exact ⟨t3, _, _, rfl, fun H' e' => ⟨SqT.of (far _ _ (spl _ _ (su5 _ _ (so5 _ _ (su4 _ _ (so4 _ _ (su3 _ _ (so3 _ _ (su2 _ _ (su1 _ _ (sps _ _ (st5 _ _ (st4 _ _ ft3)))))))))))) dt3 H' e'), .inl ⟨_, rfl, by rw [decide_eq_false (show ¬ (10 ^ (60 : Int).toNat + n < 10 ^ 60) from big1 n0), Bool.and_false]⟩⟩⟩
    · exact ⟨t4, _, _, rfl, fun H' e' => ⟨SqT.of (far _ _ (spl _ _ (su5 _ _ (so5 _ _ (su4 _ _ (so4 _ _ (su3 _ _ (so3 _ _ (su2 _ _ (su1 _ _ (sps _ _ (st5 _ _ ft4))))))))))) dt4 H' e'), .inl ⟨_, rfl, by rw [decide_eq_false (show ¬ (-(10 ^ 60) < -(10 ^ (60 : Int).toNat) - n) from big2 n0), Bool.false_and]⟩⟩⟩
    · exact ⟨t5, _, _, rfl, fun H' e' => ⟨SqT.of (far _ _ (spl _ _ (su5 _ _ (so5 _ _ (su4 _ _ (so4 _ _ (su3 _ _ (so3 _ _ (su2 _ _ (su1 _ _ (sps _ _ ft5)))))))))) dt5 H' e'), .inr ⟨rfl, .inl ⟨_, rfl⟩⟩⟩⟩
    · exact ⟨u1, _, _, rfl, fun H' e' => ⟨SqT.of (far _ _ (spl _ _ (su5 _ _ (so5 _ _ (su4 _ _ (so4 _ _ (su3 _ _ (so3 _ _ (su2 _ _ fu1)))))))) du1 H' e'), .inr ⟨rfl, .inr (isi_ty (.base .non) (by decide +kernel))⟩⟩⟩
    · exact ⟨u2, _, _, rfl, fun H' e' => ⟨SqT.of (far _ _ (spl _ _ (su5 _ _ (so5 _ _ (su4 _ _ (so4 _ _ (su3 _ _ (so3 _ _ fu2))))))) du2 H' e'), .inr ⟨rfl, .inr (isi_ty (.base (.str _)) (by decide +kernel))⟩⟩⟩
    · exact ⟨u3, _, _, rfl, fun H' e' => ⟨SqT.of (far _ _ (spl _ _ (su5 _ _ (so5 _ _ (su4 _ _ (so4 _ _ fu3))))) du3 H' e'), .inr ⟨rfl, .inr (isi_ty (.base (.tup (far _ _ (spl _ _ (su5 _ _ (so5 _ _ (su4 _ _ (so4 _ _ (su3 _ _ fo3)))))) do3 H' e'))) (by decide +kernel))⟩⟩⟩
    · exact ⟨u4, _, _, rfl, fun H' e' => ⟨SqT.of (far _ _ (spl _ _ (su5 _ _ (so5 _ _ fu4))) du4 H' e'), .inr ⟨rfl, .inr (isi_ty (.base (.lst (far _ _ (spl _ _ (su5 _ _ (so5 _ _ (su4 _ _ fo4)))) do4 H' e'))) (by decide +kernel))⟩⟩⟩
    · exact ⟨u5, _, _, rfl, fun H' e' => ⟨SqT.of (far _ _ (spl _ _ fu5) du5 H' e'), .inr ⟨rfl, .inr (isi_ty (.base (.dK (far _ _ (spl _ _ (su5 _ _ fo5)) do5 H' e'))) (by decide +kernel))⟩⟩⟩
end




abbrev s_law : Stmt := topS 16
abbrev N_law : List Str := ["script", "spot", "dice", "turn", "value", "pair", "some", "one"]
theorem sc_law : FnScope N_law ["script"] (defScope s_law) := ⟨rfl, rfl, rfl, by decide +kernel, rfl, by decide +kernel, by decide +kernel⟩

theorem labels_same {K : PySem.W.Frag} {H : Hp} {xs : List V} (h : ∀ x ∈ xs, It K H x) : labels2 xs = labels xs := by
  have e : ∀ ys : List V, (∀ y ∈ ys, It K H y) → ys.all inMenu = ys.all nm := fun ys => by
    induction ys with
    | nil => intro _; rfl
    | cons y ys ih =>
      intro k
      rw [List.all_cons, List.all_cons, ih fun z hz => k z (List.mem_cons_of_mem _ hz), (k y List.mem_cons_self).eq]
  unfold labels2 labels
  rw [e xs h]
def spLaw (K : PySem.W.Frag) : Sp := fun vs H Q _ => ∃ (a : Addr) (ns : List Int), vs = [.ref a] ∧ SqL K H a (ns.map V.int) ∧ ns.length ≤ 63 ∧ ∀ H', Q (.bl true) H'
section
variable {P : Program} {w : World} {K : PySem.W.Frag} {mg : Str → Option Value} {base : Heap}
theorem ok_law {f : Addr} {fd : FuncData} (F : Fun K "law" "law" s_law f fd) (RD : Ok P w K mg base 1 "_law_dice" ["script", "spot"] (spDice K)) (RV : Ok P w K mg base 3 "_law_value" ["dice"] (spValue2 K)) (RM : Ok P w K mg base 3 "_law_number" ["dice"] (spNumber K)) (RL : Ok P w K mg base 2 "is_labels" ["value"] (spLabels K)) (RA : Ok P w K mg base 1 "_law_are_labels" ["value"] (spAre K)) (RI : Ok P w K mg base 1 "is_integer" ["value"] (spInteger K))
    (z_len : mg "len" = none) (z_range : mg "range" = none) (z_min : mg "min" = none) (z_max : mg "max" = none) (z_repr : mg "repr" = none) : FnOk P w K mg base CX0 4 f fd ["script"] (spLaw K) := by
  obtain ⟨fD, fdD, g__law_dice, k__law_dice, b__law_dice, G__law_dice⟩ := RD
  obtain ⟨fV, fdV, g__law_value, k__law_value, b__law_value, G__law_value⟩ := RV
  obtain ⟨fM, fdM, g__law_number, k__law_number, b__law_number, G__law_number⟩ := RM
  obtain ⟨fL, fdL, g_is_labels, k_is_labels, b_is_labels, G_is_labels⟩ := RL
  obtain ⟨fA, fdA, g__law_are_labels, k__law_are_labels, b__law_are_labels, G__law_are_labels⟩ := RA
  obtain ⟨fI, fdI, g_is_integer, k_is_integer, b_is_integer, G_is_integer⟩ := RI
  refine F.ok sc_law (fun vs H Q E h => ?_) (fun cdv A outer s H vs Q E hr h => ?_)
  · obtain ⟨a, ns, rfl, _⟩ := h
    rfl
  · obtain ⟨a, ns, rfl, hS, hl, q⟩ := h
    have hr__law_value := hr
    have hr__law_number := hr
    have hr_is_labels : Room 2 _ := hr.mono (by decide)
    have hr__law_dice : Room 1 _ := hr.mono (by decide)
    have hr_is_integer := hr__law_dice
    have hr__law_are_labels := hr__law_dice
    refine ⟨_, (pss_cons (ps_for PassesOwn.never rfl (pi_range1 (by rfl) z_range (pa_cons (pe_callB (call_max2 rfl) (by rfl) z_max Rw.bt_max (pa_cons pe_int (pa_cons (pe_callB (call_min2 rfl) (by rfl) z_min Rw.bt_min (pa_cons pe_int (pa_cons (pe_callB (Rw.k_len (K := K)) (by rfl) z_len Rw.bt_len (pa_cons (pv 0) pa_nil)) pa_nil))) pa_nil))) pa_nil)) (pg_name (i := 1) sc_law.nd rfl (.inl rfl))
   (pss_cons (ps_set (i := 2) sc_law.nd rfl (.inl rfl) (pe_call G__law_dice hr__law_dice (by rfl) g__law_dice k__law_dice b__law_dice .nil pass0 (pa_cons (pv 0) (pa_cons (pv 1) pa_nil))))
  (pss_one (ps_for PassesOwn.never rfl (pi_range1 (by rfl) z_range (pa_cons pe_int pa_nil)) (pg_name (i := 3) sc_law.nd rfl (.inl rfl))
   (pss_cons (ps_par (i := 4) (j := 5) (by rfl) sc_law.nd rfl rfl (by decide) rfl rfl (pa_cons (pe_call G__law_value hr__law_value (by rfl) g__law_value k__law_value b__law_value .nil pass0 (pa_cons (pv 2) pa_nil)) (pa_cons (pe_call G__law_number hr__law_number (by rfl) g__law_number k__law_number b__law_number .nil pass0 (pa_cons (pv 2) pa_nil)) pa_nil)) (by rfl))
  (pss_one (ps_if (PW.pt (pw_or (pt_cmpR op_ne (pe_callB Rw.call_repr_bool (by rfl) z_repr Rw.bt_repr (pa_cons (pe_call G_is_labels hr_is_labels (by rfl) g_is_labels k_is_labels b_is_labels .nil pass0 (pa_cons (pv 4) pa_nil)) pa_nil)) (pe_callB Rw.call_repr_bool (by rfl) z_repr Rw.bt_repr (pa_cons (pe_call G__law_are_labels hr__law_are_labels (by rfl) g__law_are_labels k__law_are_labels b__law_are_labels .nil pass0 (pa_cons (pv 4) pa_nil)) pa_nil)) (nomark _)) (pw_or1 (pt_cmpR op_ne (pe_callB Rw.call_repr_bool (by rfl) z_repr Rw.bt_repr (pa_cons (pe_call G_is_integer hr_is_integer (by rfl) g_is_integer k_is_integer b_is_integer .nil pass0 (pa_cons (pe_ix (Rw.k_ixT (K := K)) (pv 5) pe_int (fun _ _ => rfl)) pa_nil)) pa_nil)) (pe_callB Rw.call_repr_bool (by rfl) z_repr Rw.bt_repr (pa_cons (pe_ix (Rw.k_ixT (K := K)) (pv 5) pe_int (fun _ _ => rfl)) pa_nil)) (nomark _))))) (pss_one (ps_ret pe_bl)) pss_nil)))))))
  (pss_cons (ps_set (i := 6) sc_law.nd rfl (.inl rfl) (pe_lst (pa_cons (pe_tup pa_nil) (pa_cons (pe_tup (pa_cons pe_str (pa_cons pe_str (pa_cons pe_str pa_nil)))) (pa_cons (pe_tup (pa_cons pe_str (pa_cons pe_str (pa_cons pe_str (pa_cons pe_str pa_nil))))) (pa_cons (pe_tup (pa_cons pe_str (pa_cons pe_str pa_nil))) (pa_cons (pe_lst (pa_cons pe_str pa_nil)) pa_nil)))))))
  (pss_cons (ps_if (pt_cmpR (Rw.k_neD (K := K) hr.units) (pe_lc (own := [("one", 7)]) rfl sc_law.nd (Rw.k_pl (K := K) (pv 6)) (blkOk_by (own := [("one", 7)]) (N := N_law) (sc := defScope s_law) (by decide +kernel)) (fun _ _ _ _ _ => (pg_name (i := 7) sc_law.nd rfl (.inl rfl))) (fun _ _ _ _ _ => pts_nil) (fun _ _ _ _ _ => (pe_call G_is_labels hr_is_labels (by rfl) g_is_labels k_is_labels b_is_labels .nil pass0 (pa_cons (pv 7) pa_nil)))) (pe_lst (pa_cons pe_bl (pa_cons pe_bl (pa_cons pe_bl (pa_cons pe_bl (pa_cons pe_bl pa_nil)))))) (nomark _)) (pss_one (ps_ret pe_bl)) pss_nil)
  (pss_one (ps_ret (pe_cmpR (Rw.k_eqD (K := K) hr.units) (pe_lst (pa_cons (pe_call G_is_integer hr_is_integer (by rfl) g_is_integer k_is_integer b_is_integer .nil pass0 (pa_cons pe_bl pa_nil)) (pa_cons (pe_call G_is_integer hr_is_integer (by rfl) g_is_integer k_is_integer b_is_integer .nil pass0 (pa_cons (pe_un un_neg (pe_op op_pow pe_int pe_int)) pa_nil)) pa_nil))) (pe_lst (pa_cons pe_bl (pa_cons pe_bl pa_nil))) (nomark _))))))), ?_⟩
    walk_at "rd"
    refine ⟨a, _, rfl, .inl hS, ?_⟩
    refine ⟨_, _, rfl, ?_⟩
    refine ⟨_, _, rfl, ?_⟩
    generalize hm : (if (if ((ns.map V.int).length : Int) < 8 then ((ns.map V.int).length : Int) else 8) > 1 then (if ((ns.map V.int).length : Int) < 8 then ((ns.map V.int).length : Int) else 8) else 1) = m
    have hm2 : m ≤ 8 := by
      rw [← hm]
      split <;> split <;> omega
    have hm1 : 1 ≤ m := by
      rw [← hm]
      split <;> split <;> omega
    refine ⟨_, rfl, by omega, by omega, ?_⟩
    refine for_range (lo := 0) (n := _) (fun i σ H1 => ∃ y1 y2 y3 y4 y5, σ = [some (.ref a), y1, y2, y3, y4, y5, none, none] ∧ Same H H1) ⟨none, none, none, none, none, rfl, Same.refl H⟩ ?_ ?_
    · rintro i σ H1 hi ⟨y1, y2, y3, y4, y5, rfl, sm⟩
      walk_at "rd"
      refine ⟨a, ns, i, by rw [Int.zero_add]; rfl, sm.seq hS, hl, fun H2 d s2 nd D2 => ?_⟩
      have nd0 : H d = none := sm.free nd
      walk_at "rd"
      refine for_range (lo := 0) (n := _) (fun j σ H3 => ∃ y3 y4 y5, σ = [some (.ref a), some (.int (0 + i)), some (.ref d), y3, y4, y5, none, none] ∧ SB d H2 H3 ∧ Dice H3 d) ⟨y3, y4, y5, rfl, SB.refl _ _, D2⟩ ?_ ?_
      · rintro j σ H3 hj ⟨y3, y4, y5, rfl, sb3, D3⟩
        walk_at "rd"
        intro H4 v sb4 D4 hv
        walk_at "rd"
        intro H5 pr sb5 D5 hn
        have hv' := hv.sb sb5
        obtain ⟨pa, x, b, rfl, hn⟩ := hn
        have sb35 := (sb3.trans sb4).trans sb5
        have fin : ∀ H6, Same H5 H6 → SB d H2 H6 ∧ Dice H6 d := fun H6 s => ⟨sb35.trans (.of s), D5.same s⟩
        walk_at "rd"
        refine ⟨_, _, rfl, ?_⟩
        walk_at "rd"
        rcases hv' with ⟨c, xs, rfl, xl, hx⟩ | hi
        · obtain ⟨c1, c2⟩ := hx H5 (SB.refl d H5)
          refine .inl ⟨c, xs, rfl, c1, by omega, fun x hx => (c2 x hx).lab, fun H6 s6 => ?_⟩
          walk_at "rd"
          refine .inl ⟨c, xs, rfl, seqT_same s6 c1, by omega, fun x hx => (c2 x hx).same s6, fun H7 s7 => ?_⟩
          rw [labels_same c2]
          walk_at "rd"
          refine iteNS rfl ?_
          walk_at "rd"
          have s57 := s6.trans s7
          obtain ⟨m1, m2⟩ := hn H7 (SB.of s57)
          refine ⟨pa, [x, .bl b], 0, x, rfl, rfl, m1, rfl, ?_⟩
          walk_at "rd"
          refine ⟨x, b, rfl, m2, ?_⟩
          walk_at "rd"
          refine ⟨pa, [x, .bl b], 1, .bl b, rfl, rfl, m1, rfl, ?_⟩
          walk_at "rd"
          refine iteNS rfl ?_
          exact ⟨_, _, _, rfl, fin H7 s57⟩
        · have hi5 := hi H5 (SB.refl d H5)
          refine .inr ⟨hi5, fun H6 s6 => ?_⟩
          walk_at "rd"
          refine .inr ⟨hi5.same s6, fun H7 s7 => ?_⟩
          walk_at "rd"
          have s57 := s6.trans s7
          obtain ⟨m1, m2⟩ := hn H7 (SB.of s57)
          refine ⟨pa, [x, .bl b], 0, x, rfl, rfl, m1, rfl, ?_⟩
          walk_at "rd"
          refine ⟨x, b, rfl, m2, ?_⟩
          walk_at "rd"
          refine ⟨pa, [x, .bl b], 1, .bl b, rfl, rfl, m1, rfl, ?_⟩
          walk_at "rd"
          refine iteNS rfl ?_
          exact ⟨_, _, _, rfl, fin H7 s57⟩
      · rintro σ H3 ⟨y3, y4, y5, rfl, sb3, D3⟩
        refine ⟨_, _, _, _, _, rfl, fun b o hb => sb3 b o (ne_of_none hb nd0) (s2 b o (sm b o hb))⟩
    · rintro σ H1 ⟨y1, y2, y3, y4, y5, rfl, sm⟩
      walk_at "rd"
      intro p1 n1
      first | refine newly n1 fun Ha sa fa => ?_ | refine newly2 n1 fun Ha sa fa => ?_
      walk_at "rd"
      intro p2 n2
      first | refine newly n2 fun Hb sb fb => ?_ | refine newly2 n2 fun Hb sb fb => ?_
      walk_at "rd"
      intro p3 n3
      first | refine newly n3 fun Hc sc fc => ?_ | refine newly2 n3 fun Hc sc fc => ?_
      walk_at "rd"
      intro p4 n4
      first | refine newly n4 fun Hd sd fd => ?_ | refine newly2 n4 fun Hd sd fd => ?_
      walk_at "rd"
      intro p5 n5
      first | refine newly n5 fun He se fe => ?_ | refine newly2 n5 fun He se fe => ?_
      walk_at "rd"
      intro p n
      first | refine newly n fun Hf sf ff => ?_ | refine newly2 n fun Hf sf ff => ?_
      have g1 := sf _ _ (se _ _ (sd _ _ (sc _ _ (sb _ _ fa))))
      have g2 := sf _ _ (se _ _ (sd _ _ (sc _ _ fb)))
      have g3 := sf _ _ (se _ _ (sd _ _ fc))
      have g4 := sf _ _ (se _ _ fd)
      have g5 := sf _ _ fe
      walk_at "rd"
      refine ⟨⟨_, SqL.of ff⟩, fun D nD => ?_⟩
      refine lc_list (K := K) (a := p) (xs := [.ref p1, .ref p2, .ref p3, .ref p4, .ref p5]) (PvA Hf D fun i => ([true, true, false, false, false].map V.bl).take i) (PvA.start nD rfl) (fun i H2 _ p2 => SqL.of (p2.1 _ _ ff)) (fun i x H2 hx p2 => ?_) (fun H2 p2 => ?_)
      · have i5 : i < 5 := (List.getElem?_eq_some_iff.mp hx).1
        have fin : ∀ b : Bool, [true, true, false, false, false][i]? = some b → ∀ H5, Same H2 H5 → ∃ a, H5 D = some (.lst a) ∧ a.length < sizeLine ∧ PvA Hf D (fun i => ([true, true, false, false, false].map V.bl).take i) (i + 1) (upd H5 D (.lst (a ++ [V.bl b]))) := fun b hb H5 s5 =>
          PvA.put nD (p2.1.trans s5) (s5 _ _ p2.2) (take_lt (by simpa using i5) (by decide)) (take_put (at_map V.bl hb))
        refine ⟨rfl, ?_⟩
        walk_at "rd"
        have lab : ∀ zs : List Str, zs.all (fun z => decide (z.length ≤ 10)) = true → ∀ x ∈ zs.map V.str, Lab K H2 x := fun zs h x hx => by
          obtain ⟨z, hz, rfl⟩ := List.mem_map.mp hx
          exact .inl ⟨z, rfl, Nat.le_of_lt (small1000 (by have := of_decide_eq_true (List.all_eq_true.mp h z hz); omega))⟩
        match i, i5 with
        | 0, _ =>
          obtain rfl := Option.some.inj hx
          exact .inl ⟨p1, [], rfl, SqT.of (p2.1 _ _ g1), by decide, fun x hx => by simp at hx, fun H5 s5 => fin _ (by decide) H5 s5⟩
        | 1, _ =>
          obtain rfl := Option.some.inj hx
          exact .inl ⟨_, (["a", "b", "c"] : List Str).map V.str, rfl, SqT.of (p2.1 _ _ g2), by decide, lab _ (by decide), fun H5 s5 => fin _ (by decide +kernel) H5 s5⟩
        | 2, _ =>
          obtain rfl := Option.some.inj hx
          exact .inl ⟨_, (["a", "b", "c", "d"] : List Str).map V.str, rfl, SqT.of (p2.1 _ _ g3), by decide, lab _ (by decide), fun H5 s5 => fin _ (by decide +kernel) H5 s5⟩
        | 3, _ =>
          obtain rfl := Option.some.inj hx
          exact .inl ⟨_, (["b", "a"] : List Str).map V.str, rfl, SqT.of (p2.1 _ _ g4), by decide, lab _ (by decide), fun H5 s5 => fin _ (by decide +kernel) H5 s5⟩
        | 4, _ =>
          obtain rfl := Option.some.inj hx
          exact .inr ⟨isi_ty (.base (.lst (p2.1 _ _ g5))) (by decide +kernel), fun H5 s5 => fin _ (by decide) H5 s5⟩
      · have e2 : H2 D = some (.lst ([true, true, false, false, false].map V.bl)) := p2.2
        walk_at "rd"
        intro p6 n6
        first | refine newly n6 fun Hg sg fg => ?_ | refine newly2 n6 fun Hg sg fg => ?_
        walk_at "rd"
        refine ⟨_, _, .lst (SqL.of (sg _ _ e2)) (dp_bls _), .lst (SqL.of fg) (dp_bls [true, true, false, false, false]), by decide +kernel, by decide +kernel, ?_⟩
        have ev : PyData.eqv (.list ([true, true, false, false, false].map PyData.bool)) (.list ([true, true, false, false, false].map PyData.bool)) = true := by decide +kernel
        rw [ev]
        walk_at "rd"
        refine ⟨.bl true, false, rfl, .inr ⟨rfl, .inl ⟨_, rfl⟩⟩, ?_⟩
        walk_at "rd"
        refine ⟨_, false, rfl, .inl ⟨_, rfl, by decide +kernel⟩, ?_⟩
        walk_at "rd"
        intro p7 n7
        first | refine newly n7 fun Hh sh fh => ?_ | refine newly2 n7 fun Hh sh fh => ?_
        walk_at "rd"
        intro p8 n8
        first | refine newly n8 fun Hi si fi => ?_ | refine newly2 n8 fun Hi si fi => ?_
        walk_at "rd"
        refine ⟨_, _, .lst (SqL.of (si _ _ fh)) (dp_bls [false, false]), .lst (SqL.of fi) (dp_bls [false, false]), by decide +kernel, by decide +kernel, ?_⟩
        have ew : PyData.eqv (.list ([false, false].map PyData.bool)) (.list ([false, false].map PyData.bool)) = true := by decide +kernel
        rw [ew]
        exact q _
end


theorem all_mk {l : PySem.W.OpenLaw} {w : World} {K : PySem.W.Frag} {h : Heap} {mg : Str → Option Value} {fa : Addr} (X : K.In h) (G : h.Ns mainGlobals mg) (hfa : mg "law" = some (.ref fa))
    {f1 f2 f3 f4 f5 f6 f7 f8 f9 f10 f11 f12 : Addr} {od1 an1 od2 an2 od3 an3 od4 an4 od5 an5 od6 an6 od7 an7 od8 an8 od9 an9 od10 an10 od11 an11 od12 an12 : Option Addr} {sl1 sl2 sl3 sl4 sl5 sl6 sl7 sl8 sl9 sl10 sl11 sl12 : Array (Option Value)} {oc1 kV1 dc1 pm1 cd1 ct1 oc2 kV2 dc2 pm2 cd2 ct2 oc3 kV3 dc3 pm3 cd3 ct3 oc4 kV4 dc4 pm4 cd4 ct4 oc5 kV5 dc5 pm5 cd5 ct5 oc6 kV6 dc6 pm6 cd6 ct6 oc7 kV7 dc7 pm7 cd7 ct7 oc8 kV8 dc8 pm8 cd8 ct8 oc9 kV9 dc9 pm9 cd9 ct9 oc10 kV10 dc10 pm10 cd10 ct10 oc11 kV11 dc11 pm11 cd11 ct11 oc12 kV12 dc12 pm12 cd12 ct12 : Value}
    (a1 : PySem.W.nsIn K mainGlobals "is_name" = some (some (.ref f1))) (l1 : K.lookup f1 = some ⟨oc1, od1, .func (PySem.W.fnOf "is_name" "is_name" (defArgs s_is_name) (defBody s_is_name) (defScope s_is_name) .none kV1 dc1 pm1 an1 cd1 ct1), sl1⟩) (c1 : PySem.W.codeIn K cd1 "is_name" = true) (k1 : PySem.W.keepIn K (.ref f1) = true)
    (a2 : PySem.W.nsIn K mainGlobals "is_integer" = some (some (.ref f2))) (l2 : K.lookup f2 = some ⟨oc2, od2, .func (PySem.W.fnOf "is_integer" "is_integer" (defArgs s_is_integer) (defBody s_is_integer) (defScope s_is_integer) .none kV2 dc2 pm2 an2 cd2 ct2), sl2⟩) (c2 : PySem.W.codeIn K cd2 "is_integer" = true) (k2 : PySem.W.keepIn K (.ref f2) = true)
    (a3 : PySem.W.nsIn K mainGlobals "is_ascending" = some (some (.ref f3))) (l3 : K.lookup f3 = some ⟨oc3, od3, .func (PySem.W.fnOf "is_ascending" "is_ascending" (defArgs s_is_ascending) (defBody s_is_ascending) (defScope s_is_ascending) .none kV3 dc3 pm3 an3 cd3 ct3), sl3⟩) (c3 : PySem.W.codeIn K cd3 "is_ascending" = true) (k3 : PySem.W.keepIn K (.ref f3) = true)
    (a4 : PySem.W.nsIn K mainGlobals "is_labels" = some (some (.ref f4))) (l4 : K.lookup f4 = some ⟨oc4, od4, .func (PySem.W.fnOf "is_labels" "is_labels" (defArgs s_is_labels) (defBody s_is_labels) (defScope s_is_labels) .none kV4 dc4 pm4 an4 cd4 ct4), sl4⟩) (c4 : PySem.W.codeIn K cd4 "is_labels" = true) (k4 : PySem.W.keepIn K (.ref f4) = true)
    (a5 : PySem.W.nsIn K mainGlobals "_law_dice" = some (some (.ref f5))) (l5 : K.lookup f5 = some ⟨oc5, od5, .func (PySem.W.fnOf "_law_dice" "_law_dice" (defArgs s__law_dice) (defBody s__law_dice) (defScope s__law_dice) .none kV5 dc5 pm5 an5 cd5 ct5), sl5⟩) (c5 : PySem.W.codeIn K cd5 "_law_dice" = true) (k5 : PySem.W.keepIn K (.ref f5) = true)
    (a6 : PySem.W.nsIn K mainGlobals "_law_roll" = some (some (.ref f6))) (l6 : K.lookup f6 = some ⟨oc6, od6, .func (PySem.W.fnOf "_law_roll" "_law_roll" (defArgs s__law_roll) (defBody s__law_roll) (defScope s__law_roll) .none kV6 dc6 pm6 an6 cd6 ct6), sl6⟩) (c6 : PySem.W.codeIn K cd6 "_law_roll" = true) (k6 : PySem.W.keepIn K (.ref f6) = true)
    (a7 : PySem.W.nsIn K mainGlobals "_law_pick" = some (some (.ref f7))) (l7 : K.lookup f7 = some ⟨oc7, od7, .func (PySem.W.fnOf "_law_pick" "_law_pick" (defArgs s__law_pick) (defBody s__law_pick) (defScope s__law_pick) .none kV7 dc7 pm7 an7 cd7 ct7), sl7⟩) (c7 : PySem.W.codeIn K cd7 "_law_pick" = true) (k7 : PySem.W.keepIn K (.ref f7) = true)
    (a8 : PySem.W.nsIn K mainGlobals "_law_some" = some (some (.ref f8))) (l8 : K.lookup f8 = some ⟨oc8, od8, .func (PySem.W.fnOf "_law_some" "_law_some" (defArgs s__law_some) (defBody s__law_some) (defScope s__law_some) .none kV8 dc8 pm8 an8 cd8 ct8), sl8⟩) (c8 : PySem.W.codeIn K cd8 "_law_some" = true) (k8 : PySem.W.keepIn K (.ref f8) = true)
    (a9 : PySem.W.nsIn K mainGlobals "_law_are_labels" = some (some (.ref f9))) (l9 : K.lookup f9 = some ⟨oc9, od9, .func (PySem.W.fnOf "_law_are_labels" "_law_are_labels" (defArgs s__law_are_labels) (defBody s__law_are_labels) (defScope s__law_are_labels) .none kV9 dc9 pm9 an9 cd9 ct9), sl9⟩) (c9 : PySem.W.codeIn K cd9 "_law_are_labels" = true) (k9 : PySem.W.keepIn K (.ref f9) = true)
    (a10 : PySem.W.nsIn K mainGlobals "_law_value" = some (some (.ref f10))) (l10 : K.lookup f10 = some ⟨oc10, od10, .func (PySem.W.fnOf "_law_value" "_law_value" (defArgs s__law_value) (defBody s__law_value) (defScope s__law_value) .none kV10 dc10 pm10 an10 cd10 ct10), sl10⟩) (c10 : PySem.W.codeIn K cd10 "_law_value" = true) (k10 : PySem.W.keepIn K (.ref f10) = true)
    (a11 : PySem.W.nsIn K mainGlobals "_law_number" = some (some (.ref f11))) (l11 : K.lookup f11 = some ⟨oc11, od11, .func (PySem.W.fnOf "_law_number" "_law_number" (defArgs s__law_number) (defBody s__law_number) (defScope s__law_number) .none kV11 dc11 pm11 an11 cd11 ct11), sl11⟩) (c11 : PySem.W.codeIn K cd11 "_law_number" = true) (k11 : PySem.W.keepIn K (.ref f11) = true)
    (a12 : PySem.W.nsIn K mainGlobals "law" = some (some (.ref f12))) (l12 : K.lookup f12 = some ⟨oc12, od12, .func (PySem.W.fnOf "law" "law" (defArgs s_law) (defBody s_law) (defScope s_law) .none kV12 dc12 pm12 an12 cd12 ct12), sl12⟩) (c12 : PySem.W.codeIn K cd12 "law" = true) (k12 : PySem.W.keepIn K (.ref f12) = true)
    (y_len : PySem.W.nsIn K mainGlobals "len" = some none)
    (y_int : PySem.W.nsIn K mainGlobals "int" = some none)
    (y_abs : PySem.W.nsIn K mainGlobals "abs" = some none)
    (y_max : PySem.W.nsIn K mainGlobals "max" = some none)
    (y_min : PySem.W.nsIn K mainGlobals "min" = some none)
    (y_list : PySem.W.nsIn K mainGlobals "list" = some none)
    (y_range : PySem.W.nsIn K mainGlobals "range" = some none)
    (y_isinstance : PySem.W.nsIn K mainGlobals "isinstance" = some none)
    (y_str : PySem.W.nsIn K mainGlobals "str" = some none)
    (y_bool : PySem.W.nsIn K mainGlobals "bool" = some none)
    (y_tuple : PySem.W.nsIn K mainGlobals "tuple" = some none)
    (y_all : PySem.W.nsIn K mainGlobals "all" = some none)
    (y_zip : PySem.W.nsIn K mainGlobals "zip" = some none)
    (y_set : PySem.W.nsIn K mainGlobals "set" = some none)
    (y_sorted : PySem.W.nsIn K mainGlobals "sorted" = some none)
    (y_repr : PySem.W.nsIn K mainGlobals "repr" = some none)
    {t_MAX_LETTERS : Tok} (y_MAX_LETTERS : PySem.W.nsIn K mainGlobals "MAX_LETTERS" = some (some (.int 8 t_MAX_LETTERS)))
    {t_MAX_LABELS : Tok} (y_MAX_LABELS : PySem.W.nsIn K mainGlobals "MAX_LABELS" = some (some (.int 3 t_MAX_LABELS)))
    {x_NO_NAMES : Addr} {e_NO_NAMES : Array DictEntry} {n_NO_NAMES : Nat} (y_NO_NAMES : PySem.W.nsIn K mainGlobals "NO_NAMES" = some (some (.ref x_NO_NAMES))) (w_NO_NAMES : K.lookup x_NO_NAMES = some ⟨.type "dict", none, .dict e_NO_NAMES n_NO_NAMES, #[]⟩) (v_NO_NAMES : Paired (KeyRow w) e_NO_NAMES.toList kws) (u_NO_NAMES : (x_NO_NAMES == sysModules) = false)

    : ∃ fd : FuncData, (∀ (s : Shared) (v : Value), BindsTo s fd ⟨[v], []⟩ [("script", v)]) ∧ ∀ base : Heap, K.In base → base.Ns mainGlobals mg → FnOk l.prog w K mg base CX0 4 fa fd ["script"] (spLaw K) := by
  have e := hfa.symm.trans (PySem.W.mg_of X G a12)
  cases e
  have H1 : Has K mg "is_name" s_is_name ["value"] := ⟨f1, _, PySem.W.mg_of X G a1, fun_mk (st := s_is_name) l1 c1 k1, (fun_mk (st := s_is_name) l1 c1 k1).binds (ps := ["value"]) fun _ _ _ _ _ _ us hl => match us, hl with | [_], _ => rfl⟩
  have H2 : Has K mg "is_integer" s_is_integer ["value"] := ⟨f2, _, PySem.W.mg_of X G a2, fun_mk (st := s_is_integer) l2 c2 k2, (fun_mk (st := s_is_integer) l2 c2 k2).binds (ps := ["value"]) fun _ _ _ _ _ _ us hl => match us, hl with | [_], _ => rfl⟩
  have H3 : Has K mg "is_ascending" s_is_ascending ["items"] := ⟨f3, _, PySem.W.mg_of X G a3, fun_mk (st := s_is_ascending) l3 c3 k3, (fun_mk (st := s_is_ascending) l3 c3 k3).binds (ps := ["items"]) fun _ _ _ _ _ _ us hl => match us, hl with | [_], _ => rfl⟩
  have H4 : Has K mg "is_labels" s_is_labels ["value"] := ⟨f4, _, PySem.W.mg_of X G a4, fun_mk (st := s_is_labels) l4 c4 k4, (fun_mk (st := s_is_labels) l4 c4 k4).binds (ps := ["value"]) fun _ _ _ _ _ _ us hl => match us, hl with | [_], _ => rfl⟩
  have H5 : Has K mg "_law_dice" s__law_dice ["script", "spot"] := ⟨f5, _, PySem.W.mg_of X G a5, fun_mk (st := s__law_dice) l5 c5 k5, (fun_mk (st := s__law_dice) l5 c5 k5).binds (ps := ["script", "spot"]) fun _ _ _ _ _ _ us hl => match us, hl with | [_, _], _ => rfl⟩
  have H6 : Has K mg "_law_roll" s__law_roll ["dice", "total"] := ⟨f6, _, PySem.W.mg_of X G a6, fun_mk (st := s__law_roll) l6 c6 k6, (fun_mk (st := s__law_roll) l6 c6 k6).binds (ps := ["dice", "total"]) fun _ _ _ _ _ _ us hl => match us, hl with | [_, _], _ => rfl⟩
  have H7 : Has K mg "_law_pick" s__law_pick ["dice", "items"] := ⟨f7, _, PySem.W.mg_of X G a7, fun_mk (st := s__law_pick) l7 c7 k7, (fun_mk (st := s__law_pick) l7 c7 k7).binds (ps := ["dice", "items"]) fun _ _ _ _ _ _ us hl => match us, hl with | [_, _], _ => rfl⟩
  have H8 : Has K mg "_law_some" s__law_some ["dice", "items", "size"] := ⟨f8, _, PySem.W.mg_of X G a8, fun_mk (st := s__law_some) l8 c8 k8, (fun_mk (st := s__law_some) l8 c8 k8).binds (ps := ["dice", "items", "size"]) fun _ _ _ _ _ _ us hl => match us, hl with | [_, _, _], _ => rfl⟩
  have H9 : Has K mg "_law_are_labels" s__law_are_labels ["value"] := ⟨f9, _, PySem.W.mg_of X G a9, fun_mk (st := s__law_are_labels) l9 c9 k9, (fun_mk (st := s__law_are_labels) l9 c9 k9).binds (ps := ["value"]) fun _ _ _ _ _ _ us hl => match us, hl with | [_], _ => rfl⟩
  have H10 : Has K mg "_law_value" s__law_value ["dice"] := ⟨f10, _, PySem.W.mg_of X G a10, fun_mk (st := s__law_value) l10 c10 k10, (fun_mk (st := s__law_value) l10 c10 k10).binds (ps := ["dice"]) fun _ _ _ _ _ _ us hl => match us, hl with | [_], _ => rfl⟩
  have H11 : Has K mg "_law_number" s__law_number ["dice"] := ⟨f11, _, PySem.W.mg_of X G a11, fun_mk (st := s__law_number) l11 c11 k11, (fun_mk (st := s__law_number) l11 c11 k11).binds (ps := ["dice"]) fun _ _ _ _ _ _ us hl => match us, hl with | [_], _ => rfl⟩
  have FL := fun_mk (st := s_law) l12 c12 k12
  have z_len := PySem.W.mg_none_of X G y_len
  have z_int := PySem.W.mg_none_of X G y_int
  have z_abs := PySem.W.mg_none_of X G y_abs
  have z_max := PySem.W.mg_none_of X G y_max
  have z_min := PySem.W.mg_none_of X G y_min
  have z_list := PySem.W.mg_none_of X G y_list
  have z_range := PySem.W.mg_none_of X G y_range
  have z_isinstance := PySem.W.mg_none_of X G y_isinstance
  have z_str := PySem.W.mg_none_of X G y_str
  have z_bool := PySem.W.mg_none_of X G y_bool
  have z_tuple := PySem.W.mg_none_of X G y_tuple
  have z_all := PySem.W.mg_none_of X G y_all
  have z_zip := PySem.W.mg_none_of X G y_zip
  have z_set := PySem.W.mg_none_of X G y_set
  have z_sorted := PySem.W.mg_none_of X G y_sorted
  have z_repr := PySem.W.mg_none_of X G y_repr
  have g_MAX_LETTERS := PySem.W.mg_of X G y_MAX_LETTERS
  have g_MAX_LABELS := PySem.W.mg_of X G y_MAX_LABELS
  have g_NO_NAMES := PySem.W.mg_of X G y_NO_NAMES
  have hk_NO_NAMES := hasKD_of w_NO_NAMES v_NO_NAMES u_NO_NAMES
  refine ⟨PySem.W.fnOf "law" "law" (defArgs s_law) (defBody s_law) (defScope s_law) .none kV12 dc12 pm12 an12 cd12 ct12, fun s v => .of_eq rfl, fun base _ _ => ?_⟩
  have R := ok_roll (P := l.prog) (w := w) (base := base) H6 z_int
  have RP := ok_pick (P := l.prog) (w := w) (base := base) H7 R z_len
  have RS := ok_some (P := l.prog) (w := w) (base := base) H8 R z_len z_list z_range z_min
  have RN := ok_name (P := l.prog) (w := w) (base := base) H1 g_MAX_LETTERS g_NO_NAMES hk_NO_NAMES z_len z_isinstance z_str
  have RI := ok_integer (P := l.prog) (w := w) (base := base) H2 z_isinstance z_int z_bool
  have RC := ok_ascending (P := l.prog) (w := w) (base := base) H3 z_all z_zip
  have RL := ok_labels (P := l.prog) (w := w) (base := base) H4 RN RC g_MAX_LABELS z_len z_isinstance z_tuple z_all
  have RA := ok_are (P := l.prog) (w := w) (base := base) H9 z_len z_isinstance z_tuple z_str z_list z_set z_sorted
  have RV := ok_value (P := l.prog) (w := w) (base := base) H10 R RP RS z_len z_tuple z_sorted
  have RM := ok_number (P := l.prog) (w := w) (base := base) H11 RP
  have RD := ok_dice (P := l.prog) (w := w) (base := base) H5 z_len z_int z_abs z_max
  exact ok_law FL RD RV RM RL RA RI z_len z_range z_min z_max z_repr
end Rw
open PySem PySem.W PyProof.Rows in
set_option maxRecDepth 100000 in
set_option maxHeartbeats 0 in
theorem PySem.Challenge.cw_restwise_k02_labels_and_integers_judged_holds : PySem.Challenge.rw_restwise_k02_labels_and_integers_judged.Holds := by
  w_on; o_law; k_head; (case hw => w_witness2)
  k_fill
  refine L2.walk_of (l := PySem.Challenge.rw_restwise_k02_labels_and_integers_judged) (n := 63) (k := 4) (x := "script") (CX := fun _ => L2.CX0) (sp := fun w => Rw.spLaw _) rfl (by decide) rfl ⟨rfl, by decide, by decide⟩ (fun w h Y => PySem.W.kIn_of Y) ?F (fun _ _ a ns hl _ hS => ⟨a, ns, rfl, hS, hl, fun _ => rfl⟩) (fun _ _ _ _ _ h => h)
  case F =>
    intro w mg fa h KX G hmg
    refine' Rw.all_mk KX G hmg ?a1 ?l1 ?c1 ?k1 ?a2 ?l2 ?c2 ?k2 ?a3 ?l3 ?c3 ?k3 ?a4 ?l4 ?c4 ?k4 ?a5 ?l5 ?c5 ?k5 ?a6 ?l6 ?c6 ?k6 ?a7 ?l7 ?c7 ?k7 ?a8 ?l8 ?c8 ?k8 ?a9 ?l9 ?c9 ?k9 ?a10 ?l10 ?c10 ?k10 ?a11 ?l11 ?c11 ?k11 ?a12 ?l12 ?c12 ?k12 ?y_len ?y_int ?y_abs ?y_max ?y_min ?y_list ?y_range ?y_isinstance ?y_str ?y_bool ?y_tuple ?y_all ?y_zip ?y_set ?y_sorted ?y_repr ?y_MAX_LETTERS ?y_MAX_LABELS ?y_NO_NAMES ?w_NO_NAMES ?v_NO_NAMES ?u_NO_NAMES
    (case a1 => k_is)
    (case l1 => k_is)
    (case c1 => k_is)
    (case k1 => k_is)
    (case a2 => k_is)
    (case l2 => k_is)
    (case c2 => k_is)
    (case k2 => k_is)
    (case a3 => k_is)
    (case l3 => k_is)
    (case c3 => k_is)
    (case k3 => k_is)
    (case a4 => k_is)
    (case l4 => k_is)
    (case c4 => k_is)
    (case k4 => k_is)
    (case a5 => k_is)
    (case l5 => k_is)
    (case c5 => k_is)
    (case k5 => k_is)
    (case a6 => k_is)
    (case l6 => k_is)
    (case c6 => k_is)
    (case k6 => k_is)
    (case a7 => k_is)
    (case l7 => k_is)
    (case c7 => k_is)
    (case k7 => k_is)
    (case a8 => k_is)
    (case l8 => k_is)
    (case c8 => k_is)
    (case k8 => k_is)
    (case a9 => k_is)
    (case l9 => k_is)
    (case c9 => k_is)
    (case k9 => k_is)
    (case a10 => k_is)
    (case l10 => k_is)
    (case c10 => k_is)
    (case k10 => k_is)
    (case a11 => k_is)
    (case l11 => k_is)
    (case c11 => k_is)
    (case k11 => k_is)
    (case a12 => k_is)
    (case l12 => k_is)
    (case c12 => k_is)
    (case k12 => k_is)
    (case y_len => k_is)
    (case y_int => k_is)
    (case y_abs => k_is)
    (case y_max => k_is)
    (case y_min => k_is)
    (case y_list => k_is)
    (case y_range => k_is)
    (case y_isinstance => k_is)
    (case y_str => k_is)
    (case y_bool => k_is)
    (case y_tuple => k_is)
    (case y_all => k_is)
    (case y_zip => k_is)
    (case y_set => k_is)
    (case y_sorted => k_is)
    (case y_repr => k_is)
    (case y_MAX_LETTERS => k_is)
    (case y_MAX_LABELS => k_is)
    (case y_NO_NAMES => k_is)
    (case w_NO_NAMES => k_is)
    (case v_NO_NAMES => exact .cons ⟨⟨_, rfl⟩, rfl⟩ (.cons ⟨⟨_, rfl⟩, rfl⟩ (.cons ⟨⟨_, rfl⟩, rfl⟩ (.cons ⟨⟨_, rfl⟩, rfl⟩ (.cons ⟨⟨_, rfl⟩, rfl⟩ (.cons ⟨⟨_, rfl⟩, rfl⟩ (.cons ⟨⟨_, rfl⟩, rfl⟩ (.cons ⟨⟨_, rfl⟩, rfl⟩ (.cons ⟨⟨_, rfl⟩, rfl⟩ (.nil))))))))))
    (case u_NO_NAMES => decide)

