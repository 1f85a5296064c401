import PyProof.Rows.All
import Wide.All
import OpenK.AllK
import Wide.FinOn
import PyProof.EqAt
import PyProof.EqKinds
import PyProof.TupleCall
import PyProof.Rows.ListStrD
import HandS.ForMost
import HandS.IsInst
import HandS.RaiseMore
import HandS.Codes
import HandS.Walk
import PyProof.ReprRoads
import HandS.TupAny
import HandS.TupMul
import HandS.WrittenGet
import HandS.RevRange
import HandS.Conv
import HandS.Style
import HandS.StrMore
import HandS.More
import PySem.Challenge.RW_restwise_k01_names_judged
set_option Elab.async false
set_option linter.all false
set_option maxRecDepth 100000
set_option maxHeartbeats 4000000
namespace Rw
open PySem PySem.Spec PyProof.Rows L2
theorem bt_len : bootBuiltins "len" = some (.builtin "len") := by decide +kernel
theorem bt_abs : bootBuiltins "abs" = some (.builtin "abs") := by decide +kernel
theorem bt_max : bootBuiltins "max" = some (.builtin "max") := by decide +kernel
theorem bt_min : bootBuiltins "min" = some (.builtin "min") := by decide +kernel
theorem bt_all : bootBuiltins "all" = some (.builtin "all") := by decide +kernel
theorem bt_any : bootBuiltins "any" = some (.builtin "any") := by decide +kernel
theorem bt_repr : bootBuiltins "repr" = some (.builtin "repr") := by decide +kernel
theorem bt_isinstance : bootBuiltins "isinstance" = some (.builtin "isinstance") := by decide +kernel
theorem bt_sorted : bootBuiltins "sorted" = some (.builtin "sorted") := by decide +kernel
theorem bt_int : bootBuiltins "int" = some (.type "int") := by decide +kernel
theorem bt_str : bootBuiltins "str" = some (.type "str") := by decide +kernel
theorem bt_list : bootBuiltins "list" = some (.type "list") := by decide +kernel
theorem bt_tuple : bootBuiltins "tuple" = some (.type "tuple") := by decide +kernel
theorem bt_bool : bootBuiltins "bool" = some (.type "bool") := by decide +kernel
theorem bt_dict : bootBuiltins "dict" = some (.type "dict") := by decide +kernel
theorem bt_set : bootBuiltins "set" = some (.type "set") := by decide +kernel
theorem bt_range : bootBuiltins "range" = some (.type "range") := by decide +kernel
theorem bt_zip : bootBuiltins "zip" = some (.type "zip") := by decide +kernel
section
variable {X : Cx}
def CPowW (i j : Int) : Prop := 0 ≤ j ∧ (Builtin.Int.intBits i : Int) * j ≤ 2 ^ 27
theorem op_powW : OpR X (binaryOp .Pow) (rI CPowW fun i j => .int (i ^ j.toNat)) := opI fun _ _ _ _ _ _ _ hc q => PyProof.Rows.pow_int hc.1 hc.2 q
theorem call_repr_bool : CallR X (.builtin "repr") (fun xs H Q => ∃ b, xs = [.bl b] ∧ Q (.str (if b then "True" else "False")) H) := by
  intro pins s σ H xs us Q I r h
  obtain ⟨b, rfl, q⟩ := h
  obtain ⟨u, rfl, rfl⟩ := vals1 r
  exact PySem.P.repr_of_bool ⟨.str _, H, I.tok _, ⟨_, rfl⟩, q⟩
/-- the signs of a text, each as a text -/
def sgn (z : Str) : List V := z.cps.toList.map fun c => V.str ⟨#[c]⟩
theorem call_list_str (hc : X.calm = true) : CallR X (.type "list") (fun xs H Q => ∃ z, xs = [.str z] ∧ z.length ≤ sizeLine ∧ ∀ l, H l = none → Q (.ref l) (upd H l (.lst (sgn z)))) := by
  intro pins s σ H xs us Q I r h
  obtain ⟨z, rfl, hz, q⟩ := h
  obtain ⟨u, rfl, t, rfl⟩ := vals1 r
  refine PySem.call_list_str (I.ok.hd hc) z t (hn := hz) fun h' tk acc' c' hk hS' hacc => ?_
  have hv : ∀ (ys : List Value) (cs : List Nat), ys.length = cs.length → (∀ (j : Nat) (v : Value), ys[j]? = some v → ∃ (c : Nat) (u : Tok), cs[j]? = some c ∧ v = Value.str ⟨#[c]⟩ u) → Vals (cs.map fun c => V.str ⟨#[c]⟩) ys := by
    intro ys
    induction ys with
    | nil =>
      intro cs hl _
      cases cs with
      | nil => exact .nil
      | cons c cs => simp at hl
    | cons y ys ih =>
      intro cs hl hg
      cases cs with
      | nil => simp at hl
      | cons c cs =>
        obtain ⟨c', u, e1, e2⟩ := hg 0 y rfl
        have e3 : c = c' := by simpa using e1
        subst e3
        exact .cons ⟨u, e2⟩ (ih cs (by simpa using hl) fun j v hj => hg (j + 1) v (by simpa using hj))
  have hvv : Vals (sgn z) acc'.toList := by
    refine hv acc'.toList z.cps.toList ?_ fun j v hj => ?_
    · have := hacc.1
      simpa using this
    · obtain ⟨c, u, hc', rfl⟩ := hacc.2 j v (by simpa using hj)
      exact ⟨c, u, by simpa using hc', rfl⟩
  refine ⟨.ref s.heap.objs.size, _, I.laid (t' := tk) hk (Nat.le_refl _) (show ObjOk X.prog X.w _ h' _ (.lst (sgn z)) from ⟨?_, acc'.toList, c', hvv, by simpa using hS'⟩), rfl, q _ (I.hok.fresh (Nat.le_refl _))⟩
  have : (sgn z).length = z.cps.size := by simp [sgn]
  rw [this]; exact hz
end
theorem small1000000 {n : Nat} (h : n ≤ 1000000) : n < sizeLine := Nat.lt_of_le_of_lt h (by decide)
theorem erase_perm {α : Type} : ∀ {l : List α} {i : Nat} (h : i < l.length), (l[i] :: l.eraseIdx i).Perm l
  | [], _, h => absurd h (Nat.not_lt_zero _)
  | a :: l, 0, _ => List.Perm.refl _
  | a :: l, i + 1, h => by
    have h' : i < l.length := Nat.lt_of_succ_lt_succ h
    have ih := erase_perm (l := l) (i := i) h'
    show (l[i] :: a :: l.eraseIdx i).Perm (a :: l)
    exact (List.Perm.swap _ _ _).trans (ih.cons a)
/-! ### dice and heaps -/
def Dice (H : Hp) (d : Addr) : Prop := ∃ x y z : Int, 0 ≤ x ∧ 0 ≤ y ∧ 0 ≤ z ∧ H d = some (.lst [.int x, .int y, .int z])
/-- what a def that throws the dice at d leaves: all else that was tracked is as it was -/
def SB (d : Addr) (H H' : Hp) : Prop := ∀ b o, b ≠ d → H b = some o → H' b = some o
theorem SB.refl (d : Addr) (H : Hp) : SB d H H := fun _ _ _ h => h
theorem SB.trans {d : Addr} {H H1 H2 : Hp} (a : SB d H H1) (b : SB d H1 H2) : SB d H H2 := fun c o n h => b c o n (a c o n h)
theorem SB.of {d : Addr} {H H1 : Hp} (a : Same H H1) : SB d H H1 := fun c o _ h => a c o h
theorem SB.upd {d : Addr} {H : Hp} {o : HO} : SB d H (upd H d o) := fun c u n h => by rw [upd_ne n]; exact h
theorem SB.new {d p : Addr} {H : Hp} {o : HO} (h : H p = none) : SB d H (L2.upd H p o) := fun c u _ e => by rw [upd_ne (ne_of_none e h)]; exact e
theorem Same.new {p : Addr} {H : Hp} {o : HO} (h : H p = none) : Same H (L2.upd H p o) := fun c u e => by rw [upd_ne (ne_of_none e h)]; exact e
theorem Dice.new {d p : Addr} {H : Hp} {o : HO} (D : Dice H d) (h : H p = none) : Dice (L2.upd H p o) d := by
  obtain ⟨x, y, z, h1, h2, h3, e⟩ := D
  exact ⟨x, y, z, h1, h2, h3, by rw [upd_ne (ne_of_none e h)]; exact e⟩
theorem Dice.same {d : Addr} {H H' : Hp} (D : Dice H d) (h : Same H H') : Dice H' d := by
  obtain ⟨x, y, z, h1, h2, h3, e⟩ := D
  exact ⟨x, y, z, h1, h2, h3, h _ _ e⟩
theorem Dice.ne {d p : Addr} {H : Hp} (D : Dice H d) (h : H p = none) : d ≠ p := by
  obtain ⟨x, y, z, h1, h2, h3, e⟩ := D
  exact ne_of_none e h
/-- an object that is no such list stands elsewhere -/
theorem Dice.ne' {d p : Addr} {H : Hp} {o : HO} (D : Dice H d) (h : H p = some o) (n : ∀ x y z : Int, o ≠ .lst [.int x, .int y, .int z]) : p ≠ d := by
  obtain ⟨x, y, z, h1, h2, h3, e⟩ := D
  intro q
  rw [q, e] at h
  exact n x y z (Option.some.inj h).symm
/-- a name that holds the address of a def, the def there with what it keeps -/
def Ok (P : Program) (w : World) (K : PySem.W.Frag) (mg : Str → Option Value) (base : Heap) (k : Nat) (x : Str) (ps : List Str) (sp : Sp) : Prop :=
  ∃ f fd, mg x = some (.ref f) ∧ PySem.W.keepIn K (.ref f) = true ∧ L2.Binds K fd ps [] ∧ FnOk P w K mg base CX0 k f fd ps sp
/-- the def of the text at its name -/
def Has (K : PySem.W.Frag) (mg : Str → Option Value) (x : Str) (st : Stmt) (ps : List Str) : Prop :=
  ∃ f fd, mg x = some (.ref f) ∧ Fun K x x st f fd ∧ L2.Binds K fd ps []
/-! ### the rules with the written part K by its own name (within comprehensions the context is not the def's) -/
section
variable {X : Cx} {K : PySem.W.Frag}
def rLen (K : PySem.W.Frag) : List V → Hp → VK → Prop := fun xs H Q => ∃ p ys, xs = [.ref p] ∧ (SqL K H p ys ∨ SqT K H p ys) ∧ Q (.int ys.length) H
theorem k_len (hK : X.K = K := by rfl) : CallR X (.builtin "len") (rLen K) := by subst hK; exact call_len_seq
def rList (K : PySem.W.Frag) : List V → Hp → VK → Prop := fun xs H Q => ∃ p ys, xs = [.ref p] ∧ (SqL K H p ys ∨ SqT K H p ys) ∧ ∀ l, H l = none → Q (.ref l) (upd H l (.lst ys))
theorem k_listof (hK : X.K = K := by rfl) : CallR X (.type "list") (rList K) := by subst hK; exact call_list_of
def rTuple (K : PySem.W.Frag) : List V → Hp → VK → Prop := fun xs H Q => ∃ p ys, xs = [.ref p] ∧ ((SqL K H p ys ∧ ∀ l, H l = none → Q (.ref l) (upd H l (.tup ys))) ∨ (SqT K H p ys ∧ Q (.ref p) H))
theorem k_tupleof (hK : X.K = K := by rfl) : CallR X (.type "tuple") (rTuple K) := by subst hK; exact call_tuple_of
theorem k_sortedS (hK : X.K = K := by rfl) : CallR X (.builtin "sorted") (rSortedS K) := by subst hK; exact cr_sortedS
theorem k_isi (hK : X.K = K := by rfl) : CallR X (.builtin "isinstance") (rIsi K) := by subst hK; exact call_isi
theorem k_all (hc : X.calm = true := by rfl) (hK : X.K = K := by rfl) : CallR X (.builtin "all") (rAll K) := by subst hK; exact cr_all hc
theorem k_any (hc : X.calm = true := by rfl) (hK : X.K = K := by rfl) : CallR X (.builtin "any") (rAny K) := by subst hK; exact cr_any hc
theorem k_in (hK : X.K = K := by rfl) : OpR X (compareOp .In) (rIn K false) := by subst hK; exact op_in_seq
theorem k_notIn (hK : X.K = K := by rfl) : OpR X (compareOp .NotIn) (rIn K true) := by subst hK; exact op_notIn_seq
theorem k_eqD (hu : X.A.units + 64 < cLine) (hK : X.K = K := by rfl) : OpR X (compareOp .Eq) (rEqD K) := by subst hK; exact op_eqD hu
theorem k_neD (hu : X.A.units + 64 < cLine) (hK : X.K = K := by rfl) : OpR X (compareOp .NotEq) (rNeD K) := by subst hK; exact op_neD hu
theorem k_catT (hK : X.K = K := by rfl) : OpR X (binaryOp .Add) (rCatT K) := by subst hK; exact op_catT
theorem k_ixL (hK : X.K = K := by rfl) : IxR X (rIxL K) := by subst hK; exact ix_list
theorem k_ixT (hK : X.K = K := by rfl) : IxR X (rIxT K) := by subst hK; exact ix_tup
theorem k_ix (hK : X.K = K := by rfl) : IxR X (rIx K) := by subst hK; exact ix_seq
theorem k_slL (hK : X.K = K := by rfl) : SlR X (rSlL K) := by subst hK; exact sl_list
theorem k_slT (hK : X.K = K := by rfl) : SlR X (rSlT K) := by subst hK; exact sl_tup
theorem k_pl {tg l : Expr} {tl : TE} (h : PE X l tl) (hK : X.K = K := by rfl) : PI X tg l (iList K tl) := by subst hK; exact pi_list h
theorem k_pt {tg l : Expr} {tl : TE} (h : PE X l tl) (hK : X.K = K := by rfl) : PI X tg l (iTup K tl) := by subst hK; exact pi_tup h
theorem k_bm {e : Expr} {T : String} {r : V → List V → Hp → VK → Prop} {to : TE} {t : TA} (h : PE X e (tBM X.K T r to t)) (hK : X.K = K := by rfl) : PE X e (tBM K T r to t) := by subst hK; exact h
theorem k_bm0 {e : Expr} {T : String} {r : V → List V → Hp → VK → Prop} {to : TE} (h : PE X e (tBM0 X.K T r to)) (hK : X.K = K := by rfl) : PE X e (tBM0 K T r to) := by subst hK; exact h
def rJoin (K : PySem.W.Frag) : V → List V → Hp → VK → Prop := fun x xs H Q => ∃ a p, ∃ ys : List Str, x = .str a ∧ xs = [.ref p] ∧ (SqL K H p (ys.map V.str) ∨ SqT K H p (ys.map V.str)) ∧ (ys.map (·.length)).sum + ys.length * a.length ≤ 16777216 ∧ Q (.str (Txt.join a ys)) H
theorem k_join {e : Expr} {to te : TE} (h : PE X e (tM1 (rJoin X.K) to te)) (hK : X.K = K := by rfl) : PE X e (tM1 (rJoin K) to te) := by subst hK; exact h
theorem k_truth {e : Expr} {te : TE} (h : PT X e (fun σ H Q => te σ H fun x H' => ∃ k, TruV X.K x H' k ∧ Q k H')) (hK : X.K = K := by rfl) : PT X e (fun σ H Q => te σ H fun x H' => ∃ k, TruV K x H' k ∧ Q k H') := by subst hK; exact h
theorem k_gtup {tg : Expr} {n : Nat} {t : TGs} (h : PG X tg (gTup X.K n t)) (hK : X.K = K := by rfl) : PG X tg (gTup K n t) := by subst hK; exact h
end

/-! ### comprehensions that leave all that was tracked: behind i turns the new list at D holds acc i -/
def PvA (H1 : Hp) (D : Addr) (acc : Nat → List V) (i : Nat) (H : Hp) : Prop := Same H1 H ∧ H D = some (.lst (acc i))
section
variable {H1 H4 : Hp} {D : Addr} {acc : Nat → List V} {i : Nat} {y : V}
theorem PvA.start (nD : H1 D = none) (a0 : acc 0 = []) : PvA H1 D acc 0 (upd H1 D (.lst [])) := ⟨Same.new nD, by rw [a0]; exact upd_same⟩
theorem PvA.put (nD : H1 D = none) (s : Same H1 H4) (e : H4 D = some (.lst (acc i))) (hz : (acc i).length < sizeLine) (ha : acc (i + 1) = acc i ++ [y]) :
    ∃ a, H4 D = some (.lst a) ∧ a.length < sizeLine ∧ PvA H1 D acc (i + 1) (upd H4 D (.lst (a ++ [y]))) :=
  ⟨acc i, e, hz, fun b o hb => by rw [upd_ne (ne_of_none hb nD)]; exact s b o hb, by rw [ha]; exact upd_same⟩
theorem PvA.skip (p : PvA H1 D acc i H4) (ha : acc (i + 1) = acc i) : PvA H1 D acc (i + 1) H4 := ⟨p.1, by rw [ha]; exact p.2⟩
end
theorem take_put {α : Type} {l : List α} {i : Nat} {x : α} (h : l[i]? = some x) : l.take (i + 1) = l.take i ++ [x] := by
  rw [List.take_add_one, h]
  rfl
theorem take_lt {α : Type} {l : List α} {i : Nat} (h : i < l.length) (hz : l.length ≤ sizeLine) : (l.take i).length < sizeLine := by
  rw [List.length_take]
  omega
/-- what a filter keeps of the first i -/
theorem filter_put {α : Type} {l : List α} {i : Nat} {x : α} (p : α → Bool) (h : l[i]? = some x) : (l.take (i + 1)).filter p = (l.take i).filter p ++ (if p x then [x] else []) := by
  rw [take_put h, List.filter_append]
  cases e : p x <;> simp [e]

/-! ### data -/
theorem canAll_map {α : Type} (f : α → PyData) : ∀ l : List α, (∀ x ∈ l, (f x).canLay0 = true) → PyData.canLayAll0 (l.map f) = true
  | [], _ => by simp [PyData.canLayAll0]
  | x :: l, h => by
    have ih := canAll_map f l fun y hy => h y (List.mem_cons_of_mem _ hy)
    simp only [List.map_cons, PyData.canLayAll0, ih, h x List.mem_cons_self, Bool.and_self]
theorem depthAll_map {α : Type} (f : α → PyData) (n : Nat) : ∀ l : List α, (∀ x ∈ l, (f x).depth ≤ n) → PyData.depthAll (l.map f) ≤ n
  | [], _ => by simp [PyData.depthAll]
  | x :: l, h => by
    have ih := depthAll_map f n l fun y hy => h y (List.mem_cons_of_mem _ hy)
    have := h x List.mem_cons_self
    simp only [List.map_cons, PyData.depthAll]
    omega
theorem shaped_list {ds : List PyData} (h : PyData.canLayAll0 ds = true) (d : PyData.depthAll ds ≤ 63) : SeqAt.shaped (.list ds) = true := by
  refine Bool.and_eq_true_iff.mpr ⟨?_, decide_eq_true ?_⟩
  · simp only [PyData.canLay0]
    exact h
  · simp only [PyData.depth]
    omega
theorem shaped_tuple {ds : List PyData} (h : PyData.canLayAll0 ds = true) (d : PyData.depthAll ds ≤ 63) : SeqAt.shaped (.tuple ds) = true := by
  refine Bool.and_eq_true_iff.mpr ⟨?_, decide_eq_true ?_⟩
  · simp only [PyData.canLay0]
    exact h
  · simp only [PyData.depth]
    omega
/-- a text whose signs are signs -/
def okS (z : Str) : Prop := ∀ c ∈ z.cps.toList, c < 0x110000
theorem okS.can {z : Str} (h : okS z) : (PyData.str z).canLay0 = true := by
  simp only [PyData.canLay0, PyData.strOk]
  rw [← Array.all_toList, List.all_eq_true]
  intro c hc
  exact decide_eq_true (h c hc)
theorem shaped_strs {zs : List Str} (h : ∀ z ∈ zs, okS z) : SeqAt.shaped (.list (zs.map PyData.str)) = true :=
  shaped_list (canAll_map _ _ fun z hz => (h z hz).can) (Nat.le_trans (depthAll_map _ 0 _ fun z _ => by simp [PyData.depth]) (by decide))
theorem shaped_strsT {zs : List Str} (h : ∀ z ∈ zs, okS z) : SeqAt.shaped (.tuple (zs.map PyData.str)) = true :=
  shaped_tuple (canAll_map _ _ fun z hz => (h z hz).can) (Nat.le_trans (depthAll_map _ 0 _ fun z _ => by simp [PyData.depth]) (by decide))
section
variable {K : PySem.W.Frag} {H : Hp}
theorem dp_map {α : Type} (f : α → V) (g : α → PyData) : ∀ l : List α, (∀ x ∈ l, Dp K H (f x) (g x)) → DpAll K H (l.map f) (l.map g)
  | [], _ => .nil
  | x :: l, h => .cons (h x List.mem_cons_self) (dp_map f g l fun y hy => h y (List.mem_cons_of_mem _ hy))
theorem dp_strs (zs : List Str) : DpAll K H (zs.map V.str) (zs.map PyData.str) := dp_map _ _ _ fun z _ => .str z
theorem dp_bls (bs : List Bool) : DpAll K H (bs.map V.bl) (bs.map PyData.bool) := dp_map _ _ _ fun z _ => .bl z
theorem dp_ints (ns : List Int) : DpAll K H (ns.map V.int) (ns.map PyData.int) := dp_map _ _ _ fun z _ => .int z
end
theorem shaped_bls (bs : List Bool) : SeqAt.shaped (.list (bs.map PyData.bool)) = true :=
  shaped_list (canAll_map _ _ fun _ _ => by simp [PyData.canLay0]) (Nat.le_trans (depthAll_map _ 0 _ fun z _ => by simp [PyData.depth]) (by decide))
theorem shaped_blsT (bs : List Bool) : SeqAt.shaped (.tuple (bs.map PyData.bool)) = true :=
  shaped_tuple (canAll_map _ _ fun _ _ => by simp [PyData.canLay0]) (Nat.le_trans (depthAll_map _ 0 _ fun z _ => by simp [PyData.depth]) (by decide))
theorem eqv_nil : ∀ ds : List PyData, PyData.eqv (.list ds) (.list []) = ds.isEmpty
  | [] => by simp [PyData.eqv, PyData.eqvAll]
  | d :: ds => by simp [PyData.eqv, PyData.eqvAll]

/-! ### texts -/
theorem okS.app {a b : Str} (ha : okS a) (hb : okS b) : okS (a ++ b) := by
  intro c hc
  have : c ∈ a.cps.toList ++ b.cps.toList := by
    have e : (a ++ b).cps.toList = a.cps.toList ++ b.cps.toList := by rw [Str.cps_append, Array.toList_append]
    rw [← e]
    exact hc
  rcases List.mem_append.mp this with h | h
  · exact ha c h
  · exact hb c h
theorem okS.sg {c : Nat} (h : c < 0x110000) : okS ⟨#[c]⟩ := by
  intro c' hc'
  have e9 : c' = c := by simpa using hc'
  rw [e9]
  exact h
/-- the texts one behind another -/
def cat : List Str → Str
  | [] => Str.empty
  | z :: zs => z ++ cat zs
theorem cat_len : ∀ zs : List Str, (cat zs).length = (zs.map (·.length)).sum
  | [] => rfl
  | z :: zs => by
    show (z ++ cat zs).length = _
    rw [Str.length_append, cat_len zs, List.map_cons, List.sum_cons]
theorem cat_ok : ∀ {zs : List Str}, (∀ z ∈ zs, okS z) → okS (cat zs)
  | [], _ => fun c hc => by simp [cat, Str.empty] at hc
  | z :: zs, h => (h z List.mem_cons_self).app (cat_ok fun y hy => h y (List.mem_cons_of_mem _ hy))
theorem cat_list : ∀ zs : List Str, (cat zs).cps.toList = (zs.map (·.cps.toList)).flatten
  | [] => rfl
  | z :: zs => by
    show (z ++ cat zs).cps.toList = _
    rw [Str.cps_append, Array.toList_append, cat_list zs, List.map_cons, List.flatten_cons]
theorem join_nil (zs : List Str) : Txt.join (Str.ofString "") zs = cat zs := by
  rw [TL.join_eq]
  have e : Str.ofString "" = Str.empty := rfl
  rw [e]
  have h : ∀ ys : List Str, Str.join Str.empty ys = cat ys := by
    intro ys
    induction ys with
    | nil => rfl
    | cons y ys ih =>
      cases ys with
      | nil =>
        show y = y ++ Str.empty
        rw [Str.append_empty]
      | cons w ys =>
        show y ++ Str.empty ++ Str.join Str.empty (w :: ys) = y ++ cat (w :: ys)
        rw [ih, Str.append_empty]
  exact h zs
theorem sum_ones : ∀ {zs : List Str}, (∀ z ∈ zs, z.length = 1) → (zs.map (·.length)).sum = zs.length
  | [], _ => rfl
  | z :: zs, h => by
    rw [List.map_cons, List.sum_cons, h z List.mem_cons_self, sum_ones fun y hy => h y (List.mem_cons_of_mem _ hy), List.length_cons]
    omega
theorem sgn_mem {z : Str} {v : V} (h : v ∈ sgn z) : ∃ c, c ∈ z.cps.toList ∧ v = .str ⟨#[c]⟩ := by
  obtain ⟨c, hc, rfl⟩ := List.mem_map.mp h
  exact ⟨c, hc, rfl⟩
theorem sgn_len (z : Str) : (sgn z).length = z.length := by
  unfold sgn
  rw [List.length_map, Array.length_toList]
  rfl
/-- a new object: the heap behind it by what is known of it -/
theorem newly {H : Hp} {p : Addr} {o : HO} {G : Hp → Prop} (np : H p = none) (h : ∀ H', Same H H' → H' p = some o → G H') : G (upd H p o) := h _ (Same.new np) upd_same
theorem newly2 {α β : Type} {H : Hp} {p : Addr} {o : HO} {t : β → Hp → α → Prop} {b : β} {k : α} (np : H p = none) (h : ∀ H', Same H H' → H' p = some o → t b H' k) : t b (upd H p o) k := h _ (Same.new np) upd_same
/-! ### defs that are called while no repr is under way -/
structure FnG (P : Program) (w : World) (K : PySem.W.Frag) (mg : Str → Option Value) (base : Heap) (CX : CXT) (k : Nat) (f : Addr) (fd : FuncData) (ps : List Str) (sp : Sp) : Prop where
  few : ∀ as G Y Z, sp as G Y Z → as.length = ps.length
  go : ∀ (B : Around), B.guards = some [] → Room k B → ∀ (fs : List Env) (t : Shared) (G : Hp) (ar : Args) (xs : List Value) (as : List V) (Y : VK) (Z : XK),
    Env0 P w K mg base B fs t G → BindsTo t fd ar (ps.zip xs) → Vals as xs → sp as G Y Z → codeAny (model P w) B (.call (.ref f) ar) (CR CX fs P w G t Y Z) t
section
variable {P : Program} {w : World} {K : PySem.W.Frag} {mg : Str → Option Value} {base : Heap} {CX : CXT} {k j : Nat} {f : Addr} {fd : FuncData} {ps : List Str} {sp : Sp}
theorem FnG.of (F : FnOk P w K mg base CX k f fd ps sp) : FnG P w K mg base CX k f fd ps sp :=
  ⟨F.len, fun B _ r fs t G ar xs as Y Z e0 b v h => F.run B fs t G ar xs as Y Z r e0 b v h⟩
theorem FnG.mono (F : FnG P w K mg base CX j f fd ps sp) (h : j ≤ k) : FnG P w K mg base CX k f fd ps sp :=
  ⟨F.few, fun B g r => F.go B g (r.mono h)⟩
theorem fng_of {name qual : Str} {params : Arguments} {body : List Stmt} {scope : Scope} {dV kV doc pm cdv ct oc : Value} {an od : Option Addr} {osl : Array (Option Value)} {N : List Str}
    (at_ : K.lookup f = some ⟨oc, od, .func (PySem.W.fnOf name qual params body scope dV kV doc pm an cdv ct), osl⟩) (code : PySem.W.codeIn K cdv qual = true) (S : FnScope N ps scope) (few : ∀ as G Y Z, sp as G Y Z → as.length = ps.length)
    (walk : ∀ (B : Around) (fs : List Env) (t : Shared) (G : Hp) (as : List V) (Y : VK) (Z : XK), B.guards = some [] → Room k (B.deeper (envOfC qual scope t.heap.objs.size f cdv)) → sp as G Y Z →
      ∃ r, PSs (cxOf CX P w K mg base N qual scope f cdv B fs t G Z) body r ∧ r { nx := fun _ G' => Y .non G', rt := Y } (start N as) G) :
    FnG P w K mg base CX (k + 1) f (PySem.W.fnOf name qual params body scope dV kV doc pm an cdv ct) ps sp := by
  refine ⟨few, fun B gd room fs t G ar xs as Y Z e0 binds vals pr => ?_⟩
  have ins : K.In t.heap := e0.mod.kin.keeps fun b o q => (e0.bs b o q).1
  have nolim : t.heap.NoLimit := e0.mod.nolimit.keeps fun b o q => (e0.bs b o q).1
  have kinds : ∀ y ∈ ps.zip xs, scope.names.lookup y.1 = some .local ∨ (scope.names.lookup y.1 = some .cell ∧ ((cellsFrom (t.heap.objs.size + 1) scope.names []).lookup y.1).isSome = true) := by
    rintro ⟨n, v⟩ hy
    cases S.par n (List.of_mem_zip hy).1 with
    | inl q => exact .inl q
    | inr q => exact .inr ⟨q, PySem.W.cellsFrom_some _ _ _ (.inl q)⟩
  refine codeAny_call_function room.depth (ins _ _ at_) rfl S.co S.gen rfl (PySem.W.codeRec_of ins code) (binds _ _ _ _ ?_)
  refine wpAny_newFunctionEnv_cells S.kind kinds fun env he t1 x => ?_
  subst he
  refine ⟨nolim.keeps x.toInCall.keep, codeAny_func ?_⟩
  obtain ⟨r, hr, hq⟩ := walk B fs t G as Y Z gd (room.deeper _) pr
  have J0 := inv_start (CX := CX) (E := Z) S room.hd e0 (few _ _ _ _ pr) vals x
  refine wpAny_mono (hr.run [] t1 (start N as) G _ J0 hq) (fun fl t' hs => ?_) fun e t' hs => hs
  cases fl with
  | ret u =>
    obtain ⟨v, σ', G', J, rv, q⟩ := hs
    exact ⟨v, G', J.os, J.bare, J.base, J.hok, rv, q⟩
  | next =>
    obtain ⟨σ', G', J, q⟩ := hs
    exact ⟨V.non, G', J.os, J.bare, J.base, J.hok, rfl, q⟩
  | brk =>
    obtain ⟨_, _, _, q⟩ := hs
    exact q.elim
  | cont =>
    obtain ⟨_, _, _, q⟩ := hs
    exact q.elim
end
theorem Fun.okG {P : Program} {w : World} {K : PySem.W.Frag} {mg : Str → Option Value} {base : Heap} {x qual : Str} {st : Stmt} {f : Addr} {fd : FuncData} {N ps : List Str} {k : Nat} {sp : Sp} (F : Fun K x qual st f fd) (S : FnScope N ps (defScope st)) (few : ∀ as G Y Z, sp as G Y Z → as.length = ps.length)
    (walk : ∀ (cdv : Value) (B : Around) (fs : List Env) (t : Shared) (G : Hp) (as : List V) (Y : VK) (Z : XK), B.guards = some [] → Room k (B.deeper (envOfC qual (defScope st) t.heap.objs.size f cdv)) → sp as G Y Z →
      ∃ r, PSs (cxOf CX0 P w K mg base N qual (defScope st) f cdv B fs t G Z).nox (defBody st) r ∧ r { nx := fun _ G' => Y .non G', rt := Y } (start N as) G) : FnG P w K mg base CX0 (k + 1) f fd ps sp := by
  obtain ⟨oc, od, kV, doc, pm, an, cdv, ct, osl, rfl, lk, hcd⟩ := F.ex
  refine fng_of lk hcd S few fun B fs t G as Y Z gd room pr => ?_
  obtain ⟨r, h, q⟩ := walk cdv B fs t G as Y Z gd room pr
  exact ⟨r, h.nox, q⟩
section
variable {X : Cx} {CX : CXT} {k : Nat} {f : Addr} {fd : FuncData} {ps : List Str} {sp : Sp} {ds : List Value} {dvs : List V} {E : XK}
theorem run_g {pins : List (Addr × Obj)} {σ : L2.St} {H : Hp} {s : Shared} {Q : VK} {us : List Value} {vs : List V} (F : FnG X.prog X.w X.K X.mg X.base CX k f fd ps sp) (gd : X.A.guards = some []) (room : Room k X.A) (binds : L2.Binds X.K fd ps ds) (dv : Vals dvs ds) (pass : Passes CX X E)
    (I : Inv X pins σ H s) (v : Vals vs us) (pr : sp (vs ++ dvs) H Q E) : wpAny (model X.prog X.w) X.A (call (.ref f) us) (EP X pins σ Q) X.xe s := by
  have all : Vals (vs ++ dvs) (us ++ ds) := v.append dv
  have len : (us ++ ds).length = ps.length := all.length.symm.trans (F.few _ _ _ _ pr)
  refine wpAny_call (codeAny_mono (F.go X.A gd room X.stack s H ⟨us, []⟩ (us ++ ds) (vs ++ dvs) Q E I.env0 (binds s us I.kIn len) all pr) fun r s' q => ?_)
  cases r with
  | error e => exact pass pins σ H s e s' I q
  | ok fl =>
    cases fl with
    | ret u => exact I.after q
    | next => exact q.elim
    | brk => exact q.elim
    | cont => exact q.elim
variable {x : Str} {e : Expr} {es : List Expr} {t : TA} {p pos : Pos}
theorem pe_callG (F : FnG X.prog X.w X.K X.mg X.base CX k f fd ps sp) (gd : X.A.guards = some []) (room : Room k X.A) (glob : Gl X x) (at_ : X.mg x = some (.ref f)) (keep : PySem.W.keepIn X.K (.ref f) = true) (binds : L2.Binds X.K fd ps ds) (dv : Vals dvs ds) (pass : Passes CX X E)
    (args : PA X (e :: es) t) (nodbg : (x == ("__debug__" : Str)) = false := by decide) (h1 : starEach (e :: es) X.env = (false, eval e X.env) :: starEach es X.env := by rfl) (h2 : (backTo pos (starEach es X.env)).any (·.1) = false := by rfl) :
    PE X (.Call (.Name x p) (e :: es) [] pos) (tCall sp dvs E t) :=
  ⟨fun pins s σ H Q I h => wpAny_Call_Name_kw (ld_glob I glob at_ (PySem.W.callWith_K (h₀ := X.base) I.ok.mod.kin keep (thn (args.run pos pins s σ H _ I h) fun us s1 ⟨vs, H1, I1, r, q⟩ => ⟨I1.kIn, run_g F gd room binds dv pass I1 r q⟩) h1 h2) nodbg)⟩
theorem pe_callG0 (F : FnG X.prog X.w X.K X.mg X.base CX k f fd ps sp) (gd : X.A.guards = some []) (room : Room k X.A) (glob : Gl X x) (at_ : X.mg x = some (.ref f)) (keep : PySem.W.keepIn X.K (.ref f) = true) (binds : L2.Binds X.K fd ps ds) (dv : Vals dvs ds) (pass : Passes CX X E)
    (nodbg : (x == ("__debug__" : Str)) = false := by decide) : PE X (.Call (.Name x p) [] [] pos) (tCall sp dvs E tNil) :=
  ⟨fun pins s σ H Q I h => wpAny_Call_Name_kw (ld_glob I glob at_ (PySem.W.callWith_K0 I.kIn keep (run_g (us := []) F gd room binds dv pass I .nil h)) nodbg)⟩
end
/-! ### repr of data -/
section
variable {X : Cx} {K : PySem.W.Frag}
def rRepr (K : PySem.W.Frag) : List V → Hp → VK → Prop := fun xs H Q => ∃ v d, xs = [v] ∧ Dp K H v d ∧ d.showable = true ∧ d.hasDict = false ∧ d.depth ≤ 60 ∧ d.shown.length ≤ sizeLine ∧ Q (.str d.shown) H
theorem k_repr (gd : X.A.guards = some []) (hu : X.A.units + 64 < cLine) (hK : X.K = K := by rfl) : CallR X (.builtin "repr") (rRepr K) := by
  subst hK
  intro pins s σ H xs us Q I r h
  obtain ⟨v, d, rfl, dp, sh, nd, de, sz, q⟩ := h
  obtain ⟨u, rfl, rv⟩ := vals1 r
  have ends : ∀ h' tk t, (∀ b o, s.heap.get? b = some o → h'.get? b = some o) → EP X pins σ Q (.str d.shown t) { s with heap := h', toks := tk } := fun h' tk t k => ⟨.str d.shown, H, I.kept k, ⟨_, rfl⟩, q⟩
  cases dp with
  | non =>
    cases rv
    exact PySem.P.repr_of_none (ends s.heap _ _ fun _ _ q => q)
  | bl b =>
    cases rv
    exact PySem.P.repr_of_bool (ends s.heap _ _ fun _ _ q => q)
  | int i =>
    obtain ⟨t, rfl⟩ := rv
    exact PySem.P.repr_of_int (of_decide_eq_true sh) (ends s.heap _ _ fun _ _ q => q)
  | str x =>
    obtain ⟨t, rfl⟩ := rv
    exact PySem.P.repr_of_str (ends s.heap _ _ fun _ _ q => q) sz
  | lst hq hs =>
    obtain ⟨as, rd⟩ := Dp.reads I _ _ _ (.lst hq hs) rv
    cases rv
    exact repr_of_reads' rd sh (PyData.noDict_hsm nd) gd (by omega) (fun _ _ q => q) (fun h' t tk k => ends h' tk t k) sz
  | tup hq hs =>
    obtain ⟨as, rd⟩ := Dp.reads I _ _ _ (.tup hq hs) rv
    cases rv
    exact repr_of_reads' rd sh (PyData.noDict_hsm nd) gd (by omega) (fun _ _ q => q) (fun h' t tk k => ends h' tk t k) sz
end
/-! ### the law's call -/
theorem law_callG {P : Program} {w : World} {K : PySem.W.Frag} {mg mb : Str → Option Value} {CX : CXT} {k : Nat} {fa a : Addr} {fd : FuncData} {x : Str} {sp : Sp} {t : Shared} {us : List Value} {zs : List Int}
    (ins : K.In t.heap) (gl : t.heap.Ns mainGlobals mg) (bl : t.heap.Ns builtinsNs mb) (boot : ∀ x : Str, x ≠ "__name__" → mb x = bootBuiltins x) (nolim : t.heap.NoLimit) (nogen : t.gens = #[])
    (obj : t.heap.get? a = some { cls := .type "list", data := .seq us.toArray }) (nums : IntsAre us zs) (few : zs.length ≤ sizeLine) (room : Room k callerA)
    (F : ∀ base : Heap, K.In base → base.Ns mainGlobals mg → FnG P w K mg base CX k fa fd [x] sp) (binds : ∀ (s : Shared) (u : Value), BindsTo s fd ⟨[u], []⟩ [(x, u)])
    (pr : ∀ H : Hp, Only H → SqL K H a (zs.map V.int) → sp [.ref a] H (fun v _ => v = .bl true) fun _ _ _ => False) (noerr : ∀ H e s', CX [] H t (fun _ _ _ => False) e s' → False) :
    codeAny (model P w) callerA (.call (.ref fa) ⟨[.ref a], []⟩) (fun r s' => r = .ok (.ret (.bool true)) ∧ OldK t.heap s'.heap ∧ s'.os = t.os ∧ AllBare s'.gens) t := by
  have vi := vals_ints nums
  have key : ∀ Z : Hp, Only Z → SqL K Z a (zs.map V.int) → HOk P w Z t.heap → (∀ b, Z b ≠ none → b = a) → (Z a ≠ none → K.lookup a = none) →
      codeAny (model P w) callerA (.call (.ref fa) ⟨[.ref a], []⟩) (fun r s' => r = .ok (.ret (.bool true)) ∧ OldK t.heap s'.heap ∧ s'.os = t.os ∧ AllBare s'.gens) t := by
    intro Z only seq zok one notK
    have keep : ∀ {b : Addr} {o : Obj}, t.heap.get? b = some o → Z b = none → (hidT t.heap Z).get? b = some o := fun e n => hidT_get e n
    have nod : ∀ {b : Addr} {o : Obj} {es : Array DictEntry} {ep : Nat}, t.heap.get? b = some o → o.data = .dict es ep → Z b = none := by
      intro b o es ep g d
      cases q : Z b with
      | none => rfl
      | some u =>
        obtain rfl := one b (by rw [q]; exact Option.some_ne_none u)
        rw [obj] at g
        cases g
        cases (show Data.seq us.toArray _ = Data.dict es ep from d)
    have nsZ : ∀ {b : Addr} {m : Str → Option Value}, t.heap.Ns b m → (hidT t.heap Z).Ns b m := by
      rintro b m ⟨o, es, ep, g, d, r⟩
      exact ⟨o, es, ep, keep g (nod g d), d, r⟩
    have insZ : K.In (hidT t.heap Z) := by
      intro b o g
      refine keep (ins b o g) ?_
      cases q : Z b with
      | none => rfl
      | some u =>
        obtain rfl := one b (by rw [q]; exact Option.some_ne_none u)
        rw [notK (by rw [q]; exact Option.some_ne_none u)] at g
        cases g
    have md : Mod K mg (hidT t.heap Z) := by
      obtain ⟨mc, l1, l2⟩ := nolim
      exact ⟨insZ, nsZ gl, ⟨mb, nsZ bl, boot⟩, mc, nsZ l1, l2⟩
    have env : Env0 P w K mg (hidT t.heap Z) callerA [] t Z :=
      { frames := rfl, mod := md, bs := fun b o g => of_hidT g, bsz := Nat.le_of_eq (hidT_size _ _), funs := trivial, frf := (fun b hb => nomatch (show b ∈ ([] : List Addr) from hb)), hok := zok, bare := .of_eq nogen }
    refine codeAny_mono ((F _ insZ (nsZ gl)).go callerA rfl room [] t Z ⟨[.ref a], []⟩ [.ref a] [.ref a] _ _ env (binds t (.ref a)) (.cons rfl .nil) (pr Z only seq)) fun r s' h => ?_
    cases r with
    | error e => exact (noerr Z e s' h).elim
    | ok fl =>
      cases fl with
      | next => exact h.elim
      | brk => exact h.elim
      | cont => exact h.elim
      | ret u =>
        obtain ⟨v, Z', os, bare, un, zok', rel, q⟩ := h
        obtain rfl : v = .bl true := q
        cases rel
        refine ⟨rfl, OldK.of_keep fun b o g => ?_, os, bare⟩
        rcases only b with n | ⟨ob, xs, n⟩
        · exact un.keep b o g n (by intro z; cases z) (by intro z; cases z)
        · have g1 := (zok b _ n).1
          have g2 := (zok' b _ (un.frzs b ob _ n)).1
          rw [g] at g1
          cases g1
          exact g2
  cases q : K.lookup a with
  | some o =>
    have g := ins a o q
    rw [obj] at g
    cases g
    refine key (fun _ => none) (fun _ => .inl rfl) (.inr ⟨_, us.toArray, _, q, rfl, rfl, rfl, ?_, vi⟩) (fun b u z => by cases z) (fun b z => absurd rfl z) fun z => absurd rfl z
    rw [List.size_toArray, nums.length]
    exact few
  | none =>
    let ob : Obj := { cls := .type "list", data := .seq us.toArray }
    have here : ∀ b, b ≠ a → (fun b => if b = a then some (HO.frz ob (.lst (zs.map V.int))) else none) b = none := fun b n => if_neg n
    refine key (fun b => if b = a then some (.frz ob (.lst (zs.map V.int))) else none) (fun b => ?_) (.inl (.inr ⟨ob, if_pos rfl⟩)) (fun b u z => ?_) (fun b z => ?_) fun _ => q
    · by_cases n : b = a
      · exact .inr ⟨_, _, if_pos n⟩
      · exact .inl (if_neg n)
    · by_cases n : b = a
      · subst n
        have z' := (if_pos rfl).symm.trans z
        cases z'
        exact ⟨obj, by rw [List.length_map]; exact few, us, _, vi, obj⟩
      · have z' := (if_neg n).symm.trans z
        cases z'
    · by_cases n : b = a
      · exact n
      · exact absurd (if_neg n) z
theorem walk_ofG {l : PySem.W.OpenLaw} {k : Nat} {q : Program} {loose : List Str} {XP : (Str → Option Value) → Heap → Prop} {YP : World → Heap → Prop} {d : DefRec} {K : Params → PySem.W.Frag} {sp : PySem.W.Frag → Sp} {x : Str}
    (most : l.most = some 63) (nodef : d.params.defaults = []) (room : Room k callerA) (ins : ∀ (w : World) (h : Heap), YP w h → (K w.params).In h)
    (F : ∀ (w : World) (mg : Str → Option Value) (fa : Addr) (h : Heap), (K w.params).In h → h.Ns mainGlobals mg → mg d.name = some (.ref fa) →
      ∃ fd : FuncData, (∀ (s : Shared) (u : Value), BindsTo s fd ⟨[u], []⟩ [(x, u)]) ∧ ∀ base : Heap, (K w.params).In base → base.Ns mainGlobals mg → FnG l.prog w (K w.params) mg base CX0 k fa fd [x] (sp (K w.params)))
    (pr : ∀ (K : PySem.W.Frag) (H : Hp) (a : Addr) (ns : List Int), ns.length ≤ 63 → SqL K H a (ns.map V.int) → sp K [.ref a] H (fun v _ => v = .bl true) fun _ _ _ => False) :
    PySem.W.WalkO q loose XP YP l.row.toRowW d [] (fun f vs => PySem.call f vs) := by
  refine Att.attach_call most nodef fun w s₀ t mg mb fa o pm cd doc a us zs G Y ho hd hcd hmg obj nums few nogen => ?_
  obtain ⟨fd, hb, hF⟩ := F w mg fa _ (ins w _ Y) G.T.g hmg
  exact law_callG (ins w _ Y) G.T.g G.T.b G.T.builtins G.T.nolimit nogen obj nums (Nat.le_trans few (by decide)) room hF hb (fun H _ S => pr _ H a zs few S) fun _ _ _ z => z
/-! ### more operators -/
section
variable {X : Cx} {K : PySem.W.Frag}
def repS (z : Str) (n : Int) : Str := ⟨(List.replicate n.toNat z.cps).foldl (· ++ ·) #[]⟩
def rRepS : R2 := fun x y H Q => ∃ z n, x = .str z ∧ y = .int n ∧ z.length = 1 ∧ 2 ≤ n ∧ n ≤ 1000 ∧ Q (.str (repS z n)) H
theorem repS_len (z : Str) (n : Int) : (repS z n).length = n.toNat * z.length := by
  have h : ∀ (k : Nat) (acc : Array Nat), ((List.replicate k z.cps).foldl (· ++ ·) acc).size = acc.size + k * z.cps.size := by
    intro k
    induction k with
    | zero => intro acc; simp
    | succ k ih =>
      intro acc
      rw [List.replicate_succ, List.foldl_cons, ih, Array.size_append, Nat.succ_mul]
      omega
  show ((List.replicate n.toNat z.cps).foldl (· ++ ·) #[]).size = _
  rw [h]
  simp [Str.length]
theorem op_repS : OpR X (binaryOp .Mult) rRepS := by
  intro pins s σ H x y v u Q I rx ry h
  obtain ⟨z, n, rfl, rfl, hz, h2, h3, q⟩ := h
  obtain ⟨t, rfl⟩ := rx
  obtain ⟨t', rfl⟩ := ry
  have e1 : ¬ n < 1 := by omega
  have e2 : (n == 1 || z.length == 0) = false := by
    rw [hz]
    have : n ≠ 1 := by omega
    simp [this]
  refine PySem.P.mul_str ?_ (fun _ _ => ?_) (fun _ _ => ?_) ?_
  · have a1 : ¬ n < -(2 ^ 63 : Int) := by omega
    have a2 : ¬ n ≥ 2 ^ 63 := by omega
    rw [decide_eq_false a1, decide_eq_false a2]
    rfl
  · rw [hz]
    have : (2 ^ 63 - 1) / n ≥ 1 := by
      have h5 : (1 : Int) * n ≤ 2 ^ 63 - 1 := by omega
      exact Int.le_ediv_of_mul_le (by omega) h5
    omega
  · rw [hz]
    refine decide_eq_false (Nat.not_lt.mpr ?_)
    exact Nat.le_of_lt (small1000 (by omega))
  · rw [if_neg e1, e2]
    exact ⟨by
      show (repS z n).length ≤ sizeLine
      rw [repS_len, hz]
      exact Nat.le_of_lt (small1000 (by omega)), ⟨.str (repS z n), H, I.tok _, ⟨_, rfl⟩, q⟩⟩
theorem k_catA (hK : X.K = K := by rfl) : OpR X (binaryOp .Add) (rCatA K) := by subst hK; exact op_catA
theorem k_repT (hK : X.K = K := by rfl) : OpR X (binaryOp .Mult) (rRepT K) := by subst hK; exact op_repT
end
theorem seqT_same {K : PySem.W.Frag} {H H' : Hp} {a : Addr} {xs : List V} (e : Same H H') (h : SqT K H a xs) : SqT K H' a xs := by
  rcases h with (h | ⟨o, h⟩) | h
  · exact .inl (.inl (e _ _ h))
  · exact .inl (.inr ⟨o, e _ _ h⟩)
  · exact .inr h
theorem tyTup {K : PySem.W.Frag} {H : Hp} {a : Addr} {xs : List V} (h : SqT K H a xs) : TyX K H (.ref a) (.type "tuple") := by
  rcases h with (h | ⟨o, h⟩) | ⟨o, its, n, h, c, _⟩
  · exact .base (.tup h)
  · exact .fTuple h
  · exact .kTuple h c
theorem tyx_same {K : PySem.W.Frag} {H H' : Hp} {v : V} {t : Value} (s : Same H H') (h : TyX K H v t) : TyX K H' v t := by
  cases h with
  | base b =>
    cases b with
    | non => exact .base .non
    | bl y => exact .base (.bl y)
    | int i => exact .base (.int i)
    | str y => exact .base (.str y)
    | flt y => exact .base (.flt y)
    | lst e => exact .base (.lst (s _ _ e))
    | frz e => exact .base (.frz (s _ _ e))
    | tup e => exact .base (.tup (s _ _ e))
    | dK e => exact .base (.dK (s _ _ e))
    | dT e => exact .base (.dT (s _ _ e))
    | ins e cl ha hn htk hm => exact .base (.ins (s _ _ e) cl ha hn htk hm)
  | byt y => exact .byt y
  | set e => exact .set (s _ _ e)
  | kList e c => exact .kList e c
  | kTuple e c => exact .kTuple e c
  | kDict e c => exact .kDict e c
  | fTuple e => exact .fTuple (s _ _ e)
  | fDict e => exact .fDict (s _ _ e)
/-- what isinstance(.., T) answers of a value -/
def Isi (K : PySem.W.Frag) (T : String) (H : Hp) (v : V) (b : Bool) : Prop := ∃ t, TyX K H v t ∧ PySem.W.kitOne K t (.type T) = some b
theorem Isi.same {K : PySem.W.Frag} {T : String} {H H' : Hp} {v : V} {b : Bool} (s : Same H H') (h : Isi K T H v b) : Isi K T H' v b := by
  obtain ⟨t, ty, e⟩ := h
  exact ⟨t, tyx_same s ty, e⟩
theorem isi_ty {K : PySem.W.Frag} {T t : String} {H : Hp} {v : V} {b : Bool} (h : TyX K H v (.type t)) (hb : kitB t T = some b) : Isi K T H v b := ⟨_, h, kit_ty hb⟩
/-- an object that was tracked ahead is not at a place that was free -/
theorem SB.same {d : Addr} {H0 H H' : Hp} (s : Same H0 H) (n : H0 d = none) (b : SB d H H') : Same H0 H' := fun c o h => b c o (ne_of_none h n) (s c o h)
theorem cat_any {K : PySem.W.Frag} {a b : Addr} {xs ys : List V} {H : Hp} {Q : VK} (ha : SqT K H a xs) (hb : SqT K H b ys) (hz : xs.length + ys.length ≤ sizeLine) (h : ∀ r H', Same H H' → SqT K H' r (xs ++ ys) → Q (.ref r) H') : rCatA K (.ref a) (.ref b) H Q := by
  refine ⟨a, b, xs, ys, rfl, rfl, ha, hb, hz, fun e => ?_, fun _ e => ?_, fun _ _ p np => ?_⟩
  · exact h b H (Same.refl H) (by rw [e, List.nil_append]; exact hb)
  · exact h a H (Same.refl H) (by rw [e, List.append_nil]; exact ha)
  · exact h p _ (Same.new np) (SqT.of upd_same)
/-- an item of a mapped list -/
theorem map_at {α β : Type} {f : α → β} {l : List α} {i : Nat} {y : β} (h : (l.map f)[i]? = some y) : ∃ x, l[i]? = some x ∧ y = f x := by
  rw [List.getElem?_map] at h
  cases e : l[i]? with
  | none => rw [e] at h; cases h
  | some x => rw [e] at h; exact ⟨x, rfl, (Option.some.inj h).symm⟩
theorem at_map {α β : Type} (f : α → β) {l : List α} {i : Nat} {x : α} (h : l[i]? = some x) : (l.map f)[i]? = some (f x) := by
  rw [List.getElem?_map, h]
  rfl
theorem eqv_refl_shaped {d : PyData} (h : SeqAt.shaped d = true) : PyData.eqv d d = true := SeqAt.eqv_refl d (SeqAt.canLay_of_shaped h)
/-! ### what repr may be asked of -/
def RepOk (d : PyData) : Prop := d.showable = true ∧ d.hasDict = false ∧ d.depth ≤ 60 ∧ d.shown.length ≤ sizeLine
theorem repr_ok {K : PySem.W.Frag} {H : Hp} {v : V} {d : PyData} {Q : VK} (dp : Dp K H v d) (r : RepOk d) (q : Q (.str d.shown) H) : rRepr K [v] H Q := ⟨v, d, rfl, dp, r.1, r.2.1, r.2.2.1, r.2.2.2, q⟩
theorem repOk_of {d : PyData} (c : d.canLay0 = true) (sh : d.showable = true) (i : d.intsShort 13 = true) (dp : d.depth ≤ 60) (w : d.weight ≤ 2 ^ 20) : RepOk d := by
  have hl : d.layable0 = true := by
    refine Bool.and_eq_true_iff.mpr ⟨Bool.and_eq_true_iff.mpr ⟨c, decide_eq_true (by omega)⟩, decide_eq_true w⟩
  refine ⟨sh, PyData.hasDict_of_layable hl, dp, ?_⟩
  have := shown_le13 hl i
  exact Nat.le_trans this (by decide)
theorem intsShort_map {α : Type} (f : α → PyData) (B : Nat) : ∀ l : List α, (∀ x ∈ l, (f x).intsShort B = true) → PyData.intsShortAll B (l.map f) = true
  | [], _ => by simp [PyData.intsShortAll]
  | x :: l, h => by
    have ih := intsShort_map f B l fun y hy => h y (List.mem_cons_of_mem _ hy)
    simp only [List.map_cons, PyData.intsShortAll, ih, h x List.mem_cons_self, Bool.and_self]
theorem weight_map {α : Type} (f : α → PyData) (n : Nat) : ∀ l : List α, (∀ x ∈ l, (f x).weight ≤ n) → PyData.weightAll (l.map f) ≤ l.length * (n + 1)
  | [], _ => by simp [PyData.weightAll]
  | x :: l, h => by
    have ih := weight_map f n l fun y hy => h y (List.mem_cons_of_mem _ hy)
    have := h x List.mem_cons_self
    simp only [List.map_cons, PyData.weightAll, List.length_cons, Nat.succ_mul]
    omega
theorem repOk_boolsT {bs : List Bool} (h : bs.length ≤ 100000) : RepOk (.tuple (bs.map PyData.bool)) := by
  refine repOk_of ?_ ?_ ?_ ?_ ?_
  · simp only [PyData.canLay0]
    exact canAll_map _ _ fun _ _ => by simp [PyData.canLay0]
  · simp only [PyData.showable]
    exact PyData.showableAll_bools bs
  · simp only [PyData.intsShort]
    exact intsShort_map _ _ _ fun _ _ => by simp [PyData.intsShort]
  · simp only [PyData.depth]
    have := depthAll_map PyData.bool 0 bs fun _ _ => by simp [PyData.depth]
    omega
  · simp only [PyData.weight]
    have := weight_map PyData.bool 0 bs fun _ _ => by simp [PyData.weight]
    omega
theorem seqT_sb {K : PySem.W.Frag} {d : Addr} {H H' : Hp} {a : Addr} {xs : List V} (n : a ≠ d) (e : SB d H H') (h : SqT K H a xs) : SqT K H' a xs := by
  rcases h with (h | ⟨o, h⟩) | h
  · exact .inl (.inl (e _ _ n h))
  · exact .inl (.inr ⟨o, e _ _ n h⟩)
  · exact .inr h
theorem dp_boolsT {K : PySem.W.Frag} {H : Hp} {p : Addr} {bs : List Bool} (h : SqT K H p (bs.map V.bl)) : Dp K H (.ref p) (.tuple (bs.map PyData.bool)) := .tup h (dp_bls _)
theorem dp_boolsL {K : PySem.W.Frag} {H : Hp} {p : Addr} {bs : List Bool} (h : SqL K H p (bs.map V.bl)) : Dp K H (.ref p) (.list (bs.map PyData.bool)) := .lst h (dp_bls _)
/-- the dice behind an item put to another list -/
theorem Dice.put {d D : Addr} {H : Hp} {o : HO} (h : Dice H d) (n : d ≠ D) : Dice (L2.upd H D o) d := by
  obtain ⟨x, y, z, g1, g2, g3, e⟩ := h
  exact ⟨x, y, z, g1, g2, g3, by rw [upd_ne n]; exact e⟩
/-- what was tracked ahead of a list at D, behind an item put to it -/
theorem SB.put {d D : Addr} {H0 H : Hp} {o : HO} (n : H0 D = none) (h : SB d H0 H) : SB d H0 (L2.upd H D o) := fun b u nb hb => by
  rw [upd_ne (ne_of_none hb n)]
  exact h b u nb hb
/-! ### d.get(k, x) of a written dict with texts as keys -/
/-- the written dict at a -/
def KDic (K : PySem.W.Frag) (w : World) (a : Addr) : Prop := ∃ es n, K.lookup a = some ⟨.type "dict", none, .dict es n, #[]⟩ ∧ PySem.W.KeysLit w.params es.toList ∧ (a == sysModules) = false
/-- what it has at x -/
def KHas (K : PySem.W.Frag) (a : Addr) (x : Str) (o : Option V) : Prop := (∃ u v, PySem.W.nsIn K a x = some (some u) ∧ RelV v u ∧ o = some v) ∨ (PySem.W.nsIn K a x = some none ∧ o = none)
def tKGet (K : PySem.W.Frag) (w : World) (td ty tx : TE) : TE := fun σ H Q => td σ H fun x H1 => ∃ a, x = .ref a ∧ KDic K w a ∧ ty σ H1 fun y H2 => tx σ H2 fun z H3 => ∃ k o, y = .str k ∧ KHas K a k o ∧ Q (o.getD z) H3
section
variable {X : Cx} {K : PySem.W.Frag} {w : World} {o e f : Expr} {apos cpos : Pos} {td ty tx : TE}
theorem pe_kget (ho : PE X o td) (he : PE X e ty) (hf : PE X f tx) (m : M2 X o "get" apos e f cpos) (hK : X.K = K := by rfl) (hw : X.w = w := by rfl) : PE X (.Call (.Attribute o "get" apos) [e, f] [] cpos) (tKGet K w td ty tx) := by
  subst hK hw
  refine ⟨fun pins s σ H Q I h => ?_⟩
  refine wpAny_Call_method m.base m.few m.line PySem.F.plainAttrs_dict PySem.F.slot_dict_get PySem.F.type_dict_get (thn (ho.run pins s σ H _ I h) fun u s1 ⟨x, H1, I1, rx, a, ex, ⟨es, n, hl, hk, low⟩, q1⟩ => ?_)
  subst ex
  obtain rfl : u = Value.ref a := rx
  have hm1 := PySem.W.mapOf_K (prog := X.prog) (w := X.w) I1.kIn hl hk
  refine ⟨hm1.typeIs, fun b q => ?_, ?_⟩
  · cases q
    exact ⟨_, I1.kIn _ _ hl, rfl⟩
  rw [m.trees]
  refine Calls.callWith_builtin rfl (Calls.evalArgs_plain (Calls.spliced_cons (thn (he.run pins s1 σ H1 _ I1 q1) fun iv s2 ⟨y, H2, I2, ry, q2⟩ =>
    Calls.spliced_cons (thn (hf.run pins s2 σ H2 _ I2 q2) fun fv s3 ⟨z, H3, I3, rz, k, o, ey, g, q3⟩ => Calls.spliced_nil ?_))))
  subst ey
  obtain ⟨t, rfl⟩ := (show ∃ t, iv = Value.str k t from ry)
  have hm := PySem.W.mapOf_K (prog := X.prog) (w := X.w) I3.kIn hl hk
  rcases g with ⟨v, r, g, rr, rfl⟩ | ⟨g, rfl⟩
  · refine call_meetsIn PySem.F.slot_dict_get hm.typeIs PySem.F.entry_dict_get (PySem.F.args_dict_get_3 _ _ _) (meets_dict_get_default (strKind X.prog X.w) a (strKind_is X.prog X.w k t) low fv) ⟨_, hm, ?_⟩
    rw [PySem.W.find_K hl g]
    exact ⟨r, H3, I3.tok _, rr, q3⟩
  · refine call_meetsIn PySem.F.slot_dict_get hm.typeIs PySem.F.entry_dict_get (PySem.F.args_dict_get_3 _ _ _) (meets_dict_get_default (strKind X.prog X.w) a (strKind_is X.prog X.w k t) low fv) ⟨_, hm, ?_⟩
    rw [PySem.W.find_K hl g]
    exact ⟨z, H3, I3.tok _, rz, q3⟩
end
/-! ### a loop over a list or a tuple -/
def iAny (K : PySem.W.Frag) (tl : TE) : TI := fun σ H R => iList K tl σ H R ∨ iTup K tl σ H R
theorem pi_any {X : Cx} {tg l : Expr} {tl : TE} (hl : PE X l tl) : PI X tg l (iAny X.K tl) := by
  refine ⟨fun pins s σ H R I h => ?_⟩
  rcases h with h | h
  · exact (pi_list hl).run pins s σ H R I h
  · exact (pi_tup hl).run pins s σ H R I h
theorem k_pa {X : Cx} {K : PySem.W.Frag} {tg l : Expr} {tl : TE} (h : PE X l tl) (hK : X.K = K := by rfl) : PI X tg l (iAny K tl) := by subst hK; exact pi_any h
section
variable {K : PySem.W.Frag}
def rInKD (K : PySem.W.Frag) (w : World) (neg : Bool) : R2 := fun x y H Q => ∃ (z : Str) (a : Addr) (es : Array DictEntry) (n : Nat) (r : Option Value), x = .str z ∧ y = .ref a ∧ KDict K w a es n ∧ PySem.W.nsIn K a z = some r ∧ Q (.bl (if neg then !r.isSome else r.isSome)) H
theorem k_inKD {X : Cx} {w : World} (hK : X.K = K := by rfl) (hw : X.w = w := by rfl) : OpR X (compareOp .In) (rInKD K w false) := by
  subst hK hw
  intro pins s σ H x y v u Q I rx ry h
  obtain ⟨z, a, es, n, r, rfl, rfl, D, e, q⟩ := h
  exact op_in_kd D pins s σ H _ _ v u Q I rx ry ⟨z, r, rfl, rfl, e, q⟩
theorem k_notinKD {X : Cx} {w : World} (hK : X.K = K := by rfl) (hw : X.w = w := by rfl) : OpR X (compareOp .NotIn) (rInKD K w true) := by
  subst hK hw
  intro pins s σ H x y v u Q I rx ry h
  obtain ⟨z, a, es, n, r, rfl, rfl, D, e, q⟩ := h
  exact op_notIn_kd D pins s σ H _ _ v u Q I rx ry ⟨z, r, rfl, rfl, e, q⟩
end
def HasKD (K : PySem.W.Frag) (w : World) (a : Addr) (has : Str → Bool) : Prop := (∃ es n, KDict K w a es n) ∧ ∀ z, ∃ r, PySem.W.nsIn K a z = some r ∧ r.isSome = has z
/-- the rows of a written dict with these texts as keys -/
def KeyRow (w : World) (e : DictEntry) (k : Str) : Prop := (∃ t, e.key = .str k t) ∧ e.hash = PyData.keyHash w.params k
theorem keyRows_lit {w : World} : ∀ {es : List DictEntry} {ks : List Str}, Paired (KeyRow w) es ks → PySem.W.KeysLit w.params es
  | _, _, .nil => by rw [PySem.W.KeysLit.eq_1]; trivial
  | _, _, .cons ⟨⟨t, e⟩, h⟩ p => by
    rw [PySem.W.KeysLit.eq_2]
    exact ⟨⟨_, t, e, h⟩, keyRows_lit p⟩
theorem keyRows_find {w : World} (z : Str) : ∀ {es : List DictEntry} {ks : List Str}, Paired (KeyRow w) es ks → (es.find? fun x => x.key.isStr z).isSome = ks.contains z ∧ (es.any fun x => x.refKey) = false
  | _, _, .nil => ⟨rfl, rfl⟩
  | _, _, .cons (a := e) (b := k) (l₂ := ks) ⟨⟨t, ek⟩, h⟩ p => by
    obtain ⟨h1, h2⟩ := keyRows_find z p
    have e1 : e.key.isStr z = (k == z) := by rw [ek]; rfl
    have e2 : e.refKey = false := by
      unfold DictEntry.refKey
      rw [ek]
    refine ⟨?_, by rw [List.any_cons, e2, h2]; rfl⟩
    have e3 : (k :: ks).contains z = ((z == k) || ks.contains z) := rfl
    rw [List.find?_cons, e1, e3, Bool.beq_comm (a := z), ← h1]
    cases k == z <;> rfl
theorem hasKD_of {K : PySem.W.Frag} {w : World} {a : Addr} {es : Array DictEntry} {n : Nat} {ks : List Str} (at_ : K.lookup a = some ⟨.type "dict", none, .dict es n, #[]⟩) (rows : Paired (KeyRow w) es.toList ks) (low : (a == sysModules) = false) : HasKD K w a ks.contains := by
  refine ⟨⟨es, n, ⟨at_, keyRows_lit rows, low⟩⟩, fun z => ?_⟩
  obtain ⟨h1, h2⟩ := keyRows_find z rows
  unfold PySem.W.nsIn
  rw [at_]
  simp only [h2]
  cases e : es.toList.find? fun x => x.key.isStr z with
  | none =>
    rw [e] at h1
    exact ⟨none, rfl, h1⟩
  | some x =>
    rw [e] at h1
    exact ⟨some x.val, rfl, h1⟩
def topS (i : Nat) : Stmt := PySem.Challenge.pw_restwise_k01_names_judged.main.body.getD i (.Pass ⟨0, 0, 0, 0⟩)

local macro_rules | `(tactic| walk_at "rd1") => `(tactic| first
  | refine ⟨_, rfl, ?_⟩ | refine ⟨_, _, rfl, rfl, ?_⟩ | refine .inl ⟨_, rfl, ?_⟩ | refine .inr ⟨_, rfl, ?_⟩
  | refine And.intro rfl ?_ | refine And.intro ⟨_, rfl⟩ ?_ | refine And.intro (by assumption) ?_ | refine And.intro (by decide) ?_ | refine And.intro (.inl ⟨by decide, by decide⟩) ?_ | refine And.intro (.inr ⟨by decide, by decide⟩) ?_ | refine And.intro ⟨by decide, by decide⟩ ?_ | refine And.intro ⟨by decide, by decide, by decide⟩ ?_
  | refine And.intro (by show (0:Int) < _; first | decide | decide +kernel | assumption | omega) ?_ | refine And.intro (by simp only [List.length_cons, List.length_nil]; decide) ?_ | refine And.intro (by decide +kernel) ?_ | refine And.intro ⟨by decide, by decide +kernel⟩ ?_)
local macro_rules | `(tactic| walk_at "rd") => `(tactic| repeat (walk_at "rd1"))

abbrev s__law_dice : Stmt := topS 8
abbrev N__law_dice : List Str := ["script", "spot", "cell", "great", "blend"]
theorem sc__law_dice : FnScope N__law_dice ["script", "spot"] (defScope s__law_dice) := ⟨rfl, rfl, rfl, by decide +kernel, rfl, by decide +kernel, by decide +kernel⟩

def spDice (K : PySem.W.Frag) : Sp := fun vs H Q _ => ∃ (a : Addr) (ns : List Int) (n : Nat), vs = [.ref a, .int n] ∧ SqL K H a (ns.map V.int) ∧ ns.length ≤ 63 ∧ ∀ H' p, Same H H' → H p = none → Dice H' p → Q (.ref p) H'
section
variable {P : Program} {w : World} {K : PySem.W.Frag} {mg : Str → Option Value} {base : Heap}
theorem ok_dice (h : Has K mg "_law_dice" s__law_dice ["script", "spot"]) (z_len : mg "len" = none) (z_int : mg "int" = none) (z_abs : mg "abs" = none) (z_max : mg "max" = none) : Ok P w K mg base 1 "_law_dice" ["script", "spot"] (spDice K) := by
  obtain ⟨f, fd, g, F, b⟩ := h
  refine ⟨f, fd, g, F.kp, b, F.ok sc__law_dice (fun vs H Q E h => ?_) (fun cdv A outer s H vs Q E hr h => ?_)⟩
  · obtain ⟨a, ns, n, rfl, _⟩ := h
    rfl
  · obtain ⟨a, ns, n, rfl, hS, hlen, q⟩ := h
    refine ⟨_, (pss_cons (ps_set (i := 2) sc__law_dice.nd rfl (.inl rfl) (pe_op op_add (pe_op op_mul pe_int (pv 1)) pe_int))
  (pss_cons (ps_if (pt_cmpR op_lt (pv 1) (pe_callB (Rw.k_len (K := K)) (by rfl) z_len Rw.bt_len (pa_cons (pv 0) pa_nil)) (nomark _)) (pss_one (ps_set (i := 2) sc__law_dice.nd rfl (.inl rfl) (pe_ix (Rw.k_ixL (K := K)) (pv 0) (pv 1) (fun _ _ => rfl)))) pss_nil)
  (pss_cons (ps_set (i := 3) sc__law_dice.nd rfl (.inl rfl) (pe_op op_mod (pe_callTy call_int1 (by rfl) z_int Rw.bt_int (pa_cons (pe_callB call_abs (by rfl) z_abs Rw.bt_abs (pa_cons (pv 2) pa_nil)) pa_nil)) (pe_op Rw.op_powW (pe_op op_pow pe_int pe_int) pe_int)))
  (pss_cons (ps_set (i := 4) sc__law_dice.nd rfl (.inl rfl) (pe_op op_add (pe_op op_add (pe_op op_add (pe_op op_mul (pe_op op_mod (pe_callTy call_int1 (by rfl) z_int Rw.bt_int (pa_cons (pv 3) pa_nil)) pe_int) pe_int) (pe_op op_mul pe_int (pv 1))) (pe_op op_mul pe_int (pe_callTy call_int1 (by rfl) z_int Rw.bt_int (pa_cons (pe_cmpR op_lt (pv 2) pe_int (nomark _)) pa_nil)))) pe_int))
  (pss_one (ps_ret (pe_lst (pa_cons (pe_callB (call_max2 rfl) (by rfl) z_max Rw.bt_max (pa_cons pe_int (pa_cons (pe_op op_sub (pv 3) (pe_op op_pow pe_int pe_int)) pa_nil))) (pa_cons (pe_op op_mod (pe_callTy call_int1 (by rfl) z_int Rw.bt_int (pa_cons (pv 4) pa_nil)) pe_int) (pa_cons pe_int pa_nil)))))))))), ?_⟩
    walk_at "rd"
    refine ⟨a, _, rfl, .inl hS, ?_⟩
    walk_at "rd"
    refine ite2 (fun c => ?_) (fun c => ?_)
    · have hn : n < (ns.map V.int).length := by
        have := of_decide_eq_true c
        omega
      have hn' : n < ns.length := by simpa using hn
      have ha : atI (ns.map V.int) (n : Int) = some (.int ns[n]) := atI_nat (by rw [List.getElem?_map, List.getElem?_eq_getElem hn']; rfl)
      walk_at "rd"
      refine ⟨a, _, _, _, rfl, rfl, hS, ha, ?_⟩
      walk_at "rd"
      refine ⟨_, _, rfl, ?_⟩
      walk_at "rd"
      intro p hp
      refine q _ p (Same.new hp) hp ⟨_, _, _, ?_, ?_, ?_, upd_same⟩
      · split <;> omega
      · exact Int.emod_nonneg _ (by decide)
      · decide
    · walk_at "rd"
      refine ⟨_, _, rfl, ?_⟩
      walk_at "rd"
      intro p hp
      refine q _ p (Same.new hp) hp ⟨_, _, _, ?_, ?_, ?_, upd_same⟩
      · split <;> omega
      · exact Int.emod_nonneg _ (by decide)
      · decide
end

abbrev s__law_roll : Stmt := topS 9
abbrev N__law_roll : List Str := ["dice", "total", "found", "one", "two"]
theorem sc__law_roll : FnScope N__law_roll ["dice", "total"] (defScope s__law_roll) := ⟨rfl, rfl, rfl, by decide +kernel, rfl, by decide +kernel, by decide +kernel⟩

def spRoll : Sp := fun vs H Q _ => ∃ (d : Addr) (n : Int), vs = [.ref d, .int n] ∧ 0 < n ∧ n < 1073741824 ∧ Dice H d ∧ ∀ H' r, SB d H H' → Dice H' d → 0 ≤ r → r < n → Q (.int r) H'
section
variable {P : Program} {w : World} {K : PySem.W.Frag} {mg : Str → Option Value} {base : Heap}
theorem ok_roll (h : Has K mg "_law_roll" s__law_roll ["dice", "total"]) (z_int : mg "int" = none) : Ok P w K mg base 1 "_law_roll" ["dice", "total"] spRoll := by
  obtain ⟨f, fd, g, F, b⟩ := h
  refine ⟨f, fd, g, F.kp, b, F.ok sc__law_roll (fun vs H Q E h => ?_) (fun cdv A outer s H vs Q E hr h => ?_)⟩
  · obtain ⟨d, n, rfl, _⟩ := h
    rfl
  · obtain ⟨d, n, rfl, hn, hn2, ⟨x, y, z, h1, h2, h3, hd⟩, q⟩ := h
    have hL : SqL K H d [.int x, .int y, .int z] := SqL.of hd
    refine ⟨_, (pss_cons (ps_if (pt_cmpR op_gt (pe_ix (Rw.k_ixL (K := K)) (pv 0) pe_int (fun _ _ => rfl)) pe_int (nomark _)) (pss_cons (ps_set (i := 2) sc__law_roll.nd rfl (.inl rfl) (pe_op op_mod (pe_callTy call_int1 (by rfl) z_int Rw.bt_int (pa_cons (pe_ix (Rw.k_ixL (K := K)) (pv 0) pe_int (fun _ _ => rfl)) pa_nil)) (pv 1)))
  (pss_cons (ps_asg (pe_op op_fdiv (pe_ix (Rw.k_ixL (K := K)) (pv 0) pe_int (fun _ _ => rfl)) (pv 1)) (pg_sub (pv 0) pe_int set_list))
  (pss_one (ps_ret (pv 2))))) pss_nil)
  (pss_cons (ps_asg (pe_op op_add (pe_ix (Rw.k_ixL (K := K)) (pv 0) pe_int (fun _ _ => rfl)) pe_int) (pg_sub (pv 0) pe_int set_list))
  (pss_cons (ps_set (i := 3) sc__law_roll.nd rfl (.inl rfl) (pe_op op_mod (pe_callTy call_int1 (by rfl) z_int Rw.bt_int (pa_cons (pe_op op_add (pe_ix (Rw.k_ixL (K := K)) (pv 0) pe_int (fun _ _ => rfl)) (pe_op op_mul pe_int (pe_ix (Rw.k_ixL (K := K)) (pv 0) pe_int (fun _ _ => rfl)))) pa_nil)) pe_int))
  (pss_cons (ps_set (i := 4) sc__law_roll.nd rfl (.inl rfl) (pe_op op_add (pe_op op_mul (pe_op op_mod (pe_callTy call_int1 (by rfl) z_int Rw.bt_int (pa_cons (pe_op op_mul (pv 3) (pv 3)) pa_nil)) pe_int) (pv 3)) (pe_op op_mul pe_int (pe_ix (Rw.k_ixL (K := K)) (pv 0) pe_int (fun _ _ => rfl)))))
  (pss_cons (ps_set (i := 4) sc__law_roll.nd rfl (.inl rfl) (pe_op op_mod (pe_callTy call_int1 (by rfl) z_int Rw.bt_int (pa_cons (pv 4) pa_nil)) pe_int))
  (pss_one (ps_ret (pe_op op_mod (pe_callTy call_int1 (by rfl) z_int Rw.bt_int (pa_cons (pe_op op_fdiv (pv 4) pe_int) pa_nil)) (pv 1))))))))), ?_⟩
    walk_at "rd"
    refine ⟨d, _, _, _, rfl, rfl, hL, rfl, ?_⟩
    walk_at "rd"
    refine ite2 (fun c => ?_) (fun c => ?_)
    · walk_at "rd"
      refine ⟨d, _, _, _, rfl, rfl, hL, rfl, ?_⟩
      walk_at "rd"
      refine ⟨d, _, _, _, rfl, rfl, hL, rfl, ?_⟩
      walk_at "rd"
      refine ⟨⟨hn, hn2⟩, ?_⟩
      walk_at "rd"
      refine ⟨d, _, _, 0, rfl, rfl, hd, rfl, ?_⟩
      walk_at "rd"
      have hx : 0 ≤ x / n := Int.ediv_nonneg h1 (by omega)
      exact q _ _ SB.upd ⟨x / n, y, z, hx, h2, h3, upd_same⟩ (Int.emod_nonneg _ (by omega)) (Int.emod_lt_of_pos _ hn)
    · walk_at "rd"
      refine ⟨d, _, _, _, rfl, rfl, hL, rfl, ?_⟩
      walk_at "rd"
      refine ⟨d, _, _, 2, rfl, rfl, hd, rfl, ?_⟩
      have hL2 : SqL K (upd H d (.lst [.int x, .int y, .int (z + 1)])) d [.int x, .int y, .int (z + 1)] := SqL.of upd_same
      walk_at "rd"
      refine ⟨d, _, _, _, rfl, rfl, hL2, rfl, ?_⟩
      walk_at "rd"
      refine ⟨d, _, _, _, rfl, rfl, hL2, rfl, ?_⟩
      walk_at "rd"
      have p1 : ∀ t : Int, 0 ≤ t % 2305843009213693951 ∧ t % 2305843009213693951 < 2305843009213693951 := fun t => ⟨Int.emod_nonneg _ (by decide), Int.emod_lt_of_pos _ (by decide)⟩
      have p2 : ∀ t : Int, 0 ≤ t % 2305843009213693907 ∧ t % 2305843009213693907 < 2305843009213693907 := fun t => ⟨Int.emod_nonneg _ (by decide), Int.emod_lt_of_pos _ (by decide)⟩
      obtain ⟨o1, o2⟩ := p1 (y + 998244391 * (z + 1))
      refine ⟨.inl ⟨by omega, by omega⟩, ?_⟩
      walk_at "rd"
      obtain ⟨t1, t2⟩ := p2 ((y + 998244391 * (z + 1)) % 2305843009213693951 * ((y + 998244391 * (z + 1)) % 2305843009213693951))
      refine ⟨.inl ⟨Int.lt_of_lt_of_le (by decide) t1, Int.lt_trans t2 (by decide)⟩, ?_⟩
      walk_at "rd"
      refine ⟨d, _, _, _, rfl, rfl, hL2, rfl, ?_⟩
      walk_at "rd"
      exact q _ _ SB.upd ⟨x, y, z + 1, h1, h2, by omega, upd_same⟩ (Int.emod_nonneg _ (by omega)) (Int.emod_lt_of_pos _ hn)
end

abbrev s__law_pick : Stmt := topS 10
abbrev N__law_pick : List Str := ["dice", "items"]
theorem sc__law_pick : FnScope N__law_pick ["dice", "items"] (defScope s__law_pick) := ⟨rfl, rfl, rfl, by decide +kernel, rfl, by decide +kernel, by decide +kernel⟩

def spPick (K : PySem.W.Frag) : Sp := fun vs H Q _ => ∃ (d l : Addr) (xs : List V), vs = [.ref d, .ref l] ∧ 0 < xs.length ∧ xs.length < 1073741824 ∧ Dice H d ∧ (∀ H', SB d H H' → SqL K H' l xs ∨ SqT K H' l xs) ∧ ∀ H' v, SB d H H' → Dice H' d → v ∈ xs → Q v H'
section
variable {P : Program} {w : World} {K : PySem.W.Frag} {mg : Str → Option Value} {base : Heap}
theorem ok_pick (h : Has K mg "_law_pick" s__law_pick ["dice", "items"]) (R : Ok P w K mg base 1 "_law_roll" ["dice", "total"] spRoll) (z_len : mg "len" = none) : Ok P w K mg base 2 "_law_pick" ["dice", "items"] (spPick K) := by
  obtain ⟨f, fd, g, F, b⟩ := h
  obtain ⟨fR, fdR, g__law_roll, k__law_roll, b__law_roll, G__law_roll⟩ := R
  refine ⟨f, fd, g, F.kp, b, F.ok sc__law_pick (fun vs H Q E h => ?_) (fun cdv A outer s H vs Q E hr h => ?_)⟩
  · obtain ⟨d, l, xs, rfl, _⟩ := h
    rfl
  · obtain ⟨d, l, xs, rfl, h0, h1, hD, hS, q⟩ := h
    have hr__law_roll := hr
    refine ⟨_, (pss_one (ps_ret (pe_ix (Rw.k_ix (K := K)) (pv 1) (pe_call G__law_roll hr__law_roll (by rfl) g__law_roll k__law_roll b__law_roll .nil pass0 (pa_cons (pv 0) (pa_cons (pe_callB (Rw.k_len (K := K)) (by rfl) z_len Rw.bt_len (pa_cons (pv 1) pa_nil)) pa_nil))) (fun _ _ => rfl)))), ?_⟩
    walk_at "rd"
    refine ⟨l, xs, rfl, hS H (SB.refl _ _), ?_⟩
    refine ⟨d, (xs.length : Int), rfl, by omega, by omega, hD, fun H' r sb hD' r0 r1 => ?_⟩
    have hr' : r.toNat < xs.length := by omega
    have ha : atI xs r = some xs[r.toNat] := by
      have := atI_nat (xs := xs) (j := r.toNat) (List.getElem?_eq_getElem hr')
      rwa [Int.toNat_of_nonneg r0] at this
    have hq := q H' _ sb hD' (List.getElem_mem hr')
    rcases hS H' sb with hl | ht
    · exact .inl ⟨l, xs, _, _, rfl, rfl, hl, ha, hq⟩
    · exact .inr (.inl ⟨l, xs, _, _, rfl, rfl, ht, ha, hq⟩)
end




abbrev s__law_some : Stmt := topS 11
abbrev N__law_some : List Str := ["dice", "items", "size", "left", "turn"]
theorem sc__law_some : FnScope N__law_some ["dice", "items", "size"] (defScope s__law_some) := ⟨rfl, rfl, rfl, by decide +kernel, rfl, by decide +kernel, by decide +kernel⟩

/-- a new list of some of the items, each at most as often as it stands there -/
def spSome (K : PySem.W.Frag) : Sp := fun vs H Q _ => ∃ (d l : Addr) (xs : List V) (n : Int), vs = [.ref d, .ref l, .int n] ∧ 0 ≤ n ∧ n < 1000000 ∧ xs.length < 1000000 ∧ Dice H d ∧ (SqL K H l xs ∨ SqT K H l xs) ∧
  ∀ H' p ys zs, SB d H H' → Dice H' d → H p = none → p ≠ d → H' p = some (.lst ys) → (ys ++ zs).Perm xs → ys.length = min n.toNat xs.length → Q (.ref p) H'
section
variable {P : Program} {w : World} {K : PySem.W.Frag} {mg : Str → Option Value} {base : Heap}
theorem ok_some (h : Has K mg "_law_some" s__law_some ["dice", "items", "size"]) (R : Ok P w K mg base 1 "_law_roll" ["dice", "total"] spRoll) (z_len : mg "len" = none) (z_list : mg "list" = none) (z_range : mg "range" = none) (z_min : mg "min" = none) : Ok P w K mg base 2 "_law_some" ["dice", "items", "size"] (spSome K) := by
  obtain ⟨f, fd, g, F, b⟩ := h
  obtain ⟨fR, fdR, g__law_roll, k__law_roll, b__law_roll, G__law_roll⟩ := R
  refine ⟨f, fd, g, F.kp, b, F.ok sc__law_some (fun vs H Q E h => ?_) (fun cdv A outer s H vs Q E hr h => ?_)⟩
  · obtain ⟨d, l, xs, n, rfl, _⟩ := h
    rfl
  · obtain ⟨d, l, xs, n, rfl, n0, n1, hx, hD, hS, q⟩ := h
    have hr__law_roll := hr
    refine ⟨_, (pss_cons (ps_set (i := 3) sc__law_some.nd rfl (.inr rfl) (pe_callTy (Rw.k_listof (K := K)) (by rfl) z_list Rw.bt_list (pa_cons (pv 1) pa_nil)))
  (pss_one (ps_ret (pe_lc (own := [("turn", 4)]) rfl sc__law_some.nd (pi_range1 (by rfl) z_range (pa_cons (pe_callB (call_min2 rfl) (by rfl) z_min Rw.bt_min (pa_cons (pv 2) (pa_cons (pe_callB (Rw.k_len (K := K)) (by rfl) z_len Rw.bt_len (pa_cons (pv 3) pa_nil)) pa_nil))) pa_nil)) (blkOk_by (own := [("turn", 4)]) (N := N__law_some) (sc := defScope s__law_some) (by decide +kernel)) (fun _ _ _ _ _ => (pg_name (i := 4) sc__law_some.nd rfl (.inl rfl))) (fun _ _ _ _ _ => pts_nil) (fun _ _ _ _ _ => (Rw.k_bm (K := K) (pe_bm PySem.F.plainAttrs_list PySem.F.slot_list_pop PySem.F.type_list_pop mt_popAt (pv 3) (pa_cons (pe_call G__law_roll hr__law_roll (by rfl) g__law_roll k__law_roll b__law_roll .nil pass0 (pa_cons (pv 0) (pa_cons (pe_callB (Rw.k_len (K := K)) (by rfl) z_len Rw.bt_len (pa_cons (pv 3) pa_nil)) pa_nil))) pa_nil)))))))), ?_⟩
    walk_at "rd"
    refine ⟨l, xs, rfl, hS, fun L nL => ?_⟩
    have dL : d ≠ L := hD.ne nL
    have D1 : Dice (upd H L (.lst xs)) d := hD.new nL
    walk_at "rd"
    refine ⟨L, xs, rfl, .inl (SqL.of upd_same), ?_⟩
    refine ⟨_, _, rfl, ?_⟩
    have em : (if ((xs.length : Nat) : Int) < n then ((xs.length : Nat) : Int) else n).toNat = min n.toNat xs.length := by split <;> omega
    refine ⟨_, rfl, by split <;> omega, by split <;> omega, fun D nD => ?_⟩
    have LD : L ≠ D := ne_of_none (H := upd H L (.lst xs)) upd_same nD
    have dD : d ≠ D := D1.ne nD
    have nD0 : H D = none := by
      rw [upd_ne LD.symm] at nD
      exact nD
    refine lc_range (lo := 0) (n := _) (fun i H1 => ∃ ys zs, H1 D = some (.lst ys) ∧ H1 L = some (.lst zs) ∧ (ys ++ zs).Perm xs ∧ ys.length = i ∧ SB d H H1 ∧ Dice H1 d)
      ⟨[], xs, upd_same, by rw [upd_ne LD]; exact upd_same, List.Perm.refl _, rfl, (SB.new nL).trans (SB.new nD), D1.new nD⟩ (fun i H1 hi hp => ?_) (fun H1 hp => ?_)
    · obtain ⟨ys, zs, e1, e2, pm, ly, sb, hD1⟩ := hp
      refine ⟨rfl, ?_⟩
      have lz : ys.length + zs.length = xs.length := by
        have := pm.length_eq
        rwa [List.length_append] at this
      have hz : 0 < zs.length := by
        rw [em] at hi
        omega
      walk_at "rd"
      refine ⟨.inl ⟨rfl, _, SqL.of e2⟩, ?_⟩
      walk_at "rd"
      refine ⟨L, zs, rfl, .inl (SqL.of e2), ?_⟩
      refine ⟨d, (zs.length : Int), rfl, by omega, by omega, hD1, fun H2 r sb2 hD2 r0 r1 => ?_⟩
      have hr' : r.toNat < zs.length := by omega
      have e2' : H2 L = some (.lst zs) := sb2 _ _ dL.symm e2
      have e1' : H2 D = some (.lst ys) := sb2 _ _ dD.symm e1
      refine ⟨L, zs, r, r.toNat, zs[r.toNat], rfl, rfl, e2', by omega, by omega, seqIndex_of r0 (by omega), List.getElem?_eq_getElem hr', ?_⟩
      refine ⟨ys, by rw [upd_ne LD.symm]; exact e1', small1000000 (by omega), ys ++ [zs[r.toNat]], zs.eraseIdx r.toNat, upd_same, by rw [upd_ne LD]; exact upd_same, ?_, by simp [ly], ?_, ?_⟩
      · rw [List.append_assoc]
        exact ((List.Perm.refl ys).append (erase_perm hr')).trans pm
      · intro b o nb hb
        have h1 : b ≠ D := ne_of_none hb nD0
        have h2 : b ≠ L := ne_of_none hb nL
        rw [upd_ne h1, upd_ne h2]
        exact sb2 _ _ nb (sb _ _ nb hb)
      · obtain ⟨x, y, z, g1, g2, g3, e⟩ := hD2
        exact ⟨x, y, z, g1, g2, g3, by rw [upd_ne dD, upd_ne dL]; exact e⟩
    · obtain ⟨ys, zs, e1, e2, pm, ly, sb, hD1⟩ := hp
      exact q H1 D ys zs sb hD1 nD0 dD.symm e1 pm (ly.trans em)
end





/-- a value that isinstance(.., str) denies -/
def NotStr (K : PySem.W.Frag) (H : Hp) (v : V) : Prop := ∃ t, TyX K H v t ∧ PySem.W.kitOne K t (.type "str") = some false
def kws : List Str := ["ask", "call", "done", "handle", "hold", "rest", "step", "test", "then"]
def lowOk (z : Str) : Bool := z.cps.toList.all fun c => decide (97 ≤ c) && decide (c ≤ 122)
def isName (z : Str) : Bool := (decide (1 ≤ z.length) && decide (z.length ≤ 8)) && (!kws.contains z && lowOk z)
theorem isStr {K : PySem.W.Frag} : PySem.W.kitOne K (.type "str") (.type "str") = some true := kit_ty (by decide +kernel)
theorem inV_strs (z : Str) : ∀ ks : List Str, inV (.str z) (ks.map V.str) = ks.contains z
  | [] => rfl
  | k :: ks => by
    have ih := inV_strs z ks
    have e1 : inV (.str z) ((k :: ks).map V.str) = ((k == z) || inV (.str z) (ks.map V.str)) := rfl
    have e2 : ((k :: ks).contains z) = ((z == k) || ks.contains z) := rfl
    rw [e1, e2, ih, Bool.beq_comm]
theorem lt1 (a b : Nat) : decide ([a] < [b]) = decide (a < b) := by
  by_cases h : a < b
  · rw [decide_eq_true h]
    exact decide_eq_true (List.Lex.rel h)
  · rw [decide_eq_false h]
    refine decide_eq_false fun q => ?_
    cases q with
    | rel r => exact h r
    | cons r => cases r
theorem low_a (c : Nat) : (!decide ((⟨#[c]⟩ : Str).cps.toList < (Str.ofString "a").cps.toList)) = decide (97 ≤ c) := by
  show (!decide ([c] < [97])) = _
  rw [lt1]
  by_cases h : c < 97
  · rw [decide_eq_true h, decide_eq_false (by omega)]
    rfl
  · rw [decide_eq_false h, decide_eq_true (by omega)]
    rfl
theorem low_z (c : Nat) : (!decide ((Str.ofString "z").cps.toList < (⟨#[c]⟩ : Str).cps.toList)) = decide (c ≤ 122) := by
  show (!decide ([122] < [c])) = _
  rw [lt1]
  by_cases h : 122 < c
  · rw [decide_eq_true h, decide_eq_false (by omega)]
    rfl
  · rw [decide_eq_false h, decide_eq_true (by omega)]
    rfl
def lowC (c : Nat) : Bool := decide (97 ≤ c) && decide (c ≤ 122)
def bits (z : Str) : List Bool := z.cps.toList.map lowC
theorem flats (ks : List Str) : (ks.map V.str).all flatV = true := by
  rw [List.all_map, List.all_eq_true]
  intro x _
  rfl

theorem ascii_facts : ∀ c < 128, Unicode.isAlpha c = (lowC c || (decide (65 ≤ c) && decide (c ≤ 90))) ∧ Unicode.isUpper c = (decide (65 ≤ c) && decide (c ≤ 90)) ∧ Unicode.isTitle c = false ∧ Unicode.isLower c = lowC c := by decide +kernel
theorem name_methods {z : Str} (h : 1 ≤ z.length) : (Txt.isalpha z && Txt.islower z && Txt.isascii z) = z.cps.toList.all lowC := by
  unfold Txt.isalpha Txt.islower Txt.isascii
  have hl : (z.length > 0) = True := by simp; omega
  simp only [hl, decide_true, Bool.true_and]
  rw [← Array.all_toList, ← Array.any_toList, ← Array.any_toList, ← Array.all_toList]
  have hne : z.cps.toList ≠ [] := by
    intro e
    have : z.cps.toList.length = z.length := by simp [Str.length]
    rw [e] at this
    simp at this
    omega
  generalize z.cps.toList = l at hne
  by_cases ha : l.all (fun x => decide (x < 128)) = true
  · have ha' : ∀ c ∈ l, c < 128 := fun c hc => by simpa using List.all_eq_true.mp ha c hc
    rw [ha, Bool.and_true]
    by_cases hz : l.all lowC = true
    · rw [hz]
      have hz' := List.all_eq_true.mp hz
      have e1 : l.all Unicode.isAlpha = true := List.all_eq_true.mpr fun c hc => by rw [(ascii_facts c (ha' c hc)).1, hz' c hc]; rfl
      have e2 : l.any Unicode.isLower = true := by
        cases l with
        | nil => exact absurd rfl hne
        | cons c r => exact List.any_eq_true.mpr ⟨c, List.mem_cons_self, by rw [(ascii_facts c (ha' c List.mem_cons_self)).2.2.2]; exact hz' c List.mem_cons_self⟩
      have e3 : l.any (fun c => Unicode.isUpper c || Unicode.isTitle c) = false := List.any_eq_false.mpr fun c hc => by
        have f := ascii_facts c (ha' c hc)
        have g := hz' c hc
        unfold lowC at g
        simp only [Bool.and_eq_true, decide_eq_true_eq] at g
        rw [f.2.1, f.2.2.1]
        simp
        omega
      rw [e1, e2, e3]
      rfl
    · have hz1 : l.all lowC = false := by simpa using hz
      rw [hz1]
      obtain ⟨c, hc, n⟩ : ∃ c ∈ l, lowC c = false := by
        have := List.all_eq_false.mp hz1
        obtain ⟨c, hc, n⟩ := this
        exact ⟨c, hc, by simpa using n⟩
      have f := ascii_facts c (ha' c hc)
      by_cases hu : 65 ≤ c ∧ c ≤ 90
      · have e3 : l.any (fun c => Unicode.isUpper c || Unicode.isTitle c) = true := List.any_eq_true.mpr ⟨c, hc, by rw [f.2.1]; simp [hu]⟩
        rw [e3]
        simp
      · have e1 : l.all Unicode.isAlpha = false := List.all_eq_false.mpr ⟨c, hc, by rw [f.1, n]; simp; omega⟩
        rw [e1]
        rfl
  · have ha1 : l.all (fun x => decide (x < 128)) = false := by simpa using ha
    rw [ha1, Bool.and_false]
    symm
    refine List.all_eq_false.mpr ?_
    obtain ⟨c, hc, n⟩ := List.all_eq_false.mp ha1
    refine ⟨c, hc, ?_⟩
    unfold lowC
    simp at n ⊢
    omega
abbrev s_is_name : Stmt := topS 6
abbrev N_is_name : List Str := ["value"]
theorem sc_is_name : FnScope N_is_name ["value"] (defScope s_is_name) := ⟨rfl, rfl, rfl, by decide +kernel, rfl, by decide +kernel, by decide +kernel⟩

def spName (K : PySem.W.Frag) : Sp := fun vs H Q _ => ∃ v, vs = [v] ∧ ((∃ z, v = .str z ∧ z.length ≤ sizeLine ∧ ∀ H', Same H H' → Q (.bl (isName z)) H') ∨ (NotStr K H v ∧ ∀ H', Same H H' → Q (.bl false) H'))
section
variable {P : Program} {w : World} {K : PySem.W.Frag} {mg : Str → Option Value} {base : Heap}
theorem ok_name {aNO : Addr} {t8 : Tok} (h : Has K mg "is_name" s_is_name ["value"]) (g_MAX_LETTERS : mg "MAX_LETTERS" = some (.int 8 t8)) (g_NO_NAMES : mg "NO_NAMES" = some (.ref aNO)) (hk : HasKD K w aNO kws.contains) (z_len : mg "len" = none) (z_isinstance : mg "isinstance" = none) (z_str : mg "str" = none) : Ok P w K mg base 1 "is_name" ["value"] (spName K) := by
  obtain ⟨f, fd, g, F, b⟩ := h
  refine ⟨f, fd, g, F.kp, b, F.ok sc_is_name (fun vs H Q E h => ?_) (fun cdv A outer s H vs Q E hr h => ?_)⟩
  · obtain ⟨v, rfl, _⟩ := h
    rfl
  · obtain ⟨v, rfl, h⟩ := h
    refine ⟨_, (pss_cons (ps_if (PW.pt (pw_or (pt_not (pt_val (pe_callB (Rw.k_isi (K := K)) (by rfl) z_isinstance Rw.bt_isinstance (pa_cons (pv 0) (pa_cons (pe_bltn (v := .ty "str") (by rfl) z_str Rw.bt_str rfl) pa_nil))))) (pw_or1 (pt_not (pt_chain op_le op_le pe_int (pe_callB call_len_str (by rfl) z_len Rw.bt_len (pa_cons (pv 0) pa_nil)) (pe_glob (v := .int 8) rfl g_MAX_LETTERS ⟨_, rfl⟩)))))) (pss_one (ps_ret pe_bl)) pss_nil)
  (pss_one (ps_ret (pe_and (pe_m0 PySem.F.slot_str_isalpha PySem.F.type_str_isalpha mt_isalpha (pv 0)) (pe_and (pe_m0 PySem.F.slot_str_islower PySem.F.type_str_islower mt_islower (pv 0)) (pe_and (pe_m0 PySem.F.slot_str_isascii PySem.F.type_str_isascii mt_isascii (pv 0)) (pe_one (pe_cmpR (Rw.k_notinKD (K := K) (w := w)) (pv 0) (pe_glob (v := .ref aNO) rfl g_NO_NAMES rfl) rfl)))))))), ?_⟩
    rcases h with ⟨z, rfl, hz, q⟩ | ⟨⟨t, ty, ki⟩, q⟩
    · walk_at "rd"
      refine ⟨_, _, _, _, true, rfl, .ty _, .base (.str _), isStr, ?_⟩
      walk_at "rd"
      refine ite2 (fun c => ?_) (fun c => ?_)
      · have c1 := of_decide_eq_true c
        walk_at "rd"
        by_cases c2 : ((z.length : Nat) : Int) ≤ 8
        · rw [decide_eq_true c2]
          walk_at "rd"
          have h1 : 1 ≤ z.length := by omega
          have h2 : z.length ≤ 8 := by omega
          have em := name_methods h1
          have en : isName z = (!kws.contains z && z.cps.toList.all lowC) := by
            unfold isName
            rw [decide_eq_true h1, decide_eq_true h2]
            rfl
          have q := q H (Same.refl H)
          rw [en, ← em] at q
          obtain ⟨⟨es, n, D⟩, hz'⟩ := hk
          obtain ⟨r, er, er2⟩ := hz' z
          cases ea : Txt.isalpha z with
          | false =>
            rw [ea] at q
            rw [if_neg (by decide)]
            simpa using q
          | true =>
            rw [ea] at q
            rw [if_pos rfl]
            walk_at "rd"
            cases eb : Txt.islower z with
            | false =>
              rw [eb] at q
              walk_at "rd"
              simpa using q
            | true =>
              rw [eb] at q
              walk_at "rd"
              cases ec : Txt.isascii z with
              | false =>
                rw [ec] at q
                walk_at "rd"
                simpa using q
              | true =>
                rw [ec] at q
                walk_at "rd"
                refine ⟨z, aNO, es, n, r, rfl, rfl, D, er, ?_⟩
                rw [er2]
                simpa using q
        · have e : isName z = false := by
            have : ¬ (z.length ≤ 8) := fun q => c2 (by omega)
            unfold isName
            rw [decide_eq_false this, Bool.and_false]
            rfl
          have := q H (Same.refl H)
          rw [e] at this
          rw [decide_eq_false c2]
          walk_at "rd"
          exact this
      · have e : isName z = false := by
          have : ¬ (1 ≤ z.length) := fun q => c (decide_eq_true (by omega))
          unfold isName
          rw [decide_eq_false this]
          rfl
        have := q H (Same.refl H)
        rw [e] at this
        walk_at "rd"
        exact this
    · walk_at "rd"
      refine ⟨_, _, _, _, false, rfl, .ty _, ty, ki, ?_⟩
      walk_at "rd"
      exact q H (Same.refl H)
end





theorem alpha_is (c : Nat) : decide (c ∈ (Str.ofString "abcdefghijklmnopqrstuvwxyz").cps.toList) = lowC c := by
  have e : (Str.ofString "abcdefghijklmnopqrstuvwxyz").cps.toList = List.range' 97 26 := by decide +kernel
  rw [e]
  unfold lowC
  by_cases h : 97 ≤ c ∧ c ≤ 122
  · rw [decide_eq_true h.1, decide_eq_true h.2]
    refine decide_eq_true (List.mem_range'_1.mpr ⟨h.1, by omega⟩)
  · have e2 : (decide (97 ≤ c) && decide (c ≤ 122)) = false := by
      rw [← Bool.not_eq_true, Bool.and_eq_true, decide_eq_true_eq, decide_eq_true_eq]
      exact h
    rw [e2]
    refine decide_eq_false fun q => h ?_
    have := List.mem_range'_1.mp q
    omega
def sg (c : Nat) : Str := ⟨#[c]⟩
def odd (cs : List Nat) : List Nat := cs.filter fun c => !lowC c
theorem odd_nil : ∀ cs : List Nat, (odd cs).isEmpty = cs.all lowC
  | [] => rfl
  | c :: cs => by
    have ih := odd_nil cs
    unfold odd at ih ⊢
    rw [List.filter_cons, List.all_cons, ← ih]
    cases lowC c <;> rfl
/-- as spName, for texts of signs -/
def spWord (K : PySem.W.Frag) : Sp := fun vs H Q _ => ∃ v, vs = [v] ∧ ((∃ z, v = .str z ∧ z.length ≤ sizeLine ∧ okS z ∧ ∀ H', Same H H' → Q (.bl (isName z)) H') ∨ (NotStr K H v ∧ ∀ H', Same H H' → Q (.bl false) H'))

abbrev s__law_is_word : Stmt := topS 12
abbrev N__law_is_word : List Str := ["value", "one"]
theorem sc__law_is_word : FnScope N__law_is_word ["value"] (defScope s__law_is_word) := ⟨rfl, rfl, rfl, by decide +kernel, rfl, by decide +kernel, by decide +kernel⟩
section
variable {P : Program} {w : World} {K : PySem.W.Frag} {mg : Str → Option Value} {base : Heap}
theorem ok_word (h : Has K mg "_law_is_word" s__law_is_word ["value"]) (z_len : mg "len" = none) (z_isinstance : mg "isinstance" = none) (z_str : mg "str" = none) : Ok P w K mg base 1 "_law_is_word" ["value"] (spWord K) := by
  obtain ⟨f, fd, g, F, b⟩ := h
  refine ⟨f, fd, g, F.kp, b, F.ok sc__law_is_word (fun vs H Q E h => ?_) (fun cdv A outer s H vs Q E hr h => ?_)⟩
  · obtain ⟨v, rfl, _⟩ := h
    rfl
  · obtain ⟨v, rfl, h⟩ := h
    refine ⟨_, (pss_cons (ps_if (PW.pt (pw_or (pt_not (pt_val (pe_callB (Rw.k_isi (K := K)) (by rfl) z_isinstance Rw.bt_isinstance (pa_cons (pv 0) (pa_cons (pe_bltn (v := .ty "str") (by rfl) z_str Rw.bt_str rfl) pa_nil))))) (pw_or1 (pt_cmpR (Rw.k_in (K := K)) (pv 0) (pe_lst (pa_cons pe_str (pa_cons pe_str (pa_cons pe_str (pa_cons pe_str (pa_cons pe_str (pa_cons pe_str (pa_cons pe_str (pa_cons pe_str (pa_cons pe_str pa_nil)))))))))) rfl)))) (pss_one (ps_ret pe_bl)) pss_nil)
  (pss_one (ps_ret (pe_and (pe_chain op_lt op_lt pe_int (pe_callB call_len_str (by rfl) z_len Rw.bt_len (pa_cons (pv 0) pa_nil)) pe_int) (pe_one (pe_cmpR (Rw.k_eqD (K := K) hr.units) (pe_lc (own := [("one", 1)]) rfl sc__law_is_word.nd (pi_str (pv 0)) (blkOk_by (own := [("one", 1)]) (N := N__law_is_word) (sc := defScope s__law_is_word) (by decide +kernel)) (fun _ _ _ _ _ => (pg_name (i := 1) sc__law_is_word.nd rfl (.inl rfl))) (fun _ _ _ _ _ => (pts_one (pt_cmpR op_notIn_sign (pv 1) pe_str rfl))) (fun _ _ _ _ _ => (pv 1))) (pe_lst pa_nil) (nomark _))))))), ?_⟩
    rcases h with ⟨z, rfl, hz, ok, q⟩ | ⟨⟨t, ty, ki⟩, q⟩
    · walk_at "rd"
      refine ⟨_, _, _, _, true, rfl, .ty _, .base (.str _), isStr, ?_⟩
      walk_at "rd"
      intro p np
      refine ⟨p, kws.map V.str, rfl, .inl (SqL.of upd_same), rfl, flats _, ?_⟩
      rw [inV_strs]
      cases ek : kws.contains z with
      | true =>
        have e : isName z = false := by
          unfold isName
          rw [ek]
          simp
        rw [e] at q
        walk_at "rd"
        exact q _ (Same.new np)
      | false =>
        walk_at "rd"
        by_cases c1 : (0 : Int) < ((z.length : Nat) : Int)
        · rw [decide_eq_true c1]
          walk_at "rd"
          by_cases c2 : ((z.length : Nat) : Int) < 9
          · rw [decide_eq_true c2]
            walk_at "rd"
            intro D nD
            let acc : Nat → List V := fun i => ((odd (z.cps.toList.take i)).map sg).map V.str
            refine lc_it walk_str (PvA (upd H p _) D acc) (PvA.start nD rfl) (fun _ _ _ _ => trivial) (fun i x H2 H3 hi p2 hy => ?_) (fun H2 p2 => ?_)
            · obtain ⟨rfl, c, hc, rfl⟩ := hy
              have hc' : z.cps.toList[i]? = some c := by rw [Array.getElem?_toList]; exact hc
              have ha : acc (i + 1) = acc i ++ (if lowC c then [] else [V.str ⟨#[c]⟩]) := by
                show ((odd _).map sg).map V.str = ((odd _).map sg).map V.str ++ _
                unfold odd
                rw [filter_put _ hc', List.map_append, List.map_append]
                cases lowC c <;> rfl
              have hz' : (acc i).length < sizeLine := by
                have h1 : (acc i).length ≤ i := by
                  show (((odd (z.cps.toList.take i)).map sg).map V.str).length ≤ i
                  rw [List.length_map, List.length_map]
                  exact Nat.le_trans (List.length_filter_le _ _) (by rw [List.length_take]; exact Nat.min_le_left _ _)
                have h2 : z.cps.size ≤ sizeLine := hz
                omega
              refine ⟨rfl, ?_⟩
              walk_at "rd"
              rw [alpha_is]
              cases el : lowC c with
              | true =>
                rw [el] at ha
                exact PvA.skip p2 (by rw [ha]; simp)
              | false =>
                rw [el] at ha
                walk_at "rd"
                exact PvA.put nD p2.1 p2.2 hz' ha
            · walk_at "rd"
              intro p3 n3
              have e1 : H2 D = some (.lst (((odd z.cps.toList).map sg).map V.str)) := by
                have h4 : H2 D = some (.lst (((odd (z.cps.toList.take z.cps.size)).map sg).map V.str)) := p2.2
                rwa [List.take_of_length_le (by rw [Array.length_toList]; exact Nat.le_refl _)] at h4
              have s3 := Same.new (o := HO.lst []) n3
              have okl : ∀ y ∈ (odd z.cps.toList).map sg, okS y := by
                intro y hy
                obtain ⟨c, hc, rfl⟩ := List.mem_map.mp hy
                intro c' hc'
                have e9 : c' = c := by simpa [sg] using hc'
                rw [e9]
                exact ok c (List.mem_filter.mp hc).1
              refine ⟨.list (((odd z.cps.toList).map sg).map PyData.str), .list [], .lst (s3.seq (SqL.of e1)) (dp_strs _), .lst (SqL.of upd_same) .nil, shaped_strs okl, by decide, ?_⟩
              rw [eqv_nil]
              have e5 : isName z = (((odd z.cps.toList).map sg).map PyData.str).isEmpty := by
                have h1 : 1 ≤ z.length := by omega
                have h2 : z.length ≤ 8 := by omega
                have h3 : lowOk z = z.cps.toList.all lowC := rfl
                unfold isName
                rw [decide_eq_true h1, decide_eq_true h2, ek, h3, ← odd_nil]
                cases odd z.cps.toList <;> rfl
              rw [← e5]
              exact q _ (((Same.new np).trans p2.1).trans s3)
          · have e : isName z = false := by
              have : ¬ (z.length ≤ 8) := fun q => c2 (by omega)
              unfold isName
              rw [decide_eq_false this, Bool.and_false]
              rfl
            rw [e] at q
            rw [decide_eq_false c2]
            walk_at "rd"
            exact q _ (Same.new np)
        · have e : isName z = false := by
            have : ¬ (1 ≤ z.length) := fun q => c1 (by omega)
            unfold isName
            rw [decide_eq_false this]
            rfl
          rw [e] at q
          rw [decide_eq_false c1]
          walk_at "rd"
          exact q _ (Same.new np)
    · walk_at "rd"
      refine ⟨_, _, _, _, false, rfl, .ty _, ty, ki, ?_⟩
      walk_at "rd"
      exact q H (Same.refl H)
end





theorem strs_mem {ss : List Str} {v : V} (h : v ∈ ss.map V.str) : ∃ s, s ∈ ss ∧ v = .str s := by
  obtain ⟨s, hs, rfl⟩ := List.mem_map.mp h
  exact ⟨s, hs, rfl⟩

abbrev s__law_string : Stmt := topS 13
abbrev N__law_string : List Str := ["dice", "menu", "turn"]
theorem sc__law_string : FnScope N__law_string ["dice"] (defScope s__law_string) := ⟨rfl, rfl, rfl, by decide +kernel, rfl, by decide +kernel, by decide +kernel⟩

def spString : Sp := fun vs H Q _ => ∃ d, vs = [.ref d] ∧ Dice H d ∧ ∀ H' z, SB d H H' → Dice H' d → z.length ≤ 10 → okS z → Q (.str z) H'
def tails : List Str := ["", "", "A", " ", "-", "0", "_", "~", "\n"]
theorem tails_ok : ∀ s ∈ tails, okS s ∧ s.length ≤ 1 := by
  have h : tails.all (fun s => s.cps.toList.all (fun c => decide (c < 0x110000)) && decide (s.length ≤ 1)) = true := by decide +kernel
  intro s hs
  have h1 := List.all_eq_true.mp h s hs
  rw [Bool.and_eq_true, decide_eq_true_eq, List.all_eq_true] at h1
  exact ⟨fun c hc => of_decide_eq_true (h1.1 c hc), h1.2⟩
section
variable {P : Program} {w : World} {K : PySem.W.Frag} {mg : Str → Option Value} {base : Heap}
theorem ok_string (h : Has K mg "_law_string" s__law_string ["dice"]) (R : Ok P w K mg base 1 "_law_roll" ["dice", "total"] spRoll) (RP : Ok P w K mg base 2 "_law_pick" ["dice", "items"] (spPick K)) (z_list : mg "list" = none) (z_range : mg "range" = none) : Ok P w K mg base 3 "_law_string" ["dice"] spString := by
  obtain ⟨f, fd, g, F, b⟩ := h
  obtain ⟨fR, fdR, g__law_roll, k__law_roll, b__law_roll, G__law_roll⟩ := R
  obtain ⟨fP, fdP, g__law_pick, k__law_pick, b__law_pick, G__law_pick⟩ := RP
  refine ⟨f, fd, g, F.kp, b, F.ok sc__law_string (fun vs H Q E h => ?_) (fun cdv A outer s H vs Q E hr h => ?_)⟩
  · obtain ⟨d, rfl, _⟩ := h
    rfl
  · obtain ⟨d, rfl, hD, q⟩ := h
    have hr__law_pick := hr
    have hr__law_roll : Room 1 _ := hr.mono (by decide)
    refine ⟨_, (pss_cons (ps_set (i := 1) sc__law_string.nd rfl (.inr rfl) (pe_op op_add_str pe_str (pe_call G__law_pick hr__law_pick (by rfl) g__law_pick k__law_pick b__law_pick .nil pass0 (pa_cons (pv 0) (pa_cons (pe_lst (pa_cons pe_str (pa_cons pe_str (pa_cons pe_str (pa_cons pe_str (pa_cons pe_str (pa_cons pe_str (pa_cons pe_str (pa_cons pe_str (pa_cons pe_str pa_nil)))))))))) pa_nil)))))
  (pss_one (ps_ret (Rw.k_join (K := K) (pe_join pe_str (pe_lc (own := [("turn", 2)]) rfl sc__law_string.nd (pi_range1 (by rfl) z_range (pa_cons (pe_call G__law_roll hr__law_roll (by rfl) g__law_roll k__law_roll b__law_roll .nil pass0 (pa_cons (pv 0) (pa_cons pe_int pa_nil))) pa_nil)) (blkOk_by (own := [("turn", 2)]) (N := N__law_string) (sc := defScope s__law_string) (by decide +kernel)) (fun _ _ _ _ _ => (pg_name (i := 2) sc__law_string.nd rfl (.inl rfl))) (fun _ _ _ _ _ => pts_nil) (fun _ _ _ _ _ => (pe_call G__law_pick hr__law_pick (by rfl) g__law_pick k__law_pick b__law_pick .nil pass0 (pa_cons (pv 0) (pa_cons (pe_callTy (Rw.call_list_str rfl) (by rfl) z_list Rw.bt_list (pa_cons (pv 1) pa_nil)) pa_nil)))))))))), ?_⟩
    walk_at "rd"
    intro l nl
    have D1 := hD.new (o := HO.lst (tails.map V.str)) nl
    have s1 := Same.new (H := H) (o := HO.lst (tails.map V.str)) nl
    refine ⟨d, l, tails.map V.str, rfl, by decide, by decide, D1, fun H' sb => .inl (SqL.of (sb _ _ (hD.ne nl).symm upd_same)), fun H2 v sb2 D2 hv => ?_⟩
    obtain ⟨s, hs, rfl⟩ := strs_mem hv
    obtain ⟨so, sl⟩ := tails_ok s hs
    walk_at "rd"
    have ml : (Str.ofString "aabcdehklnorstyzz").length + s.length ≤ 1000 := Nat.le_trans (Nat.add_le_add_left sl _) (by decide)
    refine ⟨Nat.le_of_lt (small1000 ml), ?_⟩
    have okm : okS (Str.ofString "aabcdehklnorstyzz" ++ s) := okS.app (by
      have h : ((Str.ofString "aabcdehklnorstyzz").cps.toList.all (fun c => decide (c < 0x110000))) = true := by decide +kernel
      intro c hc
      exact of_decide_eq_true (List.all_eq_true.mp h c hc)) so
    have mlen : (Str.ofString "aabcdehklnorstyzz" ++ s).length ≤ 1000 := by
      rw [Str.length_append]
      exact ml
    have mpos : 0 < (Str.ofString "aabcdehklnorstyzz" ++ s).length := by
      rw [Str.length_append]
      exact Nat.lt_of_lt_of_le (by decide) (Nat.le_add_right _ _)
    generalize Str.ofString "aabcdehklnorstyzz" ++ s = menu at *
    walk_at "rd"
    refine ⟨d, 11, rfl, by decide, by decide, D2, fun H3 r sb3 D3 r0 r1 => ?_⟩
    refine ⟨r, rfl, by omega, by omega, fun D nD => ?_⟩
    have sb03 : SB d H H3 := ((SB.of s1).trans sb2).trans sb3
    have dD : d ≠ D := D3.ne nD
    refine lc_range (lo := 0) (n := _) (fun i H1 => ∃ ys : List Str, H1 D = some (.lst (ys.map V.str)) ∧ ys.length = i ∧ (∀ y ∈ ys, okS y ∧ y.length = 1) ∧ SB d H3 H1 ∧ Dice H1 d)
      ⟨[], upd_same, rfl, fun y hy => by simp at hy, SB.new nD, D3.new nD⟩ (fun i H1 hi hp => ?_) (fun H1 hp => ?_)
    · obtain ⟨ys, e1, ly, hy, sb4, D4⟩ := hp
      refine ⟨rfl, ?_⟩
      walk_at "rd"
      refine ⟨Nat.le_of_lt (small1000 mlen), fun L nL => ?_⟩
      have nLD : D ≠ L := ne_of_none e1 nL
      refine ⟨d, L, sgn menu, rfl, by rw [sgn_len]; exact mpos, by rw [sgn_len]; omega, D4.new nL, fun H' sb => .inl (SqL.of (sb _ _ (D4.ne nL).symm upd_same)), fun H5 v sb5 D5 hv => ?_⟩
      obtain ⟨c, hc, rfl⟩ := sgn_mem hv
      have e5 : H5 D = some (.lst (ys.map V.str)) := sb5 _ _ dD.symm (by rw [upd_ne nLD]; exact e1)
      refine ⟨_, e5, by rw [List.length_map]; exact small1000 (by omega), ys ++ [⟨#[c]⟩], by rw [upd_same, List.map_append]; rfl, by simp [ly], ?_, ?_, ?_⟩
      · intro y hy'
        rcases List.mem_append.mp hy' with h | h
        · exact hy y h
        · have e : y = ⟨#[c]⟩ := by simpa using h
          rw [e]
          exact ⟨okS.sg (okm c hc), rfl⟩
      · intro b o nb hb
        have h1 : b ≠ D := ne_of_none hb nD
        rw [upd_ne h1]
        exact sb5 _ _ nb (SB.new nL _ _ nb (sb4 _ _ nb hb))
      · obtain ⟨x, y, z, g1, g2, g3, e⟩ := D5
        exact ⟨x, y, z, g1, g2, g3, by rw [upd_ne dD]; exact e⟩
    · obtain ⟨ys, e1, ly, hy, sb4, D4⟩ := hp
      have hs1 := sum_ones fun y hy' => (hy y hy').2
      refine ⟨Str.ofString "", D, ys, rfl, rfl, .inl (SqL.of e1), ?_, ?_⟩
      · rw [hs1]
        show ys.length + ys.length * 0 ≤ 16777216
        omega
      · rw [join_nil]
        refine q H1 _ (sb03.trans sb4) D4 ?_ (cat_ok fun y hy' => (hy y hy').1)
        rw [cat_len, hs1]
        omega
end




abbrev s__law_value : Stmt := topS 14
abbrev N__law_value : List Str := ["dice", "words", "word", "some"]
theorem sc__law_value : FnScope N__law_value ["dice"] (defScope s__law_value) := ⟨rfl, rfl, rfl, by decide +kernel, rfl, by decide +kernel, by decide +kernel⟩

/-- a short text of signs, or no text -/
def Val1 (K : PySem.W.Frag) (H : Hp) (v : V) : Prop := (∃ z, v = .str z ∧ z.length ≤ 100 ∧ okS z) ∨ NotStr K H v
def spValue (K : PySem.W.Frag) : Sp := fun vs H Q _ => ∃ d, vs = [.ref d] ∧ Dice H d ∧ ∀ H' v, SB d H H' → Dice H' d → Val1 K H' v → Q v H'
theorem kws_ok : ∀ s ∈ kws, okS s ∧ s.length ≤ 10 := by
  have h : kws.all (fun s => s.cps.toList.all (fun c => decide (c < 0x110000)) && decide (s.length ≤ 10)) = true := by decide +kernel
  intro s hs
  have h1 := List.all_eq_true.mp h s hs
  rw [Bool.and_eq_true, decide_eq_true_eq, List.all_eq_true] at h1
  exact ⟨fun c hc => of_decide_eq_true (h1.1 c hc), h1.2⟩
theorem okS.cut {z : Str} (h : okS z) (lo hi : Option Int) : okS (cutS z lo hi) := by
  intro c hc
  have : c ∈ (z.cps.toList.drop (HT.sIx z.length 0 lo)).take (HT.sIx z.length z.length hi - HT.sIx z.length 0 lo) := by simpa [cutS] using hc
  exact h c (List.mem_of_mem_drop (List.mem_of_mem_take this))
theorem cut_len (z : Str) (lo hi : Option Int) : (cutS z lo hi).length ≤ z.length := by
  show (cutS z lo hi).cps.size ≤ z.cps.size
  have : ((z.cps.toList.drop (HT.sIx z.length 0 lo)).take (HT.sIx z.length z.length hi - HT.sIx z.length 0 lo)).length ≤ z.cps.toList.length := by
    rw [List.length_take, List.length_drop]
    omega
  simpa [cutS] using this
theorem notStr {K : PySem.W.Frag} {H : Hp} {v : V} {t : String} (h : TyOf K H v (.type t)) (hb : kitB t "str" = some false) : NotStr K H v := ⟨_, .base h, kit_ty hb⟩
section
variable {P : Program} {w : World} {K : PySem.W.Frag} {mg : Str → Option Value} {base : Heap}
theorem ok_value (h : Has K mg "_law_value" s__law_value ["dice"]) (RP : Ok P w K mg base 2 "_law_pick" ["dice", "items"] (spPick K)) (RS : Ok P w K mg base 2 "_law_some" ["dice", "items", "size"] (spSome K)) (RT : Ok P w K mg base 3 "_law_string" ["dice"] spString) : Ok P w K mg base 4 "_law_value" ["dice"] (spValue K) := by
  obtain ⟨f, fd, g, F, b⟩ := h
  obtain ⟨fP, fdP, g__law_pick, k__law_pick, b__law_pick, G__law_pick⟩ := RP
  obtain ⟨fS, fdS, g__law_some, k__law_some, b__law_some, G__law_some⟩ := RS
  obtain ⟨fT, fdT, g__law_string, k__law_string, b__law_string, G__law_string⟩ := RT
  refine ⟨f, fd, g, F.kp, b, F.ok sc__law_value (fun vs H Q E h => ?_) (fun cdv A outer s H vs Q E hr h => ?_)⟩
  · obtain ⟨d, rfl, _⟩ := h
    rfl
  · obtain ⟨d, rfl, hD, q⟩ := h
    have hr__law_string := hr
    have hr__law_pick : Room 2 _ := hr.mono (by decide)
    have hr__law_some := hr__law_pick
    refine ⟨_, (pss_cons (ps_set (i := 1) sc__law_value.nd rfl (.inl rfl) (pe_lst (pa_cons pe_str (pa_cons pe_str (pa_cons pe_str (pa_cons pe_str (pa_cons pe_str (pa_cons pe_str (pa_cons pe_str (pa_cons pe_str (pa_cons pe_str pa_nil)))))))))))
  (pss_cons (ps_set (i := 2) sc__law_value.nd rfl (.inl rfl) (pe_call G__law_pick hr__law_pick (by rfl) g__law_pick k__law_pick b__law_pick .nil pass0 (pa_cons (pv 0) (pa_cons (pv 1) pa_nil))))
  (pss_cons (ps_set (i := 3) sc__law_value.nd rfl (.inl rfl) (pe_lst (pa_cons (pe_call G__law_string hr__law_string (by rfl) g__law_string k__law_string b__law_string .nil pass0 (pa_cons (pv 0) pa_nil)) (pa_cons (pe_call G__law_string hr__law_string (by rfl) g__law_string k__law_string b__law_string .nil pass0 (pa_cons (pv 0) pa_nil)) (pa_cons (pv 2) (pa_cons (pe_op op_add_str (pv 2) pe_str) (pa_cons (pe_slice sl_str (pv 2) (po_some pe_int) po_none) (pa_cons (pe_op op_add_str (pv 2) (pv 2)) (pa_cons (pe_slice sl_str (pv 2) po_none (po_some (pe_un un_neg pe_int))) pa_nil)))))))))
  (pss_one (ps_ret (pe_call G__law_pick hr__law_pick (by rfl) g__law_pick k__law_pick b__law_pick .nil pass0 (pa_cons (pv 0) (pa_cons (pe_op op_cat (pv 3) (pe_call G__law_some hr__law_some (by rfl) g__law_some k__law_some b__law_some .nil pass0 (pa_cons (pv 0) (pa_cons (pe_lst (pa_cons pe_non (pa_cons pe_int (pa_cons pe_bl (pa_cons (pe_tup pa_nil) (pa_cons (pe_tup (pa_cons pe_str pa_nil)) (pa_cons (pe_lst (pa_cons pe_str pa_nil)) (pa_cons pe_dnewK (pa_cons (pe_op op_pow pe_int pe_int) (pa_cons pe_str pa_nil)))))))))) (pa_cons pe_int pa_nil))))) pa_nil)))))))), ?_⟩
    walk_at "rd"
    intro l nl
    walk_at "rd"
    have D1 := hD.new (o := HO.lst (kws.map V.str)) nl
    refine ⟨d, l, kws.map V.str, rfl, by decide, by decide, D1, fun H' sb => .inl (SqL.of (sb _ _ (hD.ne nl).symm upd_same)), fun H2 v sb2 D2 hv => ?_⟩
    obtain ⟨w, hw, rfl⟩ := strs_mem hv
    obtain ⟨wo, wl⟩ := kws_ok w hw
    have sb02 : SB d H H2 := (SB.new nl).trans sb2
    clear sb2
    walk_at "rd"
    intro H3 z1 sb3 D3 zl1 zo1
    walk_at "rd"
    intro H4 z2 sb4 D4 zl2 zo2
    have sb04 : SB d H H4 := (sb02.trans sb3).trans sb4
    walk_at "rd"
    refine ⟨by show w.length + 1 ≤ sizeLine; exact Nat.le_of_lt (small1000 (by omega)), ?_⟩
    walk_at "rd"
    refine ⟨Nat.le_of_lt (small1000 (by omega)), ?_⟩
    walk_at "rd"
    refine ⟨Nat.le_of_lt (small1000 (by omega)), ?_⟩
    walk_at "rd"
    refine ⟨Nat.le_of_lt (small1000 (by omega)), ?_⟩
    walk_at "rd"
    intro ps nps
    first | refine newly nps fun H5 s5 f5 => ?_ | refine newly2 nps fun H5 s5 f5 => ?_
    have D5 := D4.same s5
    have nps' : ps ≠ d := (D4.ne nps).symm
    walk_at "rd"
    intro p1 n1
    first | refine newly n1 fun H6 s6 f6 => ?_ | refine newly2 n1 fun H6 s6 f6 => ?_
    walk_at "rd"
    intro p2 n2
    first | refine newly n2 fun H7 s7 f7 => ?_ | refine newly2 n2 fun H7 s7 f7 => ?_
    walk_at "rd"
    intro p3 n3
    first | refine newly n3 fun H8 s8 f8 => ?_ | refine newly2 n3 fun H8 s8 f8 => ?_
    walk_at "rd"
    intro p4 n4
    first | refine newly n4 fun H9 s9 f9 => ?_ | refine newly2 n4 fun H9 s9 f9 => ?_
    walk_at "rd"
    intro p5 n5
    first | refine newly n5 fun H10 s10 f10 => ?_ | refine newly2 n5 fun H10 s10 f10 => ?_
    walk_at "rd"
    have t10 : Same H5 H10 := ((((s6.trans s7).trans s8).trans s9).trans s10)
    have D10 := D5.same t10
    refine ⟨d, p5, _, 1, rfl, by decide, by decide, ?_, D10, .inl (SqL.of f10), fun H11 p6 ys zs sb11 D11 n6 n6' f11 pm ly => ?_⟩
    · simp only [List.length_cons, List.length_nil]
      decide
    refine ⟨ps, p6, _, _, rfl, rfl, sb11 _ _ nps' (t10 _ _ f5), f11, ?_, fun p7 n7 => ?_⟩
    · rw [ly]
      simp only [List.length_cons, List.length_nil]
      decide
    first | refine newly n7 fun H12 s12 f12 => ?_ | refine newly2 n7 fun H12 s12 f12 => ?_
    have D12 := D11.same s12
    refine ⟨d, p7, _, rfl, by simp, ?_, D12, fun H' sb => .inl (SqL.of (sb _ _ (D11.ne n7).symm f12)), fun H13 v sb13 D13 hv => ?_⟩
    · rw [List.length_append, ly]
      simp only [List.length_cons, List.length_nil]
      decide
    have sb05 : SB d H H5 := sb04.trans (.of s5)
    refine q H13 v ((((sb05.trans (.of t10)).trans sb11).trans (.of s12)).trans sb13) D13 ?_
    have far : ∀ p o, H10 p = some o → p ≠ d → H13 p = some o := fun p o e n => sb13 _ _ n (s12 _ _ (sb11 _ _ n e))
    rcases List.mem_append.mp hv with hv | hv
    · left
      have l1 : (w ++ Str.ofString "s").length ≤ 100 := by
        rw [Str.length_append]
        show w.length + 1 ≤ 100
        omega
      have l2 : (w ++ w).length ≤ 100 := by
        rw [Str.length_append]
        omega
      simp only [List.mem_cons, List.not_mem_nil, or_false] at hv
      rcases hv with rfl | rfl | rfl | rfl | rfl | rfl | rfl
      · exact ⟨_, rfl, by omega, zo1⟩
      · exact ⟨_, rfl, by omega, zo2⟩
      · exact ⟨_, rfl, by omega, wo⟩
      · exact ⟨_, rfl, l1, wo.app (by
          intro c hc
          have e : c = 115 := List.mem_singleton.mp (show c ∈ [115] from hc)
          omega)⟩
      · exact ⟨_, rfl, Nat.le_trans (cut_len _ _ _) (by omega), wo.cut _ _⟩
      · exact ⟨_, rfl, l2, wo.app wo⟩
      · exact ⟨_, rfl, Nat.le_trans (cut_len _ _ _) (by omega), wo.cut _ _⟩
    · have hv2 := pm.subset (List.mem_append_left _ hv)
      simp only [List.mem_cons, List.not_mem_nil, or_false] at hv2
      rcases hv2 with rfl | rfl | rfl | rfl | rfl | rfl | rfl | rfl | rfl
      · exact .inr (notStr .non (by decide +kernel))
      · exact .inr (notStr (.int _) (by decide +kernel))
      · exact .inr (notStr (.bl _) (by decide +kernel))
      · exact .inr (notStr (.tup (far _ _ ((((s7.trans s8).trans s9).trans s10) _ _ f6) (D5.ne n1).symm)) (by decide +kernel))
      · exact .inr (notStr (.tup (far _ _ (((s8.trans s9).trans s10) _ _ f7) ((D5.same s6).ne n2).symm)) (by decide +kernel))
      · exact .inr (notStr (.lst (far _ _ ((s9.trans s10) _ _ f8) ((D5.same (s6.trans s7)).ne n3).symm)) (by decide +kernel))
      · exact .inr (notStr (.dK (far _ _ (s10 _ _ f9) ((D5.same ((s6.trans s7).trans s8)).ne n4).symm)) (by decide +kernel))
      · exact .inr (notStr (.int _) (by decide +kernel))
      · exact .inl ⟨_, rfl, by decide, by
          have h : ((Str.ofString "Ask").cps.toList.all (fun c => decide (c < 0x110000))) = true := by decide +kernel
          intro c hc
          exact of_decide_eq_true (List.all_eq_true.mp h c hc)⟩
end




abbrev s_law : Stmt := topS 15
abbrev N_law : List Str := ["script", "spot", "dice", "turn", "value", "told", "due", "words", "one"]
theorem sc_law : FnScope N_law ["script"] (defScope s_law) := ⟨rfl, rfl, rfl, by decide +kernel, rfl, by decide +kernel, by decide +kernel⟩

def six : List Str := ["handle", "handles", "abcdefgh", "abcdefghi", "", "a b"]
theorem tyx_same1 {K : PySem.W.Frag} {H H' : Hp} {v : V} {t : Value} (s : Same H H') (h : TyX K H v t) : TyX K H' v t := by
  cases h with
  | base b =>
    cases b with
    | non => exact .base .non
    | bl y => exact .base (.bl y)
    | int i => exact .base (.int i)
    | str y => exact .base (.str y)
    | flt y => exact .base (.flt y)
    | lst e => exact .base (.lst (s _ _ e))
    | frz e => exact .base (.frz (s _ _ e))
    | tup e => exact .base (.tup (s _ _ e))
    | dK e => exact .base (.dK (s _ _ e))
    | dT e => exact .base (.dT (s _ _ e))
    | ins e cl ha hn htk hm => exact .base (.ins (s _ _ e) cl ha hn htk hm)
  | byt y => exact .byt y
  | set e => exact .set (s _ _ e)
  | kList e c => exact .kList e c
  | kTuple e c => exact .kTuple e c
  | kDict e c => exact .kDict e c
  | fTuple e => exact .fTuple (s _ _ e)
  | fDict e => exact .fDict (s _ _ e)
theorem NotStr.same {K : PySem.W.Frag} {H H' : Hp} {v : V} (s : Same H H') (h : NotStr K H v) : NotStr K H' v := by
  obtain ⟨t, ty, e⟩ := h
  exact ⟨t, tyx_same1 s ty, e⟩
def spLaw (K : PySem.W.Frag) : Sp := fun vs H Q _ => ∃ (a : Addr) (ns : List Int), vs = [.ref a] ∧ SqL K H a (ns.map V.int) ∧ ns.length ≤ 63 ∧ ∀ H', Q (.bl true) H'
section
variable {P : Program} {w : World} {K : PySem.W.Frag} {mg : Str → Option Value} {base : Heap}
theorem ok_law {kw : Addr} {t8 t3 t200 : Tok} {f : Addr} {fd : FuncData} (F : Fun K "law" "law" s_law f fd) (RD : Ok P w K mg base 1 "_law_dice" ["script", "spot"] (spDice K)) (RV : Ok P w K mg base 4 "_law_value" ["dice"] (spValue K)) (RN : Ok P w K mg base 1 "is_name" ["value"] (spName K)) (RW : Ok P w K mg base 1 "_law_is_word" ["value"] (spWord K))
    (g_MAX_LETTERS : mg "MAX_LETTERS" = some (.int 8 t8)) (g_MAX_LABELS : mg "MAX_LABELS" = some (.int 3 t3)) (g_MAX_WORLD : mg "MAX_WORLD" = some (.int 200 t200)) (g_KEYWORDS : mg "KEYWORDS" = some (.ref kw)) (hkw : ∀ H, SqT K H kw (kws.map V.str))
    (z_len : mg "len" = none) (z_range : mg "range" = none) (z_min : mg "min" = none) (z_max : mg "max" = none) (z_repr : mg "repr" = none) : FnOk P w K mg base CX0 5 f fd ["script"] (spLaw K) := by
  obtain ⟨fD, fdD, g__law_dice, k__law_dice, b__law_dice, G__law_dice⟩ := RD
  obtain ⟨fV, fdV, g__law_value, k__law_value, b__law_value, G__law_value⟩ := RV
  obtain ⟨fN, fdN, g_is_name, k_is_name, b_is_name, G_is_name⟩ := RN
  obtain ⟨fW, fdW, g__law_is_word, k__law_is_word, b__law_is_word, G__law_is_word⟩ := RW
  refine F.ok sc_law (fun vs H Q E h => ?_) (fun cdv A outer s H vs Q E hr h => ?_)
  · obtain ⟨a, ns, rfl, _⟩ := h
    rfl
  · obtain ⟨a, ns, rfl, hS, hl, q⟩ := h
    have hr__law_value := hr
    have hr__law_dice : Room 1 _ := hr.mono (by decide)
    have hr_is_name := hr__law_dice
    have hr__law_is_word := hr__law_dice
    refine ⟨_, (pss_cons (ps_for PassesOwn.never rfl (pi_range1 (by rfl) z_range (pa_cons (pe_callB (call_max2 rfl) (by rfl) z_max Rw.bt_max (pa_cons pe_int (pa_cons (pe_callB (call_min2 rfl) (by rfl) z_min Rw.bt_min (pa_cons pe_int (pa_cons (pe_callB (Rw.k_len (K := K)) (by rfl) z_len Rw.bt_len (pa_cons (pv 0) pa_nil)) pa_nil))) pa_nil))) pa_nil)) (pg_name (i := 1) sc_law.nd rfl (.inl rfl))
   (pss_cons (ps_set (i := 2) sc_law.nd rfl (.inl rfl) (pe_call G__law_dice hr__law_dice (by rfl) g__law_dice k__law_dice b__law_dice .nil pass0 (pa_cons (pv 0) (pa_cons (pv 1) pa_nil))))
  (pss_one (ps_for PassesOwn.never rfl (pi_range1 (by rfl) z_range (pa_cons pe_int pa_nil)) (pg_name (i := 3) sc_law.nd rfl (.inl rfl))
   (pss_cons (ps_set (i := 4) sc_law.nd rfl (.inl rfl) (pe_call G__law_value hr__law_value (by rfl) g__law_value k__law_value b__law_value .nil pass0 (pa_cons (pv 2) pa_nil)))
  (pss_one (ps_if (pt_cmpR op_ne (pe_callB Rw.call_repr_bool (by rfl) z_repr Rw.bt_repr (pa_cons (pe_call G_is_name hr_is_name (by rfl) g_is_name k_is_name b_is_name .nil pass0 (pa_cons (pv 4) pa_nil)) pa_nil)) (pe_callB Rw.call_repr_bool (by rfl) z_repr Rw.bt_repr (pa_cons (pe_call G__law_is_word hr__law_is_word (by rfl) g__law_is_word k__law_is_word b__law_is_word .nil pass0 (pa_cons (pv 4) pa_nil)) pa_nil)) (nomark _)) (pss_one (ps_ret pe_bl)) pss_nil)))))))
  (pss_cons (ps_setLc (i := 5) (own := [("one", 8)]) rfl sc_law.nd rfl rfl (sw_true rfl rfl rfl (by decide +kernel)) (Rw.k_pl (K := K) (pe_lst (pa_cons pe_str (pa_cons pe_str (pa_cons pe_str (pa_cons pe_str (pa_cons pe_str (pa_cons pe_str pa_nil)))))))) (blkOk_by (own := [("one", 8)]) (N := N_law) (sc := defScope s_law) (by decide +kernel)) (fun _ _ _ _ _ => (pg_name (i := 8) sc_law.nd rfl (.inl rfl))) (fun _ _ _ _ _ => pts_nil) (fun _ _ _ _ _ => (pe_call G_is_name hr_is_name (by rfl) g_is_name k_is_name b_is_name .nil pass0 (pa_cons (pv 8) pa_nil))))
  (pss_cons (ps_set (i := 6) sc_law.nd rfl (.inl rfl) (pe_lst (pa_cons pe_bl (pa_cons pe_bl (pa_cons pe_bl (pa_cons pe_bl (pa_cons pe_bl (pa_cons pe_bl pa_nil))))))))
  (pss_cons (ps_set (i := 7) sc_law.nd rfl (.inl rfl) (pe_tup (pa_cons pe_str (pa_cons pe_str (pa_cons pe_str (pa_cons pe_str (pa_cons pe_str (pa_cons pe_str (pa_cons pe_str (pa_cons pe_str (pa_cons pe_str pa_nil)))))))))))
  (pss_one (ps_ret (pe_and (pe_cmpR (Rw.k_eqD (K := K) hr.units) (pv 5) (pv 6) (nomark _)) (pe_one (pe_cmpR (Rw.k_eqD (K := K) hr.units) (pe_lst (pa_cons (pe_glob (v := .int 8) rfl g_MAX_LETTERS ⟨_, rfl⟩) (pa_cons (pe_glob (v := .int 3) rfl g_MAX_LABELS ⟨_, rfl⟩) (pa_cons (pe_glob (v := .int 200) rfl g_MAX_WORLD ⟨_, rfl⟩) (pa_cons (pe_glob (v := .ref kw) rfl g_KEYWORDS rfl) pa_nil))))) (pe_lst (pa_cons pe_int (pa_cons pe_int (pa_cons pe_int (pa_cons (pv 7) pa_nil))))) (nomark _)))))))))), ?_⟩
    walk_at "rd"
    refine ⟨a, _, rfl, .inl hS, ?_⟩
    refine ⟨_, _, rfl, ?_⟩
    refine ⟨_, _, rfl, ?_⟩
    generalize hm : (if (if ((ns.map V.int).length : Int) < 8 then ((ns.map V.int).length : Int) else 8) > 1 then (if ((ns.map V.int).length : Int) < 8 then ((ns.map V.int).length : Int) else 8) else 1) = m
    have hm2 : m ≤ 8 := by
      rw [← hm]
      split <;> split <;> omega
    have hm1 : 1 ≤ m := by
      rw [← hm]
      split <;> split <;> omega
    refine ⟨_, rfl, by omega, by omega, ?_⟩
    refine for_range (lo := 0) (n := _) (fun i σ H1 => ∃ y1 y2 y3 y4, σ = [some (.ref a), y1, y2, y3, y4, none, none, none, none] ∧ Same H H1) ⟨none, none, none, none, rfl, Same.refl H⟩ ?_ ?_
    · rintro i σ H1 hi ⟨y1, y2, y3, y4, rfl, sm⟩
      walk_at "rd"
      refine ⟨a, ns, i, by rw [Int.zero_add]; rfl, sm.seq hS, hl, fun H2 d s2 nd D2 => ?_⟩
      have nd0 : H d = none := sm.free nd
      walk_at "rd"
      refine for_range (lo := 0) (n := _) (fun j σ H3 => ∃ y3 y4, σ = [some (.ref a), some (.int (0 + i)), some (.ref d), y3, y4, none, none, none, none] ∧ SB d H2 H3 ∧ Dice H3 d) ⟨y3, y4, rfl, SB.refl _ _, D2⟩ ?_ ?_
      · rintro j σ H3 hj ⟨y3, y4, rfl, sb3, D3⟩
        walk_at "rd"
        intro H4 v sb4 D4 hv
        walk_at "rd"
        have fin : ∀ H6, Same H4 H6 → SB d H2 H6 ∧ Dice H6 d := fun H6 s => ⟨(sb3.trans sb4).trans (.of s), D4.same s⟩
        rcases hv with ⟨z, rfl, zl, zo⟩ | hn
        · refine .inl ⟨z, rfl, Nat.le_of_lt (small1000 (by omega)), fun H5 s5 => ?_⟩
          walk_at "rd"
          refine ⟨Nat.le_of_lt (small1000 (by omega)), zo, fun H6 s6 => ?_⟩
          walk_at "rd"
          refine iteNS rfl ?_
          exact ⟨_, _, rfl, fin H6 (s5.trans s6)⟩
        · refine .inr ⟨hn, fun H5 s5 => ?_⟩
          walk_at "rd"
          refine .inr ⟨hn.same s5, fun H6 s6 => ?_⟩
          walk_at "rd"
          refine iteNS rfl ?_
          exact ⟨_, _, rfl, fin H6 (s5.trans s6)⟩
      · rintro σ H3 ⟨y3, y4, rfl, sb3, D3⟩
        refine ⟨_, _, _, _, rfl, fun b o hb => sb3 b o (ne_of_none hb nd0) (s2 b o (sm b o hb))⟩
    · rintro σ H1 ⟨y1, y2, y3, y4, rfl, sm⟩
      walk_at "rd"
      intro p np
      generalize hX : upd H1 p _ = Ha
      have sa : Same H1 Ha := hX ▸ Same.new np
      have fa : Ha p = some (.lst (six.map V.str)) := hX ▸ upd_same
      have fa' : Ha p = some (.lst (six.map V.str)) := fa
      refine ⟨p, rfl, ⟨_, SqL.of fa⟩, fun D nD => ?_⟩
      refine lc_list (K := K) (a := p) (xs := six.map V.str) (PvA Ha D fun i => (six.map fun z => V.bl (isName z)).take i) (PvA.start nD rfl) (fun i H2 _ p2 => SqL.of (p2.1 _ _ fa')) (fun i x H2 hx p2 => ?_) (fun H2 p2 => ?_)
      · obtain ⟨z, hz, rfl⟩ : ∃ z, six[i]? = some z ∧ x = V.str z := by
          rw [List.getElem?_map] at hx
          cases e : six[i]? with
          | none => rw [e] at hx; cases hx
          | some z => rw [e] at hx; exact ⟨z, rfl, (Option.some.inj hx).symm⟩
        have hb : (six.map fun z => V.bl (isName z))[i]? = some (V.bl (isName z)) := by
          rw [List.getElem?_map, hz]
          rfl
        have hi : i < (six.map fun z => V.bl (isName z)).length := (List.getElem?_eq_some_iff.mp hb).1
        refine ⟨rfl, ?_⟩
        walk_at "rd"
        refine ⟨?_, fun H5 s5 => PvA.put nD (p2.1.trans s5) (s5 _ _ p2.2) (take_lt hi (by decide)) (take_put hb)⟩
        have h6 : six.all (fun z => decide (z.length ≤ 1000)) = true := by decide +kernel
        exact Nat.le_of_lt (small1000 (of_decide_eq_true (List.all_eq_true.mp h6 z (List.mem_of_getElem? hz))))
      · have e2 : H2 D = some (.lst ((six.map isName).map V.bl)) := p2.2
        walk_at "rd"
        intro p3 n3
        first | refine newly n3 fun Hb sb fb => ?_ | refine newly2 n3 fun Hb sb fb => ?_
        walk_at "rd"
        intro p4 n4
        first | refine newly n4 fun Hc sc fc => ?_ | refine newly2 n4 fun Hc sc fc => ?_
        walk_at "rd"
        refine ⟨_, _, .lst (SqL.of (sc _ _ (sb _ _ e2))) (dp_bls _), .lst (SqL.of (sc _ _ fb)) (dp_bls [false, true, true, false, false, false]), by decide +kernel, by decide +kernel, ?_⟩
        have ev : PyData.eqv (.list ((six.map isName).map PyData.bool)) (.list ([false, true, true, false, false, false].map PyData.bool)) = true := by decide +kernel
        rw [ev]
        walk_at "rd"
        intro p5 n5
        first | refine newly n5 fun Hd sd fd => ?_ | refine newly2 n5 fun Hd sd fd => ?_
        walk_at "rd"
        intro p6 n6
        first | refine newly n6 fun He se fe => ?_ | refine newly2 n6 fun He se fe => ?_
        have ds : ∀ (a : Addr), SqT K He a (kws.map V.str) → DpAll K He [.int 8, .int 3, .int 200, .ref a] [.int 8, .int 3, .int 200, .tuple (kws.map PyData.str)] := fun a h =>
          .cons (.int _) (.cons (.int _) (.cons (.int _) (.cons (.tup h (dp_strs _)) .nil)))
        refine ⟨_, _, .lst (SqL.of (se _ _ fd)) (ds kw (hkw _)), .lst (SqL.of fe) (ds p4 (SqT.of (se _ _ (sd _ _ fc)))), by decide +kernel, by decide +kernel, ?_⟩
        have ew : PyData.eqv (.list [.int 8, .int 3, .int 200, .tuple (kws.map PyData.str)]) (.list [.int 8, .int 3, .int 200, .tuple (kws.map PyData.str)]) = true := by decide +kernel
        rw [ew]
        exact q _
end


theorem all_mk {l : PySem.W.OpenLaw} {w : World} {K : PySem.W.Frag} {h : Heap} {mg : Str → Option Value} {fa : Addr} (X : K.In h) (G : h.Ns mainGlobals mg) (hfa : mg "law" = some (.ref fa))
    {f1 f2 f3 f4 f5 f6 f7 f8 f9 : Addr} {od1 an1 od2 an2 od3 an3 od4 an4 od5 an5 od6 an6 od7 an7 od8 an8 od9 an9 : Option Addr} {sl1 sl2 sl3 sl4 sl5 sl6 sl7 sl8 sl9 : Array (Option Value)} {oc1 kV1 dc1 pm1 cd1 ct1 oc2 kV2 dc2 pm2 cd2 ct2 oc3 kV3 dc3 pm3 cd3 ct3 oc4 kV4 dc4 pm4 cd4 ct4 oc5 kV5 dc5 pm5 cd5 ct5 oc6 kV6 dc6 pm6 cd6 ct6 oc7 kV7 dc7 pm7 cd7 ct7 oc8 kV8 dc8 pm8 cd8 ct8 oc9 kV9 dc9 pm9 cd9 ct9 : Value}
    (a1 : PySem.W.nsIn K mainGlobals "is_name" = some (some (.ref f1))) (l1 : K.lookup f1 = some ⟨oc1, od1, .func (PySem.W.fnOf "is_name" "is_name" (defArgs s_is_name) (defBody s_is_name) (defScope s_is_name) .none kV1 dc1 pm1 an1 cd1 ct1), sl1⟩) (c1 : PySem.W.codeIn K cd1 "is_name" = true) (k1 : PySem.W.keepIn K (.ref f1) = true)
    (a2 : PySem.W.nsIn K mainGlobals "_law_dice" = some (some (.ref f2))) (l2 : K.lookup f2 = some ⟨oc2, od2, .func (PySem.W.fnOf "_law_dice" "_law_dice" (defArgs s__law_dice) (defBody s__law_dice) (defScope s__law_dice) .none kV2 dc2 pm2 an2 cd2 ct2), sl2⟩) (c2 : PySem.W.codeIn K cd2 "_law_dice" = true) (k2 : PySem.W.keepIn K (.ref f2) = true)
    (a3 : PySem.W.nsIn K mainGlobals "_law_roll" = some (some (.ref f3))) (l3 : K.lookup f3 = some ⟨oc3, od3, .func (PySem.W.fnOf "_law_roll" "_law_roll" (defArgs s__law_roll) (defBody s__law_roll) (defScope s__law_roll) .none kV3 dc3 pm3 an3 cd3 ct3), sl3⟩) (c3 : PySem.W.codeIn K cd3 "_law_roll" = true) (k3 : PySem.W.keepIn K (.ref f3) = true)
    (a4 : PySem.W.nsIn K mainGlobals "_law_pick" = some (some (.ref f4))) (l4 : K.lookup f4 = some ⟨oc4, od4, .func (PySem.W.fnOf "_law_pick" "_law_pick" (defArgs s__law_pick) (defBody s__law_pick) (defScope s__law_pick) .none kV4 dc4 pm4 an4 cd4 ct4), sl4⟩) (c4 : PySem.W.codeIn K cd4 "_law_pick" = true) (k4 : PySem.W.keepIn K (.ref f4) = true)
    (a5 : PySem.W.nsIn K mainGlobals "_law_some" = some (some (.ref f5))) (l5 : K.lookup f5 = some ⟨oc5, od5, .func (PySem.W.fnOf "_law_some" "_law_some" (defArgs s__law_some) (defBody s__law_some) (defScope s__law_some) .none kV5 dc5 pm5 an5 cd5 ct5), sl5⟩) (c5 : PySem.W.codeIn K cd5 "_law_some" = true) (k5 : PySem.W.keepIn K (.ref f5) = true)
    (a6 : PySem.W.nsIn K mainGlobals "_law_is_word" = some (some (.ref f6))) (l6 : K.lookup f6 = some ⟨oc6, od6, .func (PySem.W.fnOf "_law_is_word" "_law_is_word" (defArgs s__law_is_word) (defBody s__law_is_word) (defScope s__law_is_word) .none kV6 dc6 pm6 an6 cd6 ct6), sl6⟩) (c6 : PySem.W.codeIn K cd6 "_law_is_word" = true) (k6 : PySem.W.keepIn K (.ref f6) = true)
    (a7 : PySem.W.nsIn K mainGlobals "_law_string" = some (some (.ref f7))) (l7 : K.lookup f7 = some ⟨oc7, od7, .func (PySem.W.fnOf "_law_string" "_law_string" (defArgs s__law_string) (defBody s__law_string) (defScope s__law_string) .none kV7 dc7 pm7 an7 cd7 ct7), sl7⟩) (c7 : PySem.W.codeIn K cd7 "_law_string" = true) (k7 : PySem.W.keepIn K (.ref f7) = true)
    (a8 : PySem.W.nsIn K mainGlobals "_law_value" = some (some (.ref f8))) (l8 : K.lookup f8 = some ⟨oc8, od8, .func (PySem.W.fnOf "_law_value" "_law_value" (defArgs s__law_value) (defBody s__law_value) (defScope s__law_value) .none kV8 dc8 pm8 an8 cd8 ct8), sl8⟩) (c8 : PySem.W.codeIn K cd8 "_law_value" = true) (k8 : PySem.W.keepIn K (.ref f8) = true)
    (a9 : PySem.W.nsIn K mainGlobals "law" = some (some (.ref f9))) (l9 : K.lookup f9 = some ⟨oc9, od9, .func (PySem.W.fnOf "law" "law" (defArgs s_law) (defBody s_law) (defScope s_law) .none kV9 dc9 pm9 an9 cd9 ct9), sl9⟩) (c9 : PySem.W.codeIn K cd9 "law" = true) (k9 : PySem.W.keepIn K (.ref f9) = true)
    (y_len : PySem.W.nsIn K mainGlobals "len" = some none)
    (y_int : PySem.W.nsIn K mainGlobals "int" = some none)
    (y_abs : PySem.W.nsIn K mainGlobals "abs" = some none)
    (y_max : PySem.W.nsIn K mainGlobals "max" = some none)
    (y_min : PySem.W.nsIn K mainGlobals "min" = some none)
    (y_list : PySem.W.nsIn K mainGlobals "list" = some none)
    (y_range : PySem.W.nsIn K mainGlobals "range" = some none)
    (y_isinstance : PySem.W.nsIn K mainGlobals "isinstance" = some none)
    (y_str : PySem.W.nsIn K mainGlobals "str" = some none)
    (y_repr : PySem.W.nsIn K mainGlobals "repr" = some none)
    {t_MAX_LETTERS : Tok} (y_MAX_LETTERS : PySem.W.nsIn K mainGlobals "MAX_LETTERS" = some (some (.int 8 t_MAX_LETTERS)))
    {t_MAX_LABELS : Tok} (y_MAX_LABELS : PySem.W.nsIn K mainGlobals "MAX_LABELS" = some (some (.int 3 t_MAX_LABELS)))
    {t_MAX_WORLD : Tok} (y_MAX_WORLD : PySem.W.nsIn K mainGlobals "MAX_WORLD" = some (some (.int 200 t_MAX_WORLD)))
    {x_KEYWORDS : Addr} {d_KEYWORDS : Option Addr} {i_KEYWORDS : Array Value} {n_KEYWORDS : Nat} {s_KEYWORDS' : Array (Option Value)} (y_KEYWORDS : PySem.W.nsIn K mainGlobals "KEYWORDS" = some (some (.ref x_KEYWORDS))) (w_KEYWORDS : K.lookup x_KEYWORDS = some ⟨.type "tuple", d_KEYWORDS, .seq i_KEYWORDS n_KEYWORDS, s_KEYWORDS'⟩) (v_KEYWORDS : Vals (kws.map V.str) i_KEYWORDS.toList) (u_KEYWORDS : i_KEYWORDS.size ≤ sizeLine)
    {x_NO_NAMES : Addr} {e_NO_NAMES : Array DictEntry} {n_NO_NAMES : Nat} (y_NO_NAMES : PySem.W.nsIn K mainGlobals "NO_NAMES" = some (some (.ref x_NO_NAMES))) (w_NO_NAMES : K.lookup x_NO_NAMES = some ⟨.type "dict", none, .dict e_NO_NAMES n_NO_NAMES, #[]⟩) (v_NO_NAMES : Paired (KeyRow w) e_NO_NAMES.toList kws) (u_NO_NAMES : (x_NO_NAMES == sysModules) = false)

    : ∃ fd : FuncData, (∀ (s : Shared) (v : Value), BindsTo s fd ⟨[v], []⟩ [("script", v)]) ∧ ∀ base : Heap, K.In base → base.Ns mainGlobals mg → FnOk l.prog w K mg base CX0 5 fa fd ["script"] (spLaw K) := by
  have e := hfa.symm.trans (PySem.W.mg_of X G a9)
  cases e
  have H1 : Has K mg "is_name" s_is_name ["value"] := ⟨f1, _, PySem.W.mg_of X G a1, fun_mk (st := s_is_name) l1 c1 k1, (fun_mk (st := s_is_name) l1 c1 k1).binds (ps := ["value"]) fun _ _ _ _ _ _ us hl => match us, hl with | [_], _ => rfl⟩
  have H2 : Has K mg "_law_dice" s__law_dice ["script", "spot"] := ⟨f2, _, PySem.W.mg_of X G a2, fun_mk (st := s__law_dice) l2 c2 k2, (fun_mk (st := s__law_dice) l2 c2 k2).binds (ps := ["script", "spot"]) fun _ _ _ _ _ _ us hl => match us, hl with | [_, _], _ => rfl⟩
  have H3 : Has K mg "_law_roll" s__law_roll ["dice", "total"] := ⟨f3, _, PySem.W.mg_of X G a3, fun_mk (st := s__law_roll) l3 c3 k3, (fun_mk (st := s__law_roll) l3 c3 k3).binds (ps := ["dice", "total"]) fun _ _ _ _ _ _ us hl => match us, hl with | [_, _], _ => rfl⟩
  have H4 : Has K mg "_law_pick" s__law_pick ["dice", "items"] := ⟨f4, _, PySem.W.mg_of X G a4, fun_mk (st := s__law_pick) l4 c4 k4, (fun_mk (st := s__law_pick) l4 c4 k4).binds (ps := ["dice", "items"]) fun _ _ _ _ _ _ us hl => match us, hl with | [_, _], _ => rfl⟩
  have H5 : Has K mg "_law_some" s__law_some ["dice", "items", "size"] := ⟨f5, _, PySem.W.mg_of X G a5, fun_mk (st := s__law_some) l5 c5 k5, (fun_mk (st := s__law_some) l5 c5 k5).binds (ps := ["dice", "items", "size"]) fun _ _ _ _ _ _ us hl => match us, hl with | [_, _, _], _ => rfl⟩
  have H6 : Has K mg "_law_is_word" s__law_is_word ["value"] := ⟨f6, _, PySem.W.mg_of X G a6, fun_mk (st := s__law_is_word) l6 c6 k6, (fun_mk (st := s__law_is_word) l6 c6 k6).binds (ps := ["value"]) fun _ _ _ _ _ _ us hl => match us, hl with | [_], _ => rfl⟩
  have H7 : Has K mg "_law_string" s__law_string ["dice"] := ⟨f7, _, PySem.W.mg_of X G a7, fun_mk (st := s__law_string) l7 c7 k7, (fun_mk (st := s__law_string) l7 c7 k7).binds (ps := ["dice"]) fun _ _ _ _ _ _ us hl => match us, hl with | [_], _ => rfl⟩
  have H8 : Has K mg "_law_value" s__law_value ["dice"] := ⟨f8, _, PySem.W.mg_of X G a8, fun_mk (st := s__law_value) l8 c8 k8, (fun_mk (st := s__law_value) l8 c8 k8).binds (ps := ["dice"]) fun _ _ _ _ _ _ us hl => match us, hl with | [_], _ => rfl⟩
  have FL := fun_mk (st := s_law) l9 c9 k9
  have z_len := PySem.W.mg_none_of X G y_len
  have z_int := PySem.W.mg_none_of X G y_int
  have z_abs := PySem.W.mg_none_of X G y_abs
  have z_max := PySem.W.mg_none_of X G y_max
  have z_min := PySem.W.mg_none_of X G y_min
  have z_list := PySem.W.mg_none_of X G y_list
  have z_range := PySem.W.mg_none_of X G y_range
  have z_isinstance := PySem.W.mg_none_of X G y_isinstance
  have z_str := PySem.W.mg_none_of X G y_str
  have z_repr := PySem.W.mg_none_of X G y_repr
  have g_MAX_LETTERS := PySem.W.mg_of X G y_MAX_LETTERS
  have g_MAX_LABELS := PySem.W.mg_of X G y_MAX_LABELS
  have g_MAX_WORLD := PySem.W.mg_of X G y_MAX_WORLD
  have g_KEYWORDS := PySem.W.mg_of X G y_KEYWORDS
  have g_NO_NAMES := PySem.W.mg_of X G y_NO_NAMES
  have h_KEYWORDS : ∀ H, SqT K H x_KEYWORDS (kws.map V.str) := fun H => .inr ⟨_, i_KEYWORDS, n_KEYWORDS, w_KEYWORDS, rfl, rfl, u_KEYWORDS, v_KEYWORDS⟩
  have hk_NO_NAMES := hasKD_of w_NO_NAMES v_NO_NAMES u_NO_NAMES
  refine ⟨PySem.W.fnOf "law" "law" (defArgs s_law) (defBody s_law) (defScope s_law) .none kV9 dc9 pm9 an9 cd9 ct9, fun s v => .of_eq rfl, fun base _ _ => ?_⟩
  have R := ok_roll (P := l.prog) (w := w) (base := base) H3 z_int
  have RP := ok_pick (P := l.prog) (w := w) (base := base) H4 R z_len
  have RS := ok_some (P := l.prog) (w := w) (base := base) H5 R z_len z_list z_range z_min
  have RT := ok_string (P := l.prog) (w := w) (base := base) H7 R RP z_list z_range
  have RV := ok_value (P := l.prog) (w := w) (base := base) H8 RP RS RT
  have RN := ok_name (P := l.prog) (w := w) (base := base) H1 g_MAX_LETTERS g_NO_NAMES hk_NO_NAMES z_len z_isinstance z_str
  have RW := ok_word (P := l.prog) (w := w) (base := base) H6 z_len z_isinstance z_str
  have RD := ok_dice (P := l.prog) (w := w) (base := base) H2 z_len z_int z_abs z_max
  exact ok_law FL RD RV RN RW g_MAX_LETTERS g_MAX_LABELS g_MAX_WORLD g_KEYWORDS h_KEYWORDS z_len z_range z_min z_max z_repr
end Rw
open PySem PySem.W PyProof.Rows in
set_option maxRecDepth 100000 in
set_option maxHeartbeats 0 in
theorem PySem.Challenge.cw_restwise_k01_names_judged_holds : PySem.Challenge.rw_restwise_k01_names_judged.Holds := by
  w_on; o_law; k_head; (case hw => w_witness2)
  k_fill
  refine L2.walk_of (l := PySem.Challenge.rw_restwise_k01_names_judged) (n := 63) (k := 5) (x := "script") (CX := fun _ => L2.CX0) (sp := fun w => Rw.spLaw _) rfl (by decide) rfl ⟨rfl, by decide, by decide⟩ (fun w h Y => PySem.W.kIn_of Y) ?F (fun _ _ a ns hl _ hS => ⟨a, ns, rfl, hS, hl, fun _ => rfl⟩) (fun _ _ _ _ _ h => h)
  case F =>
    intro w mg fa h KX G hmg
    refine' Rw.all_mk KX G hmg ?a1 ?l1 ?c1 ?k1 ?a2 ?l2 ?c2 ?k2 ?a3 ?l3 ?c3 ?k3 ?a4 ?l4 ?c4 ?k4 ?a5 ?l5 ?c5 ?k5 ?a6 ?l6 ?c6 ?k6 ?a7 ?l7 ?c7 ?k7 ?a8 ?l8 ?c8 ?k8 ?a9 ?l9 ?c9 ?k9 ?y_len ?y_int ?y_abs ?y_max ?y_min ?y_list ?y_range ?y_isinstance ?y_str ?y_repr ?y_MAX_LETTERS ?y_MAX_LABELS ?y_MAX_WORLD ?y_KEYWORDS ?w_KEYWORDS ?v_KEYWORDS ?u_KEYWORDS ?y_NO_NAMES ?w_NO_NAMES ?v_NO_NAMES ?u_NO_NAMES
    (case a1 => k_is)
    (case l1 => k_is)
    (case c1 => k_is)
    (case k1 => k_is)
    (case a2 => k_is)
    (case l2 => k_is)
    (case c2 => k_is)
    (case k2 => k_is)
    (case a3 => k_is)
    (case l3 => k_is)
    (case c3 => k_is)
    (case k3 => k_is)
    (case a4 => k_is)
    (case l4 => k_is)
    (case c4 => k_is)
    (case k4 => k_is)
    (case a5 => k_is)
    (case l5 => k_is)
    (case c5 => k_is)
    (case k5 => k_is)
    (case a6 => k_is)
    (case l6 => k_is)
    (case c6 => k_is)
    (case k6 => k_is)
    (case a7 => k_is)
    (case l7 => k_is)
    (case c7 => k_is)
    (case k7 => k_is)
    (case a8 => k_is)
    (case l8 => k_is)
    (case c8 => k_is)
    (case k8 => k_is)
    (case a9 => k_is)
    (case l9 => k_is)
    (case c9 => k_is)
    (case k9 => k_is)
    (case y_len => k_is)
    (case y_int => k_is)
    (case y_abs => k_is)
    (case y_max => k_is)
    (case y_min => k_is)
    (case y_list => k_is)
    (case y_range => k_is)
    (case y_isinstance => k_is)
    (case y_str => k_is)
    (case y_repr => k_is)
    (case y_MAX_LETTERS => k_is)
    (case y_MAX_LABELS => k_is)
    (case y_MAX_WORLD => k_is)
    (case y_KEYWORDS => k_is)
    (case w_KEYWORDS => k_is)
    (case v_KEYWORDS => exact .cons ⟨_, rfl⟩ (.cons ⟨_, rfl⟩ (.cons ⟨_, rfl⟩ (.cons ⟨_, rfl⟩ (.cons ⟨_, rfl⟩ (.cons ⟨_, rfl⟩ (.cons ⟨_, rfl⟩ (.cons ⟨_, rfl⟩ (.cons ⟨_, rfl⟩ .nil)))))))))
    (case u_KEYWORDS => decide)
    (case y_NO_NAMES => k_is)
    (case w_NO_NAMES => k_is)
    (case v_NO_NAMES => exact .cons ⟨⟨_, rfl⟩, rfl⟩ (.cons ⟨⟨_, rfl⟩, rfl⟩ (.cons ⟨⟨_, rfl⟩, rfl⟩ (.cons ⟨⟨_, rfl⟩, rfl⟩ (.cons ⟨⟨_, rfl⟩, rfl⟩ (.cons ⟨⟨_, rfl⟩, rfl⟩ (.cons ⟨⟨_, rfl⟩, rfl⟩ (.cons ⟨⟨_, rfl⟩, rfl⟩ (.cons ⟨⟨_, rfl⟩, rfl⟩ (.nil))))))))))
    (case u_NO_NAMES => decide)

