import PyProof.Rows.All
import HandS.TupLen
import HandS.Deep
import Wide.All
import OpenK.AllK
import Wide.FinOn
import HandS.ForMost
import HandS.IsInst
import KE.KRevSl
import KE.KDictSum
import HandS.Codes
import HandS.Conv
import HandS.DictComp
import HandS.TupAny
import HandS.Flow
import HandS.ExcOwn
import HandS.WordsExc
import KE.KListMore
import HandS.Zip
import HandS.ListItems
import KE.KItemsList
import KE.KDictZip
import HandS.SetKeys
import KE.GoesEnum
import KE.DataMinMax
import HandS.WordsDict
import HandS.Text
import HandS.Rev
import HandS.StrMore
import HandS.FStr
import HandS.Iter
import HandS.RaiseMore
import HandS.Nested
import HandS.ExcInit
import KE.KExcSuper
import KE.KSuper
import KE.KFromBytes
import HandS.ExcField
import HandS.TryOnly
import HandS.SortInts
import HandS.ReplaceLit
import HandS.ReplaceDef
import HandS.Style
import KE.GoesEnumKw
import PyProof.Draws
import HandS.ReplaceList
import KE.IntTextLaws
import PyProof.StrLawsTight
import PyProof.StrLawsChain
import KE.KExcIs
import PyProof.StrOps2
import PyProof.StrLawsRepr
import PySem.Challenge.RW_drivefold_k04_texts_that_are_no_terms
set_option Elab.async false
set_option linter.all false
set_option maxRecDepth 100000
set_option maxHeartbeats 4000000
namespace DF
open PySem L2
/-! ### data: None, ints, texts, tuples of such -/
inductive Dt where
  | non
  | key (k : Key)
  | tup (l : List Dt)
mutual
inductive DAt (K : PySem.W.Frag) (H : Hp) : V → Dt → Prop
  | non : DAt K H .non .non
  | key {k : Key} : DAt K H (kV k) (.key k)
  | tup {a : Addr} {vs : List V} {ds : List Dt} : SqT K H a vs → DsAt K H vs ds → vs.length ≤ 1000000 → DAt K H (.ref a) (.tup ds)
inductive DsAt (K : PySem.W.Frag) (H : Hp) : List V → List Dt → Prop
  | nil : DsAt K H [] []
  | cons {v : V} {d : Dt} {vs : List V} {ds : List Dt} : DAt K H v d → DsAt K H vs ds → DsAt K H (v :: vs) (d :: ds)
end
/-- tuples stay -/
def TStay (K : PySem.W.Frag) (H H' : Hp) : Prop := ∀ a xs, SqT K H a xs → SqT K H' a xs
mutual
theorem DAt.mono {K : PySem.W.Frag} {H H' : Hp} (st : TStay K H H') : ∀ {v : V} {d : Dt}, DAt K H v d → DAt K H' v d
  | _, _, .non => .non
  | _, _, .key => .key
  | _, _, .tup h t z => .tup (st _ _ h) (DsAt.mono st t) z
theorem DsAt.mono {K : PySem.W.Frag} {H H' : Hp} (st : TStay K H H') : ∀ {vs : List V} {ds : List Dt}, DsAt K H vs ds → DsAt K H' vs ds
  | _, _, .nil => .nil
  | _, _, .cons h t => .cons (DAt.mono st h) (DsAt.mono st t)
end
theorem DAt.tup_inv {K : PySem.W.Frag} {H : Hp} {v : V} {ds : List Dt} (h : DAt K H v (.tup ds)) : ∃ a vs, v = .ref a ∧ SqT K H a vs ∧ DsAt K H vs ds ∧ vs.length ≤ 1000000 := by
  cases h with
  | tup h t z => exact ⟨_, _, rfl, h, t, z⟩
theorem DsAt.length {K : PySem.W.Frag} {H : Hp} : ∀ {vs : List V} {ds : List Dt}, DsAt K H vs ds → vs.length = ds.length
  | _, _, .nil => rfl
  | _, _, .cons _ t => by rw [List.length_cons, List.length_cons, DsAt.length t]
theorem DsAt.get {K : PySem.W.Frag} {H : Hp} : ∀ {vs : List V} {ds : List Dt} {i : Nat} {d : Dt}, DsAt K H vs ds → ds[i]? = some d → ∃ v, vs[i]? = some v ∧ DAt K H v d
  | _, _, _, _, .nil, e => by simp at e
  | _, _, 0, _, .cons h _, e => by
    have e := Option.some.inj e
    subst e
    exact ⟨_, rfl, h⟩
  | _, _, i + 1, _, .cons _ t, e => DsAt.get (i := i) t e
theorem DsAt.append {K : PySem.W.Frag} {H : Hp} : ∀ {vs ws : List V} {ds es : List Dt}, DsAt K H vs ds → DsAt K H ws es → DsAt K H (vs ++ ws) (ds ++ es)
  | _, _, _, _, .nil, h => h
  | _, _, _, _, .cons a t, h => .cons a (DsAt.append t h)
theorem DsAt.take {K : PySem.W.Frag} {H : Hp} : ∀ {vs : List V} {ds : List Dt}, DsAt K H vs ds → ∀ n : Nat, DsAt K H (vs.take n) (ds.take n)
  | _, _, _, 0 => .nil
  | _, _, .nil, _ + 1 => .nil
  | _, _, .cons a t, n + 1 => .cons a (DsAt.take t n)
theorem DsAt.drop {K : PySem.W.Frag} {H : Hp} : ∀ {vs : List V} {ds : List Dt}, DsAt K H vs ds → ∀ n : Nat, DsAt K H (vs.drop n) (ds.drop n)
  | _, _, h, 0 => h
  | _, _, .nil, _ + 1 => .nil
  | _, _, .cons _ t, n + 1 => DsAt.drop t n
theorem DsAt.reverse {K : PySem.W.Frag} {H : Hp} : ∀ {vs : List V} {ds : List Dt}, DsAt K H vs ds → DsAt K H vs.reverse ds.reverse
  | _, _, .nil => .nil
  | _, _, .cons a t => by
    rw [List.reverse_cons, List.reverse_cons]
    exact DsAt.append (DsAt.reverse t) (.cons a .nil)
theorem DsAt.keys {K : PySem.W.Frag} {H : Hp} : ∀ (ks : List Key), DsAt K H (ks.map kV) (ks.map .key)
  | [] => .nil
  | _ :: r => .cons .key (DsAt.keys r)
mutual
def Dt.deep : Dt → Nat
  | .non => 0
  | .key _ => 0
  | .tup l => Dt.deepL l + 1
def Dt.deepL : List Dt → Nat
  | [] => 0
  | d :: r => max d.deep (Dt.deepL r)
end
/-! ### terms -/
inductive Tm where
  | mk (h : Key) (ts : List Tm)
mutual
def Tm.dat : Tm → Dt
  | .mk h ts => .tup [.key h, .tup (Tm.datL ts)]
def Tm.datL : List Tm → List Dt
  | [] => []
  | t :: r => t.dat :: Tm.datL r
end
mutual
def Tm.heads : Tm → List Key
  | .mk h ts => h :: Tm.headsL ts
def Tm.headsL : List Tm → List Key
  | [] => []
  | t :: r => t.heads ++ Tm.headsL r
end
mutual
def Tm.size : Tm → Nat
  | .mk _ ts => Tm.sizeL ts + 1
def Tm.sizeL : List Tm → Nat
  | [] => 0
  | t :: r => t.size + Tm.sizeL r
end
mutual
def Tm.high : Tm → Nat
  | .mk _ ts => Tm.highL ts + 1
def Tm.highL : List Tm → Nat
  | [] => 0
  | t :: r => max t.high (Tm.highL r)
end
mutual
def Tm.pre : Tm → List Tm
  | .mk h ts => .mk h ts :: Tm.preL ts
def Tm.preL : List Tm → List Tm
  | [] => []
  | t :: r => t.pre ++ Tm.preL r
end
def Tm.hd : Tm → Key
  | .mk h _ => h
def Tm.args : Tm → List Tm
  | .mk _ ts => ts
theorem Tm.datL_map : ∀ ts : List Tm, Tm.datL ts = ts.map Tm.dat
  | [] => rfl
  | t :: r => by rw [Tm.datL, Tm.datL_map r, List.map_cons]
theorem Tm.sizeL_append : ∀ a b : List Tm, Tm.sizeL (a ++ b) = Tm.sizeL a + Tm.sizeL b
  | [], b => by rw [List.nil_append, Tm.sizeL, Nat.zero_add]
  | t :: r, b => by rw [List.cons_append, Tm.sizeL, Tm.sizeL, Tm.sizeL_append r b, Nat.add_assoc]
theorem Tm.size_pos (t : Tm) : 0 < t.size := by
  cases t with
  | mk h ts => rw [Tm.size]; exact Nat.succ_pos _
theorem Tm.size_mem : ∀ {ts : List Tm} {t : Tm}, t ∈ ts → t.size ≤ Tm.sizeL ts
  | x :: r, t, h => by
    rw [Tm.sizeL]
    rcases List.mem_cons.mp h with rfl | h
    · exact Nat.le_add_right _ _
    · exact Nat.le_trans (Tm.size_mem h) (Nat.le_add_left _ _)
theorem Tm.len_sizeL : ∀ ts : List Tm, ts.length ≤ Tm.sizeL ts
  | [] => Nat.le_refl _
  | t :: r => by
    rw [Tm.sizeL, List.length_cons]
    have h1 := Tm.size_pos t
    have h2 := Tm.len_sizeL r
    omega
abbrev TAt (K : PySem.W.Frag) (H : Hp) (v : V) (t : Tm) : Prop := DAt K H v t.dat
theorem TAt.of {K : PySem.W.Frag} {H : Hp} {a b : Addr} {k : Key} {vs : List V} {ts : List Tm} (h : SqT K H a [kV k, .ref b]) (h2 : SqT K H b vs) (h3 : DsAt K H vs (ts.map Tm.dat)) (z : vs.length ≤ 1000000) : TAt K H (.ref a) (.mk k ts) := by
  show DAt K H (.ref a) (Tm.dat (.mk k ts))
  rw [Tm.dat, Tm.datL_map]
  exact .tup h (.cons .key (.cons (.tup h2 h3 z) .nil)) (by show 2 ≤ 1000000; decide)
/-- all heads keep P -/
def Tm.All (P : Key → Prop) (t : Tm) : Prop := ∀ k ∈ t.heads, P k
/-! ### frames -/
/-- all but the object at st stands as it stood -/
def Keep (st : Addr) (H H' : Hp) : Prop := ∀ b o, b ≠ st → H b = some o → H' b = some o
theorem Keep.refl (st : Addr) (H : Hp) : Keep st H H := fun _ _ _ h => h
theorem Keep.trans {st : Addr} {H H1 H2 : Hp} (a : Keep st H H1) (b : Keep st H1 H2) : Keep st H H2 := fun c o n h => b c o n (a c o n h)
theorem Keep.of {st : Addr} {H H' : Hp} (a : Same H H') : Keep st H H' := fun c o _ h => a c o h
theorem Keep.new {st : Addr} {H : Hp} {p : Addr} (h : H p = none) (o : HO) : Keep st H (upd H p o) := fun b u _ q => by rw [upd_ne (ne_of_none q h)]; exact q
theorem Keep.put {st : Addr} {H : Hp} (o : HO) : Keep st H (upd H st o) := fun b u n q => by rw [upd_ne n]; exact q
theorem same_new {H : Hp} {p : Addr} (h : H p = none) (o : HO) : Same H (upd H p o) := fun b u q => by rw [upd_ne (ne_of_none q h)]; exact q
theorem TStay.of {K : PySem.W.Frag} {H H' : Hp} (e : Same H H') : TStay K H H' := fun a xs h => by
  rcases h with (h | ⟨o, h⟩) | h
  · exact .inl (.inl (e _ _ h))
  · exact .inl (.inr ⟨o, e _ _ h⟩)
  · exact .inr h
theorem TStay.refl {K : PySem.W.Frag} {H : Hp} : TStay K H H := fun _ _ h => h
theorem TStay.trans {K : PySem.W.Frag} {H H1 H2 : Hp} (a : TStay K H H1) (b : TStay K H1 H2) : TStay K H H2 := fun _ _ h => b _ _ (a _ _ h)
theorem Keep.tups {K : PySem.W.Frag} {st : Addr} {H H' : Hp} {xs : List V} (hs : H st = some (.lst xs)) (e : Keep st H H') : TStay K H H' := fun a ys h => by
  rcases h with (h | ⟨o, h⟩) | h
  · exact .inl (.inl (e _ _ (ne_of h hs (by intro z; cases z)) h))
  · exact .inl (.inr ⟨o, e _ _ (ne_of h hs (by intro z; cases z)) h⟩)
  · exact .inr h
/-- a list that stays whatever becomes of the object at st -/
def Scr (K : PySem.W.Frag) (H : Hp) (st sc : Addr) (xs : List V) : Prop := ∀ H', Keep st H H' → SqL K H' sc xs
theorem Scr.here {K : PySem.W.Frag} {H : Hp} {st sc : Addr} {xs : List V} (h : Scr K H st sc xs) : SqL K H sc xs := h H (Keep.refl _ _)
theorem Scr.keep {K : PySem.W.Frag} {H H' : Hp} {st sc : Addr} {xs : List V} (h : Scr K H st sc xs) (k : Keep st H H') : Scr K H' st sc xs := fun _ k' => h _ (k.trans k')
theorem Scr.of {K : PySem.W.Frag} {H : Hp} {st sc : Addr} {xs : List V} (h : H sc = some (.lst xs)) (n : sc ≠ st) : Scr K H st sc xs := fun _ k => .inl (.inl (k _ _ n h))
theorem Scr.new {K : PySem.W.Frag} {H : Hp} {st sc : Addr} {xs : List V} (h : SqL K H sc xs) (n : H st = none) (o : HO) : Scr K (upd H st o) st sc xs := fun H' k => by
  rcases h with (h | ⟨u, h⟩) | h
  · have ne := ne_of_none h n
    exact .inl (.inl (k _ _ ne (by rw [upd_ne ne]; exact h)))
  · have ne := ne_of_none h n
    exact .inl (.inr ⟨u, k _ _ ne (by rw [upd_ne ne]; exact h)⟩)
  · exact .inr h
/-! ### the law's state -/
def StAt (H : Hp) (st : Addr) (d : Int) : Prop := ∃ a b c : Int, H st = some (.lst [.int a, .int b, .int c, .int d]) ∧ 0 ≤ a ∧ 0 ≤ b ∧ 0 ≤ c ∧ c < 2147483647
structure SOk (K : PySem.W.Frag) (H : Hp) (st sc : Addr) (ns : List Int) (d : Int) : Prop where
  state : StAt H st d
  scr : Scr K H st sc (ns.map V.int)
theorem StAt.same {H H' : Hp} {st : Addr} {d : Int} (S : StAt H st d) (k : Same H H') : StAt H' st d := by
  obtain ⟨a, b, c, e, r⟩ := S
  exact ⟨a, b, c, k _ _ e, r⟩
theorem StAt.upd {H : Hp} {st p : Addr} {d : Int} (S : StAt H st d) (n : p ≠ st) (o : HO) : StAt (upd H p o) st d := by
  obtain ⟨a, b, c, e, r⟩ := S
  exact ⟨a, b, c, by rw [upd_ne n.symm]; exact e, r⟩
theorem StAt.ne {H : Hp} {st p : Addr} {d : Int} (S : StAt H st d) (h : H p = none) : p ≠ st := by
  obtain ⟨a, b, c, e, r⟩ := S
  exact (ne_of_none e h).symm
theorem StAt.ts {K : PySem.W.Frag} {H H' : Hp} {st : Addr} {d : Int} (S : StAt H st d) (k : Keep st H H') : TStay K H H' := by
  obtain ⟨a, b, c, e, r⟩ := S
  exact k.tups e
theorem SOk.go {K : PySem.W.Frag} {H H' : Hp} {st sc : Addr} {ns : List Int} {d d' : Int} (S : SOk K H st sc ns d) (k : Keep st H H') (h : StAt H' st d') : SOk K H' st sc ns d' := ⟨h, S.scr.keep k⟩
theorem SOk.same {K : PySem.W.Frag} {H H' : Hp} {st sc : Addr} {ns : List Int} {d : Int} (S : SOk K H st sc ns d) (k : Same H H') : SOk K H' st sc ns d := S.go (Keep.of k) (S.state.same k)
theorem SOk.new {K : PySem.W.Frag} {H : Hp} {st sc p : Addr} {ns : List Int} {d : Int} (S : SOk K H st sc ns d) (h : H p = none) (o : HO) : SOk K (upd H p o) st sc ns d := S.same (same_new h o)
theorem SOk.ts {K : PySem.W.Frag} {H H' : Hp} {st sc : Addr} {ns : List Int} {d : Int} (S : SOk K H st sc ns d) (k : Keep st H H') : TStay K H H' := S.state.ts k
theorem SOk.ne {K : PySem.W.Frag} {H : Hp} {st sc p : Addr} {ns : List Int} {d : Int} (S : SOk K H st sc ns d) (h : H p = none) : p ≠ st := S.state.ne h
/-- what is new behind H0 may be changed -/
theorem Keep.upd {st : Addr} {H0 H : Hp} {p : Addr} (k : Keep st H0 H) (h : H0 p = none) (o : HO) : Keep st H0 (upd H p o) := fun b u n q => by
  rw [upd_ne (ne_of_none q h)]
  exact k _ _ n q
theorem Keep.free {st : Addr} {H H' : Hp} {l : Addr} (k : Keep st H H') (n : l ≠ st) (h : H' l = none) : H l = none := by
  cases q : H l with
  | none => rfl
  | some o =>
    rw [k l o n q] at h
    cases h
/-- a tracked list changed: tuples stay -/
theorem TStay.lst {K : PySem.W.Frag} {H : Hp} {l : Addr} {xs : List V} (h : H l = some (.lst xs)) (o : HO) : TStay K H (upd H l o) := fun a ys q => by
  rcases q with (q | ⟨u, q⟩) | q
  · exact .inl (.inl (by rw [upd_ne (ne_of q h (by intro z; cases z))]; exact q))
  · exact .inl (.inr ⟨u, by rw [upd_ne (ne_of q h (by intro z; cases z))]; exact q⟩)
  · exact .inr q
theorem TStay.new {K : PySem.W.Frag} {H : Hp} {p : Addr} (h : H p = none) (o : HO) : TStay K H (upd H p o) := TStay.of (same_new h o)
theorem TAt.new {K : PySem.W.Frag} {H : Hp} {a b : Addr} {k : Key} {vs : List V} {ts : List Tm} (hb : SqT K H b vs) (h3 : DsAt K H vs (ts.map Tm.dat)) (z : vs.length ≤ 1000000) (ha : H a = none) : TAt K (upd H a (.tup [kV k, .ref b])) (.ref a) (.mk k ts) :=
  TAt.of (SqT.of upd_same) (TStay.new ha _ _ _ hb) (h3.mono (TStay.new ha _)) z
theorem TAt.leaf {K : PySem.W.Frag} {H : Hp} {a b : Addr} {k : Key} (hb : H b = none) (ha : (upd H b (.tup [])) a = none) : TAt K (upd (upd H b (.tup [])) a (.tup [kV k, .ref b])) (.ref a) (.mk k []) :=
  TAt.new (SqT.of upd_same) .nil (Nat.zero_le _) ha
/-! ### each once, in the order of the first places -/
instance decMemKey (k : Key) : (l : List Key) → Decidable (k ∈ l)
  | [] => .isFalse List.not_mem_nil
  | j :: r => match decEq k j with
    | .isTrue h => .isTrue (by rw [h]; exact List.mem_cons_self ..)
    | .isFalse h => match decMemKey k r with
      | .isTrue q => .isTrue (List.mem_cons_of_mem _ q)
      | .isFalse q => .isFalse fun z => by
        rcases List.mem_cons.mp z with z | z
        · exact h z
        · exact q z
def addK (l : List Key) (k : Key) : List Key := if k ∈ l then l else l ++ [k]
def dedup (ks : List Key) : List Key := ks.foldl addK []
theorem map_set_of {l : List Tm} {P : Key → Prop} (h : ∀ t ∈ l, t.All P) : ∀ k ∈ Tm.headsL l, P k := by
  induction l with
  | nil =>
    intro k hk
    rw [Tm.headsL] at hk
    exact absurd hk List.not_mem_nil
  | cons t r ih =>
    intro k hk
    rw [Tm.headsL] at hk
    rcases List.mem_append.mp hk with hk | hk
    · exact h t (List.mem_cons_self ..) k hk
    · exact ih (fun u hu => h u (List.mem_cons_of_mem _ hu)) k hk
theorem Tm.All.mk {P : Key → Prop} {k : Key} {ts : List Tm} (h : P k) (hs : ∀ t ∈ ts, t.All P) : (Tm.mk k ts).All P := by
  intro j hj
  rw [Tm.heads] at hj
  rcases List.mem_cons.mp hj with rfl | hj
  · exact h
  · exact map_set_of hs j hj
end DF

namespace DF
open PySem PySem.Spec PyProof.Rows L2
section
variable {prog : Program} {w : World} {A : Around} {E : Value → Shared → Prop} {s : Shared}
end
section
variable {X : Cx} {e : Expr} {te : TE} {pos p1 p2 p3 : Pos} {i1 : Nat}
/-- t[::-1] of a tuple: a new tuple -/
def tRevT (K : PySem.W.Frag) (te : TE) : TE := fun σ H Q => te σ H fun x H1 => ∃ a xs, x = .ref a ∧ SqT K H1 a xs ∧ ∀ p, H1 p = none → Q (.ref p) (upd H1 p (.tup xs.reverse))
theorem extend_tuple_any (l : Addr) (items : Array Value) (n : Nat) (b : Addr) (items2 : Array Value) (n2 : Nat) (dd : Option Addr) (ss : Array (Option Value)) (hs0 : ¬(!items.isEmpty && Builtin.List.listTooLong (items.size + items2.size)) = true) (hs1 : items.size ≤ sizeLine) (hs2 : items.size + items2.size ≤ sizeLine + 1) :
    Meets (Builtin.«list.extend» ⟨[.ref l, .ref b], []⟩) (fun _ R s => s.heap.get? l = some { cls := .type "list", dict := none, data := .seq items n, slots := #[] } ∧ s.heap.get? b = some { cls := .type "tuple", dict := dd, data := .seq items2 n2, slots := ss } ∧ R (.ok (.ret Value.none)) { s with heap := s.heap.update l (Obj.mapSeq fun x => x ++ items2), toks := s.toks }) :=
  .of_wp fun prog w A R s h => by
    obtain ⟨hp, g, d, tk, os⟩ := s; obtain ⟨hl, hb, h⟩ := h; have f1 := PySem.AutoSeq1.idx_int; have f2 := PySem.AutoSeq1.sub_tuple_tuple; have f3 := PySem.AutoSeq1.sub_list_list; have f4 := PySem.AutoSeq1.sub_tuple_list; have f5 := PySem.AutoSeq1.sub_list_tuple;
    have hz' : (items ++ items2).size ≤ sizeLine + 1 := by rw [Array.size_append]; exact hs2
    wp_walk using (wpAny_updateSeq hl rfl (hz := hs1) (_hz' := hz')), PySem.AutoSeq1.wpAny_loadPart' hl, PySem.AutoSeq1.wpAny_loadPart' hb; exact ⟨_, rfl, h⟩
/-- xs.extend(t), t a tuple -/
def rExtendT : V → List V → Hp → VK → Prop := fun x vs H Q => ∃ l b xs zs, x = .ref l ∧ vs = [.ref b] ∧ H l = some (.lst xs) ∧ H b = some (.tup zs) ∧ xs.length + zs.length ≤ sizeLine ∧ Q .non (upd H l (.lst (xs ++ zs)))
theorem mt_extendT : MtM X "list.extend" rExtendT := by
  intro pins s σ H x vs v us Q I rx rv h
  obtain ⟨l, b, xs, zs, rfl, rfl, hH, hB, hz, q⟩ := h
  cases rx
  obtain ⟨u, rfl, ru⟩ := rv.one
  cases ru
  obtain ⟨z, its, n, r, hl, e⟩ := I.lstM hH
  obtain ⟨its2, r2, ⟨o, h1, h2, n2, h3⟩, z2⟩ := I.tuple (SqT.of hB)
  have hl2 : zs.length = its2.length := r2.length
  have hsz : its.toArray.size + its2.toArray.size ≤ sizeLine := by rw [List.size_toArray, List.size_toArray]; omega
  have hlong : ¬ (!its.toArray.isEmpty && Builtin.List.listTooLong (its.toArray.size + its2.toArray.size)) = true := by
    rw [notLongL hsz, Bool.and_false]
    exact Bool.false_ne_true
  obtain ⟨oc, od, dt, sl⟩ := o
  simp only at h2 h3
  subst h2 h3
  refine call_meets F.slot_list_extend ⟨_, e, rfl⟩ F.entry_list_extend (F.args_list_extend_2 _ _)
    (extend_tuple_any l its.toArray n b its2.toArray n2 od sl hlong (by rw [List.size_toArray]; omega) (by omega)) ⟨e, h1, ?_⟩
  refine ⟨.non, _, I.lset (its' := its ++ its2) hH e (by simp) (r.append r2) ?_, rfl, q⟩
  rw [List.length_append]
  omega
/-- tuple(d) of a dict with int and text keys: a new tuple of its keys -/
theorem code_tuple_new_kdl {prog : Program} {w : World} {A : Around} {E : Value → Shared → Prop} {s : Shared} {T : String} {r d : Addr} {n : Nat} {P : Nat → Value → Prop} {OK : Heap → Prop} {Q₁ : Value → Shared → Prop}
    (K : PySem.W.KdlSrc prog w T r d n P OK) (hh : A.handled = none) (hok : OK s.heap) (hn : n ≤ sizeLine)
    (h : ∀ (h' : Heap) (tk : Nat) (acc : Array Value), (∀ b o, s.heap.get? b = some o → h'.get? b = some o) → ItemsOf P acc n →
      Q₁ (.ref h'.objs.size) { s with heap := h'.push { cls := .type "tuple", data := .seq acc }, toks := tk }) :
    codeAny (model prog w) A (.call (.builtin "tuple.__new__") ⟨[.type "tuple", .ref r], []⟩) (wants Q₁ E) s := by
  refine codeAny_of_tree ?_
  show wpAny _ A.in1 (do checkBuiltinCall "tuple.__new__" ⟨[.type "tuple", .ref r], []⟩; again (.builtin "tuple.__new__" ⟨[.type "tuple", .ref r], []⟩)) _ _ s
  refine wpAny_bind (wpAny_of_eq (F.newCall_tuple_1 _) (wpAny_pure ⟨plainId_quiet F.plain_tuple_new _, codeAny_builtin F.entry_tuple_new ?_⟩))
  rw [Around.under_plainId F.plain_tuple_new _]
  have hsub := sub_tuple_self
  have hinit := init_tuple_lookup
  have hmh := madeHere_tuple
  have hTI : s.TypeIs (.ref r) T := K.type s hok
  have hnl := K.notList
  have hnt := K.notTuple
  have hh1 : A.in1.handled = none := hh
  wp_walk using wpAny_typeOf hTI, PySem.W.kdu_collect (A := A.in1) K hh1 hok hn
  intro h' tk acc hk hacc
  show wpAny _ _ (Builtin.Tuple.tupleExact acc.toList.toArray >>= fun v => ret v) _ _ _
  unfold Builtin.Tuple.tupleExact
  refine wpAny_bind (wpAny_newObj_type ?_ (by show acc.toList.toArray.size ≤ sizeLine; simp only [Array.toArray_toList]; rw [hacc.1]; exact hn))
  refine wpAny_pure ?_
  have e : acc.toList.toArray = acc := by simp
  rw [e]
  exact h h' tk acc hk hacc
theorem call_tuple_kdl {prog : Program} {w : World} {A : Around} {E : Value → Shared → Prop} {s : Shared} {T : String} {r d : Addr} {n : Nat} {P : Nat → Value → Prop} {OK : Heap → Prop} {Q : Value → Shared → Prop}
    (K : PySem.W.KdlSrc prog w T r d n P OK) (hh : A.handled = none) (hok : OK s.heap) (hn : n ≤ sizeLine)
    (hQ : ∀ (h' : Heap) (tk : Nat) (acc : Array Value), (∀ b o, s.heap.get? b = some o → h'.get? b = some o) → ItemsOf P acc n →
      Q (.ref h'.objs.size) { s with heap := h'.push { cls := .type "tuple", data := .seq acc }, toks := tk }) :
    wpAny (model prog w) A (call (.type "tuple") [.ref r]) Q E s := by
  refine callType_codes (Q₁ := fun obj s₁ => s₁.TypeIs obj "tuple" ∧ Q obj s₁) F.called_tuple (F.typeCall_tuple_1 _) F.entry_object_init
    (code_tuple_new_kdl (A := A.in1) K hh hok hn fun h' tk acc hk hacc => ⟨⟨_, Heap.get?_push_size _ rfl, rfl⟩, hQ h' tk acc hk hacc⟩) fun obj s₁ h₁ => ?_
  exact ⟨h₁.1, F.args_object_init_2 obj _, object_init_meets F.called_tuple.init.lookup F.called_tuple.made (by decide) prog w A.in1 _ s₁ ⟨h₁.1, rfl, h₁.2⟩⟩
def rTupD : List V → Hp → VK → Prop := fun xs H Q => ∃ p kvs, xs = [.ref p] ∧ H p = some (.dK kvs) ∧ ∀ q, H q = none → Q (.ref q) (upd H q (.tup (kvs.map fun kv => kV kv.1)))
theorem call_tuple_dK {X : Cx} (hc : X.calm = true) : CallR X (.type "tuple") rTupD := by
  intro pins s σ H xs us Q I r h
  obtain ⟨p, kvs, e, hk, q⟩ := h
  subst e
  obtain ⟨u, eu, rx⟩ := vals1 r
  subst eu
  obtain rfl : u = Value.ref p := rx
  obtain ⟨z, lo, vs, rk, hd⟩ := (show ObjOk X.prog X.w H s.heap p (.dK kvs) from I.hok p _ hk)
  obtain ⟨ep, hat⟩ := hd.dictAt
  have hl : kvs.length = vs.length := Paired.length rk
  refine call_tuple_kdl (PySem.W.kdl_dict (knd := mixKind X.prog X.w) (kvs := vs) (ep := ep) lo) (I.ok.hd hc) hat (by rw [← hl]; exact z) fun h' tk acc' hkeep hacc => ?_
  have I1 : Inv X pins σ H { s with heap := h', toks := tk } := I.kept (t' := tk) hkeep
  refine ⟨.ref h'.objs.size, upd H h'.objs.size (.tup (kvs.map fun kv => kV kv.1)), I1.laid (t' := tk) (fun b o e => Heap.get?_push_of_some _ e) (Nat.le_refl _) (show ObjOk X.prog X.w _ _ _ (.tup (kvs.map fun kv => kV kv.1)) from ⟨?_, acc'.toList, ?_, ?_⟩), rfl, q _ (I1.hok.fresh (Nat.le_refl _))⟩
  · rw [List.length_map]; exact z
  · have el : acc'.toList.length = acc'.size := by simp
    refine vals_of_at (by rw [List.length_map, el, hacc.1, hl]) fun j x w h1 h2 => ?_
    obtain ⟨k, y, hky, hi⟩ := hacc.2 j w (by rw [← Array.getElem?_toList]; exact h2)
    have e1 : (kvs.map (·.1))[j]? = some k := by
      rw [KV.keys rk, List.getElem?_map, hky] <;> rfl
    have e2 : (kvs.map fun kv => kV kv.1)[j]? = some (kV k) := by
      have e3 : (kvs.map fun kv => kV kv.1) = (kvs.map (·.1)).map kV := by rw [List.map_map] <;> rfl
      rw [e3, List.getElem?_map, e1] <;> rfl
    rw [e2] at h1
    cases h1
    exact keyIs_rel hi
  · rw [Array.toArray_toList]; exact IsTup.new _ _
end
end DF

namespace DF
open PySem PySem.Spec PyProof.Rows L2
section
variable {prog : Program} {w : World} {A : Around} {E : Value → Shared → Prop} {s : Shared}
def selFrom (a n : Int) (k : Nat) : Bool := if (1 : Int) > 0 then decide (a ≤ (k : Int)) && decide ((k : Int) < n) && ((k : Int) - a) % 1 == 0 else decide (n < (k : Int)) && decide ((k : Int) ≤ a) && (a - (k : Int)) % (-1) == 0
end
section
variable {X : Cx} {e o : Expr} {te to : TE} {pos p1 p2 p3 tpos : Pos} {i1 : Nat}
/-- del xs[a:] -/
def tDelFrom (to te : TE) : TS := fun D σ H => to σ H fun x H1 => te σ H1 fun y H2 => ∃ (l : Addr) (xs : List V) (a : Nat), x = .ref l ∧ y = .int (a : Int) ∧ H2 l = some (.lst xs) ∧ a ≤ xs.length ∧ D.nx σ (upd H2 l (.lst (xs.take a)))
/-- xs[::-1] of a list: a new list -/
def tRevL (K : PySem.W.Frag) (te : TE) : TE := fun σ H Q => te σ H fun x H1 => ∃ a xs, x = .ref a ∧ SqL K H1 a xs ∧ ∀ p, H1 p = none → Q (.ref p) (upd H1 p (.lst xs.reverse))
end
end DF

namespace MD
open PySem PySem.Spec PyProof.Rows L2
/-! ### values, cells, stores -/
inductive Dt where
  | non
  | bl (b : Bool)
  | int (i : Int)
  | str (x : Str)
  | ty (n : String)
  | tup (l : List Dt)
  | con (l : List Dt)
  | loc (n : Nat)
  | scr (l : List Int)
inductive Cell where
  | lst (l : List Dt)
  | dic (l : List (Key × Dt))
  | dit (l : List (List Key × Dt))
  | ins (c : Str) (l : List (Str × Dt))
abbrev Sto := List Cell
abbrev Env := List (Option Dt)
/-- what is known of the written part: it, and where the classes stand -/
structure KZ where
  K : PySem.W.Frag
  cl : Str → Addr
def ScrAt (K : PySem.W.Frag) (H : Hp) (a : Addr) (l : List Int) : Prop := (∃ o, H a = some (.frz o (.lst (l.map V.int)))) ∨ SqL K (fun _ => none) a (l.map V.int)
theorem ScrAt.sql {K : PySem.W.Frag} {H : Hp} {a : Addr} {l : List Int} (h : ScrAt K H a l) : SqL K H a (l.map V.int) := by
  rcases h with ⟨o, h⟩ | h
  · exact .inl (.inr ⟨o, h⟩)
  · rcases h with (h | ⟨_, h⟩) | h
    · cases h
    · cases h
    · exact .inr h
mutual
inductive DAt (K : PySem.W.Frag) (ρ : List Addr) (H : Hp) : V → Dt → Prop
  | non : DAt K ρ H .non .non
  | bl {b : Bool} : DAt K ρ H (.bl b) (.bl b)
  | int {i : Int} : DAt K ρ H (.int i) (.int i)
  | str {x : Str} : DAt K ρ H (.str x) (.str x)
  | ty {n : String} : DAt K ρ H (.ty n) (.ty n)
  | tup {a : Addr} {vs : List V} {ds : List Dt} : H a = some (.tup vs) → DsAt K ρ H vs ds → DAt K ρ H (.ref a) (.tup ds)
  | con {a : Addr} {vs : List V} {ds : List Dt} : SqT K (fun _ => none) a vs → DsAt K ρ H vs ds → DAt K ρ H (.ref a) (.con ds)
  | loc {a : Addr} {n : Nat} : ρ[n]? = some a → DAt K ρ H (.ref a) (.loc n)
  | scr {a : Addr} {l : List Int} : ScrAt K H a l → DAt K ρ H (.ref a) (.scr l)
inductive DsAt (K : PySem.W.Frag) (ρ : List Addr) (H : Hp) : List V → List Dt → Prop
  | nil : DsAt K ρ H [] []
  | cons {v : V} {d : Dt} {vs : List V} {ds : List Dt} : DAt K ρ H v d → DsAt K ρ H vs ds → DsAt K ρ H (v :: vs) (d :: ds)
end
/-- what stays from a state to a later one -/
structure St (K : PySem.W.Frag) (ρ : List Addr) (H : Hp) (ρ' : List Addr) (H' : Hp) : Prop where
  pre : ∃ t, ρ' = ρ ++ t
  tup : ∀ a xs, H a = some (.tup xs) → H' a = some (.tup xs)
  scr : ∀ a l, ScrAt K H a l → ScrAt K H' a l
/-- .. and what is not tracked is not touched, and what is new is new -/
structure Go (K : PySem.W.Frag) (ρ : List Addr) (H : Hp) (ρ' : List Addr) (H' : Hp) : Prop extends St K ρ H ρ' H' where
  keep : ∀ b o, H b = some o → b ∉ ρ → H' b = some o
  fresh : ∀ b ∈ ρ', b ∈ ρ ∨ H b = none
section
variable {K : PySem.W.Frag} {Z : KZ} {ρ ρ' ρ1 ρ2 : List Addr} {H H' H1 H2 : Hp} {v : V} {d : Dt} {vs ws : List V} {ds es : List Dt} {a p : Addr} {o : HO}
theorem St.trans (x : St K ρ H ρ1 H1) (y : St K ρ1 H1 ρ2 H2) : St K ρ H ρ2 H2 := by
  obtain ⟨s, e⟩ := x.pre
  obtain ⟨t, f⟩ := y.pre
  exact ⟨⟨s ++ t, by rw [f, e, List.append_assoc]⟩, fun a xs h => y.tup a xs (x.tup a xs h), fun a l h => y.scr a l (x.scr a l h)⟩
theorem Go.refl : Go K ρ H ρ H := ⟨⟨⟨[], by simp⟩, fun _ _ h => h, fun _ _ h => h⟩, fun _ _ h _ => h, fun _ h => .inl h⟩
theorem Go.trans (x : Go K ρ H ρ1 H1) (y : Go K ρ1 H1 ρ2 H2) : Go K ρ H ρ2 H2 := ⟨x.toSt.trans y.toSt, fun b o h hb => (by
  refine y.keep b o (x.keep b o h hb) fun hm => ?_
  rcases x.fresh b hm with q | q
  · exact hb q
  · rw [h] at q
    cases q), fun b hb => by
  rcases y.fresh b hb with q | q
  · exact x.fresh b q
  · by_cases hm : b ∈ ρ
    · exact .inl hm
    · refine .inr ?_
      cases e : H b with
      | none => rfl
      | some o =>
        rw [x.keep b o e hm] at q
        cases q⟩
theorem St.get (g : St K ρ H ρ' H') {n : Nat} (h : ρ[n]? = some a) : ρ'[n]? = some a := by
  obtain ⟨t, rfl⟩ := g.pre
  rw [List.getElem?_append_left (List.getElem?_eq_some_iff.mp h).1]
  exact h
mutual
theorem DAt.st (g : St K ρ H ρ' H') : ∀ {v : V} {d : Dt}, DAt K ρ H v d → DAt K ρ' H' v d
  | _, _, .non => .non
  | _, _, .bl => .bl
  | _, _, .int => .int
  | _, _, .str => .str
  | _, _, .ty => .ty
  | _, _, .tup h t => .tup (g.tup _ _ h) (DsAt.st g t)
  | _, _, .con h t => .con h (DsAt.st g t)
  | _, _, .loc h => .loc (g.get h)
  | _, _, .scr h => .scr (g.scr _ _ h)
theorem DsAt.st (g : St K ρ H ρ' H') : ∀ {vs : List V} {ds : List Dt}, DsAt K ρ H vs ds → DsAt K ρ' H' vs ds
  | _, _, .nil => .nil
  | _, _, .cons h t => .cons (DAt.st g h) (DsAt.st g t)
end
theorem DAt.go (g : Go K ρ H ρ' H') {v : V} {d : Dt} (h : DAt K ρ H v d) : DAt K ρ' H' v d := h.st g.toSt
theorem DsAt.go (g : Go K ρ H ρ' H') {vs : List V} {ds : List Dt} (h : DsAt K ρ H vs ds) : DsAt K ρ' H' vs ds := h.st g.toSt
theorem DsAt.length : ∀ {vs : List V} {ds : List Dt}, DsAt K ρ H vs ds → vs.length = ds.length
  | _, _, .nil => rfl
  | _, _, .cons _ t => by rw [List.length_cons, List.length_cons, DsAt.length t]
theorem DsAt.append : ∀ {vs ws : List V} {ds es : List Dt}, DsAt K ρ H vs ds → DsAt K ρ H ws es → DsAt K ρ H (vs ++ ws) (ds ++ es)
  | _, _, _, _, .nil, h => h
  | _, _, _, _, .cons a t, h => .cons a (DsAt.append t h)
theorem DsAt.take : ∀ {vs : List V} {ds : List Dt}, DsAt K ρ H vs ds → ∀ n : Nat, DsAt K ρ H (vs.take n) (ds.take n)
  | _, _, _, 0 => .nil
  | _, _, .nil, _ + 1 => .nil
  | _, _, .cons a t, n + 1 => .cons a (DsAt.take t n)
theorem DsAt.drop : ∀ {vs : List V} {ds : List Dt}, DsAt K ρ H vs ds → ∀ n : Nat, DsAt K ρ H (vs.drop n) (ds.drop n)
  | _, _, h, 0 => h
  | _, _, .nil, _ + 1 => .nil
  | _, _, .cons _ t, n + 1 => DsAt.drop t n
theorem DsAt.reverse : ∀ {vs : List V} {ds : List Dt}, DsAt K ρ H vs ds → DsAt K ρ H vs.reverse ds.reverse
  | _, _, .nil => .nil
  | _, _, .cons a t => by
    rw [List.reverse_cons, List.reverse_cons]
    exact DsAt.append (DsAt.reverse t) (.cons a .nil)
theorem DsAt.get : ∀ {vs : List V} {ds : List Dt} {i : Nat} {d : Dt}, DsAt K ρ H vs ds → ds[i]? = some d → ∃ v, vs[i]? = some v ∧ DAt K ρ H v d
  | _, _, _, _, .nil, e => by simp at e
  | _, _, 0, _, .cons h _, e => by
    have e := Option.some.inj e
    subst e
    exact ⟨_, rfl, h⟩
  | _, _, i + 1, _, .cons _ t, e => DsAt.get (i := i) t e
theorem DsAt.set : ∀ {vs : List V} {ds : List Dt} {v : V} {d : Dt} (i : Nat), DsAt K ρ H vs ds → DAt K ρ H v d → DsAt K ρ H (vs.set i v) (ds.set i d)
  | _, _, _, _, _, .nil, _ => .nil
  | _, _, _, _, 0, .cons _ t, h => .cons h t
  | _, _, _, _, i + 1, .cons a t, h => .cons a (DsAt.set i t h)
theorem DsAt.ints : ∀ {l : List Int}, DsAt K ρ H (l.map V.int) (l.map Dt.int)
  | [] => .nil
  | _ :: _ => .cons .int DsAt.ints
theorem DsAt.one (h : DsAt K ρ H vs [d]) : ∃ v, vs = [v] ∧ DAt K ρ H v d := by
  cases h with
  | cons a t => cases t; exact ⟨_, rfl, a⟩
theorem DsAt.two {e : Dt} (h : DsAt K ρ H vs [d, e]) : ∃ v w, vs = [v, w] ∧ DAt K ρ H v d ∧ DAt K ρ H w e := by
  cases h with
  | cons a t =>
    obtain ⟨w, rfl, b⟩ := t.one
    exact ⟨_, w, rfl, a, b⟩
/-! ### stores -/
def CellAt (Z : KZ) (ρ : List Addr) (H : Hp) (a : Addr) : Cell → Prop
  | .lst ds => ∃ vs, H a = some (.lst vs) ∧ DsAt Z.K ρ H vs ds
  | .dic kvs => ∃ ws, H a = some (.dK ws) ∧ ws.map (·.1) = kvs.map (·.1) ∧ DsAt Z.K ρ H (ws.map (·.2)) (kvs.map (·.2))
  | .dit kvs => ∃ ws, H a = some (.dT ws) ∧ ws.map (·.1) = kvs.map (·.1) ∧ DsAt Z.K ρ H (ws.map (·.2)) (kvs.map (·.2))
  | .ins c fs => ∃ dx ws, H a = some (.ins (Z.cl c) dx ws) ∧ ws.map (·.1) = fs.map (·.1) ∧ DsAt Z.K ρ H (ws.map (·.2)) (fs.map (·.2))
def mutO : HO → Bool
  | .lst _ => true
  | .dK _ => true
  | .dT _ => true
  | .ins _ _ _ => true
  | _ => false
theorem CellAt.there {c : Cell} (h : CellAt Z ρ H a c) : ∃ o, H a = some o ∧ mutO o = true := by
  cases c with
  | lst ds => obtain ⟨_, e, _⟩ := h; exact ⟨_, e, rfl⟩
  | dic kvs => obtain ⟨_, e, _⟩ := h; exact ⟨_, e, rfl⟩
  | dit kvs => obtain ⟨_, e, _⟩ := h; exact ⟨_, e, rfl⟩
  | ins c fs => obtain ⟨_, _, e, _⟩ := h; exact ⟨_, e, rfl⟩
theorem CellAt.st {c : Cell} (h : CellAt Z ρ H a c) (g : St Z.K ρ H ρ' H') (e : H' a = H a) : CellAt Z ρ' H' a c := by
  cases c with
  | lst ds => obtain ⟨x, q, r⟩ := h; exact ⟨x, e.trans q, r.st g⟩
  | dic kvs => obtain ⟨x, q, s, r⟩ := h; exact ⟨x, e.trans q, s, r.st g⟩
  | dit kvs => obtain ⟨x, q, s, r⟩ := h; exact ⟨x, e.trans q, s, r.st g⟩
  | ins c fs => obtain ⟨x, y, q, s, r⟩ := h; exact ⟨x, y, e.trans q, s, r.st g⟩
structure RelS (Z : KZ) (ρ : List Addr) (H : Hp) (S : Sto) : Prop where
  len : ρ.length = S.length
  nd : ρ.Nodup
  cell : ∀ (n : Nat) (a : Addr) (c : Cell), ρ[n]? = some a → S[n]? = some c → CellAt Z ρ H a c
theorem RelS.at {S : Sto} (r : RelS Z ρ H S) {n : Nat} {a : Addr} {c : Cell} (h : ρ[n]? = some a) (e : S[n]? = some c) : CellAt Z ρ H a c := r.cell n a c h e
theorem RelS.not_mem {S : Sto} (r : RelS Z ρ H S) (h : H p = none) : p ∉ ρ := fun hm => by
  obtain ⟨n, hn⟩ := List.getElem?_of_mem hm
  have hl : n < S.length := by rw [← r.len]; exact (List.getElem?_eq_some_iff.mp hn).1
  obtain ⟨o, e, _⟩ := (r.cell n p _ hn (List.getElem?_eq_getElem hl)).there
  rw [h] at e
  cases e
theorem st_new (h : H p = none) (o : HO) : St K ρ H ρ (upd H p o) := ⟨⟨[], by simp⟩, fun a xs q => by
    rw [upd_ne (ne_of_none q h)]
    exact q, fun a l q => by
    rcases q with ⟨u, q⟩ | q
    · exact .inl ⟨u, by rw [upd_ne (ne_of_none q h)]; exact q⟩
    · exact .inr q⟩
theorem st_app (t : List Addr) : St K ρ H (ρ ++ t) H := ⟨⟨t, rfl⟩, fun _ _ h => h, fun _ _ h => h⟩
theorem go_new (h : H p = none) (o : HO) : Go K ρ H ρ (upd H p o) := ⟨st_new h o, fun b u q _ => by rw [upd_ne (ne_of_none q h)]; exact q, fun _ h => .inl h⟩
theorem go_push (h : H p = none) (o : HO) : Go K ρ H (ρ ++ [p]) (upd H p o) := ⟨(st_new h o).trans (st_app [p]), fun b u q _ => by rw [upd_ne (ne_of_none q h)]; exact q, fun b hb => by
  rcases List.mem_append.mp hb with q | q
  · exact .inl q
  · rw [List.mem_singleton.mp q]
    exact .inr h⟩
theorem st_mut {o : HO} (h : H a = some o) (m : mutO o = true) (o' : HO) : St K ρ H ρ (upd H a o') := by
  have ne : ∀ b u, H b = some u → mutO u = false → b ≠ a := fun b u q hm e => by
    subst e
    rw [h] at q
    cases q
    rw [m] at hm
    cases hm
  refine ⟨⟨[], by simp⟩, fun b xs q => ?_, fun b l q => ?_⟩
  · rw [upd_ne (ne _ _ q rfl)]
    exact q
  · rcases q with ⟨u, q⟩ | q
    · exact .inl ⟨u, by rw [upd_ne (ne _ _ q rfl)]; exact q⟩
    · exact .inr q
theorem go_mut {o : HO} (ha : a ∈ ρ) (h : H a = some o) (m : mutO o = true) (o' : HO) : Go K ρ H ρ (upd H a o') := ⟨st_mut h m o', fun b u q hb => (by
  have ne : b ≠ a := fun e => hb (e ▸ ha)
  rw [upd_ne ne]
  exact q), fun _ h => .inl h⟩
/-- something is laid that is not tracked -/
theorem RelS.new {S : Sto} (r : RelS Z ρ H S) (h : H p = none) (o : HO) : RelS Z ρ (upd H p o) S := ⟨r.len, r.nd, fun n a c h1 h2 => by
  have q := r.cell n a c h1 h2
  obtain ⟨u, e, _⟩ := q.there
  exact q.st (st_new h o) (upd_ne (ne_of_none e h))⟩
/-- a new cell -/
theorem RelS.push {S : Sto} {c : Cell} (r : RelS Z ρ H S) (h : H p = none) (o : HO) (hc : CellAt Z (ρ ++ [p]) (upd H p o) p c) : RelS Z (ρ ++ [p]) (upd H p o) (S ++ [c]) := by
  refine ⟨by rw [List.length_append, List.length_append, r.len]; rfl, ?_, fun n a c' h1 h2 => ?_⟩
  · rw [List.nodup_append]
    exact ⟨r.nd, List.nodup_cons.mpr ⟨List.not_mem_nil, List.nodup_nil⟩, fun a ha b hb e => by
      rw [List.mem_singleton.mp hb] at e
      exact r.not_mem h (e ▸ ha)⟩
  · by_cases hn : n < ρ.length
    · rw [List.getElem?_append_left hn] at h1
      rw [List.getElem?_append_left (by rw [← r.len]; exact hn)] at h2
      have q := r.cell n a c' h1 h2
      obtain ⟨u, e, _⟩ := q.there
      exact q.st ((st_new h o).trans (st_app [p])) (upd_ne (ne_of_none e h))
    · have hn2 : n = ρ.length := by
        have := (List.getElem?_eq_some_iff.mp h1).1
        rw [List.length_append, List.length_singleton] at this
        omega
      subst hn2
      rw [List.getElem?_concat_length] at h1
      rw [r.len, List.getElem?_concat_length] at h2
      cases h1
      cases h2
      exact hc
/-- a cell is written -/
theorem RelS.put {S : Sto} {n : Nat} {c c' : Cell} {o' : HO} (r : RelS Z ρ H S) (h : ρ[n]? = some a) (e : S[n]? = some c) (hc : CellAt Z ρ (upd H a o') a c') : RelS Z ρ (upd H a o') (S.set n c') := by
  obtain ⟨u, hu, mu⟩ := (r.cell n a c h e).there
  refine ⟨by rw [List.length_set, r.len], r.nd, fun m b d h1 h2 => ?_⟩
  by_cases hm : m = n
  · subst hm
    rw [h] at h1
    cases h1
    rw [List.getElem?_set_self (List.getElem?_eq_some_iff.mp e).1] at h2
    cases h2
    exact hc
  · rw [List.getElem?_set_ne (Ne.symm hm)] at h2
    have q := r.cell m b d h1 h2
    have hba : b ≠ a := fun z => hm (by
      subst z
      have e1 := (List.getElem?_eq_some_iff.mp h1).2
      have e2 := (List.getElem?_eq_some_iff.mp h).2
      exact (List.getElem_inj r.nd).mp (e1.trans e2.symm))
    exact q.st (st_mut hu mu o') (upd_ne hba)
end
end MD

namespace MD
open PySem PySem.Spec PyProof.Rows L2
/-! ### what a piece of the program gives -/
inductive Rs (β : Type) where
  | ok (b : β) (S : Sto)
  | ex (c : Str) (fs : List (Str × Dt)) (S : Sto)
  | no
def Rs.bind {β γ : Type} (r : Rs β) (k : β → Sto → Rs γ) : Rs γ := match r with
  | .ok b S => k b S
  | .ex c fs S => .ex c fs S
  | .no => .no
def XAt (Z : KZ) (ρ : List Addr) (H : Hp) (d : Option Addr) (fs : List (Str × Dt)) : Prop := (d = none ∧ fs = []) ∨ ∃ a ws, d = some a ∧ H a = some (.xd ws) ∧ ws.map (·.1) = fs.map (·.1) ∧ DsAt Z.K ρ H (ws.map (·.2)) (fs.map (·.2))
def Out {β : Type} (Z : KZ) (E : XK) (ρ : List Addr) (H : Hp) (P : List Addr → Hp → β → Prop) : Rs β → Prop
  | .ok b S' => ∀ ρ' H', Go Z.K ρ H ρ' H' → RelS Z ρ' H' S' → P ρ' H' b
  | .ex c fs S' => ∀ ρ' H' d, Go Z.K ρ H ρ' H' → RelS Z ρ' H' S' → XAt Z ρ' H' d fs → E (.ref (Z.cl c)) d H'
  | .no => False
def SlAt (K : PySem.W.Frag) (ρ : List Addr) (H : Hp) (σ : L2.St) (α : Env) : Prop := σ.length = α.length ∧ ∀ (i : Nat) (d : Dt), α[i]? = some (some d) → ∃ v, σ[i]? = some (some v) ∧ DAt K ρ H v d
abbrev PV (K : PySem.W.Frag) (Q : VK) : List Addr → Hp → Dt → Prop := fun ρ H d => ∀ v, DAt K ρ H v d → Q v H
abbrev PVs (K : PySem.W.Frag) (Q : List V → Hp → Prop) : List Addr → Hp → List Dt → Prop := fun ρ H d => ∀ v, DsAt K ρ H v d → Q v H
abbrev WO (W : WX) (σ : L2.St) : XK := fun c d H => W c d σ H
abbrev ME := Env → Sto → Rs Dt
abbrev MA := Env → Sto → Rs (List Dt)
abbrev MT := Env → Sto → Rs Bool
abbrev MO := Env → Sto → Rs (Option Int)
def tE (Z : KZ) (W : WX) (m : ME) : TE := fun σ H Q => ∃ ρ S α, RelS Z ρ H S ∧ SlAt Z.K ρ H σ α ∧ Out Z (WO W σ) ρ H (PV Z.K Q) (m α S)
def tA (Z : KZ) (W : WX) (m : MA) : TA := fun σ H Q => ∃ ρ S α, RelS Z ρ H S ∧ SlAt Z.K ρ H σ α ∧ Out Z (WO W σ) ρ H (PVs Z.K Q) (m α S)
def tT (Z : KZ) (W : WX) (m : MT) : TT := fun σ H Q => ∃ ρ S α, RelS Z ρ H S ∧ SlAt Z.K ρ H σ α ∧ Out Z (WO W σ) ρ H (fun _ H' b => Q b H') (m α S)
def tO (Z : KZ) (W : WX) (m : MO) : TO := fun σ H Q => ∃ ρ S α, RelS Z ρ H S ∧ SlAt Z.K ρ H σ α ∧ Out Z (WO W σ) ρ H (fun _ H' b => Q b H') (m α S)
section
variable {β γ : Type} {Z : KZ} {E : XK} {W : WX} {ρ ρ' ρ1 ρ2 : List Addr} {H H' H1 H2 : Hp} {P P' : List Addr → Hp → β → Prop} {r : Rs β} {S S' : Sto} {σ : L2.St} {α : Env} {Q : VK} {v : V} {d : Dt} {vs : List V} {ds : List Dt}
theorem Out.shift (o : Out Z E ρ H P r) (g : Go Z.K ρ H ρ1 H1) : Out Z E ρ1 H1 P r := by
  cases r with
  | ok b S' => exact fun ρ' H' g' r' => o ρ' H' (g.trans g') r'
  | ex c fs S' => exact fun ρ' H' d g' r' x => o ρ' H' d (g.trans g') r' x
  | no => exact o
theorem Out.mono (o : Out Z E ρ H P r) (h : ∀ ρ' H' b S', r = .ok b S' → Go Z.K ρ H ρ' H' → RelS Z ρ' H' S' → P ρ' H' b → P' ρ' H' b) : Out Z E ρ H P' r := by
  cases r with
  | ok b S' => exact fun ρ' H' g r => h ρ' H' b S' rfl g r (o ρ' H' g r)
  | ex c fs S' => exact o
  | no => exact o
theorem Out.bind {P : List Addr → Hp → γ → Prop} {k : β → Sto → Rs γ} (o : Out Z E ρ H P (r.bind k)) : Out Z E ρ H (fun ρ1 H1 b => ∃ S1, r = .ok b S1 ∧ RelS Z ρ1 H1 S1 ∧ Out Z E ρ1 H1 P (k b S1)) r := by
  cases r with
  | ok b S' => exact fun ρ1 H1 g rel => ⟨S', rfl, rel, Out.shift o g⟩
  | ex c fs S' => exact o
  | no => exact o
theorem Out.here {b : β} (o : Out Z E ρ H P (.ok b S)) (rel : RelS Z ρ H S) : P ρ H b := o ρ H Go.refl rel
theorem SlAt.go {K : PySem.W.Frag} (s : SlAt K ρ H σ α) (g : Go K ρ H ρ' H') : SlAt K ρ' H' σ α := ⟨s.1, fun i d h => by
  obtain ⟨v, e, q⟩ := s.2 i d h
  exact ⟨v, e, q.go g⟩⟩
theorem SlAt.set {K : PySem.W.Frag} (s : SlAt K ρ H σ α) (i : Nat) (h : DAt K ρ H v d) : SlAt K ρ H (σ.set i (some v)) (α.set i (some d)) := by
  refine ⟨by rw [List.length_set, List.length_set, s.1], fun j e hj => ?_⟩
  by_cases q : j = i
  · subst q
    by_cases hl : j < α.length
    · rw [List.getElem?_set_self hl] at hj
      cases hj
      exact ⟨v, List.getElem?_set_self (by rw [s.1]; exact hl), h⟩
    · rw [List.getElem?_eq_none (by rw [List.length_set]; omega)] at hj
      cases hj
  · rw [List.getElem?_set_ne (Ne.symm q)] at hj
    rw [List.getElem?_set_ne (Ne.symm q)]
    exact s.2 j e hj
end
/-! ### weakening -/
section
variable {X : Cx} {e a b : Expr} {t t' : TE} {pos : Pos}
theorem imE (h : PE X e t) (i : ∀ σ H Q, t' σ H Q → t σ H Q) : PE X e t' := ⟨fun pins s σ H Q I q => h.run pins s σ H Q I (i σ H Q q)⟩
theorem imT {t t' : TT} (h : PT X e t) (i : ∀ σ H Q, t' σ H Q → t σ H Q) : PT X e t' := ⟨fun pins s σ H Q I q => h.run pins s σ H Q I (i σ H Q q)⟩
theorem imW {t t' : TT} (h : PW X e t) (i : ∀ σ H Q, t' σ H Q → t σ H Q) : PW X e t' := ⟨fun w pins s σ H Q I q => h.run w pins s σ H Q I (i σ H Q q)⟩
theorem imA {es : List Expr} {t t' : TA} (h : PA X es t) (i : ∀ σ H Q, t' σ H Q → t σ H Q) : PA X es t' := ⟨fun pos pins s σ H Q I q => h.run pos pins s σ H Q I (i σ H Q q)⟩
end
/-! ### names, constants, arguments -/
def mVar (i : Nat) : ME := fun α S => match α[i]? with
  | some (some d) => .ok d S
  | _ => .no
def mC (d : Dt) : ME := fun _ S => .ok d S
def mA0 : MA := fun _ S => .ok [] S
def mA1 (m : ME) (r : MA) : MA := fun α S => (m α S).bind fun d S1 => (r α S1).bind fun ds S2 => .ok (d :: ds) S2
def mTup (a : MA) : ME := fun α S => (a α S).bind fun ds S1 => if ds.length ≤ 1000000 then .ok (.tup ds) S1 else .no
def mLst (a : MA) : ME := fun α S => (a α S).bind fun ds S1 => if ds.length ≤ 1000000 then .ok (.loc S1.length) (S1 ++ [.lst ds]) else .no
def mDic : ME := fun _ S => .ok (.loc S.length) (S ++ [.dic []])
def mDit : ME := fun _ S => .ok (.loc S.length) (S ++ [.dit []])
section
variable {X : Cx} {Z : KZ} {W : WX} {e a b : Expr} {es : List Expr} {pos : Pos} {ma mb m : ME} {mr : MA} {σ : L2.St} {H : Hp} {Q : VK}
variable {E : XK} {ρ : List Addr} {S : Sto} {v : V} {d : Dt} {vs : List V} {ds : List Dt} {p : Addr}
theorem out_tup (o : Out Z E ρ H (PV Z.K Q) (.ok (.tup ds) S)) (rel : RelS Z ρ H S) (dv : DsAt Z.K ρ H vs ds) : ∀ p, H p = none → Q (.ref p) (upd H p (.tup vs)) := fun p hp =>
  o ρ _ (go_new hp _) (rel.new hp _) (.ref p) (.tup upd_same (dv.go (go_new hp _)))
theorem out_lst (o : Out Z E ρ H (PV Z.K Q) (.ok (.loc S.length) (S ++ [.lst ds]))) (rel : RelS Z ρ H S) (dv : DsAt Z.K ρ H vs ds) : ∀ p, H p = none → Q (.ref p) (upd H p (.lst vs)) := fun p hp => by
  have g : Go Z.K ρ H (ρ ++ [p]) (upd H p (.lst vs)) := go_push hp _
  exact o (ρ ++ [p]) _ g (rel.push hp _ ⟨vs, upd_same, dv.go g⟩) (.ref p) (.loc (by rw [← rel.len]; exact List.getElem?_concat_length))
theorem out_put {n : Nat} {a : Addr} {c c' : Cell} {o' : HO} (o : Out Z E ρ H (PV Z.K Q) (.ok d (S.set n c'))) (rel : RelS Z ρ H S) (ha : ρ[n]? = some a) (hc : S[n]? = some c) (hc' : ∀ H', Go Z.K ρ H ρ H' → H' a = some o' → CellAt Z ρ H' a c') (hv : DAt Z.K ρ H v d) : Q v (upd H a o') := by
  obtain ⟨u, hu, mu⟩ := (rel.at ha hc).there
  have g : Go Z.K ρ H ρ (upd H a o') := go_mut (List.mem_of_getElem? ha) hu mu o'
  exact o ρ _ g (rel.put ha hc (hc' _ g upd_same)) v (hv.go g)
theorem mv (i : Nat) {x : Str} (hN : X.N[i]? = some x := by rfl) (hv : Vis X.env.scope x := by first | exact Or.inl rfl | exact Or.inr (Or.inl rfl) | exact Or.inr (Or.inr rfl)) (hd : (x == ("__debug__" : Str)) = false := by decide)
    (hcd : (x == ("__classdict__" : Str)) = false := by decide) : PE X (.Name x pos) (tE Z W (mVar i)) := imE (pe_var hN hv hd hcd) fun σ H Q ⟨ρ, S, α, rel, sl, o⟩ => by
  unfold mVar at o
  cases e : α[i]? with
  | none => rw [e] at o; exact o.elim
  | some u =>
    rw [e] at o
    cases u with
    | none => exact o.elim
    | some d =>
      obtain ⟨v, hv, dv⟩ := sl.2 i d e
      exact ⟨v, hv, o.here rel v dv⟩
theorem mInt {i : Int} {j : Nat} : PE X (.Constant (.int i) j pos) (tE Z W (mC (.int i))) := imE pe_int fun σ H Q ⟨ρ, S, α, rel, sl, o⟩ => o.here rel _ .int
theorem mStr {x : Str} {j : Nat} : PE X (.Constant (.str x) j pos) (tE Z W (mC (.str x))) := imE pe_str fun σ H Q ⟨ρ, S, α, rel, sl, o⟩ => o.here rel _ .str
theorem mBl {b : Bool} {j : Nat} : PE X (.Constant (.bool b) j pos) (tE Z W (mC (.bl b))) := imE pe_bl fun σ H Q ⟨ρ, S, α, rel, sl, o⟩ => o.here rel _ .bl
theorem mNon {j : Nat} : PE X (.Constant .none j pos) (tE Z W (mC .non)) := imE pe_non fun σ H Q ⟨ρ, S, α, rel, sl, o⟩ => o.here rel _ .non
theorem mTy {x : Str} {n : String} (hg : Gl X x) (hm : X.mg x = none) (hv : bootBuiltins x = some (.type n)) (hn : x ≠ "__name__" := by decide) (hd : (x == ("__debug__" : Str)) = false := by decide) : PE X (.Name x pos) (tE Z W (mC (.ty n))) :=
  imE (pe_bltn (v := .ty n) hg hm hv rfl hn hd) fun σ H Q ⟨ρ, S, α, rel, sl, o⟩ => o.here rel _ .ty
theorem ma0 : PA X [] (tA Z W mA0) := imA pa_nil fun σ H Q ⟨ρ, S, α, rel, sl, o⟩ => o.here rel [] .nil
theorem ma1 (ha : PE X e (tE Z W m)) (hr : PA X es (tA Z W mr)) (hs : starEach (e :: es) X.env = (false, eval e X.env) :: starEach es X.env := by rfl) : PA X (e :: es) (tA Z W (mA1 m mr)) :=
  imA (pa_cons ha hr hs) fun σ H Q ⟨ρ, S, α, rel, sl, o⟩ => ⟨ρ, S, α, rel, sl, o.bind.mono fun ρ1 H1 d _ _ g1 _ ⟨S1, e1, rel1, o1⟩ v dv =>
    ⟨ρ1, S1, α, rel1, sl.go g1, o1.bind.mono fun ρ2 H2 ds _ _ g2 _ ⟨S2, e2, rel2, o2⟩ vs dvs => o2.here rel2 _ (.cons (dv.go g2) dvs)⟩⟩
theorem mtup {k : Nat} (h : PA X es (tA Z W mr)) (hk : ∀ {t : TA}, PA X es t → PE X (.Tuple es k pos) (tTup t) := fun h => pe_tup h) : PE X (.Tuple es k pos) (tE Z W (mTup mr)) :=
  imE (hk h) fun σ H Q ⟨ρ, S, α, rel, sl, o⟩ => ⟨ρ, S, α, rel, sl, o.bind.mono fun ρ1 H1 ds _ _ g1 _ ⟨S1, e1, rel1, o1⟩ vs dv => by
    by_cases hl : ds.length ≤ 1000000
    · rw [if_pos hl] at o1
      exact ⟨by rw [dv.length, sizeLine_eq]; omega, out_tup o1 rel1 dv⟩
    · rw [if_neg hl] at o1
      exact o1.elim⟩
theorem mlst (h : PA X es (tA Z W mr)) : PE X (.List es pos) (tE Z W (mLst mr)) :=
  imE (pe_lst h) fun σ H Q ⟨ρ, S, α, rel, sl, o⟩ => ⟨ρ, S, α, rel, sl, o.bind.mono fun ρ1 H1 ds _ _ g1 _ ⟨S1, e1, rel1, o1⟩ vs dv => by
    by_cases hl : ds.length ≤ 1000000
    · rw [if_pos hl] at o1
      exact ⟨by rw [dv.length, sizeLine_eq]; omega, out_lst o1 rel1 dv⟩
    · rw [if_neg hl] at o1
      exact o1.elim⟩
end
/-! ### operations -/
def mOp (f : Dt → Dt → Sto → Rs Dt) (a b : ME) : ME := fun α S => (a α S).bind fun x S1 => (b α S1).bind fun y S2 => f x y S2
def mUn (f : Dt → Sto → Rs Dt) (a : ME) : ME := fun α S => (a α S).bind fun x S1 => f x S1
def OpM (Z : KZ) (f : Dt → Dt → Sto → Rs Dt) (r : R2) : Prop := ∀ (E : XK) (ρ : List Addr) (H : Hp) (S : Sto) (x y : Dt) (vx vy : V) (Q : VK), RelS Z ρ H S → DAt Z.K ρ H vx x → DAt Z.K ρ H vy y → Out Z E ρ H (PV Z.K Q) (f x y S) → r vx vy H Q
def UnM (Z : KZ) (f : Dt → Sto → Rs Dt) (r : V → Hp → VK → Prop) : Prop := ∀ (E : XK) (ρ : List Addr) (H : Hp) (S : Sto) (x : Dt) (vx : V) (Q : VK), RelS Z ρ H S → DAt Z.K ρ H vx x → Out Z E ρ H (PV Z.K Q) (f x S) → r vx H Q
def CallM (Z : KZ) (f : List Dt → Sto → Rs Dt) (r : List V → Hp → VK → Prop) : Prop := ∀ (E : XK) (ρ : List Addr) (H : Hp) (S : Sto) (xs : List Dt) (vs : List V) (Q : VK), RelS Z ρ H S → DsAt Z.K ρ H vs xs → Out Z E ρ H (PV Z.K Q) (f xs S) → r vs H Q
section
variable {X : Cx} {Z : KZ} {W : WX} {e a b : Expr} {es : List Expr} {pos : Pos} {ma mb m : ME} {mr : MA} {σ : L2.St} {H : Hp} {Q : VK} {f : Dt → Dt → Sto → Rs Dt} {g : Dt → Sto → Rs Dt} {r : R2}
theorem tE_un {R : VK} (h : tE Z W (mUn g ma) σ H Q) (hR : ∀ (ρ1 : List Addr) (H1 : Hp) (S1 : Sto) (x : Dt) (vx : V), RelS Z ρ1 H1 S1 → DAt Z.K ρ1 H1 vx x → Out Z (WO W σ) ρ1 H1 (PV Z.K Q) (g x S1) → R vx H1) : tE Z W ma σ H R := by
  obtain ⟨ρ, S, α, rel, sl, o⟩ := h
  exact ⟨ρ, S, α, rel, sl, o.bind.mono fun ρ1 H1 d _ _ g1 _ ⟨S1, e1, rel1, o1⟩ v dv => hR ρ1 H1 S1 d v rel1 dv o1⟩
theorem tE_bin {R : V → V → Hp → Prop} (h : tE Z W (mOp f ma mb) σ H Q) (hR : ∀ (ρ1 : List Addr) (H1 : Hp) (S1 : Sto) (x y : Dt) (vx vy : V), RelS Z ρ1 H1 S1 → DAt Z.K ρ1 H1 vx x → DAt Z.K ρ1 H1 vy y → Out Z (WO W σ) ρ1 H1 (PV Z.K Q) (f x y S1) → R vx vy H1) :
    tE Z W ma σ H fun vx H1 => tE Z W mb σ H1 fun vy H2 => R vx vy H2 := by
  obtain ⟨ρ, S, α, rel, sl, o⟩ := h
  exact ⟨ρ, S, α, rel, sl, o.bind.mono fun ρ1 H1 d _ _ g1 _ ⟨S1, e1, rel1, o1⟩ v dv =>
    ⟨ρ1, S1, α, rel1, sl.go g1, o1.bind.mono fun ρ2 H2 y _ _ g2 _ ⟨S2, e2, rel2, o2⟩ vy dy => hR ρ2 H2 S2 d y v vy rel2 (dv.go g2) dy o2⟩⟩
theorem m_op {op : Operator} (ho : OpR X (binaryOp op) r) (hf : OpM Z f r) (ha : PE X a (tE Z W ma)) (hb : PE X b (tE Z W mb)) : PE X (.BinOp a op b pos) (tE Z W (mOp f ma mb)) :=
  imE (pe_op ho ha hb) fun σ H Q h => tE_bin h fun ρ1 H1 S1 x y vx vy rel dx dy o => hf _ ρ1 H1 S1 x y vx vy Q rel dx dy o
theorem m_un {op : UnaryOp} {r : V → Hp → VK → Prop} (ho : UnR X (unaryOp op) r) (hf : UnM Z g r) (ha : PE X a (tE Z W ma)) : PE X (.UnaryOp op a pos) (tE Z W (mUn g ma)) :=
  imE (pe_un ho ha) fun σ H Q h => tE_un h fun ρ1 H1 S1 x vx rel dx o => hf _ ρ1 H1 S1 x vx Q rel dx o
theorem m_cmp {op : CmpOp} (ho : OpR X (compareOp op) r) (hf : OpM Z f r) (ha : PE X a (tE Z W ma)) (hb : PE X b (tE Z W mb)) (hm : behindInMarks op b = false) : PE X (.Compare a [op] [b] pos) (tE Z W (mOp f ma mb)) :=
  imE (pe_cmpR ho ha hb hm) fun σ H Q h => tE_bin h fun ρ1 H1 S1 x y vx vy rel dx dy o => hf _ ρ1 H1 S1 x y vx vy Q rel dx dy o
theorem m_ix (ho : IxR X r) (hf : OpM Z f r) (ha : PE X a (tE Z W ma)) (hb : PE X b (tE Z W mb)) (hs : PlainIx b) : PE X (.Subscript a b pos) (tE Z W (mOp f ma mb)) :=
  imE (pe_ix ho ha hb hs) fun σ H Q h => tE_bin h fun ρ1 H1 S1 x y vx vy rel dx dy o => hf _ ρ1 H1 S1 x y vx vy Q rel dx dy o
/-! tests -/
/-- a value that is a bool -/
def asB : Dt → Sto → Rs Bool
  | .bl b, S => .ok b S
  | _, _ => .no
def mT (m : ME) : MT := fun α S => (m α S).bind asB
theorem mt_cmp {op : CmpOp} (ho : OpR X (compareOp op) r) (hf : OpM Z f r) (ha : PE X a (tE Z W ma)) (hb : PE X b (tE Z W mb)) (hm : behindInMarks op b = false) : PT X (.Compare a [op] [b] pos) (tT Z W (mT (mOp f ma mb))) :=
  imT (pt_cmpR ho ha hb hm) fun σ H Q ⟨ρ, S, α, rel, sl, o⟩ => by
    refine tE_bin (f := f) (Q := fun x H' => ∃ k, x = .bl k ∧ Q k H') ⟨ρ, S, α, rel, sl, o.bind.mono fun ρ1 H1 x S1' _ g1 _ ⟨S1, e1, rel1, o1⟩ v dv => ?_⟩ fun ρ1 H1 S1 x y vx vy rel dx dy o => hf _ ρ1 H1 S1 x y vx vy _ rel dx dy o
    cases x with
    | bl k =>
      cases dv
      exact ⟨k, rfl, o1.here rel1⟩
    | _ => exact o1.elim
end
end MD

namespace MD
open PySem PySem.Spec PyProof.Rows L2
/-! ### arithmetic -/
def dAdd (x y : Dt) (S : Sto) : Rs Dt := match x, y with
  | .int i, .int j => .ok (.int (i + j)) S
  | .str i, .str j => if i.length + j.length ≤ 1000000 then .ok (.str (i ++ j)) S else .no
  | .tup l, .tup m => if l.length + m.length ≤ 1000000 then .ok (.tup (l ++ m)) S else .no
  | .con l, .tup m => if l.length + m.length ≤ 1000000 then (match l with | [] => .ok (.tup m) S | _ => (match m with | [] => .no | _ => .ok (.tup (l ++ m)) S)) else .no
  | .loc n, .loc m => match S[n]?, S[m]? with
    | some (.lst a), some (.lst b) => if a.length + b.length ≤ 1000000 then .ok (.loc S.length) (S ++ [.lst (a ++ b)]) else .no
    | _, _ => .no
  | _, _ => .no
def dSub (x y : Dt) (S : Sto) : Rs Dt := match x, y with
  | .int i, .int j => .ok (.int (i - j)) S
  | _, _ => .no
def dMul (x y : Dt) (S : Sto) : Rs Dt := match x, y with
  | .int i, .int j => if (-(2 ^ 64) < i ∧ i < 2 ^ 64) ∨ (-(2 ^ 64) < j ∧ j < 2 ^ 64) then .ok (.int (i * j)) S else .no
  | _, _ => .no
def dDiv (x y : Dt) (S : Sto) : Rs Dt := match x, y with
  | .int i, .int j => if 0 < j ∧ j < 1073741824 then .ok (.int (i / j)) S else .no
  | _, _ => .no
def dMod (x y : Dt) (S : Sto) : Rs Dt := match x, y with
  | .int i, .int j => if 0 < j then .ok (.int (i % j)) S else .no
  | _, _ => .no
def dNeg (x : Dt) (S : Sto) : Rs Dt := match x with
  | .int i => .ok (.int (-i)) S
  | _ => .no
def dCmp (p : Int → Int → Bool) (x y : Dt) (S : Sto) : Rs Dt := match x, y with
  | .int i, .int j => .ok (.bl (p i j)) S
  | _, _ => .no
def dLt := dCmp fun i j => decide (i < j)
def dLe := dCmp fun i j => decide (i ≤ j)
def dGt := dCmp fun i j => decide (j < i)
def dGe := dCmp fun i j => decide (j ≤ i)
def Dt.isN : Dt → Bool
  | .non => true
  | _ => false
def dIsN (x y : Dt) (S : Sto) : Rs Dt := match y with
  | .non => .ok (.bl x.isN) S
  | _ => .no
def dNotN (x y : Dt) (S : Sto) : Rs Dt := match y with
  | .non => .ok (.bl (!x.isN)) S
  | _ => .no
section
variable {Z : KZ} {E : XK} {ρ : List Addr} {H : Hp} {S : Sto} {x y : Dt} {v u : V} {Q : VK} {X : Cx}
theorem DAt.tup_inv {K : PySem.W.Frag} {l : List Dt} (h : DAt K ρ H v (.tup l)) : ∃ a vs, v = .ref a ∧ H a = some (.tup vs) ∧ DsAt K ρ H vs l := by
  cases h with
  | tup h t => exact ⟨_, _, rfl, h, t⟩
theorem DAt.con_inv {K : PySem.W.Frag} {l : List Dt} (h : DAt K ρ H v (.con l)) : ∃ a vs, v = .ref a ∧ SqT K (fun _ => none) a vs ∧ DsAt K ρ H vs l := by
  cases h with
  | con h t => exact ⟨_, _, rfl, h, t⟩
theorem DAt.loc_inv {K : PySem.W.Frag} {n : Nat} (h : DAt K ρ H v (.loc n)) : ∃ a, v = .ref a ∧ ρ[n]? = some a := by
  cases h with
  | loc h => exact ⟨_, rfl, h⟩
theorem DAt.scr_inv {K : PySem.W.Frag} {l : List Int} (h : DAt K ρ H v (.scr l)) : ∃ a, v = .ref a ∧ ScrAt K H a l := by
  cases h with
  | scr h => exact ⟨_, rfl, h⟩
theorem sqT_con {K : PySem.W.Frag} {a : Addr} {vs : List V} (h : SqT K (fun _ => none) a vs) (H : Hp) : SqT K H a vs := by
  rcases h with (h | ⟨_, h⟩) | h
  · cases h
  · cases h
  · exact .inr h
theorem RelS.lst {l : List Dt} {n : Nat} {a : Addr} (r : RelS Z ρ H S) (h : ρ[n]? = some a) (e : S[n]? = some (.lst l)) : ∃ vs, H a = some (.lst vs) ∧ DsAt Z.K ρ H vs l := r.at h e
theorem DAt.isN {K : PySem.W.Frag} (h : DAt K ρ H v x) : decide (v = V.non) = x.isN := by
  cases h <;> first | rfl | exact decide_eq_false (fun e => by cases e)
abbrev RAdd (K : PySem.W.Frag) : R2 := fun x y H Q => (∃ i j, x = .int i ∧ y = .int j ∧ Q (.int (i + j)) H) ∨ (∃ i j, x = .str i ∧ y = .str j ∧ i.length + j.length ≤ sizeLine ∧ Q (.str (i ++ j)) H) ∨ rCatA K x y H Q ∨ rCat x y H Q
theorem opAdd (hK : X.K = Z.K) : OpR X (binaryOp .Add) (RAdd Z.K) := by
  rw [← hK]
  exact OpR.or op_add (OpR.or op_add_str (OpR.or op_catA op_cat))
theorem omAdd : OpM Z dAdd (RAdd Z.K) := by
  intro E ρ H S x y v u Q rel dx dy o
  unfold dAdd at o
  split at o
  · cases dx
    cases dy
    exact .inl ⟨_, _, rfl, rfl, o.here rel _ .int⟩
  · cases dx
    cases dy
    split at o
    · exact .inr (.inl ⟨_, _, rfl, rfl, by rw [sizeLine_eq]; omega, o.here rel _ .str⟩)
    · exact o.elim
  · obtain ⟨a, vs, rfl, ha, da⟩ := dx.tup_inv
    obtain ⟨b, ws, rfl, hb, db⟩ := dy.tup_inv
    split at o
    · refine .inr (.inr (.inl ⟨a, b, vs, ws, rfl, rfl, SqT.of ha, SqT.of hb, by rw [da.length, db.length, sizeLine_eq]; omega, fun e => ?_, fun e1 e2 => ?_, fun _ _ => out_tup o rel (da.append db)⟩))
      · subst e
        have : ‹List Dt› = ‹List Dt› := rfl
        cases da
        exact o.here rel _ (.tup hb db)
      · subst e2
        cases db
        rw [List.append_nil] at o
        exact o.here rel _ (.tup ha da)
    · exact o.elim
  · obtain ⟨a, vs, rfl, ha, da⟩ := dx.con_inv
    obtain ⟨b, ws, rfl, hb, db⟩ := dy.tup_inv
    split at o
    · refine .inr (.inr (.inl ⟨a, b, vs, ws, rfl, rfl, sqT_con ha H, SqT.of hb, by rw [da.length, db.length, sizeLine_eq]; omega, fun e => ?_, fun e1 e2 => ?_, fun e1 e2 => ?_⟩))
      · subst e
        cases da
        exact o.here rel _ (.tup hb db)
      · subst e2
        cases db
        cases da with
        | nil => exact absurd rfl e1
        | cons _ _ => exact o.elim
      · cases da with
        | nil => exact absurd rfl e1
        | cons q1 q2 =>
          cases db with
          | nil => exact absurd rfl e2
          | cons q3 q4 => exact out_tup o rel ((DsAt.cons q1 q2).append (.cons q3 q4))
    · exact o.elim
  · obtain ⟨a, rfl, ha⟩ := dx.loc_inv
    obtain ⟨b, rfl, hb⟩ := dy.loc_inv
    split at o
    · rename_i e1 e2
      split at o
      · obtain ⟨vs, h1, d1⟩ := rel.lst ha e1
        obtain ⟨ws, h2, d2⟩ := rel.lst hb e2
        exact .inr (.inr (.inr ⟨a, b, vs, ws, rfl, rfl, h1, h2, by rw [d1.length, d2.length, sizeLine_eq]; omega, out_lst o rel (d1.append d2)⟩))
      · exact o.elim
    · exact o.elim
  · exact o.elim
theorem omSub : OpM Z dSub (rI0 fun i j => .int (i - j)) := by
  intro E ρ H S x y v u Q rel dx dy o
  unfold dSub at o
  split at o
  · cases dx
    cases dy
    exact ⟨_, _, rfl, rfl, o.here rel _ .int⟩
  · exact o.elim
theorem omMul : OpM Z dMul (rI CMul fun i j => .int (i * j)) := by
  intro E ρ H S x y v u Q rel dx dy o
  unfold dMul at o
  split at o
  · cases dx
    cases dy
    split at o
    · rename_i h
      exact ⟨_, _, rfl, rfl, h, o.here rel _ .int⟩
    · exact o.elim
  · exact o.elim
theorem omDiv : OpM Z dDiv (rI CDiv fun i j => .int (i / j)) := by
  intro E ρ H S x y v u Q rel dx dy o
  unfold dDiv at o
  split at o
  · cases dx
    cases dy
    split at o
    · rename_i h
      exact ⟨_, _, rfl, rfl, h, o.here rel _ .int⟩
    · exact o.elim
  · exact o.elim
theorem omMod : OpM Z dMod (rI (fun _ j => 0 < j) fun i j => .int (i % j)) := by
  intro E ρ H S x y v u Q rel dx dy o
  unfold dMod at o
  split at o
  · cases dx
    cases dy
    split at o
    · rename_i h
      exact ⟨_, _, rfl, rfl, h, o.here rel _ .int⟩
    · exact o.elim
  · exact o.elim
theorem omNeg : UnM Z dNeg (rU fun i => .int (-i)) := by
  intro E ρ H S x v Q rel dx o
  unfold dNeg at o
  split at o
  · cases dx
    exact ⟨_, rfl, o.here rel _ .int⟩
  · exact o.elim
theorem omCmp {p : Int → Int → Bool} : OpM Z (dCmp p) (rI0 fun i j => .bl (p i j)) := by
  intro E ρ H S x y v u Q rel dx dy o
  unfold dCmp at o
  split at o
  · cases dx
    cases dy
    exact ⟨_, _, rfl, rfl, o.here rel _ .bl⟩
  · exact o.elim
theorem omIsN : OpM Z dIsN (fun x y H Q => y = .non ∧ Q (.bl (decide (x = .non))) H) := by
  intro E ρ H S x y v u Q rel dx dy o
  unfold dIsN at o
  split at o
  · cases dy
    rw [dx.isN]
    exact ⟨rfl, o.here rel _ .bl⟩
  · exact o.elim
end
/-! ### == -/
def mapO {α β : Type} (f : α → Option β) : List α → Option (List β)
  | [] => some []
  | x :: r => match f x, mapO f r with
    | some y, some s => some (y :: s)
    | _, _ => none
def py (S : Sto) : Nat → Dt → Option PyData
  | 0, _ => none
  | n + 1, .non => some .none
  | n + 1, .bl b => some (.bool b)
  | n + 1, .int i => some (.int i)
  | n + 1, .str x => some (.str x)
  | n + 1, .ty _ => none
  | n + 1, .tup l => (mapO (py S n) l).map .tuple
  | n + 1, .con l => (mapO (py S n) l).map .tuple
  | n + 1, .loc k => match S[k]? with
    | some (.lst l) => (mapO (py S n) l).map .list
    | _ => none
  | n + 1, .scr l => some (.list (l.map .int))
def eqSc : Dt → Dt → Option Bool
  | .int i, .int j => some (decide (i = j))
  | .str i, .str j => some (decide (i = j))
  | .bl i, .bl j => some (decide (i = j))
  | .non, .non => some true
  | .non, .int _ => some false
  | .int _, .non => some false
  | .non, .bl _ => some false
  | .bl _, .non => some false
  | .non, .str _ => some false
  | .str _, .non => some false
  | .int _, .str _ => some false
  | .str _, .int _ => some false
  | .bl _, .str _ => some false
  | .str _, .bl _ => some false
  | _, _ => none
/-- data that == may go through -/
def shp (d : PyData) : Bool := d.canLay0 && decide (d.depth ≤ 600)
def rEqB (K : PySem.W.Frag) : R2 := fun x y H Q => ∃ p q, Dp K H x p ∧ Dp K H y q ∧ shp p = true ∧ shp q = true ∧ Q (.bl (PyData.eqv p q)) H
def rNeB (K : PySem.W.Frag) : R2 := fun x y H Q => ∃ p q, Dp K H x p ∧ Dp K H y q ∧ shp p = true ∧ shp q = true ∧ Q (.bl (!PyData.eqv p q)) H
theorem shp_room {A : Around} {p q : PyData} (h : shp p = true) (hu : A.units + 600 < cLine) : A.units + min p.depth q.depth < cLine := by
  have h1 : p.depth ≤ 600 := of_decide_eq_true (Bool.and_eq_true_iff.mp h).2
  have h2 : min p.depth q.depth ≤ p.depth := Nat.min_le_left _ _
  omega
theorem shp_lay {p : PyData} (h : shp p = true) : p.canLay0 = true := (Bool.and_eq_true_iff.mp h).1
theorem op_eqB {X : Cx} (hu : X.A.units + 600 < cLine) : OpR X (compareOp .Eq) (rEqB X.K) := by
  intro pins s σ H x y v u Q I rx ry h
  obtain ⟨d, e, hd, he, sd, se, q⟩ := h
  obtain ⟨as, r1⟩ := Dp.reads I d x v hd rx
  obtain ⟨bs, r2⟩ := Dp.reads I e y u he ry
  exact SeqAt.compareEq_reads r1 r2 (shp_lay sd) (shp_lay se) (shp_room sd hu) ⟨.bl _, H, I, rfl, q⟩
theorem op_neB {X : Cx} (hu : X.A.units + 600 < cLine) : OpR X (compareOp .NotEq) (rNeB X.K) := by
  intro pins s σ H x y v u Q I rx ry h
  obtain ⟨d, e, hd, he, sd, se, q⟩ := h
  obtain ⟨as, r1⟩ := Dp.reads I d x v hd rx
  obtain ⟨bs, r2⟩ := Dp.reads I e y u he ry
  exact SeqAt.compareNe_reads r1 r2 (shp_lay sd) (shp_lay se) (shp_room sd hu) ⟨.bl _, H, I, rfl, q⟩
def dEqG (neg : Bool) (x y : Dt) (S : Sto) : Rs Dt := match eqSc x y with
  | some b => .ok (.bl (if neg then !b else b)) S
  | none => match py S 700 x, py S 700 y with
    | some p, some q => if shp p = true ∧ shp q = true then .ok (.bl (if neg then !PyData.eqv p q else PyData.eqv p q)) S else .no
    | _, _ => .no
def dEq := dEqG false
def dNe := dEqG true
section
variable {Z : KZ} {E : XK} {ρ : List Addr} {H : Hp} {S : Sto} {x y : Dt} {v u : V} {Q : VK} {X : Cx}
theorem dpAll_of {K : PySem.W.Frag} {f : Dt → Option PyData} (hf : ∀ v d p, DAt K ρ H v d → f d = some p → Dp K H v p) : ∀ {vs : List V} {l : List Dt} {ps : List PyData}, DsAt K ρ H vs l → mapO f l = some ps → DpAll K H vs ps
  | _, _, ps, .nil, h => by
    cases h
    exact .nil
  | _, _, ps, .cons (d := d) (ds := r) a t, h => by
    rw [mapO] at h
    cases e1 : f d with
    | none => rw [e1] at h; cases h
    | some p =>
      cases e2 : mapO f r with
      | none => rw [e1, e2] at h; cases h
      | some ps' =>
        rw [e1, e2] at h
        cases h
        exact .cons (hf _ _ _ a e1) (dpAll_of hf t e2)
theorem dpInts {K : PySem.W.Frag} : ∀ l : List Int, DpAll K H (l.map V.int) (l.map PyData.int)
  | [] => .nil
  | i :: r => .cons (.int i) (dpInts r)
theorem dp_of (rel : RelS Z ρ H S) : ∀ (n : Nat) (v : V) (d : Dt) (p : PyData), DAt Z.K ρ H v d → py S n d = some p → Dp Z.K H v p
  | 0, _, _, _, _, h => by cases h
  | n + 1, v, d, p, a, h => by
    cases a with
    | non => cases h; exact .non
    | bl => cases h; exact .bl _
    | int => cases h; exact .int _
    | str => cases h; exact .str _
    | ty => cases h
    | tup ha t =>
      rw [py] at h
      obtain ⟨ps, e, rfl⟩ := Option.map_eq_some_iff.mp h
      exact .tup (SqT.of ha) (dpAll_of (dp_of rel n) t e)
    | con ha t =>
      rw [py] at h
      obtain ⟨ps, e, rfl⟩ := Option.map_eq_some_iff.mp h
      exact .tup (sqT_con ha H) (dpAll_of (dp_of rel n) t e)
    | loc ha =>
      rw [py] at h
      split at h
      · rename_i l e
        obtain ⟨vs, hv, dv⟩ := rel.lst ha e
        obtain ⟨ps, e, rfl⟩ := Option.map_eq_some_iff.mp h
        exact .lst (SqL.of hv) (dpAll_of (dp_of rel n) dv e)
      · cases h
    | scr ha =>
      rw [py] at h
      cases h
      exact .lst ha.sql (dpInts _)
theorem eqSc_ok {K : PySem.W.Frag} {b : Bool} (dx : DAt K ρ H v x) (dy : DAt K ρ H u y) (h : eqSc x y = some b) : scal v u = true ∧ decide (v = u) = b := by
  unfold eqSc at h
  split at h <;> cases h <;> cases dx <;> cases dy <;> first | exact ⟨rfl, rfl⟩ | exact ⟨rfl, decide_eq_false (fun e => by cases e)⟩ | exact ⟨rfl, by simp⟩
theorem opEq (hK : X.K = Z.K) (hu : X.A.units + 600 < cLine) : OpR X (compareOp .Eq) (fun x y H Q => rEq x y H Q ∨ rEqB Z.K x y H Q) := by
  rw [← hK]
  exact OpR.or op_eq (op_eqB hu)
theorem opNe (hK : X.K = Z.K) (hu : X.A.units + 600 < cLine) : OpR X (compareOp .NotEq) (fun x y H Q => rNe x y H Q ∨ rNeB Z.K x y H Q) := by
  rw [← hK]
  exact OpR.or op_ne (op_neB hu)
theorem omEq : OpM Z dEq (fun x y H Q => rEq x y H Q ∨ rEqB Z.K x y H Q) := by
  intro E ρ H S x y v u Q rel dx dy o
  unfold dEq dEqG at o
  split at o
  · rename_i b e
    obtain ⟨h1, h2⟩ := eqSc_ok dx dy e
    refine .inl ⟨h1, ?_⟩
    rw [h2]
    exact o.here rel _ .bl
  · split at o
    · rename_i p q e1 e2
      split at o
      · rename_i hs
        exact .inr ⟨p, q, dp_of rel 700 _ _ _ dx e1, dp_of rel 700 _ _ _ dy e2, hs.1, hs.2, o.here rel _ .bl⟩
      · exact o.elim
    · exact o.elim
theorem omNe : OpM Z dNe (fun x y H Q => rNe x y H Q ∨ rNeB Z.K x y H Q) := by
  intro E ρ H S x y v u Q rel dx dy o
  unfold dNe dEqG at o
  split at o
  · rename_i b e
    obtain ⟨h1, h2⟩ := eqSc_ok dx dy e
    refine .inl ⟨h1, ?_⟩
    rw [h2]
    exact o.here rel _ .bl
  · split at o
    · rename_i p q e1 e2
      split at o
      · rename_i hs
        exact .inr ⟨p, q, dp_of rel 700 _ _ _ dx e1, dp_of rel 700 _ _ _ dy e2, hs.1, hs.2, o.here rel _ .bl⟩
      · exact o.elim
    · exact o.elim
end
/-! ### x in y -/
def flatD : Dt → Bool
  | .non => true
  | .bl _ => true
  | .int _ => true
  | .str _ => true
  | _ => false
def eqD : Dt → Dt → Bool
  | .non, .non => true
  | .bl a, .bl b => a == b
  | .bl a, .int b => (if a then 1 else 0) == b
  | .int a, .bl b => a == (if b then 1 else 0)
  | .int a, .int b => a == b
  | .str a, .str b => a == b
  | _, _ => false
def inD (x : Dt) (l : List Dt) : Bool := l.any fun y => eqD y x
def keyO : Dt → Option Key
  | .int i => some (.inl i)
  | .str x => some (.inr x)
  | _ => none
def keysO : Dt → Option (List Key)
  | .tup l => mapO keyO l
  | _ => none
def valD {κ : Type} [DecidableEq κ] (kvs : List (κ × Dt)) (k : κ) : Option Dt := (kvs.find? fun kv => decide (kv.1 = k)).map (·.2)
def putD {κ : Type} [DecidableEq κ] (kvs : List (κ × Dt)) (k : κ) (v : Dt) : List (κ × Dt) := if (valD kvs k).isSome then kvs.map (fun kv => if kv.1 = k then (kv.1, v) else kv) else kvs ++ [(k, v)]
def dInG (neg : Bool) (x y : Dt) (S : Sto) : Rs Dt := match y with
  | .tup l => if flatD x = true ∧ l.all flatD = true then .ok (.bl (if neg then !inD x l else inD x l)) S else .no
  | .str j => match x with
    | .str i => .ok (.bl (if neg then !(!(Builtin.Str.occurrences j i 0 j.length 1).isEmpty) else !(Builtin.Str.occurrences j i 0 j.length 1).isEmpty)) S
    | _ => .no
  | .loc n => match S[n]? with
    | some (.lst l) => if flatD x = true ∧ l.all flatD = true then .ok (.bl (if neg then !inD x l else inD x l)) S else match py S 700 x, py S 700 (.loc n) with
      | some d, some (.list ds) => if SeqAt.shaped d = true ∧ SeqAt.shaped (.list ds) = true then .ok (.bl (if neg then !(ds.any fun z => PyData.eqv z d) else ds.any fun z => PyData.eqv z d)) S else .no
      | _, _ => .no
    | some (.dic kvs) => match keyO x with
      | some k => .ok (.bl (if neg then !(valD kvs k).isSome else (valD kvs k).isSome)) S
      | none => .no
    | some (.dit kvs) => match keysO x with
      | some k => .ok (.bl (if neg then !(valD kvs k).isSome else (valD kvs k).isSome)) S
      | none => .no
    | _ => .no
  | _ => .no
def dIn := dInG false
def dNotIn := dInG true
section
variable {Z : KZ} {E : XK} {K : PySem.W.Frag} {ρ : List Addr} {H : Hp} {S : Sto} {x y : Dt} {v u : V} {Q : VK} {X : Cx} {vs : List V} {l : List Dt}
theorem flat_of (h : DAt K ρ H v x) : flatV v = flatD x := by cases h <;> rfl
theorem flats_of : ∀ {vs : List V} {l : List Dt}, DsAt K ρ H vs l → vs.all flatV = l.all flatD
  | _, _, .nil => rfl
  | _, _, .cons a t => by rw [List.all_cons, List.all_cons, flat_of a, flats_of t]
theorem eqD_of (h : DAt K ρ H v x) (h' : DAt K ρ H u y) : eqV v u = eqD x y := by cases h <;> cases h' <;> rfl
theorem inD_of (h : DAt K ρ H v x) : ∀ {vs : List V} {l : List Dt}, DsAt K ρ H vs l → inV v vs = inD x l
  | _, _, .nil => rfl
  | _, _, .cons a t => by
    have := inD_of h t
    unfold inV inD at this ⊢
    rw [List.any_cons, List.any_cons, eqD_of a h, this]
theorem key_of' {k : Key} (h : DAt K ρ H v x) (e : keyO x = some k) : v = kV k := by
  cases h <;> first | (cases e; rfl) | cases e
theorem keys_of' : ∀ {vs : List V} {l : List Dt} {ks : List Key}, DsAt K ρ H vs l → mapO keyO l = some ks → vs = ks.map kV
  | _, _, ks, .nil, h => by cases h; rfl
  | _, _, ks, .cons (d := d) (ds := r) a t, h => by
    rw [mapO] at h
    cases e1 : keyO d with
    | none => rw [e1] at h; cases h
    | some p =>
      cases e2 : mapO keyO r with
      | none => rw [e1, e2] at h; cases h
      | some ps' =>
        rw [e1, e2] at h
        cases h
        rw [List.map_cons, key_of' a e1, keys_of' t e2]
theorem val_of {κ : Type} [DecidableEq κ] (k : κ) : ∀ {ws : List (κ × V)} {kvs : List (κ × Dt)}, ws.map (·.1) = kvs.map (·.1) → DsAt K ρ H (ws.map (·.2)) (kvs.map (·.2)) → (valV ws k = none ∧ valD kvs k = none) ∨ ∃ v d, valV ws k = some v ∧ valD kvs k = some d ∧ DAt K ρ H v d
  | [], [], _, _ => .inl ⟨rfl, rfl⟩
  | [], _ :: _, h, _ => by cases h
  | _ :: _, [], h, _ => by cases h
  | w :: ws, kv :: kvs, h, hd => by
    rw [List.map_cons, List.map_cons] at h hd
    obtain ⟨e1, e2⟩ := List.cons.inj h
    cases hd with
    | cons d1 d2 =>
      by_cases hx : kv.1 = k
      · refine .inr ⟨w.2, kv.2, valV_pos (e1.trans hx), ?_, d1⟩
        unfold valD
        rw [List.find?_cons, decide_eq_true hx]
        rfl
      · rw [valV_neg (fun q => hx (e1.symm.trans q))]
        have : valD (kv :: kvs) k = valD kvs k := by
          unfold valD
          rw [List.find?_cons, decide_eq_false hx]
        rw [this]
        exact val_of k e2 d2
/-- what a dict holds at a key -/
def dGetO (n : Nat) (x : Dt) (S : Sto) : Option (Option Dt) := match S[n]? with
  | some (.dic kvs) => match keyO x with
    | some k => some (valD kvs k)
    | none => none
  | some (.dit kvs) => match keysO x with
    | some k => some (valD kvs k)
    | none => none
  | _ => none
theorem dget_of {n : Nat} {a : Addr} {od : Option Dt} (rel : RelS Z ρ H S) (ha : ρ[n]? = some a) (dx : DAt Z.K ρ H v x) (h : dGetO n x S = some od) : ∃ ov, DGet H a v ov ∧ ((ov = none ∧ od = none) ∨ ∃ w d, ov = some w ∧ od = some d ∧ DAt Z.K ρ H w d) := by
  unfold dGetO at h
  split at h
  · rename_i kvs e
    obtain ⟨ws, hw, e1, e2⟩ := rel.at ha e
    split at h
    · rename_i k ek
      cases h
      rw [key_of' dx ek]
      exact ⟨_, DGet.k hw, val_of k e1 e2⟩
    · cases h
  · rename_i kvs e
    obtain ⟨ws, hw, e1, e2⟩ := rel.at ha e
    split at h
    · rename_i k ek
      cases h
      unfold keysO at ek
      split at ek
      · obtain ⟨b, us, rfl, hb, db⟩ := dx.tup_inv
        rw [keys_of' db ek] at hb
        exact ⟨_, DGet.t hw hb, val_of k e1 e2⟩
      · cases ek
    · cases h
  · cases h
abbrev RInS (neg : Bool) : R2 := fun x y H Q => ∃ i j, x = .str i ∧ y = .str j ∧ Q (.bl (if neg then !(!(Builtin.Str.occurrences j i 0 j.length 1).isEmpty) else !(Builtin.Str.occurrences j i 0 j.length 1).isEmpty)) H
abbrev RInDp (K : PySem.W.Frag) (neg : Bool) : R2 := fun x y H Q => ∃ d ds, Dp K H x d ∧ Dp K H y (.list ds) ∧ SeqAt.shaped d = true ∧ SeqAt.shaped (.list ds) = true ∧ Q (.bl (if neg then !(ds.any fun z => PyData.eqv z d) else ds.any fun z => PyData.eqv z d)) H
abbrev RIn (K : PySem.W.Frag) (neg : Bool) : R2 := fun x y H Q => rIn K neg x y H Q ∨ (∃ a o, y = .ref a ∧ DGet H a x o ∧ Q (.bl (if neg then !o.isSome else o.isSome)) H) ∨ RInS neg x y H Q ∨ RInDp K neg x y H Q
theorem opIn (hK : X.K = Z.K) (hu6 : X.A.units + 600 < cLine) : OpR X (compareOp .In) (RIn Z.K false) := by
  have hu : X.A.units + 1 < cLine := by omega
  rw [← hK]
  refine OpR.or op_in_seq (OpR.or ?_ (OpR.or op_in_str (op_inD (by omega))))
  intro pins s σ H x y v u Q I rx ry ⟨a, o, e, g, q⟩
  subst e
  cases (show u = Value.ref a from ry)
  exact d_in hu I g rx fun s' I' => ⟨.bl _, H, I', rfl, q⟩
theorem opNotIn (hK : X.K = Z.K) (hu6 : X.A.units + 600 < cLine) : OpR X (compareOp .NotIn) (RIn Z.K true) := by
  have hu : X.A.units + 1 < cLine := by omega
  rw [← hK]
  refine OpR.or op_notIn_seq (OpR.or ?_ (OpR.or op_notIn_str (op_notInD (by omega))))
  intro pins s σ H x y v u Q I rx ry ⟨a, o, e, g, q⟩
  subst e
  cases (show u = Value.ref a from ry)
  exact d_notIn hu I g rx fun s' I' => ⟨.bl _, H, I', rfl, q⟩
theorem omIn (neg : Bool) : OpM Z (dInG neg) (RIn Z.K neg) := by
  intro E ρ H S x y v u Q rel dx dy o
  unfold dInG at o
  split at o
  · obtain ⟨a, vs, rfl, ha, da⟩ := dy.tup_inv
    split at o
    · rename_i h
      refine .inl ⟨a, vs, rfl, .inr (SqT.of ha), (flat_of dx).trans h.1, (flats_of da).trans h.2, ?_⟩
      rw [inD_of dx da]
      exact o.here rel _ .bl
    · exact o.elim
  · split at o
    · cases dx
      cases dy
      exact .inr (.inr (.inl ⟨_, _, rfl, rfl, o.here rel _ .bl⟩))
    · exact o.elim
  · rename_i n
    obtain ⟨a, rfl, ha⟩ := dy.loc_inv
    split at o
    · rename_i e
      obtain ⟨vs, hv, da⟩ := rel.lst ha e
      split at o
      · rename_i h
        refine .inl ⟨a, vs, rfl, .inl (SqL.of hv), (flat_of dx).trans h.1, (flats_of da).trans h.2, ?_⟩
        rw [inD_of dx da]
        exact o.here rel _ .bl
      · split at o
        · rename_i d ds e1 e2
          split at o
          · rename_i hs
            exact .inr (.inr (.inr ⟨d, ds, dp_of rel 700 _ _ _ dx e1, dp_of rel 700 _ _ _ dy e2, hs.1, hs.2, o.here rel _ .bl⟩))
          · exact o.elim
        · exact o.elim
    · rename_i kvs e
      split at o
      · rename_i k ek
        obtain ⟨ov, g, h⟩ := dget_of (od := valD kvs k) rel ha dx (by unfold dGetO; rw [e]; dsimp only; rw [ek])
        refine .inr (.inl ⟨a, ov, rfl, g, ?_⟩)
        have : ov.isSome = (valD kvs k).isSome := by
          rcases h with ⟨e1, e2⟩ | ⟨w, d, e1, e2, _⟩
          · rw [e1, e2]; rfl
          · rw [e1, e2]; rfl
        rw [this]
        exact o.here rel _ .bl
      · exact o.elim
    · rename_i kvs e
      split at o
      · rename_i k ek
        obtain ⟨ov, g, h⟩ := dget_of (od := valD kvs k) rel ha dx (by unfold dGetO; rw [e]; dsimp only; rw [ek])
        refine .inr (.inl ⟨a, ov, rfl, g, ?_⟩)
        have : ov.isSome = (valD kvs k).isSome := by
          rcases h with ⟨e1, e2⟩ | ⟨w, d, e1, e2, _⟩
          · rw [e1, e2]; rfl
          · rw [e1, e2]; rfl
        rw [this]
        exact o.here rel _ .bl
      · exact o.elim
    · exact o.elim
  · exact o.elim
/-! ### x[y] -/
def dIx (x y : Dt) (S : Sto) : Rs Dt := match x with
  | .tup l => match y with
    | .int i => match atI l i with
      | some d => .ok d S
      | none => .no
    | _ => .no
  | .con l => match y with
    | .int i => match atI l i with
      | some d => .ok d S
      | none => .no
    | _ => .no
  | .scr l => match y with
    | .int i => match atI l i with
      | some d => .ok (.int d) S
      | none => .no
    | _ => .no
  | .str z => match y with
    | .int i => if z.length ≤ 1000000 then (match atI z.cps.toList i with
      | some c => .ok (.str ⟨#[c]⟩) S
      | none => .no) else .no
    | _ => .no
  | .loc n => match S[n]? with
    | some (.lst l) => match y with
      | .int i => match atI l i with
        | some d => .ok d S
        | none => .no
      | _ => .no
    | _ => match dGetO n y S with
      | some (some d) => .ok d S
      | _ => .no
  | _ => .no
theorem atI_of {i : Int} {d : Dt} (da : DsAt K ρ H vs l) (h : atI l i = some d) : ∃ v, atI vs i = some v ∧ DAt K ρ H v d := by
  unfold atI at h ⊢
  obtain ⟨j, e1, e2⟩ := Option.bind_eq_some_iff.mp h
  obtain ⟨v, e3, dv⟩ := da.get e2
  refine ⟨v, ?_, dv⟩
  rw [da.length, e1]
  exact e3
abbrev RIx (K : PySem.W.Frag) : R2 := fun x y H Q => rIx K x y H Q ∨ ∃ a v, x = .ref a ∧ DGet H a y (some v) ∧ Q v H
theorem ixIx (hK : X.K = Z.K) (hu : X.A.units + 1 < cLine) : IxR X (RIx Z.K) := by
  rw [← hK]
  refine IxR.or ix_seq ?_
  intro value slice pins s σ H x y v u Q I rx ry ⟨a, w, e, g, q⟩ hs
  subst e
  cases (show v = Value.ref a from rx)
  have hg : wpAny (model X.prog X.w) X.A (getItem (.ref a) u) (EP X pins σ Q) X.xe s := d_getItem hu I g ry fun w' s' I' r' => ⟨w, H, I', r', q⟩
  have ht := dict_typeIs I g
  exact tail_any (ops := [.ref a, u]) ht PySem.F.slot_dict_getitem.lookup hg hs
theorem omIx : OpM Z dIx (RIx Z.K) := by
  intro E ρ H S x y v u Q rel dx dy o
  unfold dIx at o
  split at o
  · obtain ⟨a, vs, rfl, ha, da⟩ := dx.tup_inv
    split at o
    · cases dy
      split at o
      · rename_i d e
        obtain ⟨w, e1, dw⟩ := atI_of da e
        exact .inl (.inr (.inl ⟨a, vs, _, w, rfl, rfl, SqT.of ha, e1, o.here rel _ dw⟩))
      · exact o.elim
    · exact o.elim
  · obtain ⟨a, vs, rfl, ha, da⟩ := dx.con_inv
    split at o
    · cases dy
      split at o
      · rename_i d e
        obtain ⟨w, e1, dw⟩ := atI_of da e
        exact .inl (.inr (.inl ⟨a, vs, _, w, rfl, rfl, sqT_con ha H, e1, o.here rel _ dw⟩))
      · exact o.elim
    · exact o.elim
  · obtain ⟨a, rfl, ha⟩ := dx.scr_inv
    split at o
    · cases dy
      split at o
      · rename_i d e
        refine .inl (.inl ⟨a, _, _, .int d, rfl, rfl, ha.sql, ?_, o.here rel _ .int⟩)
        unfold atI at e ⊢
        obtain ⟨j, e1, e2⟩ := Option.bind_eq_some_iff.mp e
        rw [List.length_map, e1]
        show (List.map V.int _)[j]? = _
        rw [List.getElem?_map, e2]
        rfl
      · exact o.elim
    · exact o.elim
  · cases dx
    split at o
    · cases dy
      split at o
      · split at o
        · rename_i d e
          exact .inl (.inr (.inr ⟨_, _, d, rfl, rfl, by rw [sizeLine_eq]; omega, e, o.here rel _ .str⟩))
        · exact o.elim
      · exact o.elim
    · exact o.elim
  · obtain ⟨a, rfl, ha⟩ := dx.loc_inv
    split at o
    · rename_i e0
      obtain ⟨vs, hv, da⟩ := rel.lst ha e0
      split at o
      · cases dy
        split at o
        · rename_i d e
          obtain ⟨w, e1, dw⟩ := atI_of da e
          exact .inl (.inl ⟨a, vs, _, w, rfl, rfl, SqL.of hv, e1, o.here rel _ dw⟩)
        · exact o.elim
      · exact o.elim
    · split at o
      · rename_i d e
        obtain ⟨ov, g, h⟩ := dget_of rel ha dy e
        rcases h with ⟨e1, e2⟩ | ⟨w, d', e1, e2, dw⟩
        · cases e2
        · cases e2
          subst e1
          exact .inr ⟨a, w, rfl, g, o.here rel _ dw⟩
      · exact o.elim
  · exact o.elim
end
end MD

namespace DF
open PySem L2
/-! ### put -/
def Tm.appl (t : Tm) (ts : List Tm) : Tm := .mk t.hd (t.args ++ ts)
def look (ps : List (Int × Tm)) : Key → Option Tm
  | .inl i => (ps.find? fun p => decide (p.1 = i)).map (·.2)
  | .inr _ => none
def sub (ps : List (Int × Tm)) (k : Key) : Tm := (look ps k).getD (.mk k [])
mutual
def Tm.put (ps : List (Int × Tm)) : Tm → Tm
  | .mk h ts => (sub ps h).appl (Tm.putL ps ts)
def Tm.putL (ps : List (Int × Tm)) : List Tm → List Tm
  | [] => []
  | t :: r => t.put ps :: Tm.putL ps r
end
/-! ### rows -/
def step (S : List Tm) (r : Tm × Nat) : List Tm := S.take (S.length - r.2) ++ [r.1.appl (S.drop (S.length - r.2)).reverse]
def run : List (Tm × Nat) → List Tm
  | [] => []
  | r :: rest => step (run rest) r
def Wf : List (Tm × Nat) → Prop
  | [] => True
  | r :: rest => r.2 ≤ (run rest).length ∧ Wf rest
def rowsOf (f : Key → Tm) (ts : List Tm) : List (Tm × Nat) := ts.map fun t => (f t.hd, t.args.length)
/-! ### depth -/
/-! ### parts and rows in the heap -/
def partD (p : Int × Tm) : Dt := .tup [.key (.inl p.1), p.2.dat]
def rowD (r : Tm × Nat) : Dt := .tup [r.1.dat, .key (.inl (r.2 : Int))]
end DF

namespace DF
open PySem L2
/-! ### data as the model's own -/
mutual
def Dt.py : Dt → PyData
  | .non => .none
  | .key (.inl i) => .int i
  | .key (.inr x) => .str x
  | .tup l => .tuple (Dt.pyL l)
def Dt.pyL : List Dt → List PyData
  | [] => []
  | d :: r => d.py :: Dt.pyL r
end
mutual
theorem DAt.dp {K : PySem.W.Frag} {H : Hp} : ∀ {v : V} {d : Dt}, DAt K H v d → Dp K H v d.py
  | _, _, .non => .non
  | _, .key (.inl i), .key => .int i
  | _, .key (.inr x), .key => .str x
  | _, _, .tup h t _ => by
    rw [Dt.py]
    exact .tup h (DsAt.dp t)
theorem DsAt.dp {K : PySem.W.Frag} {H : Hp} : ∀ {vs : List V} {ds : List Dt}, DsAt K H vs ds → DpAll K H vs (Dt.pyL ds)
  | _, _, .nil => by
    rw [Dt.pyL]
    exact .nil
  | _, _, .cons a t => by
    rw [Dt.pyL]
    exact .cons (DAt.dp a) (DsAt.dp t)
end
mutual
theorem Dt.py_depth : ∀ d : Dt, d.py.depth ≤ d.deep
  | .non => by
    rw [Dt.py, PyData.depth]
    exact Nat.zero_le _
  | .key (.inl i) => by
    rw [Dt.py, PyData.depth]
    exact Nat.zero_le _
  | .key (.inr x) => by
    rw [Dt.py, PyData.depth]
    exact Nat.zero_le _
  | .tup l => by
    rw [Dt.py, PyData.depth, Dt.deep]
    exact Nat.succ_le_succ (Dt.pyL_depth l)
theorem Dt.pyL_depth : ∀ l : List Dt, PyData.depthAll (Dt.pyL l) ≤ Dt.deepL l
  | [] => by
    rw [Dt.pyL, PyData.depthAll]
    exact Nat.zero_le _
  | d :: r => by
    rw [Dt.pyL, PyData.depthAll, Dt.deepL]
    have h1 := Dt.py_depth d
    have h2 := Dt.pyL_depth r
    omega
end
/-- a head that can be laid -/
def KOk : Key → Prop
  | .inl _ => True
  | .inr x => PyData.strOk x = true
mutual
def Dt.Ok : Dt → Prop
  | .non => True
  | .key k => KOk k
  | .tup l => Dt.OkL l
def Dt.OkL : List Dt → Prop
  | [] => True
  | d :: r => d.Ok ∧ Dt.OkL r
end
mutual
theorem Dt.can : ∀ d : Dt, d.Ok → d.py.canLay0 = true
  | .non, _ => by rw [Dt.py, PyData.canLay0]
  | .key (.inl i), _ => by rw [Dt.py, PyData.canLay0]
  | .key (.inr x), h => by
    rw [Dt.py, PyData.canLay0]
    rw [Dt.Ok] at h
    exact h
  | .tup l, h => by
    rw [Dt.Ok] at h
    rw [Dt.py, PyData.canLay0, Dt.canL l h]
theorem Dt.canL : ∀ l : List Dt, Dt.OkL l → PyData.canLayAll0 (Dt.pyL l) = true
  | [], _ => by rw [Dt.pyL, PyData.canLayAll0]
  | d :: r, h => by
    rw [Dt.OkL] at h
    rw [Dt.pyL, PyData.canLayAll0, Dt.can d h.1, Dt.canL r h.2]
    rfl
end
theorem Dt.shaped {d : Dt} (h : d.Ok) (hd : d.deep ≤ 64) : SeqAt.shaped d.py = true := by
  unfold SeqAt.shaped
  rw [Dt.can d h, Bool.true_and]
  exact decide_eq_true (Nat.le_trans (Dt.py_depth d) hd)
/-! ### the shape of a term -/
def shD (t : Tm) : Dt := .tup [.key t.hd, .key (.inl (t.args.length : Int))]
/-! ### meetings -/
def Tm.front (t : Tm) (c : Nat) : Tm := .mk t.hd (t.args.take (t.args.length - c))
def cnt (p t : Tm) : Nat := min p.args.length t.args.length
def kids (p t : Tm) : List (Tm × Tm) := (p.args.drop (p.args.length - cnt p t)).zip (t.args.drop (t.args.length - cnt p t))
inductive Meets : List (Tm × Tm) → List (Tm × Tm) → Prop
  | nil : Meets [] []
  | cons {p t : Tm} {rest rows : List (Tm × Tm)} : Meets (kids p t ++ rest) rows → Meets ((p, t) :: rest) ((p.front (cnt p t), t.front (cnt p t)) :: rows)
def lone : Tm → Option Int
  | .mk (.inl i) [] => some i
  | _ => none
/-- the rows hold, from the parts ps to the parts ps' -/
inductive Runs : List (Tm × Tm) → List (Int × Tm) → List (Int × Tm) → Prop
  | nil {ps : List (Int × Tm)} : Runs [] ps ps
  | old {i : Int} {q : Tm} {rows : List (Tm × Tm)} {ps ps' : List (Int × Tm)} : look ps (.inl i) = some q → Runs rows ps ps' → Runs ((.mk (.inl i) [], q) :: rows) ps ps'
  | new {i : Int} {q : Tm} {rows : List (Tm × Tm)} {ps ps' : List (Int × Tm)} : look ps (.inl i) = none → Runs rows (ps ++ [(i, q)]) ps' → Runs ((.mk (.inl i) [], q) :: rows) ps ps'
  | same {q : Tm} {rows : List (Tm × Tm)} {ps ps' : List (Int × Tm)} : lone q = none → Runs rows ps ps' → Runs ((q, q) :: rows) ps ps'
theorem look_app (ps qs : List (Int × Tm)) (k : Key) (u : Tm) (h : look ps k = some u) : look (ps ++ qs) k = some u := by
  cases k with
  | inr x => cases h
  | inl i =>
    have h : (ps.find? fun p => decide (p.1 = i)).map (·.2) = some u := h
    show ((ps ++ qs).find? fun p => decide (p.1 = i)).map (·.2) = some u
    rw [List.find?_append]
    cases e : ps.find? fun p => decide (p.1 = i) with
    | none => rw [e] at h; cases h
    | some p => rw [e] at h; exact h
theorem Runs.keep {rows : List (Tm × Tm)} {ps ps' : List (Int × Tm)} (h : Runs rows ps ps') : ∀ (k : Key) (u : Tm), look ps k = some u → look ps' k = some u := by
  induction h with
  | nil => exact fun _ _ h => h
  | old _ _ ih => exact ih
  | new h _ ih => exact fun k u e => ih k u (look_app _ _ k u e)
  | same _ _ ih => exact ih
end DF

namespace DF
open PySem L2
def unkK : Key → Bool
  | .inl _ => true
  | .inr _ => false
def hdsS (st : List (Tm × Tm)) : List Key := Tm.headsL (st.map (·.1))
def keysP (ps : List (Int × Tm)) : List Key := ps.map fun p => .inl p.1
def RowOk (θ : List (Int × Tm)) (r : Tm × Tm) : Prop := (∀ i, r.1 = .mk (.inl i) [] → r.2 = sub θ (.inl i)) ∧ (lone r.1 = none → r.1 = r.2)
theorem Runs.app {r1 r2 : List (Tm × Tm)} {a b c : List (Int × Tm)} (h : Runs r1 a b) : Runs r2 b c → Runs (r1 ++ r2) a c := by
  induction h with
  | nil => exact id
  | old h _ ih => exact fun x => .old h (ih x)
  | new h _ ih => exact fun x => .new h (ih x)
  | same h _ ih => exact fun x => .same h (ih x)
end DF

namespace DF
open PySem L2
def pairD (p : Tm × Tm) : Dt := .tup [p.1.dat, p.2.dat]
def mrD (r : (Tm × Tm) × Nat) : Dt := .tup [r.1.1.dat, r.1.2.dat, .key (.inl (r.2 : Int))]
theorem Meets.all {Pr : Tm → Prop} (hf : ∀ t c, Pr t → Pr (t.front c)) (ha : ∀ t, Pr t → ∀ x ∈ t.args, Pr x) {stack rows : List (Tm × Tm)} (h : Meets stack rows) : (∀ x ∈ stack, Pr x.1 ∧ Pr x.2) → ∀ r ∈ rows, Pr r.1 ∧ Pr r.2 := by
  induction h with
  | nil => exact fun _ r hr => absurd hr List.not_mem_nil
  | @cons p t rest rows hm ih =>
    intro hs r hr
    have h0 := hs (p, t) (List.mem_cons_self ..)
    rcases List.mem_cons.mp hr with rfl | hr
    · exact ⟨hf _ _ h0.1, hf _ _ h0.2⟩
    · refine ih (fun x hx => ?_) r hr
      rcases List.mem_append.mp hx with hx | hx
      · unfold kids at hx
        have hz := List.of_mem_zip (show (x.1, x.2) ∈ _ from hx)
        exact ⟨ha _ h0.1 _ (List.mem_of_mem_drop hz.1), ha _ h0.2 _ (List.mem_of_mem_drop hz.2)⟩
      · exact hs x (List.mem_cons_of_mem _ hx)
theorem headsL_sub : ∀ {a b : List Tm}, (∀ x ∈ a, x ∈ b) → ∀ k ∈ Tm.headsL a, k ∈ Tm.headsL b := by
  have mem : ∀ {b : List Tm} {x : Tm}, x ∈ b → ∀ k ∈ x.heads, k ∈ Tm.headsL b := by
    intro b
    induction b with
    | nil => intro x hx; exact absurd hx List.not_mem_nil
    | cons y b ih =>
      intro x hx k hk
      rw [Tm.headsL]
      rcases List.mem_cons.mp hx with rfl | hx
      · exact List.mem_append_left _ hk
      · exact List.mem_append_right _ (ih hx k hk)
  intro a
  induction a with
  | nil => intro b _ k hk; rw [Tm.headsL] at hk; exact absurd hk List.not_mem_nil
  | cons x a ih =>
    intro b h k hk
    rw [Tm.headsL] at hk
    rcases List.mem_append.mp hk with hk | hk
    · exact mem (h x (List.mem_cons_self ..)) k hk
    · exact ih (fun y hy => h y (List.mem_cons_of_mem _ hy)) k hk
theorem sizeL_take : ∀ (ts : List Tm) (n : Nat), Tm.sizeL (ts.take n) ≤ Tm.sizeL ts
  | ts, 0 => Nat.zero_le _
  | [], _ + 1 => Nat.le_refl _
  | t :: r, n + 1 => by
    rw [List.take_succ_cons, Tm.sizeL, Tm.sizeL]
    have := sizeL_take r n
    omega
/-- what every part of the terms keeps -/
def Sm (N : Nat) (t : Tm) : Prop := t.size ≤ N ∧ t.All KOk
theorem Sm.front {N : Nat} (t : Tm) (c : Nat) (h : Sm N t) : Sm N (t.front c) := by
  cases t with
  | mk k ts =>
    obtain ⟨h1, h2⟩ := h
    rw [Tm.size] at h1
    constructor
    · show (Tm.mk k (ts.take (ts.length - c))).size ≤ N
      rw [Tm.size]
      have := sizeL_take ts (ts.length - c)
      omega
    · intro j hj
      have hj : j ∈ (Tm.mk k (ts.take (ts.length - c))).heads := hj
      rw [Tm.heads] at hj
      refine h2 j ?_
      rw [Tm.heads]
      rcases List.mem_cons.mp hj with rfl | hj
      · exact List.mem_cons_self ..
      · exact List.mem_cons_of_mem _ (headsL_sub (fun x hx => List.mem_of_mem_take hx) j hj)
theorem Sm.args {N : Nat} (t : Tm) (h : Sm N t) : ∀ x ∈ t.args, Sm N x := by
  intro x hx
  cases t with
  | mk k ts =>
    obtain ⟨h1, h2⟩ := h
    rw [Tm.size] at h1
    have hx : x ∈ ts := hx
    refine ⟨?_, fun j hj => h2 j ?_⟩
    · have := Tm.size_mem hx
      omega
    · rw [Tm.heads]
      refine List.mem_cons_of_mem _ ?_
      exact headsL_sub (a := [x]) (fun y hy => by rw [List.mem_singleton.mp hy]; exact hx) j (by rw [Tm.headsL, Tm.headsL, List.append_nil]; exact hj)
end DF

namespace DF
open PySem L2
/-! ### parts put in one after another -/
/-- the first parts with the second ones put in, and the second ones for the others -/
def both (f s : List (Int × Tm)) : List (Int × Tm) := f.map (fun p => (p.1, p.2.put s)) ++ s.filter fun p => decide (p.1 ∉ f.map (·.1))
/-! ### sizes -/
theorem Tm.appl_size (t : Tm) (as : List Tm) : (t.appl as).size = t.size + Tm.sizeL as := by
  cases t with
  | mk h ts =>
    show (Tm.mk h (ts ++ as)).size = _
    rw [Tm.size, Tm.size, Tm.sizeL_append]
    omega
def sumOf (g : Key → Nat) : List Key → Nat
  | [] => 0
  | k :: r => g k + sumOf g r
/-- how often a head stands -/
def times (i : Int) (hs : List Key) : Nat := (hs.filter fun k => decide (k = .inl i)).length
def total (hs : List Key) (n : Nat) : List (Int × Tm) → Int
  | [] => (n : Int)
  | p :: r => total hs n r + (times p.1 hs : Int) * ((p.2.size : Int) - 1)
def totalF (hs : List Key) (acc : Int) : List (Int × Tm) → Int
  | [] => acc
  | p :: r => totalF hs (acc + (times p.1 hs : Int) * ((p.2.size : Int) - 1)) r
/-! ### the unknowns -/
/-- the unknowns that are left: those of the term without a part, and those of the parts that were put in -/
def leftOf (hs : List Key) (isU : Key → Bool) : List (Int × Tm) → List Key
  | [] => []
  | p :: r => (if 0 < times p.1 hs then dedup (p.2.heads.filter isU) else []) ++ leftOf hs isU r
end DF

namespace ZL
open PySem PySem.W PySem.Calls PyProof.Rows PyProof.V PySem.Spec
section
variable {prog : Program} {w : World} {A : Around} {E : Value → Shared → Prop} {s : Shared}
theorem item_held {z TI TO T i1 i2 l1 l2 : Addr} {f : Bool} {oT : Obj} {k1 k2 : Nat} {xs ys : Array Value} {x y : Value} {Q : Value → Shared → Prop} (D : ZipApart z TI TO i1 i2 l1 l2)
    (hz : IsZipHeld s.heap z TI TO T f) (hT : s.heap.get? T = some oT) (hTI : IsPair s.heap TI (.ref i1) (.ref i2))
    (h1 : s.heap.IsTupleIter i1 l1 k1) (h2 : s.heap.IsTupleIter i2 l2 k2) (hl1 : s.heap.IsTuple l1 xs) (hl2 : s.heap.IsTuple l2 ys) (hx : xs[k1]? = some x) (hy : ys[k2]? = some y)
    (hQ : ∀ h', IsZipHeld h' z TI TO T true → h'.IsTupleIter i1 l1 (k1 + 1) → h'.IsTupleIter i2 l2 (k2 + 1) → IsPair h' s.heap.objs.size x y → h'.objs.size = s.heap.objs.size + 1 →
      (∀ c o, c ≠ z → c ≠ i1 → c ≠ i2 → s.heap.get? c = some o → h'.get? c = some o) → Q (.ref s.heap.objs.size) { s with heap := h' }) :
    wpAny (model prog w) A (Builtin.«zip.__next__» ⟨[.ref z], []⟩) (fun fin s' => ∃ v, fin = .done (.ret v) ∧ Q v s') E s := by
  show wpAny _ _ (field (.ref z) 2 >>= _) _ _ _
  refine wpAny_bind (wpAny_field hz rfl (x := .bool false) rfl ?_)
  show wpAny _ _ (field (.ref z) 3 >>= _) _ _ _
  refine wpAny_bind (wpAny_field hz rfl (x := .ref TI) rfl ?_)
  refine wpAny_bind (wpAny_seqItems hTI rfl ?_)
  show wpAny _ _ (Builtin.SmallTypes.ownedTupleIsFree (.ref z) >>= _) _ _ _
  refine wpAny_bind (wpAny_tupleHeld_zip hz hT fun h₁ hz₁ hs₁ => ?_)
  simp only [Bool.false_eq_true, if_false]
  refine wpAny_bind ?_
  rw [← Array.forIn_toList]
  simp only [List.forIn_cons, List.forIn_nil]
  refine wpAny_bind (wpAny_bind (wpAny_holding ?_))
  show wpAny _ _ (Builtin.SmallTypes.nextOf (.ref i1) >>= _) _ _ _
  refine wpAny_bind (RZ.nextOf_tuple_item (s := { s with heap := h₁ }) (h1.extBut hs₁.extBut D.i1z) (hl1.extBut hs₁.extBut D.l1z) hx fun h₂ h1₂ hs₂ => wpAny_pure ?_)
  refine wpAny_pure ?_
  refine wpAny_bind (wpAny_bind (wpAny_holding ?_))
  show wpAny _ _ (Builtin.SmallTypes.nextOf (.ref i2) >>= _) _ _ _
  refine wpAny_bind (RZ.nextOf_tuple_item (s := { s with heap := h₂ }) ((h2.extBut hs₁.extBut D.i2z).extBut hs₂.extBut D.i12.symm) ((hl2.extBut hs₁.extBut D.l2z).extBut hs₂.extBut D.l2i1) hy fun h₃ h2₃ hs₃ => wpAny_pure ?_)
  refine wpAny_pure (wpAny_pure ?_)
  show wpAny _ _ (newTuple [x, y] >>= _) _ _ _
  refine wpAny_bind (wpAny_newTuple ?_)
  have hsz : h₃.objs.size = s.heap.objs.size := by rw [hs₃.1, hs₂.1, hs₁.1]
  have hz₃ : IsZipHeld h₃ z TI TO T true := hs₃.extBut _ _ D.i2z.symm (hs₂.extBut _ _ D.i1z.symm hz₁)
  have hk : ∀ c o, c ≠ z → c ≠ i1 → c ≠ i2 → s.heap.get? c = some o → h₃.get? c = some o := fun c o c1 c2 c3 e => hs₃.extBut _ _ c3 (hs₂.extBut _ _ c2 (hs₁.extBut _ _ c1 e))
  have h1₃ : h₃.IsTupleIter i1 l1 (k1 + 1) := h1₂.extBut hs₃.extBut D.i12
  refine wpAny_pure ⟨_, rfl, ?_⟩
  show Q (.ref h₃.objs.size) _
  have hp : IsPair (h₃.push { cls := .type "tuple", data := .seq #[x, y] }) h₃.objs.size x y := Heap.get?_push_size _ rfl
  have hz4 : (h₃.push { cls := .type "tuple", data := .seq #[x, y] }).objs.size = h₃.objs.size + 1 := Heap.size_push ..
  rw [hsz] at hp hz4 ⊢
  exact hQ _ (Heap.get?_push_of_some _ hz₃) (h1₃.at fun o e => Heap.get?_push_of_some _ e) (h2₃.at fun o e => Heap.get?_push_of_some _ e) hp hz4 fun c o c1 c2 c3 e => Heap.get?_push_of_some _ (hk c o c1 c2 c3 e)
theorem end_held {z TI TO T i1 i2 l1 l2 : Addr} {f : Bool} {oT : Obj} {k1 k2 : Nat} {xs ys : Array Value} {Q : Fin → Shared → Prop} (hh : A.handled = none) (D : ZipApart z TI TO i1 i2 l1 l2)
    (hz : IsZipHeld s.heap z TI TO T f) (hT : s.heap.get? T = some oT) (hTI : IsPair s.heap TI (.ref i1) (.ref i2))
    (h1 : s.heap.IsTupleIter i1 l1 k1) (h2 : s.heap.IsTupleIter i2 l2 k2) (hl1 : s.heap.IsTuple l1 xs) (hl2 : s.heap.IsTuple l2 ys) (hend : xs[k1]? = none ∨ ys[k2]? = none)
    (hE : ∀ h' e, (∀ c o, c ≠ z → c ≠ i1 → c ≠ i2 → s.heap.get? c = some o → h'.get? c = some o) → (∃ o, h'.get? e = some o ∧ o.cls = .type "StopIteration") → E (.ref e) { s with heap := h' }) :
    wpAny (model prog w) A (Builtin.«zip.__next__» ⟨[.ref z], []⟩) Q E s := by
  show wpAny _ _ (field (.ref z) 2 >>= _) _ _ _
  refine wpAny_bind (wpAny_field hz rfl (x := .bool false) rfl ?_)
  show wpAny _ _ (field (.ref z) 3 >>= _) _ _ _
  refine wpAny_bind (wpAny_field hz rfl (x := .ref TI) rfl ?_)
  refine wpAny_bind (wpAny_seqItems hTI rfl ?_)
  show wpAny _ _ (Builtin.SmallTypes.ownedTupleIsFree (.ref z) >>= _) _ _ _
  refine wpAny_bind (wpAny_tupleHeld_zip hz hT fun h₁ hz₁ hs₁ => ?_)
  simp only [Bool.false_eq_true, if_false]
  refine wpAny_bind ?_
  rw [← Array.forIn_toList]
  simp only [List.forIn_cons, List.forIn_nil]
  refine wpAny_bind (wpAny_bind (wpAny_holding ?_))
  show wpAny _ _ (Builtin.SmallTypes.nextOf (.ref i1) >>= _) _ _ _
  cases hx : xs[k1]? with
  | none =>
    refine wpAny_bind (RZ.nextOf_tuple_end (s := { s with heap := h₁ }) hh (h1.extBut hs₁.extBut D.i1z) (hl1.extBut hs₁.extBut D.l1z) hx fun h₂ e hs₂ he => ?_)
    exact hE h₂ e (fun c o c1 c2 _ x => hs₂ _ _ c2 (hs₁.extBut _ _ c1 x)) he
  | some x =>
    have hy : ys[k2]? = none := by rcases hend with h | h; rw [hx] at h; cases h; exact h
    refine wpAny_bind (RZ.nextOf_tuple_item (s := { s with heap := h₁ }) (h1.extBut hs₁.extBut D.i1z) (hl1.extBut hs₁.extBut D.l1z) hx fun h₂ h1₂ hs₂ => wpAny_pure ?_)
    refine wpAny_pure ?_
    refine wpAny_bind (wpAny_bind (wpAny_holding ?_))
    show wpAny _ _ (Builtin.SmallTypes.nextOf (.ref i2) >>= _) _ _ _
    refine wpAny_bind (RZ.nextOf_tuple_end (s := { s with heap := h₂ }) hh ((h2.extBut hs₁.extBut D.i2z).extBut hs₂.extBut D.i12.symm) ((hl2.extBut hs₁.extBut D.l2z).extBut hs₂.extBut D.l2i1) hy fun h₃ e hs₃ he => ?_)
    exact hE h₃ e (fun c o c1 c2 c3 x => hs₃ _ _ c3 (hs₂.extBut _ _ c2 (hs₁.extBut _ _ c1 x))) he
theorem pyNext_item_held {z TI TO T i1 i2 l1 l2 : Addr} {f : Bool} {oT : Obj} {k1 k2 : Nat} {xs ys : Array Value} {x y : Value} {Q : Option Value → Shared → Prop} (D : ZipApart z TI TO i1 i2 l1 l2)
    (hz : IsZipHeld s.heap z TI TO T f) (hT : s.heap.get? T = some oT) (hTI : IsPair s.heap TI (.ref i1) (.ref i2))
    (h1 : s.heap.IsTupleIter i1 l1 k1) (h2 : s.heap.IsTupleIter i2 l2 k2) (hl1 : s.heap.IsTuple l1 xs) (hl2 : s.heap.IsTuple l2 ys) (hx : xs[k1]? = some x) (hy : ys[k2]? = some y)
    (hQ : ∀ h', IsZipHeld h' z TI TO T true → h'.IsTupleIter i1 l1 (k1 + 1) → h'.IsTupleIter i2 l2 (k2 + 1) → IsPair h' s.heap.objs.size x y → h'.objs.size = s.heap.objs.size + 1 →
      (∀ c o, c ≠ z → c ≠ i1 → c ≠ i2 → s.heap.get? c = some o → h'.get? c = some o) → Q (some (.ref s.heap.objs.size)) { s with heap := h' }) :
    wpAny (model prog w) A (pyNext (.ref z)) Q E s := by
  have hTy : s.TypeIs (.ref z) "zip" := ⟨_, hz, rfl⟩
  unfold pyNext
  exact wpAny_bind (wpAny_attempt (wpAny_callSpecial?_slot (name := Str.ofString "__next__") hTy F.slot_zip_next
    (wpAny_call_entry F.slot_zip_next hTy F.entry_zip_next
      (item_held D hz hT hTI h1 h2 hl1 hl2 hx hy fun h' a1 a3 a4 a5 a6 a7 => wpAny_pure (hQ h' a1 a3 a4 a5 a6 a7)) (F.args_zip_next_1 _))))
theorem pyNext_end_held {z TI TO T i1 i2 l1 l2 : Addr} {f : Bool} {oT : Obj} {k1 k2 : Nat} {xs ys : Array Value} {Q : Option Value → Shared → Prop} (hh : A.handled = none) (D : ZipApart z TI TO i1 i2 l1 l2)
    (hz : IsZipHeld s.heap z TI TO T f) (hT : s.heap.get? T = some oT) (hTI : IsPair s.heap TI (.ref i1) (.ref i2))
    (h1 : s.heap.IsTupleIter i1 l1 k1) (h2 : s.heap.IsTupleIter i2 l2 k2) (hl1 : s.heap.IsTuple l1 xs) (hl2 : s.heap.IsTuple l2 ys) (hend : xs[k1]? = none ∨ ys[k2]? = none)
    (hQ : ∀ h', (∀ c o, c ≠ z → c ≠ i1 → c ≠ i2 → s.heap.get? c = some o → h'.get? c = some o) → Q none { s with heap := h' }) : wpAny (model prog w) A (pyNext (.ref z)) Q E s := by
  have hTy : s.TypeIs (.ref z) "zip" := ⟨_, hz, rfl⟩
  unfold pyNext
  refine wpAny_bind (wpAny_attempt (wpAny_callSpecial?_slot (name := Str.ofString "__next__") hTy F.slot_zip_next
    (wpAny_call_entry F.slot_zip_next hTy F.entry_zip_next (end_held hh D hz hT hTI h1 h2 hl1 hl2 hend fun h' e hk he => ?_) (F.args_zip_next_1 _))))
  obtain ⟨o, ho, hc⟩ := he
  refine wpAny_bind (wpAny_isInstance (T := "StopIteration") (b := true) ⟨o, ho, hc⟩ isSubtype_stop ?_)
  exact wpAny_pure (hQ _ hk)
/-- the zip before its turn i; S: the list that is filled -/
structure St (h : Heap) (z TI TO i1 i2 l1 l2 S : Addr) (xs ys : Array Value) (i : Nat) : Prop where
  ti : IsPair h TI (.ref i1) (.ref i2)
  h1 : h.IsTupleIter i1 l1 i
  h2 : h.IsTupleIter i2 l2 i
  l1 : h.IsTuple l1 xs
  l2 : h.IsTuple l2 ys
  zz : (IsZip h z TI TO .none ∧ ∃ a b, IsPair h TO a b) ∨ ∃ T f oT, IsZipHeld h z TI TO T f ∧ h.get? T = some oT ∧ T ≠ z ∧ T ≠ i1 ∧ T ≠ i2 ∧ T ≠ S
theorem St.keep {h h' : Heap} {z TI TO i1 i2 l1 l2 S : Addr} {xs ys : Array Value} {i : Nat} (x : St h z TI TO i1 i2 l1 l2 S xs ys i) (k : ∀ b o, b ≠ S → h.get? b = some o → h'.get? b = some o) (a1 : z ≠ S) (a2 : TI ≠ S) (a3 : TO ≠ S) (a4 : i1 ≠ S) (a5 : i2 ≠ S) (a6 : l1 ≠ S) (a7 : l2 ≠ S) : St h' z TI TO i1 i2 l1 l2 S xs ys i := by
  refine ⟨k _ _ a2 x.ti, x.h1.at fun o e => k _ o a4 e, x.h2.at fun o e => k _ o a5 e, x.l1.at fun o e => k _ o a6 e, x.l2.at fun o e => k _ o a7 e, ?_⟩
  rcases x.zz with ⟨e, a, b, p⟩ | ⟨T, f, oT, e, t, b1, b2, b3, b4⟩
  · exact .inl ⟨k _ _ a1 e, a, b, k _ _ a3 p⟩
  · exact .inr ⟨T, f, oT, k _ _ a1 e, k _ _ b4 t, b1, b2, b3, b4⟩
theorem St.item {z TI TO i1 i2 l1 l2 S : Addr} {xs ys : Array Value} {x y : Value} {i : Nat} {Q : Option Value → Shared → Prop} (D : ZipApart z TI TO i1 i2 l1 l2) (st : St s.heap z TI TO i1 i2 l1 l2 S xs ys i) (hS : S < s.heap.objs.size) (hx : xs[i]? = some x) (hy : ys[i]? = some y)
    (hQ : ∀ h', St h' z TI TO i1 i2 l1 l2 S xs ys (i + 1) → IsPair h' s.heap.objs.size x y → h'.objs.size = s.heap.objs.size + 1 → (∀ c o, c ≠ z → c ≠ TO → c ≠ i1 → c ≠ i2 → s.heap.get? c = some o → h'.get? c = some o) → Q (some (.ref s.heap.objs.size)) { s with heap := h' }) :
    wpAny (model prog w) A (pyNext (.ref z)) Q E s := by
  have lt : ∀ {a : Addr} {o : Obj}, s.heap.get? a = some o → s.heap.objs.size ≠ a := fun e => Nat.ne_of_gt (Heap.lt_size e)
  obtain ⟨o1, ho1, _⟩ := id st.h1
  obtain ⟨o2, ho2, _⟩ := id st.h2
  rcases st.zz with ⟨hz, a, b, hTO⟩ | ⟨T, f, oT, hz, hT, n1, n2, n3, n4⟩
  · refine RZ.pyNext_zipT_item D hz st.ti hTO st.h1 st.h2 st.l1 st.l2 hx hy fun h' a1 a2 a3 a4 a5 a6 a7 => hQ h' ⟨a7 _ _ D.TIz D.TITO D.TIi1 D.TIi2 st.ti, a3, a4, st.l1.at fun o e => a7 _ o D.l1z D.l1TO D.l1i1 D.l1i2 e, st.l2.at fun o e => a7 _ o D.l2z D.l2TO D.l2i1 D.l2i2 e, .inr ⟨_, false, _, a1, a5, lt hz, lt ho1, lt ho2, Nat.ne_of_gt hS⟩⟩ a5 a6 a7
  · refine pyNext_item_held D hz hT st.ti st.h1 st.h2 st.l1 st.l2 hx hy fun h' a1 a3 a4 a5 a6 a7 => hQ h' ⟨a7 _ _ D.TIz D.TIi1 D.TIi2 st.ti, a3, a4, st.l1.at fun o e => a7 _ o D.l1z D.l1i1 D.l1i2 e, st.l2.at fun o e => a7 _ o D.l2z D.l2i1 D.l2i2 e, .inr ⟨T, true, oT, a1, a7 _ _ n1 n2 n3 hT, n1, n2, n3, n4⟩⟩ a5 a6 fun c o c1 _ c3 c4 e => a7 c o c1 c3 c4 e
theorem St.done {z TI TO i1 i2 l1 l2 S : Addr} {xs ys : Array Value} {i : Nat} {Q : Option Value → Shared → Prop} (hh : A.handled = none) (D : ZipApart z TI TO i1 i2 l1 l2) (st : St s.heap z TI TO i1 i2 l1 l2 S xs ys i) (hend : xs[i]? = none ∨ ys[i]? = none)
    (hQ : ∀ h', (∀ c o, c ≠ z → c ≠ TO → c ≠ i1 → c ≠ i2 → s.heap.get? c = some o → h'.get? c = some o) → Q none { s with heap := h' }) : wpAny (model prog w) A (pyNext (.ref z)) Q E s := by
  rcases st.zz with ⟨hz, a, b, hTO⟩ | ⟨T, f, oT, hz, hT, n1, n2, n3, n4⟩
  · exact RZ.pyNext_zipT_end hh D hz st.ti hTO st.h1 st.h2 st.l1 st.l2 hend hQ
  · exact pyNext_end_held hh D hz hT st.ti st.h1 st.h2 st.l1 st.l2 hend fun h' k => hQ h' fun c o c1 _ c3 c4 e => k c o c1 c3 c4 e
/-- the tuples given out -/
structure G (xs ys : Array Value) (lo : Addr) (h : Heap) (as : List Addr) : Prop where
  rise : as.Pairwise (· < ·)
  above : ∀ a ∈ as, lo < a
  pairs : ∀ (j : Nat) (a : Addr), as[j]? = some a → ∃ x y, xs[j]? = some x ∧ ys[j]? = some y ∧ IsPair h a x y
theorem G.there {xs ys : Array Value} {lo : Addr} {h : Heap} {as : List Addr} (g : G xs ys lo h as) {a : Addr} (ha : a ∈ as) : a < h.objs.size := by
  obtain ⟨j, hj⟩ := List.mem_iff_getElem?.mp ha
  obtain ⟨_, _, _, _, e⟩ := g.pairs j a hj
  exact Heap.lt_size e
theorem loop {R : Result → Shared → Prop} {z TI TO i1 i2 l1 l2 S lo : Addr} {xs ys : Array Value} {n : Nat} (hh : A.handled = none) (D : ZipApart z TI TO i1 i2 l1 l2) (b1 : z < S) (b2 : TI < S) (b3 : TO < S) (b4 : i1 < S) (b5 : i2 < S) (b6 : l1 < lo) (b7 : l2 < lo)
    (c1 : lo ≤ z) (c3 : lo ≤ TO) (c4 : lo ≤ i1) (c5 : lo ≤ i2) (cS : lo ≤ S) (hn : n = min xs.size ys.size) (hsz : n ≤ sizeLine) (res : Value) {h₁ : Heap}
    (hR : ∀ h' tk acc c as, (∀ b o, b < lo → h₁.get? b = some o → h'.get? b = some o) → h'.get? S = some { cls := .type "list", dict := none, data := .seq acc c, slots := #[] } → as.length = n → G xs ys S h' as → acc.toList = as.map Value.ref → R (.ok (.ret res)) { s with heap := h', toks := tk }) :
    ∀ (k i : Nat) (h : Heap) (tk c : Nat) (acc : Array Value) (as : List Addr), n - i = k → i ≤ n → St h z TI TO i1 i2 l1 l2 S xs ys i → (∀ b o, b < lo → h₁.get? b = some o → h.get? b = some o) →
      h.get? S = some { cls := .type "list", dict := none, data := .seq acc c, slots := #[] } → acc.toList = as.map Value.ref → as.length = i → G xs ys S h as →
      codeAny (model prog w) A (.builtin "list.extend.loop" ⟨[.ref S, .ref z, res], []⟩) R { s with heap := h, toks := tk } := by
  have nS : ∀ {a : Addr}, a < S → S ≠ a := fun h => Nat.ne_of_gt h
  intro k
  induction k with
  | zero =>
    intro i h tk c acc as hk hi hst hkeep hS hacc hal hG
    have hin : i = n := by omega
    refine codeAny_builtin PySem.F.entry_extend_loop ?_
    rw [Around.under_plainId PySem.F.plain_extend_loop _]
    show wpAny _ A.in1 (pyNext (.ref z) >>= _) _ _ _
    have hend : xs[i]? = none ∨ ys[i]? = none := by
      rcases Nat.le_total xs.size ys.size with h | h
      · exact .inl (Array.getElem?_eq_none (by omega))
      · exact .inr (Array.getElem?_eq_none (by omega))
    refine wpAny_bind (St.done (s := { s with heap := h, toks := tk }) (A := A.in1) hh D hst hend fun h' he => ?_)
    have up : ∀ b o, b < lo → h.get? b = some o → h'.get? b = some o := fun b o hb e => he b o (Nat.ne_of_lt (Nat.lt_of_lt_of_le hb c1)) (Nat.ne_of_lt (Nat.lt_of_lt_of_le hb c3)) (Nat.ne_of_lt (Nat.lt_of_lt_of_le hb c4)) (Nat.ne_of_lt (Nat.lt_of_lt_of_le hb c5)) e
    refine wpAny_pure (hR h' tk acc c as (fun b o hb e => up b o hb (hkeep b o hb e)) (he S _ (nS b1) (nS b3) (nS b4) (nS b5) hS) (by omega) ⟨hG.rise, hG.above, fun j a hj => ?_⟩ hacc)
    obtain ⟨x, y, e1, e2, e3⟩ := hG.pairs j a hj
    have ha := hG.above a (List.mem_of_getElem? hj)
    exact ⟨x, y, e1, e2, he a _ (Nat.ne_of_gt (Nat.lt_trans b1 ha)) (Nat.ne_of_gt (Nat.lt_trans b3 ha)) (Nat.ne_of_gt (Nat.lt_trans b4 ha)) (Nat.ne_of_gt (Nat.lt_trans b5 ha)) e3⟩
  | succ k ih =>
    intro i h tk c acc as hk hi hst hkeep hS hacc hal hG
    have hlt : i < n := by omega
    have hx : xs[i]? = some xs[i] := Array.getElem?_eq_getElem (by omega)
    have hy : ys[i]? = some ys[i] := Array.getElem?_eq_getElem (by omega)
    have hsz' : acc.size = i := by rw [← Array.length_toList, hacc, List.length_map, hal]
    have hSl : S < h.objs.size := Heap.lt_size hS
    refine codeAny_builtin PySem.F.entry_extend_loop ?_
    rw [Around.under_plainId PySem.F.plain_extend_loop _]
    show wpAny _ A.in1 (pyNext (.ref z) >>= _) _ _ _
    refine wpAny_bind (St.item (s := { s with heap := h, toks := tk }) (S := S) D hst hSl hx hy fun h' hst' ht hz hkp => ?_)
    dsimp only at ht hz hkp ⊢
    have hS' := hkp S _ (nS b1) (nS b3) (nS b4) (nS b5) hS
    have up : ∀ b o, b ≠ S → h'.get? b = some o → (h'.update S (Obj.mapSeq (·.push (Value.ref h.objs.size)))).get? b = some o := fun b o hb e => (Heap.get?_update_other _ _ (Ne.symm hb)).trans e
    have low : ∀ b o, b < lo → h.get? b = some o → h'.get? b = some o := fun b o hb e => hkp b o (Nat.ne_of_lt (Nat.lt_of_lt_of_le hb c1)) (Nat.ne_of_lt (Nat.lt_of_lt_of_le hb c3)) (Nat.ne_of_lt (Nat.lt_of_lt_of_le hb c4)) (Nat.ne_of_lt (Nat.lt_of_lt_of_le hb c5)) e
    show wpAny _ A.in1 (updateSeq S (·.push (Value.ref h.objs.size)) >>= _) _ _ _
    refine wpAny_bind ?_
    refine wpAny_updateSeq hS' rfl (wpAny_pure ⟨plainId_quiet PySem.F.plain_extend_loop _, ih (i + 1) _ tk _ (acc.push (Value.ref h.objs.size)) (as ++ [h.objs.size]) (by omega) hlt
      (hst'.keep up (Nat.ne_of_lt b1) (Nat.ne_of_lt b2) (Nat.ne_of_lt b3) (Nat.ne_of_lt b4) (Nat.ne_of_lt b5) (Nat.ne_of_lt (Nat.lt_of_lt_of_le b6 cS)) (Nat.ne_of_lt (Nat.lt_of_lt_of_le b7 cS)))
      (fun b o hb e => up b o (Nat.ne_of_lt (Nat.lt_of_lt_of_le hb cS)) (low b o hb (hkeep b o hb e))) (Heap.get?_update_self _ hS' rfl) (by rw [Array.toList_push, hacc, List.map_append]; rfl) (by rw [List.length_append, hal]; rfl) ⟨?_, ?_, ?_⟩⟩) (by rw [hsz']; omega) (by show (acc.push (Value.ref h.objs.size)).size ≤ sizeLine + 1; rw [Array.size_push, hsz']; omega)
    · refine List.pairwise_append.mpr ⟨hG.rise, List.pairwise_singleton _ _, fun a ha b hb => ?_⟩
      rw [List.mem_singleton.mp hb]
      exact hG.there ha
    · intro a ha
      rcases List.mem_append.mp ha with ha | ha
      · exact hG.above a ha
      · rw [List.mem_singleton.mp ha]; exact hSl
    · intro j b hj
      rcases Nat.lt_trichotomy j as.length with q1 | q1 | q1
      · rw [List.getElem?_append_left q1] at hj
        obtain ⟨x, y, e1, e2, e3⟩ := hG.pairs j b hj
        have hb := hG.above b (List.mem_of_getElem? hj)
        exact ⟨x, y, e1, e2, up b _ (Nat.ne_of_gt hb) (hkp b _ (Nat.ne_of_gt (Nat.lt_trans b1 hb)) (Nat.ne_of_gt (Nat.lt_trans b3 hb)) (Nat.ne_of_gt (Nat.lt_trans b4 hb)) (Nat.ne_of_gt (Nat.lt_trans b5 hb)) e3)⟩
      · subst q1
        have hb : h.objs.size = b := by simpa using hj
        subst hb
        exact ⟨xs[i], ys[i], by rw [hal]; exact hx, by rw [hal]; exact hy, up _ _ (Nat.ne_of_gt hSl) ht⟩
      · have hnone : (as ++ [h.objs.size])[j]? = none := List.getElem?_eq_none (by rw [List.length_append, List.length_singleton]; omega)
        rw [hnone] at hj; cases hj
end
end ZL

namespace ZL
open PySem PySem.W PySem.Calls PyProof.Rows PyProof.V PySem.Spec
section
variable {prog : Program} {w : World} {A : Around} {E : Value → Shared → Prop} {s : Shared}
theorem zip_no_len : typeLookup (.type "zip") "__len__" = pure none := am_miss_of_fast (by decide +kernel)
theorem zip_no_hint : typeLookup (.type "zip") "__length_hint__" = pure none := am_miss_of_fast (by decide +kernel)
theorem hint {z : Addr} (hT : s.TypeIs (.ref z) "zip") {Q : Bool → Shared → Prop} (h : Q true s) : wpAny (model prog w) A (Builtin.List.listLengthHint (.ref z)) Q E s := by
  unfold Builtin.List.listLengthHint
  refine wpAny_bind (wpAny_specialOf hT zip_no_len ?_)
  refine wpAny_ite_split (fun hab => absurd hab (by decide)) (fun _ => ?_)
  refine wpAny_ite_split (fun hab => absurd hab (by decide)) (fun _ => ?_)
  refine wpAny_bind (wpAny_specialOf hT zip_no_hint ?_)
  exact wpAny_pure h
theorem extend {R : Result → Shared → Prop} {z TI TO i1 i2 l1 l2 S lo : Addr} {xs ys : Array Value} {n : Nat} (hh : A.handled = none) (D : ZipApart z TI TO i1 i2 l1 l2) (hz : IsZip s.heap z TI TO .none) (st : St s.heap z TI TO i1 i2 l1 l2 S xs ys 0) (b1 : z < S) (b2 : TI < S) (b3 : TO < S) (b4 : i1 < S) (b5 : i2 < S) (b6 : l1 < lo) (b7 : l2 < lo)
    (c1 : lo ≤ z) (c3 : lo ≤ TO) (c4 : lo ≤ i1) (c5 : lo ≤ i2) (cS : lo ≤ S) (hn : n = min xs.size ys.size) (hsz : n ≤ sizeLine) (res : Value) (c₀ : Nat) (hS : s.heap.get? S = some { cls := .type "list", data := .seq #[] c₀ })
    (hR : ∀ h' tk acc c as, (∀ b o, b < lo → s.heap.get? b = some o → h'.get? b = some o) → h'.get? S = some { cls := .type "list", dict := none, data := .seq acc c, slots := #[] } → as.length = n → G xs ys S h' as → acc.toList = as.map Value.ref → R (.ok (.ret res)) { s with heap := h', toks := tk }) :
    wpAny (model prog w) A.in1 (Builtin.List.listExtendWith (.ref S) (.ref z) res)
      (fun fin s' => match fin with | .done f => R (.ok f) s' | .again c' => c'.quiet = true ∧ codeAny (model prog w) A c' R s') (fun e s' => R (.error e) s') s := by
  have key : ∀ (h : Heap) (c₁ tk : Nat), (∀ b o, b ≠ S → s.heap.get? b = some o → h.get? b = some o) → h.get? S = some { cls := .type "list", data := .seq #[] c₁ } →
      codeAny (model prog w) A (.builtin "list.extend.loop" ⟨[.ref S, .ref z, res], []⟩) R { s with heap := h, toks := tk } := by
    intro h c₁ tk hk hS₁
    exact loop (s := s) (h₁ := s.heap) hh D b1 b2 b3 b4 b5 b6 b7 c1 c3 c4 c5 cS hn hsz res hR n 0 h tk c₁ #[] [] (Nat.sub_zero _) (Nat.zero_le _)
      (st.keep hk (Nat.ne_of_lt b1) (Nat.ne_of_lt b2) (Nat.ne_of_lt b3) (Nat.ne_of_lt b4) (Nat.ne_of_lt b5) (Nat.ne_of_lt (Nat.lt_of_lt_of_le b6 cS)) (Nat.ne_of_lt (Nat.lt_of_lt_of_le b7 cS)))
      (fun b o hb e => hk b o (Nat.ne_of_lt (Nat.lt_of_lt_of_le hb cS)) e) hS₁ rfl rfl ⟨List.Pairwise.nil, (fun _ ha => nomatch ha), (fun j a hj => by simp at hj)⟩
  have hTy : s.TypeIs (.ref z) "zip" := ⟨_, hz, rfl⟩
  unfold Builtin.List.listExtendWith
  refine wpAny_bind (wpAny_typeOf (T := "zip") hTy ?_)
  have h1 : Builtin.List.listSameRef (.ref S) (.ref z) = false := by simp [Builtin.List.listSameRef, Nat.ne_of_gt b1]
  have h2 : (Value.type "zip" == Value.type "list") = false := by decide
  have h3 : (Value.type "zip" == Value.type "tuple") = false := by decide
  simp only [h1, h2, h3, Bool.or_false, Bool.false_eq_true, if_false]
  refine wpAny_bind (wpAny_pyIter_zip hz ?_)
  refine wpAny_bind (wpAny_holding (hint hTy ?_))
  refine wpAny_ite_split (fun _ => ?_) (fun _ => wpAny_pure ⟨plainId_quiet PySem.F.plain_extend_loop _, key _ c₀ _ (fun b o _ e => e) hS⟩)
  refine wpAny_bind (wpAny_rule ?_)
  refine wpAny_bind ?_
  show wpAny _ _ (updateSeq S (·.push .none) >>= fun _ => updateSeq S (·.pop)) _ _ _
  refine wpAny_bind (wpAny_updateSeq hS rfl ?_)
  have hS₂ := Heap.get?_update_self (Obj.mapSeq (·.push Value.none)) hS rfl
  refine wpAny_updateSeq (hz := by seq_fits) hS₂ rfl ?_
  have hS₃ := Heap.get?_update_self (Obj.mapSeq (·.pop)) hS₂ rfl
  refine wpAny_pure ⟨plainId_quiet PySem.F.plain_extend_loop _, key _ _ _ (fun b o hb e => ?_) hS₃⟩
  exact (Heap.get?_update_other _ _ (Ne.symm hb)).trans ((Heap.get?_update_other _ _ (Ne.symm hb)).trans e)
theorem init {R : Result → Shared → Prop} {z TI TO i1 i2 l1 l2 S lo : Addr} {xs ys : Array Value} {n : Nat} (hh : A.handled = none) (D : ZipApart z TI TO i1 i2 l1 l2) (hz : IsZip s.heap z TI TO .none) (st : St s.heap z TI TO i1 i2 l1 l2 S xs ys 0) (b1 : z < S) (b2 : TI < S) (b3 : TO < S) (b4 : i1 < S) (b5 : i2 < S) (b6 : l1 < lo) (b7 : l2 < lo)
    (c1 : lo ≤ z) (c3 : lo ≤ TO) (c4 : lo ≤ i1) (c5 : lo ≤ i2) (cS : lo ≤ S) (hn : n = min xs.size ys.size) (hsz : n ≤ sizeLine) (hS : s.heap.get? S = some { cls := .type "list", data := .seq #[] })
    (hR : ∀ h' tk acc c as, (∀ b o, b < lo → s.heap.get? b = some o → h'.get? b = some o) → h'.get? S = some { cls := .type "list", dict := none, data := .seq acc c, slots := #[] } → as.length = n → G xs ys S h' as → acc.toList = as.map Value.ref → R (.ok (.ret .none)) { s with heap := h', toks := tk }) :
    wpAny (model prog w) A.in1 (Builtin.«list.__init__» ⟨[.ref S, .ref z], []⟩)
      (fun fin s' => match fin with | .done f => R (.ok f) s' | .again c' => c'.quiet = true ∧ codeAny (model prog w) A c' R s') (fun e s' => R (.error e) s') s := by
  show wpAny _ _ (do let old ← Builtin.List.listItems (.ref S); Builtin.List.listUpdate (.ref S) (fun _ => #[]); letGo old.toList.reverse; Builtin.List.listExtendWith (.ref S) (.ref z) .none) _ _ s
  refine wpAny_bind ?_
  unfold Builtin.List.listItems
  refine wpAny_bind (wpAny_seqItems hS rfl (wpAny_pure ?_))
  show wpAny _ _ (updateSeq S (fun _ => #[]) >>= fun _ => letGo (#[] : Array Value).toList.reverse >>= fun _ => Builtin.List.listExtendWith (.ref S) (.ref z) .none) _ _ s
  refine wpAny_bind (wpAny_updateSeq hS rfl ?_)
  have hS₂ := Heap.get?_update_self (Obj.mapSeq (fun _ => (#[] : Array Value))) hS rfl
  have oth : ∀ b o, b ≠ S → s.heap.get? b = some o → (s.heap.update S (Obj.mapSeq (fun _ => (#[] : Array Value)))).get? b = some o :=
    fun b o hb e => (Heap.get?_update_other _ _ (Ne.symm hb)).trans e
  refine wpAny_bind (wpAny_letGo ?_)
  have st2 := st.keep oth (Nat.ne_of_lt b1) (Nat.ne_of_lt b2) (Nat.ne_of_lt b3) (Nat.ne_of_lt b4) (Nat.ne_of_lt b5) (Nat.ne_of_lt (Nat.lt_of_lt_of_le b6 cS)) (Nat.ne_of_lt (Nat.lt_of_lt_of_le b7 cS))
  exact extend hh D (oth _ _ (Nat.ne_of_lt b1) hz) st2 b1 b2 b3 b4 b5 b6 b7 c1 c3 c4 c5 cS hn hsz .none _ hS₂ (fun h' tk acc c as hk hS' hl hG hacc => hR h' tk acc c as (fun b o hb e => hk b o hb (oth b o (Nat.ne_of_lt (Nat.lt_of_lt_of_le hb cS)) e)) hS' hl hG hacc)
end
end ZL

namespace ZL
open PySem PySem.Spec PyProof.Rows L2
/-- the pairs tracked at their addresses -/
def putP : Hp → List Addr → List (V × V) → Hp
  | H, a :: as, p :: kvs => putP (upd H a (.tup [p.1, p.2])) as kvs
  | H, _, _ => H
def tListZip (K : PySem.W.Frag) (ta : TA) : TE := fun σ H Q => ta σ H fun vs H1 => ∃ (a b : Addr) (xs ys : List V), vs = [.ref a, .ref b] ∧ SqT K H1 a xs ∧ SqT K H1 b ys ∧
  ∀ (H' : Hp) (p : Addr) (ts : List Addr), (∀ b o, H1 b = some o → H' b = some o) → H1 p = none → H' p = some (.lst (ts.map V.ref)) → Paired (fun (t : Addr) (q : V × V) => H' t = some (.tup [q.1, q.2])) ts (xs.zip ys) → Q (.ref p) H'
section
variable {X : Cx} {e e2 : Expr} {ta : TA} {p p2 cpos pos : Pos}
end
end ZL

namespace TI
open PySem PySem.Spec PyProof.Rows L2
def rItemsT : V → Hp → VK → Prop := fun x H Q => ∃ (d : Addr) (kvs : List (Key × V)), x = .ref d ∧ H d = some (.dK kvs) ∧
  ∀ (H' : Hp) (p : Addr) (ts : List Addr), Same H H' → H' p = some (.tup (ts.map V.ref)) → Paired (fun (t : Addr) (q : Key × V) => H' t = some (.tup [kV q.1, q.2])) ts kvs → Q (.ref p) H'
def tTupItems (te : TE) : TE := fun σ H Q => te σ H fun x H1 => rItemsT x H1 Q
section
variable {X : Cx} {e : Expr} {te : TE} {p apos cpos pos : Pos}
end
end TI

namespace DF
open PySem L2
theorem sIx_to {n d k : Nat} {o : Option Int} (h : o = some (k : Int)) (hk : k ≤ n) : HT.sIx n d o = k := by
  rw [h, show HT.sIx n d (some (k : Int)) = min k n from HT.sIx_nat n d k]
  omega
theorem cut_take {us : List V} {n : Nat} {i : Int} (h : i = (n : Int)) (hn : n ≤ us.length) : cutV us none (some i) = us.take n := by
  subst h
  unfold cutV
  rw [sIx_to (k := n) rfl hn, HT.sIx_none, List.drop_zero, Nat.sub_zero]
theorem cut_drop {us : List V} {n : Nat} {i : Int} (h : i = (n : Int)) (hn : n ≤ us.length) : cutV us (some i) none = us.drop n := by
  subst h
  unfold cutV
  rw [show HT.sIx us.length us.length none = us.length from HT.sIx_none us.length us.length, sIx_to (k := n) (d := 0) (o := some (n : Int)) rfl hn]
  exact List.take_of_length_le (by rw [List.length_drop]; exact Nat.le_refl _)
end DF

namespace EN
open PySem PySem.W PySem.Calls PyProof.Rows PyProof.V PySem.Spec
section
variable {prog : Program} {w : World} {A : Around} {E : Value → Shared → Prop} {s : Shared}
/-- an own row for a tuple given out: the place of the turn and its item -/
abbrev Pr (j : Nat) (tk : Tok) (x : Value) : Obj := { cls := .type "tuple", data := .seq #[.int (j : Int) tk, x] }
theorem held_item {ev itr T : Addr} {fp : List Addr} {n i : Nat} {P : Nat → Value → Prop} {Si : Nat → Heap → Prop} {old : Value} {f : Bool} {oT : Obj} {Q : Value → Shared → Prop} (D : Draws prog w A itr fp n P Si)
    (hev : IsEnumHeld s.heap ev itr i old T f) (hT : s.heap.get? T = some oT) (n1 : T ≠ ev) (n2 : T ≠ itr) (hst : Si i s.heap) (hi : i < n) (hne : ev ≠ itr) (hef : ev ∉ fp) (hfp : ∀ b ∈ fp, b < s.heap.objs.size)
    (hQ : ∀ x g' tk, P i x → IsEnumHeld g' ev itr ((i : Int) + 1) old T true → Si (i + 1) g' → g'.get? s.heap.objs.size = some (Pr i tk x) → g'.objs.size = s.heap.objs.size + 1 →
      (∀ b o, b ≠ ev → b ≠ itr → s.heap.get? b = some o → g'.get? b = some o) → Q (.ref s.heap.objs.size) { s with heap := g', toks := tk + 1 }) :
    wpAny (model prog w) A (Builtin.«enumerate.__next__» ⟨[.ref ev], []⟩) (fun fin s' => ∃ v, fin = .done (.ret v) ∧ Q v s') E s := by
  obtain ⟨hp, gn, d, tk₀, os⟩ := s
  show wpAny _ _ (field (.ref ev) 2 >>= _) _ _ _
  refine wpAny_bind (wpAny_field hev rfl (x := .ref itr) rfl ?_)
  refine wpAny_bind (D.item i _ _ _ hi hst fun x g₁ tk hPx st₁ sb₁ => ?_)
  replace sb₁ : Heap.SameBut itr hp g₁ := sb₁
  have a₁ : IsEnumHeld g₁ ev itr i old T f := (sb₁.2 ev hne).trans hev
  show wpAny _ _ (field (.ref ev) 3 >>= _) _ _ ⟨g₁, gn, d, tk, os⟩
  refine wpAny_bind (wpAny_field a₁ rfl (x := rawInt i) rfl ?_)
  show wpAny _ _ (field (.ref ev) 4 >>= _) _ _ ⟨g₁, gn, d, tk, os⟩
  refine wpAny_bind (wpAny_field a₁ rfl (x := .none) rfl ?_)
  show wpAny _ _ (mkInt i >>= _) _ _ ⟨g₁, gn, d, tk, os⟩
  refine wpAny_bind (wpAny_mkInt ?_)
  show wpAny _ _ (setField (.ref ev) 3 (rawInt ((i : Int) + 1)) >>= _) _ _ ⟨g₁, gn, d, tk + 1, os⟩
  refine wpAny_bind (wpAny_setField_rec a₁ (by simp) fun g₂ a₂ sb₂ => ?_)
  replace sb₂ : Heap.SameBut ev g₁ g₂ := sb₂
  replace a₂ : IsEnumHeld g₂ ev itr ((i : Int) + 1) old T f := a₂
  show wpAny _ _ (setField (.ref ev) 4 .none >>= _) _ _ ⟨g₂, gn, d, tk + 1, os⟩
  refine wpAny_bind (wpAny_setField_rec a₂ (by simp) fun g₃ a₃ sb₃ => ?_)
  replace sb₃ : Heap.SameBut ev g₂ g₃ := sb₃
  replace a₃ : IsEnumHeld g₃ ev itr ((i : Int) + 1) old T f := a₃
  show wpAny _ _ (newTuple [.int i tk, x] >>= _) _ _ ⟨g₃, gn, d, tk + 1, os⟩
  refine wpAny_bind (wpAny_newTuple ?_)
  have a₄ : IsEnumHeld (g₃.push (Pr i tk x)) ev itr ((i : Int) + 1) old T f := Heap.get?_push_of_some _ a₃
  have zs : g₃.objs.size = hp.objs.size := by rw [sb₃.1, sb₂.1, sb₁.1]
  have lev : ev < hp.objs.size := Heap.lt_size hev
  have t₄ : (g₃.push (Pr i tk x)).get? hp.objs.size = some (Pr i tk x) := by rw [← zs]; exact Heap.get?_push_size _ rfl
  have z₄ : (g₃.push (Pr i tk x)).objs.size = hp.objs.size + 1 := by rw [Heap.size_push, zs]
  have k₄ : ∀ b o, b ≠ ev → b ≠ itr → hp.get? b = some o → (g₃.push (Pr i tk x)).get? b = some o := fun b o hb1 hb2 hb =>
    Heap.get?_push_of_some _ (sb₃.extBut b o hb1 (sb₂.extBut b o hb1 (sb₁.extBut b o hb2 hb)))
  have st₄ : Si (i + 1) (g₃.push (Pr i tk x)) := D.frame _ _ _ st₁ fun b hb o y => by
    have hb1 : b ≠ ev := fun q => hef (q ▸ hb)
    exact Heap.get?_push_of_some _ (sb₃.extBut b o hb1 (sb₂.extBut b o hb1 y))
  show wpAny _ _ (Builtin.SmallTypes.ownedTupleIsFree (.ref ev) >>= _) _ _ ⟨g₃.push (Pr i tk x), gn, d, tk + 1, os⟩
  rw [zs]
  refine wpAny_bind (wpAny_tupleHeld_enum (s := ⟨g₃.push (Pr i tk x), gn, d, tk + 1, os⟩) a₄ (k₄ T oT n1 n2 hT) fun g₅ a₅ sb₅ => ?_)
  replace sb₅ : Heap.SameBut ev (g₃.push (Pr i tk x)) g₅ := sb₅
  simp only [Bool.false_eq_true, if_false]
  refine wpAny_pure ⟨_, rfl, hQ x g₅ tk hPx a₅ (D.frame _ _ _ st₄ fun b hb o y => sb₅.extBut b o (fun q => hef (q ▸ hb)) y) (sb₅.extBut _ _ (Nat.ne_of_gt lev) t₄) ?_ fun b o hb1 hb2 hb => sb₅.extBut b o hb1 (k₄ b o hb1 hb2 hb)⟩
  show g₅.objs.size = hp.objs.size + 1
  rw [sb₅.1, z₄]
theorem next_held {ev itr T : Addr} {fp : List Addr} {n i : Nat} {P : Nat → Value → Prop} {Si : Nat → Heap → Prop} {old : Value} {f : Bool} {oT : Obj} {Q : Option Value → Shared → Prop} (D : Draws prog w A.in1 itr fp n P Si)
    (hev : IsEnumHeld s.heap ev itr i old T f) (hT : s.heap.get? T = some oT) (n1 : T ≠ ev) (n2 : T ≠ itr) (hst : Si i s.heap) (hi : i < n) (hne : ev ≠ itr) (hef : ev ∉ fp) (hfp : ∀ b ∈ fp, b < s.heap.objs.size)
    (hQ : ∀ x g' tk, P i x → IsEnumHeld g' ev itr ((i : Int) + 1) old T true → Si (i + 1) g' → g'.get? s.heap.objs.size = some (Pr i tk x) → g'.objs.size = s.heap.objs.size + 1 →
      (∀ b o, b ≠ ev → b ≠ itr → s.heap.get? b = some o → g'.get? b = some o) → Q (some (.ref s.heap.objs.size)) { s with heap := g', toks := tk + 1 }) :
    wpAny (model prog w) A (pyNext (.ref ev)) Q E s := by
  have ty : s.TypeIs (.ref ev) "enumerate" := ⟨_, hev, rfl⟩
  unfold pyNext
  exact wpAny_bind (wpAny_attempt (wpAny_callSpecial?_slot (name := Str.ofString "__next__") ty F.slot_enumerate_next
    (wpAny_call_entry F.slot_enumerate_next ty F.entry_enumerate_next (held_item D hev hT n1 n2 hst hi hne hef hfp fun x g' tk b1 b2 b3 b4 b5 b6 => wpAny_pure (hQ x g' tk b1 b2 b3 b4 b5 b6)) (F.args_enumerate_next_1 _))))
theorem end_held {ev itr T : Addr} {fp : List Addr} {n : Nat} {i : Int} {P : Nat → Value → Prop} {Si : Nat → Heap → Prop} {old : Value} {f : Bool} {Q : Option Value → Shared → Prop} (D : Draws prog w A.in1 itr fp n P Si)
    (hev : IsEnumHeld s.heap ev itr i old T f) (hst : Si n s.heap) (hQ : ∀ g', Heap.ExtBut itr s.heap g' → Q none { s with heap := g' }) : wpAny (model prog w) A (pyNext (.ref ev)) Q E s := by
  have ty : s.TypeIs (.ref ev) "enumerate" := ⟨_, hev, rfl⟩
  unfold pyNext
  refine wpAny_bind (wpAny_attempt (wpAny_callSpecial?_slot (name := Str.ofString "__next__") ty F.slot_enumerate_next
    (wpAny_call_entry F.slot_enumerate_next ty F.entry_enumerate_next ?_ (F.args_enumerate_next_1 _))))
  show wpAny _ _ (field (.ref ev) 2 >>= _) _ _ _
  refine wpAny_bind (wpAny_field hev rfl (x := .ref itr) rfl ?_)
  refine wpAny_bind (D.done _ _ _ hst fun g' e₁ he hx => ?_)
  obtain ⟨o, ho, hc⟩ := hx
  refine wpAny_bind (wpAny_isInstance (T := "StopIteration") (b := true) ⟨o, ho, hc⟩ isSubtype_stop ?_)
  exact wpAny_pure (hQ _ he)
/-- the enumerate before its turn i; S: the list that is filled -/
structure Es (h : Heap) (ev itr t S : Addr) (its : Array Value) (i : Nat) : Prop where
  it : h.IsTupleIter itr t i
  tt : h.IsTuple t its
  ee : (∃ old, IsEnum h ev itr i old) ∨ ∃ T f oT old, IsEnumHeld h ev itr i old T f ∧ h.get? T = some oT ∧ T ≠ ev ∧ T ≠ itr ∧ T ≠ S
theorem Es.keep {h h' : Heap} {ev itr t S : Addr} {its : Array Value} {i : Nat} (x : Es h ev itr t S its i) (k : ∀ b o, b ≠ S → h.get? b = some o → h'.get? b = some o) (a1 : ev ≠ S) (a2 : itr ≠ S) (a3 : t ≠ S) : Es h' ev itr t S its i := by
  refine ⟨x.it.at fun o e => k _ o a2 e, x.tt.at fun o e => k _ o a3 e, ?_⟩
  rcases x.ee with ⟨old, e⟩ | ⟨T, f, oT, old, e, q, b1, b2, b3⟩
  · exact .inl ⟨old, k _ _ a1 e⟩
  · exact .inr ⟨T, f, oT, old, k _ _ a1 e, k _ _ b3 q, b1, b2, b3⟩
theorem Es.item {ev itr t S : Addr} {its : Array Value} {i : Nat} {Q : Option Value → Shared → Prop} (hh : A.handled = none) (hne : ev ≠ itr) (hte : t ≠ ev) (hti : t ≠ itr) (st : Es s.heap ev itr t S its i) (hS : S < s.heap.objs.size) (hi : i < its.size)
    (hQ : ∀ x g' tk tk', its[i]? = some x → Es g' ev itr t S its (i + 1) → g'.get? s.heap.objs.size = some (Pr i tk x) → g'.objs.size = s.heap.objs.size + 1 → (∀ b o, b ≠ ev → b ≠ itr → s.heap.get? b = some o → g'.get? b = some o) → Q (some (.ref s.heap.objs.size)) { s with heap := g', toks := tk' }) :
    wpAny (model prog w) A (pyNext (.ref ev)) Q E s := by
  have D := Draws.tuple (prog := prog) (w := w) (A := A.in1) hh itr t hti its
  have hef : ev ∉ [itr, t] := by
    intro hm
    rcases List.mem_cons.mp hm with q | hm
    · exact hne q
    · exact hte (List.mem_singleton.mp hm).symm
  obtain ⟨o1, ho1, _⟩ := id st.it
  obtain ⟨o2, ho2, _⟩ := id st.tt
  have lt : ∀ {a : Addr} {o : Obj}, s.heap.get? a = some o → s.heap.objs.size ≠ a := fun e => Nat.ne_of_gt (Heap.lt_size e)
  have ci : ((i : Nat) : Int) + 1 = ((i + 1 : Nat) : Int) := by omega
  rcases st.ee with ⟨old, he⟩ | ⟨T, f, oT, old, he, hT, n1, n2, n3⟩
  · refine wpAny_pyNext_enum_itemD D he ⟨st.it, st.tt⟩ hi hne hef fun x g' tk b1 b2 b3 b4 b5 b6 => hQ x g' tk _ b1 ⟨b3.1, b3.2, .inr ⟨_, false, _, _, by rw [← ci]; exact b2, b4, lt he, lt ho1, Nat.ne_of_gt hS⟩⟩ b4 b5 b6
  · refine next_held D he hT n1 n2 ⟨st.it, st.tt⟩ hi hne hef (fun b hb => ?_) fun x g' tk b1 b2 b3 b4 b5 b6 => hQ x g' tk _ b1 ⟨b3.1, b3.2, .inr ⟨T, true, oT, old, by rw [← ci]; exact b2, b6 _ _ n1 n2 hT, n1, n2, n3⟩⟩ b4 b5 b6
    rcases List.mem_cons.mp hb with rfl | hb
    · exact Heap.lt_size ho1
    · rw [List.mem_singleton.mp hb]
      exact Heap.lt_size ho2
theorem Es.done {ev itr t S : Addr} {its : Array Value} {Q : Option Value → Shared → Prop} (hh : A.handled = none) (hti : t ≠ itr) (st : Es s.heap ev itr t S its its.size)
    (hQ : ∀ g', (∀ b o, b ≠ itr → s.heap.get? b = some o → g'.get? b = some o) → Q none { s with heap := g' }) : wpAny (model prog w) A (pyNext (.ref ev)) Q E s := by
  have D := Draws.tuple (prog := prog) (w := w) (A := A.in1) hh itr t hti its
  rcases st.ee with ⟨old, he⟩ | ⟨T, f, oT, old, he, hT, n1, n2, n3⟩
  · exact wpAny_pyNext_enum_endD D he ⟨st.it, st.tt⟩ hQ
  · exact end_held D he ⟨st.it, st.tt⟩ hQ
/-- the rows given out -/
structure Gv (its : Array Value) (lo : Addr) (h : Heap) (as : List Addr) : Prop where
  rise : as.Pairwise (· < ·)
  above : ∀ a ∈ as, lo < a
  rows : ∀ (j : Nat) (a : Addr), as[j]? = some a → ∃ x tk, its[j]? = some x ∧ h.get? a = some (Pr j tk x)
theorem Gv.there {its : Array Value} {lo : Addr} {h : Heap} {as : List Addr} (g : Gv its lo h as) {a : Addr} (ha : a ∈ as) : a < h.objs.size := by
  obtain ⟨j, hj⟩ := List.mem_iff_getElem?.mp ha
  obtain ⟨_, _, _, e⟩ := g.rows j a hj
  exact Heap.lt_size e
theorem fill {R : Result → Shared → Prop} {ev itr t S lo : Addr} {its : Array Value} (hh : A.handled = none) (hne : ev ≠ itr) (hte : t ≠ ev) (hti : t ≠ itr) (b1 : ev < S) (b2 : itr < S) (b3 : t < lo) (c1 : lo ≤ ev) (c2 : lo ≤ itr) (cS : lo ≤ S) (hsz : its.size ≤ sizeLine) (res : Value) {h₁ : Heap}
    (hR : ∀ g' tk acc c as, (∀ b o, b < lo → h₁.get? b = some o → g'.get? b = some o) → g'.get? S = some { cls := .type "list", dict := none, data := .seq acc c, slots := #[] } → as.length = its.size → Gv its S g' as → acc.toList = as.map Value.ref → R (.ok (.ret res)) { s with heap := g', toks := tk }) :
    ∀ (k i : Nat) (h : Heap) (tk c : Nat) (acc : Array Value) (as : List Addr), its.size - i = k → i ≤ its.size → Es h ev itr t S its i → (∀ b o, b < lo → h₁.get? b = some o → h.get? b = some o) →
      h.get? S = some { cls := .type "list", dict := none, data := .seq acc c, slots := #[] } → acc.toList = as.map Value.ref → as.length = i → Gv its S h as →
      codeAny (model prog w) A (.builtin "list.extend.loop" ⟨[.ref S, .ref ev, res], []⟩) R { s with heap := h, toks := tk } := by
  have nS : ∀ {a : Addr}, a < S → S ≠ a := fun h => Nat.ne_of_gt h
  have nlo : ∀ {a b : Addr}, b < lo → lo ≤ a → b ≠ a := fun h1 h2 => Nat.ne_of_lt (Nat.lt_of_lt_of_le h1 h2)
  intro k
  induction k with
  | zero =>
    intro i h tk c acc as hk hi hst hkeep hS hacc hal hG
    have hin : i = its.size := by omega
    subst hin
    refine codeAny_builtin PySem.F.entry_extend_loop ?_
    rw [Around.under_plainId PySem.F.plain_extend_loop _]
    show wpAny _ A.in1 (pyNext (.ref ev) >>= _) _ _ _
    refine wpAny_bind (Es.done (s := { s with heap := h, toks := tk }) (A := A.in1) hh hti hst fun g' he => ?_)
    refine wpAny_pure (hR g' tk acc c as (fun b o hb e => he b o (nlo hb c2) (hkeep b o hb e)) (he S _ (nS b2) hS) hal ⟨hG.rise, hG.above, fun j a hj => ?_⟩ hacc)
    obtain ⟨x, tk', e1, e2⟩ := hG.rows j a hj
    exact ⟨x, tk', e1, he a _ (Nat.ne_of_gt (Nat.lt_trans b2 (hG.above a (List.mem_of_getElem? hj)))) e2⟩
  | succ k ih =>
    intro i h tk c acc as hk hi hst hkeep hS hacc hal hG
    have hlt : i < its.size := by omega
    have hsz' : acc.size = i := by rw [← Array.length_toList, hacc, List.length_map, hal]
    have hSl : S < h.objs.size := Heap.lt_size hS
    refine codeAny_builtin PySem.F.entry_extend_loop ?_
    rw [Around.under_plainId PySem.F.plain_extend_loop _]
    show wpAny _ A.in1 (pyNext (.ref ev) >>= _) _ _ _
    refine wpAny_bind (Es.item (s := { s with heap := h, toks := tk }) (A := A.in1) (S := S) hh hne hte hti hst hSl hlt fun x g' tk1 tk2 hx hst' ht hz hkp => ?_)
    dsimp only at ht hz hkp ⊢
    have hS' := hkp S _ (nS b1) (nS b2) hS
    have up : ∀ b o, b ≠ S → g'.get? b = some o → (g'.update S (Obj.mapSeq (·.push (Value.ref h.objs.size)))).get? b = some o := fun b o hb e => (Heap.get?_update_other _ _ (Ne.symm hb)).trans e
    show wpAny _ A.in1 (updateSeq S (·.push (Value.ref h.objs.size)) >>= _) _ _ _
    refine wpAny_bind ?_
    refine wpAny_updateSeq hS' rfl (wpAny_pure ⟨plainId_quiet PySem.F.plain_extend_loop _, ih (i + 1) _ tk2 _ (acc.push (Value.ref h.objs.size)) (as ++ [h.objs.size]) (by omega) hlt
      (hst'.keep up (Nat.ne_of_lt b1) (Nat.ne_of_lt b2) (nlo b3 cS)) (fun b o hb e => up b o (nlo hb cS) (hkp b o (nlo hb c1) (nlo hb c2) (hkeep b o hb e))) (Heap.get?_update_self _ hS' rfl) (by rw [Array.toList_push, hacc, List.map_append]; rfl) (by rw [List.length_append, hal]; rfl) ⟨?_, ?_, ?_⟩⟩) (by rw [hsz']; omega) (by show (acc.push (Value.ref h.objs.size)).size ≤ sizeLine + 1; rw [Array.size_push, hsz']; omega)
    · refine List.pairwise_append.mpr ⟨hG.rise, List.pairwise_singleton _ _, fun a ha b hb => ?_⟩
      rw [List.mem_singleton.mp hb]
      exact hG.there ha
    · intro a ha
      rcases List.mem_append.mp ha with ha | ha
      · exact hG.above a ha
      · rw [List.mem_singleton.mp ha]; exact hSl
    · intro j b hj
      rcases Nat.lt_trichotomy j as.length with q1 | q1 | q1
      · rw [List.getElem?_append_left q1] at hj
        obtain ⟨x', tk', e1, e2⟩ := hG.rows j b hj
        have hb := hG.above b (List.mem_of_getElem? hj)
        exact ⟨x', tk', e1, up b _ (Nat.ne_of_gt hb) (hkp b _ (Nat.ne_of_gt (Nat.lt_trans b1 hb)) (Nat.ne_of_gt (Nat.lt_trans b2 hb)) e2)⟩
      · subst q1
        have hb : h.objs.size = b := by simpa using hj
        subst hb
        exact ⟨x, tk1, by rw [hal]; exact hx, up _ _ (Nat.ne_of_gt hSl) (by rw [hal]; exact ht)⟩
      · have hnone : (as ++ [h.objs.size])[j]? = none := List.getElem?_eq_none (by rw [List.length_append, List.length_singleton]; omega)
        rw [hnone] at hj; cases hj
theorem no_len : typeLookup (.type "enumerate") "__len__" = pure none := am_miss_of_fast (by decide +kernel)
theorem no_hint : typeLookup (.type "enumerate") "__length_hint__" = pure none := am_miss_of_fast (by decide +kernel)
theorem hint {ev : Addr} (hT : s.TypeIs (.ref ev) "enumerate") {Q : Bool → Shared → Prop} (h : Q true s) : wpAny (model prog w) A (Builtin.List.listLengthHint (.ref ev)) Q E s := by
  unfold Builtin.List.listLengthHint
  refine wpAny_bind (wpAny_specialOf hT no_len ?_)
  refine wpAny_ite_split (fun hab => absurd hab (by decide)) (fun _ => ?_)
  refine wpAny_ite_split (fun hab => absurd hab (by decide)) (fun _ => ?_)
  refine wpAny_bind (wpAny_specialOf hT no_hint ?_)
  exact wpAny_pure h
end
end EN

namespace EN
open PySem PySem.W PySem.Calls PyProof.Rows PyProof.V PySem.Spec
section
variable {prog : Program} {w : World} {A : Around} {E : Value → Shared → Prop} {s : Shared}
theorem extend {R : Result → Shared → Prop} {ev itr t S lo : Addr} {its : Array Value} {old : Value} (hh : A.handled = none) (hne : ev ≠ itr) (hte : t ≠ ev) (hti : t ≠ itr) (he : IsEnum s.heap ev itr (0 : Nat) old) (st : Es s.heap ev itr t S its 0) (b1 : ev < S) (b2 : itr < S) (b3 : t < lo) (c1 : lo ≤ ev) (c2 : lo ≤ itr) (cS : lo ≤ S) (hsz : its.size ≤ sizeLine)
    (res : Value) (c₀ : Nat) (hS : s.heap.get? S = some { cls := .type "list", data := .seq #[] c₀ })
    (hR : ∀ g' tk acc c as, (∀ b o, b < lo → s.heap.get? b = some o → g'.get? b = some o) → g'.get? S = some { cls := .type "list", dict := none, data := .seq acc c, slots := #[] } → as.length = its.size → Gv its S g' as → acc.toList = as.map Value.ref → R (.ok (.ret res)) { s with heap := g', toks := tk }) :
    wpAny (model prog w) A.in1 (Builtin.List.listExtendWith (.ref S) (.ref ev) res)
      (fun fin s' => match fin with | .done f => R (.ok f) s' | .again c' => c'.quiet = true ∧ codeAny (model prog w) A c' R s') (fun e s' => R (.error e) s') s := by
  have n1 := Nat.ne_of_lt b1
  have n2 := Nat.ne_of_lt b2
  have n3 := Nat.ne_of_lt (Nat.lt_of_lt_of_le b3 cS)
  have key : ∀ (h : Heap) (c₁ tk : Nat), (∀ b o, b ≠ S → s.heap.get? b = some o → h.get? b = some o) → h.get? S = some { cls := .type "list", data := .seq #[] c₁ } →
      codeAny (model prog w) A (.builtin "list.extend.loop" ⟨[.ref S, .ref ev, res], []⟩) R { s with heap := h, toks := tk } := by
    intro h c₁ tk hk hS₁
    exact fill (s := s) (h₁ := s.heap) hh hne hte hti b1 b2 b3 c1 c2 cS hsz res hR its.size 0 h tk c₁ #[] [] (Nat.sub_zero _) (Nat.zero_le _) (st.keep hk n1 n2 n3)
      (fun b o hb e => hk b o (Nat.ne_of_lt (Nat.lt_of_lt_of_le hb cS)) e) hS₁ rfl rfl ⟨List.Pairwise.nil, (fun _ ha => nomatch ha), (fun j a hj => by simp at hj)⟩
  have hTy : s.TypeIs (.ref ev) "enumerate" := ⟨_, he, rfl⟩
  unfold Builtin.List.listExtendWith
  refine wpAny_bind (wpAny_typeOf (T := "enumerate") hTy ?_)
  have h1 : Builtin.List.listSameRef (.ref S) (.ref ev) = false := by simp [Builtin.List.listSameRef, Nat.ne_of_gt b1]
  have h2 : (Value.type "enumerate" == Value.type "list") = false := by decide
  have h3 : (Value.type "enumerate" == Value.type "tuple") = false := by decide
  simp only [h1, h2, h3, Bool.or_false, Bool.false_eq_true, if_false]
  refine wpAny_bind (wpAny_pyIter_enum he ?_)
  refine wpAny_bind (wpAny_holding (hint hTy ?_))
  refine wpAny_ite_split (fun _ => ?_) (fun _ => wpAny_pure ⟨plainId_quiet PySem.F.plain_extend_loop _, key _ c₀ _ (fun b o _ e => e) hS⟩)
  refine wpAny_bind (wpAny_rule ?_)
  refine wpAny_bind ?_
  show wpAny _ _ (updateSeq S (·.push .none) >>= fun _ => updateSeq S (·.pop)) _ _ _
  refine wpAny_bind (wpAny_updateSeq hS rfl ?_)
  have hS₂ := Heap.get?_update_self (Obj.mapSeq (·.push Value.none)) hS rfl
  refine wpAny_updateSeq (hz := by seq_fits) hS₂ rfl ?_
  have hS₃ := Heap.get?_update_self (Obj.mapSeq (·.pop)) hS₂ rfl
  refine wpAny_pure ⟨plainId_quiet PySem.F.plain_extend_loop _, key _ _ _ (fun b o hb e => ?_) hS₃⟩
  exact (Heap.get?_update_other _ _ (Ne.symm hb)).trans ((Heap.get?_update_other _ _ (Ne.symm hb)).trans e)
end
end EN

namespace EN
open PySem PySem.Spec PyProof.Rows L2
/-- the pairs of places and items -/
def enumV (xs : List V) : List (V × V) := ((List.range xs.length).map fun (n : Nat) => V.int (n : Int)).zip xs
/-- tuple(enumerate(t)) of a tuple -/
def tTupEnum (K : PySem.W.Frag) (te : TE) : TE := fun σ H Q => te σ H fun x H1 => ∃ (a : Addr) (xs : List V), x = .ref a ∧ SqT K H1 a xs ∧
  ∀ (H' : Hp) (p : Addr) (ts : List Addr), Same H1 H' → H' p = some (.tup (ts.map V.ref)) → Paired (fun (t : Addr) (q : V × V) => H' t = some (.tup [q.1, q.2])) ts (enumV xs) → Q (.ref p) H'
section
variable {X : Cx} {e : Expr} {te : TE} {p p2 cpos pos : Pos}
end
end EN

namespace DF
open PySem L2
/-! ### programs and what terms demand -/
inductive Fn where
  | plain (x : Str) (n : Nat) (b : Tm)
  | cases (x : Str) (n : Nat) (rs : List (Str × Nat × Tm))
def Fn.name : Fn → Str
  | .plain x _ _ => x
  | .cases x _ _ => x
def Fn.arity : Fn → Nat
  | .plain _ n _ => n
  | .cases _ n _ => n
def ruleD (r : Str × Nat × Tm) : Dt := .tup [.key (.inr r.1), .key (.inl (r.2.1 : Int)), r.2.2.dat]
def Fn.dat : Fn → Dt
  | .plain x n b => .tup [.key (.inr "plain"), .key (.inr x), .key (.inl (n : Int)), b.dat]
  | .cases x n rs => .tup [.key (.inr "cases"), .key (.inr x), .key (.inl (n : Int)), .tup (rs.map ruleD)]
def getF (fs : List Fn) : Key → Option Fn
  | .inl _ => none
  | .inr x => fs.find? fun f => decide (f.name = x)
def enumP (as : List Tm) : List (Int × Tm) := ((List.range as.length).map fun (n : Nat) => (n : Int)).zip as
/-- a body with its arguments -/
def unf (b : Tm) (as : List Tm) (n : Nat) : Tm := (b.put (enumP (as.take n))).appl (as.drop n)
inductive Dem where
  | val
  | step (t : Tm)
  | err
  | unk (i : Int)
  | needs (i : Int) (x : Str)
  | stuck (i : Int)
def Dem.dat : Dem → Dt
  | .val => .tup [.key (.inr "value")]
  | .step t => .tup [.key (.inr "step"), t.dat]
  | .err => .tup [.key (.inr "error")]
  | .unk i => .tup [.key (.inr "unknown"), .key (.inl i)]
  | .needs i x => .tup [.key (.inr "needs"), .key (.inl i), .key (.inr x)]
  | .stuck i => .tup [.key (.inr "stuck"), .key (.inl i)]
def Tm.fst (t : Tm) : Tm := match t.args with
  | [] => t
  | a :: _ => a
/-- the rules of the function by cases whose first argument decides -/
def byCs (fs : List Fn) (t : Tm) : Option (Nat × List (Str × Nat × Tm)) := match getF fs t.hd with
  | some (.cases _ n rs) => if n ≤ t.args.length then some (n, rs) else none
  | _ => none
def findR (rs : List (Str × Nat × Tm)) (u : Tm) : Option (Str × Nat × Tm) := rs.find? fun r => decide (u.hd = .inr r.1) && decide (r.2.1 = u.args.length)
/-- the rule that holds of the value u, with the other arguments -/
def ruleS (rs : List (Str × Nat × Tm)) (n : Nat) (u : Tm) (rest : List Tm) : Dem := match findR rs u with
  | some r => .step (unf r.2.2 (u.args ++ rest) (r.2.1 + n - 1))
  | none => .err
def keyS : Key → Str
  | .inr x => x
  | .inl _ => ""
def byC (rs : List (Str × Nat × Tm)) (n : Nat) (t : Tm) : Dem → Dem
  | .step u => .step (.mk t.hd (u :: t.args.drop 1))
  | .unk i => .needs i (keyS t.hd)
  | .val => ruleS rs n t.fst (t.args.drop 1)
  | d => d
/-- what a term demands of which no argument decides -/
def dem0 (fs : List Fn) (t : Tm) : Dem := match t.hd with
  | .inl i => if t.args = [] then .unk i else .stuck i
  | .inr x => match getF fs (.inr x) with
    | none => .val
    | some f => if t.args.length < f.arity then .val else match f with
      | .plain _ n b => .step (unf b t.args n)
      | .cases _ _ _ => .err
instance decNil (l : List Tm) : Decidable (l = []) := match l with
  | [] => .isTrue rfl
  | _ :: _ => .isFalse (fun h => by cases h)
theorem fst_size {t : Tm} (h : t.args ≠ []) : t.fst.size < t.size := by
  cases t with
  | mk k ts =>
    cases ts with
    | nil => exact absurd rfl h
    | cons a r =>
      show a.size < (Tm.mk k (a :: r)).size
      rw [Tm.size, Tm.sizeL]
      omega
def dem (fs : List Fn) (t : Tm) : Dem := match byCs fs t with
  | some (n, rs) => if h : t.args = [] then .err else byC rs n t (dem fs t.fst)
  | none => dem0 fs t
termination_by t.size
decreasing_by exact fst_size h
/-- what is asked of a program -/
structure FnOk' (f : Fn) : Prop where
  ar : f.arity ≤ 1000
  pos : ∀ x n rs, f = .cases x n rs → 1 ≤ n
  bd : ∀ x n b, f = .plain x n b → b.size ≤ 1000 ∧ b.All KOk
  rl : ∀ x n rs, f = .cases x n rs → rs.length ≤ 1000 ∧ ∀ r ∈ rs, r.2.1 ≤ 1000 ∧ KOk (.inr r.1) ∧ r.2.2.size ≤ 1000 ∧ r.2.2.All KOk
  nm : KOk (.inr f.name)
def FsOk (fs : List Fn) : Prop := (fs.map Fn.name).Nodup ∧ fs.length ≤ 1000 ∧ ∀ f ∈ fs, FnOk' f
/-! ### a dict of the functions -/
def FsAt (K : PySem.W.Frag) (H : Hp) (D : Addr) (fs : List Fn) : Prop := ∃ kvs : List (Key × V), H D = some (.dK kvs) ∧ kvs.map (·.1) = fs.map (fun f => .inr f.name) ∧ DsAt K H (kvs.map (·.2)) (fs.map Fn.dat)
theorem fn_look {K : PySem.W.Frag} {H : Hp} (x : Str) : ∀ {kvs : List (Key × V)} {fs : List Fn}, kvs.map (·.1) = fs.map (fun f => Sum.inr f.name) → DsAt K H (kvs.map (·.2)) (fs.map Fn.dat) → (valV kvs (.inr x) = none ∧ getF fs (.inr x) = none) ∨ ∃ v f, valV kvs (.inr x) = some v ∧ getF fs (.inr x) = some f ∧ DAt K H v f.dat
  | [], [], _, _ => .inl ⟨rfl, rfl⟩
  | [], _ :: _, h, _ => by cases h
  | _ :: _, [], h, _ => by cases h
  | kv :: kvs, f :: fs, h, hd => by
    rw [List.map_cons, List.map_cons] at h hd
    obtain ⟨e1, e2⟩ := List.cons.inj h
    cases hd with
    | cons d1 d2 =>
      by_cases hx : f.name = x
      · refine .inr ⟨kv.2, f, ?_, ?_, d1⟩
        · unfold valV
          rw [List.find?_cons, e1, hx, decide_eq_true rfl]
          rfl
        · show ((f :: fs).find? fun f => decide (f.name = x)) = some f
          rw [List.find?_cons, decide_eq_true hx]
      · have hk : ¬ (kv.1 = .inr x) := fun q => hx (by rw [e1] at q; exact Sum.inr.inj q)
        have g1 : valV (kv :: kvs) (.inr x) = valV kvs (.inr x) := by
          unfold valV
          rw [List.find?_cons, decide_eq_false hk]
        have g2 : getF (f :: fs) (.inr x) = getF fs (.inr x) := by
          show ((f :: fs).find? fun f => decide (f.name = x)) = _
          rw [List.find?_cons, decide_eq_false hx]
          rfl
        rw [g1, g2]
        exact fn_look x e2 d2
theorem valV_key {kvs : List (Key × V)} {fs : List Fn} (h : kvs.map (·.1) = fs.map (fun f => Sum.inr f.name)) (i : Int) : valV kvs (.inl i) = none := by
  unfold valV
  rw [Option.map_eq_none_iff, List.find?_eq_none]
  intro p hp hd
  have e := of_decide_eq_true hd
  have : p.1 ∈ fs.map (fun f => (Sum.inr f.name : Key)) := by
    rw [← h]
    exact List.mem_map.mpr ⟨p, hp, rfl⟩
  obtain ⟨f, _, hf⟩ := List.mem_map.mp this
  rw [e] at hf
  cases hf
theorem FsAt.get {K : PySem.W.Frag} {H : Hp} {D : Addr} {fs : List Fn} (h : FsAt K H D fs) (k : Key) : ∃ o, DGet H D (kV k) o ∧ ((o = none ∧ getF fs k = none) ∨ ∃ v f, o = some v ∧ getF fs k = some f ∧ DAt K H v f.dat) := by
  obtain ⟨kvs, e, h1, h2⟩ := h
  refine ⟨valV kvs k, DGet.k e, ?_⟩
  cases k with
  | inl i => exact .inl ⟨valV_key h1 i, rfl⟩
  | inr x => exact fn_look x h1 h2
theorem FsAt.mono {K : PySem.W.Frag} {H H' : Hp} {D : Addr} {fs : List Fn} (h : FsAt K H D fs) (s : Same H H') : FsAt K H' D fs := by
  obtain ⟨kvs, e, h1, h2⟩ := h
  exact ⟨kvs, s _ _ e, h1, h2.mono (TStay.of s)⟩
/-! ### what an expression of tuples, texts and numbers gives -/
def Gives (K : PySem.W.Frag) (σ : L2.St) (H : Hp) (te : TE) (d : Dt) : Prop := ∀ H1, Same H H1 → ∀ Q : VK, (∀ H2 v, Same H1 H2 → DAt K H2 v d → Q v H2) → te σ H1 Q
def GivesL (K : PySem.W.Frag) (σ : L2.St) (H : Hp) (ta : TA) (ds : List Dt) : Prop := ∀ H1, Same H H1 → ∀ Q : List V → Hp → Prop, (∀ H2 vs, Same H1 H2 → DsAt K H2 vs ds → Q vs H2) → ta σ H1 Q
section
variable {K : PySem.W.Frag} {σ : L2.St} {H : Hp}
theorem Gives.int {n : Int} : Gives K σ H (tC (.int n)) (.key (.inl n)) := fun H1 s Q q => q H1 _ (fun _ _ h => h) (.key (k := .inl n))
theorem Gives.str {x : Str} : Gives K σ H (tC (.str x)) (.key (.inr x)) := fun H1 s Q q => q H1 _ (fun _ _ h => h) (.key (k := .inr x))
theorem GivesL.nil : GivesL K σ H tNil [] := fun H1 s Q q => q H1 _ (fun _ _ h => h) .nil
theorem GivesL.cons {te : TE} {ta : TA} {d : Dt} {ds : List Dt} (h1 : Gives K σ H te d) (h2 : GivesL K σ H ta ds) : GivesL K σ H (tCons te ta) (d :: ds) := fun H1 s Q q =>
  h1 H1 s _ fun H2 v s2 dv => h2 H2 (s.trans s2) _ fun H3 vs s3 dvs => q H3 _ (s2.trans s3) (.cons (dv.mono (TStay.of s3)) dvs)
theorem Gives.tup {ta : TA} {ds : List Dt} (h : GivesL K σ H ta ds) (hl : ds.length ≤ 1000) : Gives K σ H (tTup ta) (.tup ds) := fun H1 s Q q =>
  h H1 s _ fun H2 vs s2 dvs => ⟨by rw [dvs.length, sizeLine_eq]; omega, fun p hp => q _ _ (s2.trans (same_new hp _)) (.tup (SqT.of upd_same) (dvs.mono (TStay.new hp _)) (by rw [dvs.length]; omega))⟩
end
end DF

namespace MX
open PySem PySem.Spec PyProof.Rows L2
/-- max(t) of a tuple of ints -/
def rMaxT (K : PySem.W.Frag) : List V → Hp → VK → Prop := fun vs H Q => ∃ (a : Addr) (n : Int) (ns : List Int), vs = [V.ref a] ∧ SqT K H a ((n :: ns).map V.int) ∧ Q (.int (ns.foldl max n)) H
end MX

namespace MD
open PySem PySem.Spec PyProof.Rows L2
/-! ### room, one frame a level: levels up to 650 under the law's caller -/
structure RoomD (k : Nat) (A : Around) : Prop where
  hd : A.handled = none
  dp : A.depth + k + 40 < recursionLimit
  un : A.units + 4 * k + 700 < cLine
theorem RoomD.mono {j k : Nat} {A : Around} (r : RoomD k A) (h : j ≤ k) : RoomD j A := ⟨r.hd, by have := r.dp; omega, by have := r.un; omega⟩
theorem RoomD.deeper {k : Nat} {A : Around} (r : RoomD (k + 1) A) (env : PySem.Env) : RoomD k (A.deeper env) :=
  ⟨r.hd, by have := r.dp; show A.depth + 1 + k + 40 < _; omega, by have := r.un; show A.units + 3 + 4 * k + 700 < _; omega⟩
theorem RoomD.in1 {k : Nat} {A : Around} (r : RoomD (k + 1) A) : RoomD k A.in1 :=
  ⟨r.hd, by have := r.dp; show A.depth + k + 40 < _; omega, by have := r.un; show A.units + 1 + 4 * k + 700 < _; omega⟩
theorem RoomD.make {k : Nat} {A : Around} (r : RoomD (k + 1) A) (C : Addr) (us : List Value) (kw : List (Str × Value)) : RoomD k (A.under (.builtin "type.__call__" ⟨.ref C :: us, kw⟩)) :=
  ⟨r.hd, by have := r.dp; rw [make_depth]; omega, by have := r.un; rw [make_units]; omega⟩
theorem RoomD.depth {k : Nat} {A : Around} (r : RoomD k A) : A.depth < recursionLimit := by have := r.dp; omega
theorem RoomD.units {k : Nat} {A : Around} (r : RoomD k A) : A.units + 64 < cLine := by have := r.un; omega
theorem RoomD.units6 {k : Nat} {A : Around} (r : RoomD k A) : A.units + 600 < cLine := by have := r.un; omega
theorem RoomD.hu {k : Nat} {A : Around} (r : RoomD k A) : A.units + 1 < cLine := by have := r.un; omega
/-- the room of the library's rules, up to level 10 -/
theorem RoomD.room {k : Nat} {A : Around} (r : RoomD k A) : Room 10 A := ⟨r.hd, by have := r.dp; omega, by have := r.un; omega⟩
theorem roomD_of {j k : Nat} {A : Around} (r : Room j A) (h : k + 36 ≤ 3 * j) (h2 : k + 130 ≤ 4 * j) : RoomD k A := ⟨r.hd, by have := r.dp; omega, by have := r.un; omega⟩
structure FnD (P : Program) (w : World) (K : PySem.W.Frag) (mg : Str → Option Value) (base : Heap) (CX : CXT) (k : Nat) (f : Addr) (fd : FuncData) (ps : List Str) (sp : Sp) : Prop where
  len : ∀ vs H Q E, sp vs H Q E → vs.length = ps.length
  run : ∀ (A : Around) (outer : List PySem.Env) (s : Shared) (H : Hp) (args : Args) (us : List Value) (vs : List V) (Q : VK) (E : XK), RoomD k A → Env0 P w K mg base A outer s H → BindsTo s fd args (ps.zip us) → Vals vs us → sp vs H Q E →
    codeAny (model P w) A (.call (.ref f) args) (CR CX outer P w H s Q E) s
section
variable {P : Program} {w : World} {K : PySem.W.Frag} {mg : Str → Option Value} {base : Heap} {CX : CXT} {j k : Nat} {f : Addr} {fd : FuncData} {ps : List Str} {sp sp' : Sp}
theorem FnD.mono (F : FnD P w K mg base CX j f fd ps sp) (h : j ≤ k) : FnD P w K mg base CX k f fd ps sp :=
  ⟨F.len, fun A outer s H args us vs Q E hr => F.run A outer s H args us vs Q E (hr.mono h)⟩
theorem FnD.ok (F : FnD P w K mg base CX k f fd ps sp) (h : k + 36 ≤ 3 * j) (h2 : k + 130 ≤ 4 * j) : FnOk P w K mg base CX j f fd ps sp :=
  ⟨F.len, fun A outer s H args us vs Q E hr => F.run A outer s H args us vs Q E (roomD_of hr h h2)⟩
theorem fnD_of {name qual : Str} {params : Arguments} {body : List Stmt} {scope : Scope} {dV kV doc pm cdv ct oc : Value} {an od : Option Addr}
    {osl : Array (Option Value)} {N : List Str} (lk : K.lookup f = some ⟨oc, od, .func (PySem.W.fnOf name qual params body scope dV kV doc pm an cdv ct), osl⟩) (hcd : PySem.W.codeIn K cdv qual = true) (S : FnScope N ps scope)
    (len : ∀ vs H Q E, sp vs H Q E → vs.length = ps.length)
    (hbody : ∀ (A : Around) (outer : List PySem.Env) (s : Shared) (H : Hp) (vs : List V) (Q : VK) (E : XK), RoomD k (A.deeper (envOfC qual scope s.heap.objs.size f cdv)) → sp vs H Q E →
      ∃ t, PSs (cxOf CX P w K mg base N qual scope f cdv A outer s H E) body t ∧ t { nx := fun _ H' => Q .non H', rt := Q } (start N vs) H) :
    FnD P w K mg base CX (k + 1) f (PySem.W.fnOf name qual params body scope dV kV doc pm an cdv ct) ps sp := by
  refine ⟨len, fun A outer s H args us vs Q E hr e0 hb r hsp => ?_⟩
  have hl := len _ _ _ _ hsp
  have KX : K.In s.heap := e0.mod.kin.keeps fun b o e => (e0.bs b o e).1
  have lim : s.heap.NoLimit := e0.mod.nolimit.keeps fun b o e => (e0.bs b o e).1
  have hkind : ∀ y ∈ ps.zip us, scope.names.lookup y.1 = some .local ∨ (scope.names.lookup y.1 = some .cell ∧ ((cellsFrom (s.heap.objs.size + 1) scope.names []).lookup y.1).isSome = true) := fun ⟨n, v⟩ hy => by
    rcases S.par n (List.of_mem_zip hy).1 with q | q
    · exact .inl q
    · exact .inr ⟨q, PySem.W.cellsFrom_some _ _ _ (.inl q)⟩
  refine codeAny_call_function hr.depth (KX _ _ lk) rfl S.co S.gen rfl (PySem.W.codeRec_of KX hcd) (hb _ _ _ _ ?_)
  refine wpAny_newFunctionEnv_cells S.kind hkind fun env he s1 x => ?_
  subst he
  refine ⟨lim.keeps x.toInCall.keep, codeAny_func ?_⟩
  obtain ⟨t, ht, hq⟩ := hbody A outer s H vs Q E (hr.deeper _) hsp
  have I : Inv (cxOf CX P w K mg base N qual scope f cdv A outer s H E) [] (start N vs) H s1 := inv_start S hr.hd e0 hl r x
  refine wpAny_mono (ht.run [] s1 (start N vs) H _ I hq) (fun fl s' hs => ?_) fun e s' hs => hs
  have fin : ∀ {σ' : L2.St} {H' : Hp} {v : V} {u : Value}, Inv (cxOf CX P w K mg base N qual scope f cdv A outer s H E) [] σ' H' s' → RelV v u → Q v H' → CE outer P w H s Q u s' :=
    fun {σ' H' v u} J rv q => ⟨v, H', J.os, J.bare, J.base, J.hok, rv, q⟩
  cases fl with
  | ret u =>
    obtain ⟨v, σ', H', J, rv, q⟩ := hs
    exact fin J rv q
  | next =>
    obtain ⟨σ', H', J, q⟩ := hs
    exact fin (v := V.non) (u := Value.none) J rfl q
  | brk =>
    obtain ⟨_, _, _, q⟩ := hs
    exact False.elim q
  | cont =>
    obtain ⟨_, _, _, q⟩ := hs
    exact False.elim q
theorem Fun.okD {x qual : Str} {st : Stmt} {N : List Str} (F : Fun K x qual st f fd) (S : FnScope N ps (defScope st)) (len : ∀ vs H Q E, sp vs H Q E → vs.length = ps.length)
    (hbody : ∀ (cdv : Value) (A : Around) (outer : List PySem.Env) (s : Shared) (H : Hp) (vs : List V) (Q : VK) (E : XK), RoomD k (A.deeper (envOfC qual (defScope st) s.heap.objs.size f cdv)) → sp vs H Q E →
      ∃ t, PSs (cxOf (L2.CX P w) P w K mg base N qual (defScope st) f cdv A outer s H E) (defBody st) t ∧ t { nx := fun _ H' => Q .non H', rt := Q } (start N vs) H) : FnD P w K mg base (L2.CX P w) (k + 1) f fd ps sp := by
  obtain ⟨oc, od, kV, doc, pm, an, cdv, ct, osl, rfl, lk, hcd⟩ := F.ex
  exact fnD_of lk hcd S len fun A outer s H vs Q E hr hsp => hbody cdv A outer s H vs Q E hr hsp
end
section
variable {X : Cx} {CX : CXT} {k : Nat} {f : Addr} {fd : FuncData} {ps : List Str} {sp : Sp} {x : Str} {e : Expr} {es : List Expr} {t : TA} {p pos : Pos} {E : L2.St → XK} {σ : L2.St}
theorem run_fnD {pins : List (Addr × Obj)} {H : Hp} {s : Shared} {Q : VK} {us : List Value} {vs : List V} (F : FnD X.prog X.w X.K X.mg X.base CX k f fd ps sp) (hr : RoomD k X.A) (hb : Binds X.K fd ps []) (hx : PassesAt CX X σ (E σ))
    (I : Inv X pins σ H s) (r : Vals vs us) (h : sp vs H Q (E σ)) : wpAny (model X.prog X.w) X.A (call (.ref f) us) (EP X pins σ Q) X.xe s := by
  have hl : us.length = ps.length := by rw [← r.length]; exact F.len _ _ _ _ h
  have b := hb s us I.kIn (by rw [List.append_nil]; exact hl)
  rw [List.append_nil] at b
  refine wpAny_call (codeAny_mono (F.run X.A X.stack s H ⟨us, []⟩ us vs Q (E σ) hr I.env0 b r h) fun r s' hq => ?_)
  cases r with
  | error e => exact hx pins H s e s' I hq
  | ok fl =>
    cases fl with
    | ret u => exact I.after hq
    | next => exact False.elim hq
    | brk => exact False.elim hq
    | cont => exact False.elim hq
theorem pe_callD (F : FnD X.prog X.w X.K X.mg X.base CX k f fd ps sp) (hr : RoomD k X.A) (hg : Gl X x) (hm : X.mg x = some (.ref f)) (hk : PySem.W.keepIn X.K (.ref f) = true) (hb : Binds X.K fd ps []) (hx : ∀ σ, PassesAt CX X σ (E σ))
    (ha : PA X (e :: es) t) (hdb : (x == ("__debug__" : Str)) = false := by decide) (he : starEach (e :: es) X.env = (false, eval e X.env) :: starEach es X.env := by rfl) (hpl : (backTo pos (starEach es X.env)).any (·.1) = false := by rfl) :
    PE X (.Call (.Name x p) (e :: es) [] pos) (tCallS sp E t) := by
  refine ⟨fun pins s σ H Q I h => ?_⟩
  refine wpAny_Call_Name_kw (ld_glob I hg hm ?_ hdb)
  refine PySem.W.callWith_K (h₀ := X.base) I.ok.mod.kin hk (thn (ha.run pos pins s σ H _ I h) fun us s1 ⟨vs, H1, I1, r, q⟩ => ⟨I1.kIn, ?_⟩) he hpl
  exact run_fnD F hr hb (hx σ) I1 r q
end
end MD

namespace MD
open PySem PySem.Spec PyProof.Rows L2
/-! ### calls -/
def mCall (f : List Dt → Sto → Rs Dt) (a : MA) : ME := fun α S => (a α S).bind fun ds S1 => f ds S1
section
variable {X : Cx} {Z : KZ} {W : WX} {x : Str} {e f' : Expr} {es : List Expr} {p pos : Pos} {mr : MA} {f : List Dt → Sto → Rs Dt} {r : List V → Hp → VK → Prop} {id T : String}
theorem tA_then {σ : L2.St} {H : Hp} {Q : VK} {R : List V → Hp → Prop} (h : tE Z W (mCall f mr) σ H Q) (hR : ∀ (ρ1 : List Addr) (H1 : Hp) (S1 : Sto) (ds : List Dt) (vs : List V), RelS Z ρ1 H1 S1 → DsAt Z.K ρ1 H1 vs ds → Out Z (WO W σ) ρ1 H1 (PV Z.K Q) (f ds S1) → R vs H1) : tA Z W mr σ H R := by
  obtain ⟨ρ, S, α, rel, sl, o⟩ := h
  exact ⟨ρ, S, α, rel, sl, o.bind.mono fun ρ1 H1 d _ _ g1 _ ⟨S1, e1, rel1, o1⟩ v dv => hR ρ1 H1 S1 d v rel1 dv o1⟩
theorem m_callB (hc : CallR X (.builtin id) r) (hf : CallM Z f r) (hg : Gl X x) (hm : X.mg x = none) (hv : bootBuiltins x = some (.builtin id)) (ha : PA X (e :: es) (tA Z W mr)) (hn : x ≠ "__name__" := by decide) (hdb : (x == ("__debug__" : Str)) = false := by decide)
    (he : starEach (e :: es) X.env = (false, eval e X.env) :: starEach es X.env := by rfl) (hpl : (backTo pos (starEach es X.env)).any (·.1) = false := by rfl) : PE X (.Call (.Name x p) (e :: es) [] pos) (tE Z W (mCall f mr)) :=
  imE (pe_callB hc hg hm hv ha hn hdb he hpl) fun σ H Q h => tA_then h fun ρ1 H1 S1 ds vs rel dv o => hf _ ρ1 H1 S1 ds vs Q rel dv o
theorem m_callTy (hc : CallR X (.type T) r) (hf : CallM Z f r) (hg : Gl X x) (hm : X.mg x = none) (hv : bootBuiltins x = some (.type T)) (ha : PA X (e :: es) (tA Z W mr)) (hn : x ≠ "__name__" := by decide) (hdb : (x == ("__debug__" : Str)) = false := by decide)
    (he : starEach (e :: es) X.env = (false, eval e X.env) :: starEach es X.env := by rfl) (hpl : (backTo pos (starEach es X.env)).any (·.1) = false := by rfl) : PE X (.Call (.Name x p) (e :: es) [] pos) (tE Z W (mCall f mr)) :=
  imE (pe_callTy hc hg hm hv ha hn hdb he hpl) fun σ H Q h => tA_then h fun ρ1 H1 S1 ds vs rel dv o => hf _ ρ1 H1 S1 ds vs Q rel dv o
end
/-! own defs -/
def spM (Z : KZ) (n : Nat) (F : List Dt → Sto → Rs Dt) : Sp := fun vs H Q E => ∃ ρ S ds, RelS Z ρ H S ∧ DsAt Z.K ρ H vs ds ∧ ds.length = n ∧ Out Z E ρ H (PV Z.K Q) (F ds S)
abbrev FnM (P : Program) (w : World) (Z : KZ) (mg : Str → Option Value) (base : Heap) (k : Nat) (f : Addr) (fd : FuncData) (ps : List Str) (F : List Dt → Sto → Rs Dt) : Prop := FnD P w Z.K mg base (L2.CX P w) k f fd ps (spM Z ps.length F)
/-- a def with n parameters -/
def mOwn (n : Nat) (F : List Dt → Sto → Rs Dt) : List Dt → Sto → Rs Dt := fun ds S => if ds.length = n then F ds S else .no
section
variable {X : Cx} {Z : KZ} {W : WX} {x : Str} {e : Expr} {es : List Expr} {p pos : Pos} {mr : MA} {F : List Dt → Sto → Rs Dt} {k : Nat} {f : Addr} {fd : FuncData} {ps : List Str}
theorem spM_of {σ : L2.St} {ρ : List Addr} {H : Hp} {S : Sto} {ds : List Dt} {vs : List V} {Q : VK} (rel : RelS Z ρ H S) (dv : DsAt Z.K ρ H vs ds) (o : Out Z (WO W σ) ρ H (PV Z.K Q) (mOwn ps.length F ds S)) : spM Z ps.length F vs H Q (WE W σ) := by
  unfold mOwn at o
  split at o
  · rename_i h
    exact ⟨ρ, S, ds, rel, dv, h, o⟩
  · exact o.elim
theorem m_own {n : Nat} (G : FnM X.prog X.w Z X.mg X.base k f fd ps F) (hK : X.K = Z.K) (tk : Takes X W) (hr : RoomD k X.A) (hg : Gl X x) (hm : X.mg x = some (.ref f)) (hk : PySem.W.keepIn X.K (.ref f) = true) (hb : Binds X.K fd ps [])
    (ha : PA X (e :: es) (tA Z W mr)) (hn : ps.length = n := by rfl) (hdb : (x == ("__debug__" : Str)) = false := by decide) (he : starEach (e :: es) X.env = (false, eval e X.env) :: starEach es X.env := by rfl) (hpl : (backTo pos (starEach es X.env)).any (·.1) = false := by rfl) :
    PE X (.Call (.Name x p) (e :: es) [] pos) (tE Z W (mCall (mOwn n F) mr)) := by
  subst hn
  exact imE (pe_callD (E := WE W) (hK ▸ G) hr hg hm hk hb (passAt tk) ha hdb he hpl) fun σ H Q h => tA_then h fun ρ1 H1 S1 ds vs rel dv o => spM_of rel dv o
end
/-! builtins -/
def dLen (xs : List Dt) (S : Sto) : Rs Dt := match xs with
  | [.tup l] => .ok (.int l.length) S
  | [.con l] => .ok (.int l.length) S
  | [.scr l] => .ok (.int l.length) S
  | [.str z] => if z.length ≤ 1000000 then .ok (.int z.length) S else .no
  | [.loc n] => match S[n]? with
    | some (.lst l) => .ok (.int l.length) S
    | some (.dic l) => .ok (.int l.length) S
    | some (.dit l) => .ok (.int l.length) S
    | _ => .no
  | _ => .no
def dInt (xs : List Dt) (S : Sto) : Rs Dt := match xs with
  | [.int i] => .ok (.int i) S
  | [.bl b] => .ok (.int (if b then 1 else 0)) S
  | _ => .no
def dAbs (xs : List Dt) (S : Sto) : Rs Dt := match xs with
  | [.int i] => .ok (.int (if i < 0 then -i else i)) S
  | _ => .no
def kD : Key → Dt
  | .inl i => .int i
  | .inr x => .str x
def dTuple (xs : List Dt) (S : Sto) : Rs Dt := match xs with
  | [.tup l] => .ok (.tup l) S
  | [.loc n] => match S[n]? with
    | some (.lst l) => .ok (.tup l) S
    | some (.dic l) => .ok (.tup (l.map fun kv => kD kv.1)) S
    | _ => .no
  | _ => .no
def dList (xs : List Dt) (S : Sto) : Rs Dt := match xs with
  | [.tup l] => .ok (.loc S.length) (S ++ [.lst l])
  | [.loc n] => match S[n]? with
    | some (.lst l) => .ok (.loc S.length) (S ++ [.lst l])
    | _ => .no
  | _ => .no
/-- the name of a value's type -/
def tyN (S : Sto) : Dt → Option String
  | .non => some "NoneType"
  | .bl _ => some "bool"
  | .int _ => some "int"
  | .str _ => some "str"
  | .tup _ => some "tuple"
  | .loc n => match S[n]? with
    | some (.lst _) => some "list"
    | some (.dic _) => some "dict"
    | _ => none
  | _ => none
def dIsi (xs : List Dt) (S : Sto) : Rs Dt := match xs with
  | [x, .ty n] => match tyN S x with
    | some t => match kitB t n with
      | some b => .ok (.bl b) S
      | none => .no
    | none => .no
  | _ => .no
def intO : Dt → Option Int
  | .int i => some i
  | _ => none
def blO : Dt → Option Bool
  | .bl b => some b
  | _ => none
def dMax1 (xs : List Dt) (S : Sto) : Rs Dt := match xs with
  | [.tup l] => match mapO intO l with
    | some (n :: ns) => .ok (.int (ns.foldl max n)) S
    | _ => .no
  | [.loc k] => match S[k]? with
    | some (.lst l) => match mapO intO l with
      | some (n :: ns) => .ok (.int (ns.foldl max n)) S
      | _ => .no
    | _ => .no
  | _ => .no
def dAny (xs : List Dt) (S : Sto) : Rs Dt := match xs with
  | [.loc n] => match S[n]? with
    | some (.lst l) => match mapO blO l with
      | some bs => .ok (.bl (bs.any id)) S
      | none => .no
    | _ => .no
  | _ => .no
def dAll (xs : List Dt) (S : Sto) : Rs Dt := match xs with
  | [.loc n] => match S[n]? with
    | some (.lst l) => match mapO blO l with
      | some bs => .ok (.bl (bs.all id)) S
      | none => .no
    | _ => .no
  | _ => .no
section
variable {X : Cx} {Z : KZ} {E : XK} {K : PySem.W.Frag} {ρ : List Addr} {H : Hp} {S : Sto} {x y : Dt} {v u : V} {Q : VK} {vs : List V} {l : List Dt} {ds : List Dt}
abbrev RLen (K : PySem.W.Frag) : List V → Hp → VK → Prop := fun xs H Q => (∃ x n, xs = [x] ∧ LenV K x H n ∧ Q (.int n) H) ∨ (∃ a kvs, xs = [V.ref a] ∧ H a = some (.dK kvs) ∧ Q (.int kvs.length) H) ∨ rLenT xs H Q
theorem crLen (hK : X.K = Z.K) : CallR X (.builtin "len") (RLen Z.K) := by
  rw [← hK]
  exact CallR.or call_len (CallR.or call_lenD call_len_dT)
theorem cmLen : CallM Z dLen (RLen Z.K) := by
  intro E ρ H S xs vs Q rel dv o
  unfold dLen at o
  split at o
  · obtain ⟨v, rfl, d⟩ := dv.one
    obtain ⟨a, us, rfl, ha, da⟩ := d.tup_inv
    rw [← da.length] at o
    exact .inl ⟨_, us.length, rfl, .inr ⟨us, SqT.of ha, rfl⟩, o.here rel _ .int⟩
  · obtain ⟨v, rfl, d⟩ := dv.one
    obtain ⟨a, us, rfl, ha, da⟩ := d.con_inv
    rw [← da.length] at o
    exact .inl ⟨_, us.length, rfl, .inr ⟨us, sqT_con ha H, rfl⟩, o.here rel _ .int⟩
  · obtain ⟨v, rfl, d⟩ := dv.one
    obtain ⟨a, rfl, ha⟩ := d.scr_inv
    exact .inl ⟨_, _, rfl, .inl ⟨_, ha.sql, by rw [List.length_map]⟩, o.here rel _ .int⟩
  · obtain ⟨v, rfl, d⟩ := dv.one
    cases d
    split at o
    · exact .inl ⟨_, _, rfl, ⟨by rw [sizeLine_eq]; omega, rfl⟩, o.here rel _ .int⟩
    · exact o.elim
  · obtain ⟨v, rfl, d⟩ := dv.one
    obtain ⟨a, rfl, ha⟩ := d.loc_inv
    split at o
    · rename_i e
      obtain ⟨us, hv, da⟩ := rel.lst ha e
      rw [← da.length] at o
      exact .inl ⟨_, us.length, rfl, .inl ⟨us, SqL.of hv, rfl⟩, o.here rel _ .int⟩
    · rename_i kvs e
      obtain ⟨ws, hw, e1, e2⟩ := rel.at ha e
      have hl : kvs.length = ws.length := by
        have := congrArg List.length e1
        rw [List.length_map, List.length_map] at this
        omega
      rw [hl] at o
      exact .inr (.inl ⟨a, ws, rfl, hw, o.here rel _ .int⟩)
    · rename_i kvs e
      obtain ⟨ws, hw, e1, e2⟩ := rel.at ha e
      have hl : kvs.length = ws.length := by
        have := congrArg List.length e1
        rw [List.length_map, List.length_map] at this
        omega
      rw [hl] at o
      exact .inr (.inr ⟨a, ws, rfl, hw, o.here rel _ .int⟩)
    · exact o.elim
  · exact o.elim
theorem cmInt : CallM Z dInt (fun xs H Q => (∃ i, xs = [.int i] ∧ Q (.int i) H) ∨ ∃ k, xs = [.bl k] ∧ Q (.int (if k then 1 else 0)) H) := by
  intro E ρ H S xs vs Q rel dv o
  unfold dInt at o
  split at o
  · obtain ⟨v, rfl, d⟩ := dv.one
    cases d
    exact .inl ⟨_, rfl, o.here rel _ .int⟩
  · obtain ⟨v, rfl, d⟩ := dv.one
    cases d
    exact .inr ⟨_, rfl, o.here rel _ .int⟩
  · exact o.elim
theorem cmAbs : CallM Z dAbs (fun xs H Q => ∃ i, xs = [.int i] ∧ Q (.int (if i < 0 then -i else i)) H) := by
  intro E ρ H S xs vs Q rel dv o
  unfold dAbs at o
  split at o
  · obtain ⟨v, rfl, d⟩ := dv.one
    cases d
    exact ⟨_, rfl, o.here rel _ .int⟩
  · exact o.elim
abbrev RTuple (K : PySem.W.Frag) : List V → Hp → VK → Prop := fun xs H Q => (∃ p ys, xs = [.ref p] ∧ ((SqL K H p ys ∧ ∀ l, H l = none → Q (.ref l) (upd H l (.tup ys))) ∨ (SqT K H p ys ∧ Q (.ref p) H))) ∨ DF.rTupD xs H Q
theorem crTuple (hK : X.K = Z.K) (hc : X.calm = true) : CallR X (.type "tuple") (RTuple Z.K) := by
  rw [← hK]
  exact CallR.or call_tuple_of (DF.call_tuple_dK hc)
theorem DAt.key {K : PySem.W.Frag} (k : Key) : DAt K ρ H (kV k) (kD k) := by
  cases k with
  | inl i => exact .int
  | inr x => exact .str
theorem DsAt.keys {K : PySem.W.Frag} : ∀ ks : List Key, DsAt K ρ H (ks.map kV) (ks.map kD)
  | [] => .nil
  | k :: r => .cons (DAt.key k) (DsAt.keys r)
theorem cmTuple : CallM Z dTuple (RTuple Z.K) := by
  intro E ρ H S xs vs Q rel dv o
  unfold dTuple at o
  split at o
  · obtain ⟨v, rfl, d⟩ := dv.one
    obtain ⟨a, us, rfl, ha, da⟩ := d.tup_inv
    exact .inl ⟨a, us, rfl, .inr ⟨SqT.of ha, o.here rel _ (.tup ha da)⟩⟩
  · obtain ⟨v, rfl, d⟩ := dv.one
    obtain ⟨a, rfl, ha⟩ := d.loc_inv
    split at o
    · rename_i e
      obtain ⟨us, hv, da⟩ := rel.lst ha e
      exact .inl ⟨a, us, rfl, .inl ⟨SqL.of hv, out_tup o rel da⟩⟩
    · rename_i kvs e
      obtain ⟨ws, hw, e1, e2⟩ := rel.at ha e
      refine .inr ⟨a, ws, rfl, hw, fun p hp => out_tup o rel ?_ p hp⟩
      have h1 : (ws.map fun kv => kV kv.1) = (kvs.map (·.1)).map kV := by rw [← e1, List.map_map]; rfl
      have h2 : (kvs.map fun kv => kD kv.1) = (kvs.map (·.1)).map kD := by rw [List.map_map]; rfl
      rw [h1, h2]
      exact DsAt.keys _
    · exact o.elim
  · exact o.elim
abbrev RList (K : PySem.W.Frag) : List V → Hp → VK → Prop := fun xs H Q => ∃ p ys, xs = [.ref p] ∧ (SqL K H p ys ∨ SqT K H p ys) ∧ ∀ l, H l = none → Q (.ref l) (upd H l (.lst ys))
theorem ty_of {K : PySem.W.Frag} {t : String} (hK : Z.K = K) (rel : RelS Z ρ H S) (d : DAt K ρ H v x) (h : tyN S x = some t) : TyX K H v (.type t) := by
  unfold tyN at h
  split at h
  · cases h; cases d; exact .base .non
  · cases h; cases d; exact .base (.bl _)
  · cases h; cases d; exact .base (.int _)
  · cases h; cases d; exact .base (.str _)
  · cases h
    obtain ⟨a, us, rfl, ha, da⟩ := d.tup_inv
    exact .base (.tup ha)
  · obtain ⟨a, rfl, ha⟩ := d.loc_inv
    split at h
    · rename_i e
      cases h
      obtain ⟨us, hv, da⟩ := rel.lst ha e
      exact .base (.lst hv)
    · rename_i e
      cases h
      obtain ⟨ws, hw, _⟩ := rel.at ha e
      exact .base (.dK hw)
    · cases h
  · cases h
theorem crIsi (hK : X.K = Z.K) : CallR X (.builtin "isinstance") (rIsi Z.K) := by
  rw [← hK]
  exact call_isi
theorem cmIsi : CallM Z dIsi (rIsi Z.K) := by
  intro E ρ H S xs vs Q rel dv o
  unfold dIsi at o
  split at o
  · rename_i x n
    obtain ⟨v, w, rfl, d1, d2⟩ := dv.two
    cases d2
    split at o
    · rename_i t ht
      split at o
      · rename_i b hb
        exact ⟨v, .ty n, .type t, .type n, b, rfl, .ty n, ty_of rfl rel d1 ht, kit_ty hb, o.here rel _ .bl⟩
      · exact o.elim
    · exact o.elim
  · exact o.elim
theorem bls_of : ∀ {vs : List V} {l : List Dt} {ns : List Bool}, DsAt K ρ H vs l → mapO blO l = some ns → vs = ns.map V.bl
  | _, _, ks, .nil, h => by cases h; rfl
  | _, _, ks, .cons (d := d) (ds := r) a t, h => by
    rw [mapO] at h
    cases e1 : blO d with
    | none => rw [e1] at h; cases h
    | some p =>
      cases e2 : mapO blO r with
      | none => rw [e1, e2] at h; cases h
      | some ps' =>
        rw [e1, e2] at h
        cases h
        rw [List.map_cons, bls_of t e2]
        cases a <;> first | (cases e1; rfl) | cases e1
/-- max(t) of a list of ints -/
def rMaxL (K : PySem.W.Frag) : List V → Hp → VK → Prop := fun vs H Q => ∃ (a : Addr) (n : Int) (ns : List Int), vs = [V.ref a] ∧ SqL K H a ((n :: ns).map V.int) ∧ Q (.int (ns.foldl max n)) H
def rMaxA (K : PySem.W.Frag) : List V → Hp → VK → Prop := fun vs H Q => MX.rMaxT K vs H Q ∨ rMaxL K vs H Q
theorem crAll (hK : X.K = Z.K) (hc : X.calm = true) : CallR X (.builtin "all") (rAll Z.K) := by
  rw [← hK]
  exact cr_all hc
theorem cmAll : CallM Z dAll (rAll Z.K) := by
  intro E ρ H S xs vs Q rel dv o
  unfold dAll at o
  split at o
  · obtain ⟨v, rfl, d⟩ := dv.one
    obtain ⟨a, rfl, ha⟩ := d.loc_inv
    split at o
    · rename_i e
      obtain ⟨us, hv, da⟩ := rel.lst ha e
      split at o
      · rename_i bs eb
        rw [bls_of da eb] at hv
        exact ⟨a, bs, rfl, SqL.of hv, o.here rel _ .bl⟩
      · exact o.elim
    · exact o.elim
  · exact o.elim
end
/-! ### slices -/
def cutD {α : Type} (xs : List α) (lo hi : Option Int) : List α := (xs.drop (HT.sIx xs.length 0 lo)).take (HT.sIx xs.length xs.length hi - HT.sIx xs.length 0 lo)
def dSl (x : Dt) (lo hi : Option Int) (S : Sto) : Rs Dt := match x with
  | .tup l => .ok (.tup (cutD l lo hi)) S
  | .loc n => match S[n]? with
    | some (.lst l) => .ok (.loc S.length) (S ++ [.lst (cutD l lo hi)])
    | _ => .no
  | .scr l => .ok (.loc S.length) (S ++ [.lst ((cutD l lo hi).map .int)])
  | .str z => if z.length ≤ 1000000 then .ok (.str (cutS z lo hi)) S else .no
  | _ => .no
def mSl (f : Dt → Option Int → Option Int → Sto → Rs Dt) (a : ME) (lo hi : MO) : ME := fun α S => (a α S).bind fun x S1 => (lo α S1).bind fun l S2 => (hi α S2).bind fun u S3 => f x l u S3
def mOn : MO := fun _ S => .ok none S
def mOs (m : ME) : MO := fun α S => (m α S).bind fun x S1 => match x with
  | .int i => .ok (some i) S1
  | _ => .no
def dRev (x : Dt) (S : Sto) : Rs Dt := match x with
  | .tup l => .ok (.tup l.reverse) S
  | .loc n => match S[n]? with
    | some (.lst l) => .ok (.loc S.length) (S ++ [.lst l.reverse])
    | _ => .no
  | _ => .no
section
variable {X : Cx} {Z : KZ} {W : WX} {K : PySem.W.Frag} {ρ : List Addr} {H : Hp} {vs : List V} {l : List Dt} {e : Expr} {lo hi : Option Expr} {ma : ME} {ml mh : MO} {pos p1 p2 p3 : Pos} {i1 : Nat}
theorem cut_of {lo hi : Option Int} (da : DsAt K ρ H vs l) : DsAt K ρ H (cutV vs lo hi) (cutD l lo hi) := by
  unfold cutV cutD
  rw [da.length]
  exact (da.drop _).take _
theorem cut_ints (l : List Int) (a b : Option Int) : cutV (l.map V.int) a b = (cutD l a b).map V.int := by
  unfold cutV cutD
  rw [List.length_map, ← List.map_drop, ← List.map_take]
theorem mo_n : PO X none (tO Z W mOn) := ⟨fun pins s σ H Q I ⟨ρ, S, α, rel, sl, o⟩ => po_none.run pins s σ H Q I (o.here rel)⟩
theorem mo_s (h : PE X e (tE Z W ma)) : PO X (some e) (tO Z W (mOs ma)) := ⟨fun pins s σ H Q I ⟨ρ, S, α, rel, sl, o⟩ => (po_some h).run pins s σ H Q I ⟨ρ, S, α, rel, sl, o.bind.mono fun ρ1 H1 x _ _ g1 _ ⟨S1, e1, rel1, o1⟩ v dv => by
  cases x with
  | int i =>
    cases dv
    exact ⟨i, rfl, o1.here rel1⟩
  | _ => exact o1.elim⟩⟩
abbrev RSl (K : PySem.W.Frag) : V → Option Int → Option Int → Hp → VK → Prop := fun x lo hi H Q => (rSlA K x lo hi H Q ∨ rSlL K x lo hi H Q) ∨ rSlS x lo hi H Q
theorem srSl (hK : X.K = Z.K) : SlR X (RSl Z.K) := by
  rw [← hK]
  exact SlR.or (SlR.or sl_tupA sl_list) sl_str
theorem m_slice (hK : X.K = Z.K) (he : PE X e (tE Z W ma)) (hl : PO X lo (tO Z W ml)) (hu : PO X hi (tO Z W mh)) : PE X (.Subscript e (.Slice lo hi none p2) pos) (tE Z W (mSl dSl ma ml mh)) :=
  imE (pe_slice (srSl hK) he hl hu) fun σ H Q ⟨ρ, S, α, rel, sl, o⟩ => ⟨ρ, S, α, rel, sl, o.bind.mono fun ρ1 H1 x _ _ g1 _ ⟨S1, e1, rel1, o1⟩ v dv =>
    ⟨ρ1, S1, α, rel1, sl.go g1, o1.bind.mono fun ρ2 H2 a _ _ g2 _ ⟨S2, e2, rel2, o2⟩ => ⟨ρ2, S2, α, rel2, (sl.go g1).go g2, o2.bind.mono fun ρ3 H3 b _ _ g3 _ ⟨S3, e3, rel3, o3⟩ => by
      have dv := (dv.go g2).go g3
      unfold dSl at o3
      split at o3
      · obtain ⟨c, us, rfl, ha, da⟩ := dv.tup_inv
        refine .inl (.inl ⟨c, us, rfl, SqT.of ha, fun hw => ?_, fun hw => out_tup o3 rel3 (cut_of da)⟩)
        have e : cutV us a b = us := by
          unfold cutV
          rw [hw.1, hw.2, List.drop_zero, Nat.sub_zero, List.take_length]
        have dc := cut_of (lo := a) (hi := b) da
        rw [e] at dc
        exact o3.here rel3 _ (.tup ha dc)
      · obtain ⟨c, rfl, hc⟩ := dv.loc_inv
        split at o3
        · rename_i e
          obtain ⟨us, hv, da⟩ := rel3.lst hc e
          exact .inl (.inr ⟨c, us, rfl, SqL.of hv, out_lst o3 rel3 (cut_of da)⟩)
        · exact o3.elim
      · obtain ⟨c, rfl, hc⟩ := dv.scr_inv
        refine .inl (.inr ⟨c, _, rfl, hc.sql, fun p hp => ?_⟩)
        rw [cut_ints]
        exact out_lst o3 rel3 DsAt.ints p hp
      · cases dv
        split at o3
        · exact .inr ⟨_, rfl, by rw [sizeLine_eq]; omega, o3.here rel3 _ .str⟩
        · exact o3.elim
      · exact o3.elim⟩⟩⟩
end
end MD

namespace MD
open PySem PySem.Spec PyProof.Rows L2
/-! ### and, or, not, if .. else -/
def mAnd (a b : ME) : ME := fun α S => (a α S).bind fun x S1 => match x with
  | .bl true => b α S1
  | .bl false => .ok (.bl false) S1
  | _ => .no
def mOr (a b : ME) : ME := fun α S => (a α S).bind fun x S1 => match x with
  | .bl true => .ok (.bl true) S1
  | .bl false => b α S1
  | _ => .no
def mIf (t : MT) (a b : ME) : ME := fun α S => (t α S).bind fun c S1 => if c = true then a α S1 else b α S1
def dTru (x : Dt) (S : Sto) : Rs Bool := match x with
  | .bl b => .ok b S
  | .non => .ok false S
  | .int i => .ok (i != 0) S
  | .str y => if y.length ≤ 1000000 then .ok ((y.length : Int) != 0) S else .no
  | .tup l => .ok (!l.isEmpty) S
  | .loc n => match S[n]? with
    | some (.lst l) => .ok (!l.isEmpty) S
    | some (.dic l) => .ok (!l.isEmpty) S
    | _ => .no
  | _ => .no
def mNot (a : ME) : ME := fun α S => (a α S).bind fun x S1 => (dTru x S1).bind fun c S2 => .ok (.bl (!c)) S2
def mTru (m : ME) : MT := fun α S => (m α S).bind dTru
def mtAnd (a b : MT) : MT := fun α S => (a α S).bind fun c S1 => if c = true then b α S1 else .ok false S1
def mtOr (a b : MT) : MT := fun α S => (a α S).bind fun c S1 => if c = true then .ok true S1 else b α S1
def mtNot (a : MT) : MT := fun α S => (a α S).bind fun c S1 => .ok (!c) S1
section
variable {X : Cx} {Z : KZ} {W : WX} {K : PySem.W.Frag} {ρ : List Addr} {H : Hp} {S : Sto} {vs : List V} {l : List Dt} {e a b : Expr} {rest : List Expr} {m ma mb : ME} {t ta tb : MT} {pos : Pos} {v : V} {d : Dt}
theorem DsAt.isEmpty (h : DsAt K ρ H vs l) : vs.isEmpty = l.isEmpty := by cases h <;> rfl
theorem m_one {op : BoolOp} (h : PE X a (tE Z W ma)) : PE X (.BoolOp op [a] pos) (tE Z W ma) := pe_one h
theorem m_and (ha : PE X a (tE Z W ma)) (hb : PE X (.BoolOp .And (b :: rest) pos) (tE Z W mb)) : PE X (.BoolOp .And (a :: b :: rest) pos) (tE Z W (mAnd ma mb)) :=
  imE (pe_and ha hb) fun σ H Q ⟨ρ, S, α, rel, sl, o⟩ => ⟨ρ, S, α, rel, sl, o.bind.mono fun ρ1 H1 x _ _ g1 _ ⟨S1, e1, rel1, o1⟩ v dv => by
    cases x with
    | bl c =>
      cases dv
      refine ⟨c, rfl, ?_⟩
      cases c with
      | true => exact iteT ⟨ρ1, S1, α, rel1, sl.go g1, o1⟩
      | false => exact iteF (o1.here rel1 _ .bl)
    | _ => exact o1.elim⟩
theorem m_or (ha : PE X a (tE Z W ma)) (hb : PE X (.BoolOp .Or (b :: rest) pos) (tE Z W mb)) : PE X (.BoolOp .Or (a :: b :: rest) pos) (tE Z W (mOr ma mb)) :=
  imE (pe_or ha hb) fun σ H Q ⟨ρ, S, α, rel, sl, o⟩ => ⟨ρ, S, α, rel, sl, o.bind.mono fun ρ1 H1 x _ _ g1 _ ⟨S1, e1, rel1, o1⟩ v dv => by
    cases x with
    | bl c =>
      cases dv
      refine ⟨c, rfl, ?_⟩
      cases c with
      | true => exact iteT (o1.here rel1 _ .bl)
      | false => exact iteF ⟨ρ1, S1, α, rel1, sl.go g1, o1⟩
    | _ => exact o1.elim⟩
theorem m_if {c : Expr} (hc : PT X c (tT Z W t)) (ha : PE X a (tE Z W ma)) (hb : PE X b (tE Z W mb)) : PE X (.IfExp c a b pos) (tE Z W (mIf t ma mb)) :=
  imE (pe_ifExp hc ha hb) fun σ H Q ⟨ρ, S, α, rel, sl, o⟩ => ⟨ρ, S, α, rel, sl, o.bind.mono fun ρ1 H1 c _ _ g1 _ ⟨S1, e1, rel1, o1⟩ => by
    cases c with
    | true => exact iteT ⟨ρ1, S1, α, rel1, sl.go g1, o1⟩
    | false => exact iteF ⟨ρ1, S1, α, rel1, sl.go g1, o1⟩⟩
theorem tru_of {E : XK} {P : List Addr → Hp → Bool → Prop} {x : Dt} {S1 : Sto} (rel1 : RelS Z ρ H S1) (dv : DAt Z.K ρ H v x) (o1 : Out Z E ρ H P (dTru x S1)) : ∃ k, TruV Z.K v H k ∧ P ρ H k := by
  unfold dTru at o1
  split at o1
  · cases dv; exact ⟨_, rfl, o1.here rel1⟩
  · cases dv; exact ⟨_, rfl, o1.here rel1⟩
  · cases dv; exact ⟨_, rfl, o1.here rel1⟩
  · cases dv
    split at o1
    · exact ⟨_, ⟨by rw [sizeLine_eq]; omega, rfl⟩, o1.here rel1⟩
    · exact o1.elim
  · obtain ⟨c, us, rfl, hc, da⟩ := dv.tup_inv
    refine ⟨_, .inr (.inl ⟨us, SqT.of hc, rfl⟩), ?_⟩
    rw [da.isEmpty]
    exact o1.here rel1
  · obtain ⟨c, rfl, hc⟩ := dv.loc_inv
    split at o1
    · rename_i e
      obtain ⟨us, hv, da⟩ := rel1.lst hc e
      refine ⟨_, .inl ⟨us, SqL.of hv, rfl⟩, ?_⟩
      rw [da.isEmpty]
      exact o1.here rel1
    · rename_i e
      obtain ⟨ws, hw, e1, e2⟩ := rel1.at hc e
      refine ⟨_, .inr (.inr ⟨ws, hw, rfl⟩), ?_⟩
      have h3 := congrArg List.isEmpty e1
      rw [List.isEmpty_map, List.isEmpty_map] at h3
      rw [h3]
      exact o1.here rel1
    · exact o1.elim
  · exact o1.elim
theorem mt_truth (hK : X.K = Z.K) (ha : PE X a (tE Z W ma)) (he : ∀ whole, isTrue a X.env whole = (do let v ← whole; standAt a.pos; holding [v] (truthy v)) := by intro _; rfl) : PT X a (tT Z W (mTru ma)) :=
  imT (pt_truth ha he) fun σ H Q ⟨ρ, S, α, rel, sl, o⟩ => ⟨ρ, S, α, rel, sl, o.bind.mono fun ρ1 H1 x _ _ g1 _ ⟨S1, e1, rel1, o1⟩ v dv => by
    rw [hK]
    exact tru_of rel1 dv o1⟩
theorem m_not (hK : X.K = Z.K) (ha : PE X a (tE Z W ma)) : PE X (.UnaryOp .Not a pos) (tE Z W (mNot ma)) :=
  imE (pe_notT ha) fun σ H Q ⟨ρ, S, α, rel, sl, o⟩ => ⟨ρ, S, α, rel, sl, o.bind.mono fun ρ1 H1 x _ _ g1 _ ⟨S1, e1, rel1, o1⟩ v dv => by
    rw [hK]
    exact tru_of (P := fun _ H k => Q (.bl (!k)) H) rel1 dv (o1.bind.mono fun ρ2 H2 c _ _ g2 _ ⟨S2, e2, rel2, o2⟩ => o2.here rel2 _ .bl)⟩
theorem mt_not (ha : PT X a (tT Z W ta)) : PT X (.UnaryOp .Not a pos) (tT Z W (mtNot ta)) :=
  imT (pt_not ha) fun σ H Q ⟨ρ, S, α, rel, sl, o⟩ => ⟨ρ, S, α, rel, sl, o.bind.mono fun ρ1 H1 c _ _ g1 _ ⟨S1, e1, rel1, o1⟩ => o1.here rel1⟩
theorem mw_and1 (ha : PT X a (tT Z W ta)) : PW X (.BoolOp .And [a] pos) (tT Z W ta) := pw_and1 ha
theorem mw_or1 (ha : PT X a (tT Z W ta)) : PW X (.BoolOp .Or [a] pos) (tT Z W ta) := pw_or1 ha
theorem mw_and (ha : PT X a (tT Z W ta)) (hb : PW X (.BoolOp .And (b :: rest) pos) (tT Z W tb)) : PW X (.BoolOp .And (a :: b :: rest) pos) (tT Z W (mtAnd ta tb)) :=
  imW (pw_and ha hb) fun σ H Q ⟨ρ, S, α, rel, sl, o⟩ => ⟨ρ, S, α, rel, sl, o.bind.mono fun ρ1 H1 c _ _ g1 _ ⟨S1, e1, rel1, o1⟩ => by
    cases c with
    | true => exact iteT ⟨ρ1, S1, α, rel1, sl.go g1, o1⟩
    | false => exact iteF (o1.here rel1)⟩
theorem mw_or (ha : PT X a (tT Z W ta)) (hb : PW X (.BoolOp .Or (b :: rest) pos) (tT Z W tb)) : PW X (.BoolOp .Or (a :: b :: rest) pos) (tT Z W (mtOr ta tb)) :=
  imW (pw_or ha hb) fun σ H Q ⟨ρ, S, α, rel, sl, o⟩ => ⟨ρ, S, α, rel, sl, o.bind.mono fun ρ1 H1 c _ _ g1 _ ⟨S1, e1, rel1, o1⟩ => by
    cases c with
    | true => exact iteT (o1.here rel1)
    | false => exact iteF ⟨ρ1, S1, α, rel1, sl.go g1, o1⟩⟩
end
/-! ### methods of lists -/
def isL (x : Dt) (S : Sto) : Bool := match x with
  | .loc n => match S[n]? with
    | some (.lst _) => true
    | _ => false
  | _ => false
def mMt (f : Dt → List Dt → Sto → Rs Dt) (o : ME) (a : MA) : ME := fun α S => (o α S).bind fun x S1 => if isL x S1 = true then (a α S1).bind fun xs S2 => f x xs S2 else .no
def mMt0 (f : Dt → List Dt → Sto → Rs Dt) (o : ME) : ME := fun α S => (o α S).bind fun x S1 => if isL x S1 = true then f x [] S1 else .no
def dAppend (x : Dt) (xs : List Dt) (S : Sto) : Rs Dt := match x, xs with
  | .loc n, [d] => match S[n]? with
    | some (.lst l) => if l.length < 1000000 then .ok .non (S.set n (.lst (l ++ [d]))) else .no
    | _ => .no
  | _, _ => .no
def dExtend (x : Dt) (xs : List Dt) (S : Sto) : Rs Dt := match x, xs with
  | .loc n, [.loc k] => match S[n]?, S[k]? with
    | some (.lst l), some (.lst m) => if l.length + m.length ≤ 1000000 then .ok .non (S.set n (.lst (l ++ m))) else .no
    | _, _ => .no
  | .loc n, [.tup m] => match S[n]? with
    | some (.lst l) => if l.length + m.length ≤ 1000000 then .ok .non (S.set n (.lst (l ++ m))) else .no
    | _ => .no
  | _, _ => .no
def dPop (x : Dt) (xs : List Dt) (S : Sto) : Rs Dt := match x, xs with
  | .loc n, [] => match S[n]? with
    | some (.lst l) => match l.getLast? with
      | some d => .ok d (S.set n (.lst l.dropLast))
      | none => .no
    | _ => .no
  | _, _ => .no
def MtMd (Z : KZ) (f : Dt → List Dt → Sto → Rs Dt) (r : V → List V → Hp → VK → Prop) : Prop := ∀ (E : XK) (ρ : List Addr) (H : Hp) (S : Sto) (x : Dt) (xs : List Dt) (v : V) (vs : List V) (Q : VK), RelS Z ρ H S → DAt Z.K ρ H v x → DsAt Z.K ρ H vs xs → Out Z E ρ H (PV Z.K Q) (f x xs S) → r v vs H Q
section
variable {X : Cx} {Z : KZ} {W : WX} {K : PySem.W.Frag} {ρ : List Addr} {H : Hp} {S : Sto} {vs : List V} {l : List Dt} {o e : Expr} {es : List Expr} {mo : ME} {mr : MA} {pos apos cpos : Pos} {v : V} {x : Dt} {name : Str} {id : String} {f : Dt → List Dt → Sto → Rs Dt} {r : V → List V → Hp → VK → Prop}
theorem isL_of (hK : X.K = Z.K) (rel : RelS Z ρ H S) (dx : DAt Z.K ρ H v x) (h : isL x S = true) : tyV X.K "list" v H := by
  unfold isL at h
  split at h
  · obtain ⟨a, rfl, ha⟩ := dx.loc_inv
    split at h
    · rename_i e
      obtain ⟨us, hv, da⟩ := rel.lst ha e
      exact .inl ⟨rfl, us, SqL.of hv⟩
    · cases h
  · cases h
theorem m_bm (hK : X.K = Z.K) (pa : PlainAttrs "list") (slot : Slot "list" name id) (hty : typeOf (.builtin id) = pure (.type "method_descriptor")) (hm : MtR X id r) (hf : MtMd Z f r) (ho : PE X o (tE Z W mo)) (ha : PA X (e :: es) (tA Z W mr))
    (hbase : attributeBase o name X.env (eval o X.env) = eval o X.env := by rfl)
    (hfew : ((backTo cpos (starEach (e :: es) X.env)).all (fun x => !x.1) && (backToKw cpos (keywordEach [] X.env)).all (fun x => x.1.isSome)
      && decide ((e :: es).length + ([] : List Keyword).length + (if ([] : List Keyword).isEmpty then 0 else 1) < 30)) = true := by rfl)
    (hline : (apos.endLine == cpos.line) = true := by rfl) (hs : starEach (e :: es) X.env = (false, eval e X.env) :: starEach es X.env := by rfl) (hplain : (backTo cpos (starEach es X.env)).any (·.1) = false := by rfl) :
    PE X (.Call (.Attribute o name apos) (e :: es) [] cpos) (tE Z W (mMt f mo mr)) :=
  imE (pe_bm pa slot hty hm ho ha hbase hfew hline hs hplain) fun σ H Q ⟨ρ, S, α, rel, sl, o⟩ => ⟨ρ, S, α, rel, sl, o.bind.mono fun ρ1 H1 x _ _ g1 _ ⟨S1, e1, rel1, o1⟩ v dv => by
    by_cases hl : isL x S1 = true
    · rw [if_pos hl] at o1
      exact ⟨isL_of hK rel1 dv hl, ρ1, S1, α, rel1, sl.go g1, o1.bind.mono fun ρ2 H2 xs _ _ g2 _ ⟨S2, e2, rel2, o2⟩ vs dvs => hf _ ρ2 H2 S2 x xs v vs Q rel2 (dv.go g2) dvs o2⟩
    · rw [if_neg hl] at o1
      exact o1.elim⟩
theorem m_bm0 (hK : X.K = Z.K) (pa : PlainAttrs "list") (slot : Slot "list" name id) (hty : typeOf (.builtin id) = pure (.type "method_descriptor")) (hm : MtR X id r) (hf : MtMd Z f r) (ho : PE X o (tE Z W mo))
    (hbase : attributeBase o name X.env (eval o X.env) = eval o X.env := by rfl) (hline : (apos.endLine == cpos.line) = true := by rfl) : PE X (.Call (.Attribute o name apos) [] [] cpos) (tE Z W (mMt0 f mo)) :=
  imE (pe_bm0 pa slot hty hm ho hbase hline) fun σ H Q ⟨ρ, S, α, rel, sl, o⟩ => ⟨ρ, S, α, rel, sl, o.bind.mono fun ρ1 H1 x _ _ g1 _ ⟨S1, e1, rel1, o1⟩ v dv => by
    by_cases hl : isL x S1 = true
    · rw [if_pos hl] at o1
      exact ⟨isL_of hK rel1 dv hl, hf _ ρ1 H1 S1 x [] v [] Q rel1 dv .nil o1⟩
    · rw [if_neg hl] at o1
      exact o1.elim⟩
theorem mfAppend : MtMd Z dAppend rAppend := by
  intro E ρ H S x xs v vs Q rel dx dv o
  unfold dAppend at o
  split at o
  · rename_i n d
    obtain ⟨a, rfl, ha⟩ := dx.loc_inv
    obtain ⟨w, rfl, dw⟩ := dv.one
    split at o
    · rename_i l e
      split at o
      · obtain ⟨us, hv, da⟩ := rel.lst ha e
        refine ⟨a, us, w, rfl, rfl, hv, by rw [da.length, sizeLine_eq]; omega, ?_⟩
        exact out_put o rel ha e (fun H' g h => ⟨_, h, (da.append (.cons dw .nil)).go g⟩) .non
      · exact o.elim
    · exact o.elim
  · exact o.elim
theorem mfExtend : MtMd Z dExtend (fun x vs H Q => rExtend x vs H Q ∨ DF.rExtendT x vs H Q) := by
  intro E ρ H S x xs v vs Q rel dx dv o
  unfold dExtend at o
  split at o
  · obtain ⟨a, rfl, ha⟩ := dx.loc_inv
    obtain ⟨w, rfl, dw⟩ := dv.one
    obtain ⟨b, rfl, hb⟩ := dw.loc_inv
    split at o
    · rename_i e e2
      split at o
      · obtain ⟨us, hv, da⟩ := rel.lst ha e
        obtain ⟨ws, hw, db⟩ := rel.lst hb e2
        refine .inl ⟨a, b, us, ws, rfl, rfl, hv, hw, by rw [da.length, db.length, sizeLine_eq]; omega, ?_⟩
        exact out_put o rel ha e (fun H' g h => ⟨_, h, (da.append db).go g⟩) .non
      · exact o.elim
    · exact o.elim
  · obtain ⟨a, rfl, ha⟩ := dx.loc_inv
    obtain ⟨w, rfl, dw⟩ := dv.one
    obtain ⟨b, ws, rfl, hb, db⟩ := dw.tup_inv
    split at o
    · rename_i e
      split at o
      · obtain ⟨us, hv, da⟩ := rel.lst ha e
        refine .inr ⟨a, b, us, ws, rfl, rfl, hv, hb, by rw [da.length, db.length, sizeLine_eq]; omega, ?_⟩
        exact out_put o rel ha e (fun H' g h => ⟨_, h, (da.append db).go g⟩) .non
      · exact o.elim
    · exact o.elim
  · exact o.elim
theorem DsAt.dropLast : ∀ {vs : List V} {l : List Dt}, DsAt K ρ H vs l → DsAt K ρ H vs.dropLast l.dropLast
  | _, _, .nil => .nil
  | _, _, .cons a .nil => .nil
  | _, _, .cons a (.cons b t) => .cons a (DsAt.dropLast (.cons b t))
theorem mfPop : MtMd Z dPop rPop := by
  intro E ρ H S x xs v vs Q rel dx dv o
  unfold dPop at o
  split at o
  · obtain ⟨a, rfl, ha⟩ := dx.loc_inv
    cases dv
    split at o
    · rename_i l e
      split at o
      · rename_i d hd
        obtain ⟨us, hv, da⟩ := rel.lst ha e
        rw [List.getLast?_eq_getElem?] at hd
        obtain ⟨w, hw, dw⟩ := da.get hd
        refine ⟨a, us, w, rfl, rfl, hv, by rw [da.length]; exact hw, ?_⟩
        exact out_put o rel ha e (fun H' g h => ⟨_, h, da.dropLast.go g⟩) dw
      · exact o.elim
    · exact o.elim
  · exact o.elim
theorem mrExtend : MtR X "list.extend" (fun x vs H Q => rExtend x vs H Q ∨ DF.rExtendT x vs H Q) := MtR.or mt_extend DF.mt_extendT
end
/-! ### methods of dicts -/
def isDc (x : Dt) (S : Sto) : Option Nat := match x with
  | .loc n => match S[n]? with
    | some (.dic _) => some n
    | some (.dit _) => some n
    | _ => none
  | _ => none
def mGet1 (o a : ME) : ME := fun α S => (o α S).bind fun x S1 => match isDc x S1 with
  | some n => (a α S1).bind fun y S2 => match dGetO n y S2 with
    | some od => .ok (od.getD .non) S2
    | none => .no
  | none => .no
def mGet2 (o a b : ME) : ME := fun α S => (o α S).bind fun x S1 => match isDc x S1 with
  | some n => (a α S1).bind fun y S2 => (b α S2).bind fun z S3 => match dGetO n y S3 with
    | some od => .ok (od.getD z) S3
    | none => .no
  | none => .no
def mSetd (o a b : ME) : ME := fun α S => (o α S).bind fun x S1 => match isDc x S1 with
  | some n => (a α S1).bind fun y S2 => (b α S2).bind fun z S3 => match S3[n]? with
    | some (.dic kvs) => match keyO y with
      | some k => if kvs.length < 1000000 then (match valD kvs k with
        | some d => .ok d S3
        | none => .ok z (S3.set n (.dic (putD kvs k z)))) else .no
      | none => .no
    | _ => .no
  | none => .no
def dItems (x : Dt) (S : Sto) : Rs Dt := match x with
  | .loc n => match S[n]? with
    | some (.dic kvs) => .ok (.tup (kvs.map fun kv => .tup [kD kv.1, kv.2])) S
    | _ => .no
  | _ => .no
section
variable {X : Cx} {Z : KZ} {W : WX} {K : PySem.W.Frag} {ρ : List Addr} {H : Hp} {S : Sto} {vs : List V} {l : List Dt} {o e e2 : Expr} {mo ma mb : ME} {pos apos cpos p : Pos} {v : V} {x y : Dt}
end
end MD

namespace MD
open PySem PySem.Spec PyProof.Rows L2
/-! ### what is not reached any more goes -/
mutual
def Dt.bdd (n : Nat) : Dt → Bool
  | .tup l => Dt.bddL n l
  | .con l => Dt.bddL n l
  | .loc m => decide (m < n)
  | _ => true
def Dt.bddL (n : Nat) : List Dt → Bool
  | [] => true
  | d :: r => d.bdd n && Dt.bddL n r
end
def Cell.bdd (n : Nat) : Cell → Bool
  | .lst l => Dt.bddL n l
  | .dic l => Dt.bddL n (l.map (·.2))
  | .dit l => Dt.bddL n (l.map (·.2))
  | .ins _ l => Dt.bddL n (l.map (·.2))
def bddS (n : Nat) (S : Sto) : Bool := S.all (Cell.bdd n)
def gcR (n : Nat) (d : Dt) (S : Sto) : Rs Dt := if bddS n (S.take n) = true then (if d.bdd n = true then .ok d (S.take n) else match d with
    | .loc m => match S[m]? with
      | some c => if c.bdd n = true then .ok (.loc n) (S.take n ++ [c]) else .ok d S
      | none => .ok d S
    | _ => .ok d S) else .ok d S
def mGc (m : ME) : ME := fun α S => match m α S with
  | .ok d S' => gcR S.length d S'
  | r => r
section
variable {Z : KZ} {E : XK} {W : WX} {K : PySem.W.Frag} {ρ ρ' : List Addr} {H H' : Hp} {S S' : Sto} {Q : VK} {v : V} {d : Dt} {n : Nat} {X : Cx} {e : Expr} {m : ME}
mutual
theorem DAt.cut (h : ∀ (j : Nat) (a : Addr), j < n → ρ'[j]? = some a → ρ[j]? = some a) : ∀ {v : V} {d : Dt}, d.bdd n = true → DAt K ρ' H v d → DAt K ρ H v d
  | _, _, _, .non => .non
  | _, _, _, .bl => .bl
  | _, _, _, .int => .int
  | _, _, _, .str => .str
  | _, _, _, .ty => .ty
  | _, _, b, .tup q t => .tup q (DsAt.cut h (by rw [Dt.bdd] at b; exact b) t)
  | _, _, b, .con q t => .con q (DsAt.cut h (by rw [Dt.bdd] at b; exact b) t)
  | _, _, b, .loc q => .loc (h _ _ (by rw [Dt.bdd] at b; exact of_decide_eq_true b) q)
  | _, _, _, .scr q => .scr q
theorem DsAt.cut (h : ∀ (j : Nat) (a : Addr), j < n → ρ'[j]? = some a → ρ[j]? = some a) : ∀ {vs : List V} {ds : List Dt}, Dt.bddL n ds = true → DsAt K ρ' H vs ds → DsAt K ρ H vs ds
  | _, _, _, .nil => .nil
  | _, _, b, .cons a t => by
    rw [Dt.bddL, Bool.and_eq_true] at b
    exact .cons (DAt.cut h b.1 a) (DsAt.cut h b.2 t)
end
theorem CellAt.cut {a : Addr} {c : Cell} (h : ∀ (j : Nat) (a : Addr), j < n → ρ'[j]? = some a → ρ[j]? = some a) (b : c.bdd n = true) (q : CellAt Z ρ' H a c) : CellAt Z ρ H a c := by
  cases c with
  | lst l => obtain ⟨x, e, r⟩ := q; exact ⟨x, e, r.cut h b⟩
  | dic l => obtain ⟨x, e, s, r⟩ := q; exact ⟨x, e, s, r.cut h b⟩
  | dit l => obtain ⟨x, e, s, r⟩ := q; exact ⟨x, e, s, r.cut h b⟩
  | ins c l => obtain ⟨x, y, e, s, r⟩ := q; exact ⟨x, y, e, s, r.cut h b⟩
theorem bddS_at (h : bddS n S = true) {j : Nat} {c : Cell} (e : S[j]? = some c) : c.bdd n = true := List.all_eq_true.mp h c (List.mem_of_getElem? e)
/-- a later state without what is new -/
theorem gc_state (rel : RelS Z ρ H S) (g : Go Z.K ρ H ρ' H') (r : RelS Z ρ' H' S') (hb : bddS S.length (S'.take S.length) = true) : Go Z.K ρ H ρ H' ∧ RelS Z ρ H' (S'.take S.length) ∧ ∀ (j : Nat) (a : Addr), j < S.length → ρ'[j]? = some a → ρ[j]? = some a := by
  obtain ⟨t, ht⟩ := g.pre
  have hj : ∀ (j : Nat) (a : Addr), j < S.length → ρ'[j]? = some a → ρ[j]? = some a := fun j a hj e => by
    rw [ht, List.getElem?_append_left (by rw [rel.len]; exact hj)] at e
    exact e
  have hl : S.length ≤ S'.length := by
    have h1 := r.len
    have h2 := congrArg List.length ht
    rw [List.length_append] at h2
    have h3 := rel.len
    omega
  refine ⟨⟨⟨⟨[], by simp⟩, g.tup, g.scr⟩, g.keep, fun b h => .inl h⟩, ⟨by rw [List.length_take, rel.len]; omega, rel.nd, fun j a c h1 h2 => ?_⟩, hj⟩
  have hlt : j < S.length := by
    have := (List.getElem?_eq_some_iff.mp h1).1
    rw [rel.len] at this
    exact this
  refine CellAt.cut hj (bddS_at hb h2) (r.cell j a c (g.get h1) ?_)
  rw [List.getElem?_take_of_lt hlt] at h2
  exact h2
theorem gc_ok (rel : RelS Z ρ H S) (o : Out Z E ρ H (PV Z.K Q) (gcR S.length d S')) (g : Go Z.K ρ H ρ' H') (r : RelS Z ρ' H' S') (dv : DAt Z.K ρ' H' v d) : Q v H' := by
  unfold gcR at o
  by_cases hb : bddS S.length (S'.take S.length) = true
  · obtain ⟨g2, r2, hj⟩ := gc_state rel g r hb
    rw [if_pos hb] at o
    by_cases hd : d.bdd S.length = true
    · rw [if_pos hd] at o
      exact o ρ H' g2 r2 v (dv.cut hj hd)
    · rw [if_neg hd] at o
      cases d with
      | loc m =>
        obtain ⟨a, rfl, ha⟩ := dv.loc_inv
        dsimp only at o
        cases e : S'[m]? with
        | none => rw [e] at o; exact o ρ' H' g r _ dv
        | some c =>
          rw [e] at o
          dsimp only at o
          by_cases hc : c.bdd S.length = true
          · rw [if_pos hc] at o
            have hm : S.length ≤ m := by
              rw [Dt.bdd, decide_eq_true_eq] at hd
              omega
            have hn : a ∉ ρ := fun hmem => by
              obtain ⟨j, q⟩ := List.getElem?_of_mem hmem
              have q2 := g.get q
              have e1 := (List.getElem?_eq_some_iff.mp q2).2
              have e2 := (List.getElem?_eq_some_iff.mp ha).2
              have := (List.getElem_inj r.nd).mp (e1.trans e2.symm)
              have := (List.getElem?_eq_some_iff.mp q).1
              rw [rel.len] at this
              omega
            have hf : H a = none := (g.fresh a (List.mem_of_getElem? ha)).resolve_left hn
            have st2 : St Z.K ρ H' (ρ ++ [a]) H' := st_app [a]
            have g3 : Go Z.K ρ H (ρ ++ [a]) H' := ⟨g2.toSt.trans st2, g2.keep, fun b hb => by
              rcases List.mem_append.mp hb with q | q
              · exact .inl q
              · rw [List.mem_singleton.mp q]
                exact .inr hf⟩
            have hca := r.cell m a c ha e
            have r3 : RelS Z (ρ ++ [a]) H' (S'.take S.length ++ [c]) := by
              refine ⟨by rw [List.length_append, List.length_append, r2.len]; rfl, ?_, fun j b c' h1 h2 => ?_⟩
              · rw [List.nodup_append]
                exact ⟨rel.nd, List.nodup_cons.mpr ⟨List.not_mem_nil, List.nodup_nil⟩, fun x hx y hy e => by
                  rw [List.mem_singleton.mp hy] at e
                  exact hn (e ▸ hx)⟩
              · by_cases hl : j < ρ.length
                · rw [List.getElem?_append_left hl] at h1
                  rw [List.getElem?_append_left (by rw [← r2.len]; exact hl)] at h2
                  exact (r2.cell j b c' h1 h2).st st2 rfl
                · have hl2 : j = ρ.length := by
                    have := (List.getElem?_eq_some_iff.mp h1).1
                    rw [List.length_append, List.length_singleton] at this
                    omega
                  subst hl2
                  rw [List.getElem?_concat_length] at h1
                  rw [r2.len, List.getElem?_concat_length] at h2
                  cases h1
                  cases h2
                  exact (CellAt.cut hj hc hca).st st2 rfl
            refine o (ρ ++ [a]) H' g3 r3 _ (.loc ?_)
            rw [← rel.len]
            exact List.getElem?_concat_length
          · rw [if_neg hc] at o
            exact o ρ' H' g r _ dv
      | _ => exact o ρ' H' g r _ dv
  · rw [if_neg hb] at o
    exact o ρ' H' g r _ dv
theorem out_gc {α : Env} (rel : RelS Z ρ H S) (o : Out Z E ρ H (PV Z.K Q) (mGc m α S)) : Out Z E ρ H (PV Z.K Q) (m α S) := by
  unfold mGc at o
  cases em : m α S with
  | no => rw [em] at o; exact o
  | ex c fs S1 => rw [em] at o; exact o
  | ok d S' =>
    rw [em] at o
    exact fun ρ' H' g r v dv => gc_ok rel o g r dv
end
/-! ### statements -/
inductive Fl where
  | nx (α : Env) (S : Sto)
  | rt (d : Dt) (S : Sto)
  | bk (α : Env) (S : Sto)
  | ct (α : Env) (S : Sto)
  | ex (c : Str) (fs : List (Str × Dt)) (α : Env) (S : Sto)
  | no
abbrev MS := Env → Sto → Fl
def OutS (Z : KZ) (W : WX) (ρ : List Addr) (H : Hp) (D : Ends) : Fl → Prop
  | .nx α S => ∀ ρ' H' σ', Go Z.K ρ H ρ' H' → RelS Z ρ' H' S → SlAt Z.K ρ' H' σ' α → D.nx σ' H'
  | .rt d S => ∀ ρ' H' v, Go Z.K ρ H ρ' H' → RelS Z ρ' H' S → DAt Z.K ρ' H' v d → D.rt v H'
  | .bk α S => ∀ ρ' H' σ', Go Z.K ρ H ρ' H' → RelS Z ρ' H' S → SlAt Z.K ρ' H' σ' α → D.bk σ' H'
  | .ct α S => ∀ ρ' H' σ', Go Z.K ρ H ρ' H' → RelS Z ρ' H' S → SlAt Z.K ρ' H' σ' α → D.ct σ' H'
  | .ex c fs α S => ∀ ρ' H' σ' dx, Go Z.K ρ H ρ' H' → RelS Z ρ' H' S → SlAt Z.K ρ' H' σ' α → XAt Z ρ' H' dx fs → W (.ref (Z.cl c)) dx σ' H'
  | .no => False
def tS (Z : KZ) (W : WX) (m : MS) : TS := fun D σ H => ∃ ρ S α, RelS Z ρ H S ∧ SlAt Z.K ρ H σ α ∧ OutS Z W ρ H D (m α S)
/-- what a value leads to -/
def Rs.then {β : Type} (r : Rs β) (α : Env) (k : β → Sto → Fl) : Fl := match r with
  | .ok b S => k b S
  | .ex c fs S => .ex c fs α S
  | .no => .no
def Fl.then (f : Fl) (k : Env → Sto → Fl) : Fl := match f with
  | .nx α S => k α S
  | f => f
def mNx : MS := fun α S => .nx α S
def mSq (a b : MS) : MS := fun α S => (a α S).then b
def mSet (i : Nat) (m : ME) : MS := fun α S => (m α S).then α fun d S' => .nx (α.set i (some d)) S'
def mEx (m : ME) : MS := fun α S => (m α S).then α fun _ S' => .nx α S'
def mRt (m : ME) : MS := fun α S => (m α S).then α fun d S' => .rt d S'
def mRtN : MS := fun _ S => .rt .non S
def mIfS (c : MT) (a b : MS) : MS := fun α S => (c α S).then α fun k S' => if k = true then a α S' else b α S'
def mBk : MS := fun α S => .bk α S
def mCt : MS := fun α S => .ct α S
section
variable {X : Cx} {Z : KZ} {W : WX} {ρ ρ1 ρ' : List Addr} {H H1 H' : Hp} {D D' : Ends} {f : Fl} {m ma mb : MS} {me : ME} {mt : MT} {st : Stmt} {sts sts2 : List Stmt} {e c : Expr} {pos : Pos} {σ : L2.St} {α : Env} {S : Sto}
theorem OutS.shift (o : OutS Z W ρ H D f) (g : Go Z.K ρ H ρ1 H1) : OutS Z W ρ1 H1 D f := by
  cases f with
  | nx α S => exact fun ρ' H' σ' g' r s => o ρ' H' σ' (g.trans g') r s
  | rt d S => exact fun ρ' H' v g' r s => o ρ' H' v (g.trans g') r s
  | bk α S => exact fun ρ' H' σ' g' r s => o ρ' H' σ' (g.trans g') r s
  | ct α S => exact fun ρ' H' σ' g' r s => o ρ' H' σ' (g.trans g') r s
  | ex c fs α S => exact fun ρ' H' σ' dx g' r s x => o ρ' H' σ' dx (g.trans g') r s x
  | no => exact o
theorem OutS.mono (o : OutS Z W ρ H D f) (h : ∀ α S ρ' H' σ', f = .nx α S → Go Z.K ρ H ρ' H' → RelS Z ρ' H' S → SlAt Z.K ρ' H' σ' α → D.nx σ' H' → D'.nx σ' H') (hr : D'.rt = D.rt) (hb : D'.bk = D.bk) (hc : D'.ct = D.ct) : OutS Z W ρ H D' f := by
  cases f with
  | nx α S => exact fun ρ' H' σ' g r s => h α S ρ' H' σ' rfl g r s (o ρ' H' σ' g r s)
  | rt d S => exact fun ρ' H' v g r s => hr ▸ o ρ' H' v g r s
  | bk α S => exact fun ρ' H' σ' g r s => hb ▸ o ρ' H' σ' g r s
  | ct α S => exact fun ρ' H' σ' g r s => hc ▸ o ρ' H' σ' g r s
  | ex c fs α S => exact o
  | no => exact o
/-- a value, and what it leads to -/
theorem out_then {β : Type} {r : Rs β} {k : β → Sto → Fl} {P : List Addr → Hp → β → Prop} (sl : SlAt Z.K ρ H σ α) (o : OutS Z W ρ H D (r.then α k)) (h : ∀ ρ' H' b S', r = .ok b S' → Go Z.K ρ H ρ' H' → RelS Z ρ' H' S' → OutS Z W ρ' H' D (k b S') → P ρ' H' b) : Out Z (WO W σ) ρ H P r := by
  cases r with
  | ok b S' => exact fun ρ' H' g rel => h ρ' H' b S' rfl g rel (OutS.shift o g)
  | ex c fs S' => exact fun ρ' H' d g rel x => o ρ' H' σ d g rel (sl.go g) x
  | no => exact o
theorem imS {t t' : TS} (h : PS X st t) (i : ∀ D σ H, t' D σ H → t D σ H) : PS X st t' := ⟨fun pins s σ H D I q => h.run pins s σ H D I (i D σ H q)⟩
theorem imSs {t t' : TS} (h : PSs X sts t) (i : ∀ D σ H, t' D σ H → t D σ H) : PSs X sts t' := ⟨fun pins s σ H D I q => h.run pins s σ H D I (i D σ H q)⟩
theorem ms0 : PSs X [] (tS Z W mNx) := imSs pss_nil fun D σ H ⟨ρ, S, α, rel, sl, o⟩ => o ρ H σ Go.refl rel sl
theorem ms1 (h : PS X st (tS Z W m)) : PSs X [st] (tS Z W m) := pss_one h
theorem ms2 (h : PS X st (tS Z W ma)) (h2 : PSs X sts (tS Z W mb)) : PSs X (st :: sts) (tS Z W (mSq ma mb)) :=
  imSs (pss_cons h h2) fun D σ H ⟨ρ, S, α, rel, sl, o⟩ => ⟨ρ, S, α, rel, sl, by
    unfold mSq at o
    cases em : ma α S with
    | nx α1 S1 =>
      rw [em] at o
      exact fun ρ' H' σ' g r s => ⟨ρ', S1, α1, r, s, OutS.shift o g⟩
    | rt d S1 => rw [em] at o; exact o
    | bk α1 S1 => rw [em] at o; exact o
    | ct α1 S1 => rw [em] at o; exact o
    | ex c fs α1 S1 => rw [em] at o; exact o
    | no => rw [em] at o; exact o⟩
theorem ms_set {i : Nat} {x : Str} {pos' : Pos} (hN : X.N.Nodup) (hi : X.N[i]? = some x) (hx : Loc X.env.scope x) (he : PE X e (tE Z W me)) (hs : swapsWith e (some (.Name x pos')) pos.line X.env = pure false := by rfl) (hf : X.fn x = true ∨ X.env.scope.names.lookup x = some .local := by first | exact .inl rfl | exact .inr rfl | assumption) :
    PS X (.Assign [.Name x pos'] e pos) (tS Z W (mSet i (mGc me))) :=
  imS (ps_set hN hi hx he hs hf) fun D σ H ⟨ρ, S, α, rel, sl, o⟩ => ⟨ρ, S, α, rel, sl, out_gc rel (out_then (P := PV Z.K _) sl o fun ρ' H' d S' _ g r o' v dv => o' ρ' H' _ Go.refl r ((sl.go g).set i dv))⟩
theorem ms_expr (he : PE X e (tE Z W me)) (hs : swapsWith e none pos.line X.env = pure false := by rfl) : PS X (.Expr e pos) (tS Z W (mEx (mGc me))) :=
  imS (ps_expr he hs) fun D σ H ⟨ρ, S, α, rel, sl, o⟩ => ⟨ρ, S, α, rel, sl, out_gc rel (out_then (P := PV Z.K _) sl o fun ρ' H' d S' _ g r o' v dv => o' ρ' H' _ Go.refl r (sl.go g))⟩
theorem ms_ret (he : PE X e (tE Z W me)) : PS X (.Return (some e) pos) (tS Z W (mRt me)) :=
  imS (ps_ret he) fun D σ H ⟨ρ, S, α, rel, sl, o⟩ => ⟨ρ, S, α, rel, sl, out_then (P := PV Z.K _) sl o fun ρ' H' d S' _ g r o' v dv => o' ρ' H' v Go.refl r dv⟩
theorem ms_if {a b : List Stmt} (hc : PT X c (tT Z W mt)) (ha : PSs X a (tS Z W ma)) (hb : PSs X b (tS Z W mb)) : PS X (.If c a b pos) (tS Z W (mIfS mt ma mb)) :=
  imS (ps_if hc ha hb) fun D σ H ⟨ρ, S, α, rel, sl, o⟩ => ⟨ρ, S, α, rel, sl, out_then sl o fun ρ' H' k S' _ g r o' => by
    cases k with
    | true => exact iteT ⟨ρ', S', α, r, sl.go g, o'⟩
    | false => exact iteF ⟨ρ', S', α, r, sl.go g, o'⟩⟩
end
/-! ### targets -/
abbrev MG := Dt → Env → Option Env
def gN (i : Nat) : MG := fun d α => some (α.set i (some d))
def gT (is : List Nat) : MG := fun d α => match d with
  | .tup l => if l.length = is.length then some ((is.zip l).foldl (fun α p => α.set p.1 (some p.2)) α) else none
  | _ => none
/-- the target's reading keeps to the model's: only the slots `own` change -/
def GOk (K : PySem.W.Frag) (own : List Nat) (g : TG) (mg : MG) : Prop := ∀ (ρ : List Addr) (H : Hp) (σ : L2.St) (α α' : Env) (v : V) (d : Dt) (Q : L2.St → Hp → Prop), DAt K ρ H v d → SlAt K ρ H σ α → mg d α = some α' →
  (∀ σ', σ'.length = σ.length → (∀ j, j ∉ own → σ'[j]? = σ[j]?) → SlAt K ρ H σ' α' → Q σ' H) → g v σ H Q
section
variable {K : PySem.W.Frag} {ρ : List Addr} {H : Hp}
theorem gok_n (i : Nat) : GOk K [i] (gName i) (gN i) := fun ρ H σ α α' v d Q dv sl e h => by
  cases e
  exact h _ (List.length_set ..) (fun j hj => List.getElem?_set_ne (fun q => hj (by rw [q]; exact List.mem_singleton.mpr rfl))) (sl.set i dv)
def gNames : List Nat → TGs
  | [] => gNil
  | i :: r => gCons (gName i) (gNames r)
end
/-! ### while -/
/-- so many turns at most -/
def whN (c : MT) (b : MS) : Nat → Env → Sto → Fl
  | 0, _, _ => .no
  | n + 1, α, S => (c α S).then α fun k S' => if k = true then (match b α S' with
    | .nx α2 S2 => whN c b n α2 S2
    | .ct α2 S2 => whN c b n α2 S2
    | .bk α2 S2 => .nx α2 S2
    | f => f) else .nx α S'
open Classical in
noncomputable def mWh (c : MT) (b : MS) : MS := fun α S => if h : ∃ n, whN c b n α S ≠ .no then whN c b h.choose α S else .no
theorem whN_mono {c : MT} {b : MS} : ∀ (n : Nat) (α : Env) (S : Sto), whN c b n α S ≠ .no → ∀ m, n ≤ m → whN c b m α S = whN c b n α S
  | 0, α, S, h, m, _ => absurd rfl h
  | n + 1, α, S, h, 0, hm => absurd hm (by omega)
  | n + 1, α, S, h, m + 1, hm => by
    unfold whN at h ⊢
    cases ec : c α S with
    | no => rfl
    | ex _ _ _ => rfl
    | ok k S' =>
      rw [ec] at h
      dsimp only [Rs.then] at h ⊢
      cases k with
      | false => rfl
      | true =>
        rw [if_pos rfl] at h
        rw [if_pos rfl, if_pos rfl]
        cases eb : b α S' with
        | nx α2 S2 =>
          rw [eb] at h
          exact whN_mono n α2 S2 h m (by omega)
        | ct α2 S2 =>
          rw [eb] at h
          exact whN_mono n α2 S2 h m (by omega)
        | _ => rfl
theorem mWh_of {c : MT} {b : MS} {n : Nat} {α : Env} {S : Sto} (h : whN c b n α S ≠ .no) : mWh c b α S = whN c b n α S := by
  have hx : ∃ n, whN c b n α S ≠ .no := ⟨n, h⟩
  unfold mWh
  rw [dif_pos hx]
  rcases Nat.le_total n hx.choose with q | q
  · exact whN_mono n α S h _ q
  · exact (whN_mono _ α S hx.choose_spec _ q).symm
/-- a turn of the loop -/
theorem mWh_eq (c : MT) (b : MS) (α : Env) (S : Sto) : mWh c b α S = (c α S).then α fun k S' => if k = true then (match b α S' with
    | .nx α2 S2 => mWh c b α2 S2
    | .ct α2 S2 => mWh c b α2 S2
    | .bk α2 S2 => .nx α2 S2
    | f => f) else .nx α S' := by
  by_cases hx : ∃ n, whN c b n α S ≠ .no
  · obtain ⟨n, h⟩ := hx
    rw [mWh_of h]
    cases n with
    | zero => exact absurd rfl h
    | succ n =>
      unfold whN at h ⊢
      cases ec : c α S with
      | no => rfl
      | ex _ _ _ => rfl
      | ok k S' =>
        rw [ec] at h
        dsimp only [Rs.then] at h ⊢
        cases k with
        | false => rfl
        | true =>
          rw [if_pos rfl] at h
          rw [if_pos rfl, if_pos rfl]
          cases eb : b α S' with
          | nx α2 S2 =>
            rw [eb] at h
            exact (mWh_of h).symm
          | ct α2 S2 =>
            rw [eb] at h
            exact (mWh_of h).symm
          | _ => rfl
  · have hn : mWh c b α S = .no := by unfold mWh; rw [dif_neg hx]
    rw [hn]
    have all : ∀ n, whN c b n α S = .no := fun n => by
      by_cases q : whN c b n α S = .no
      · exact q
      · exact absurd ⟨n, q⟩ hx
    cases ec : c α S with
    | no => rfl
    | ex cc fs S1 =>
      have := all 1
      unfold whN at this
      rw [ec] at this
      exact this.symm
    | ok k S' =>
      dsimp only [Rs.then]
      cases k with
      | false =>
        have := all 1
        unfold whN at this
        rw [ec] at this
        exact this.symm
      | true =>
        rw [if_pos rfl]
        have step : ∀ n, (match b α S' with
            | .nx α2 S2 => whN c b n α2 S2
            | .ct α2 S2 => whN c b n α2 S2
            | .bk α2 S2 => .nx α2 S2
            | f => f) = .no := fun n => by
          have := all (n + 1)
          unfold whN at this
          rw [ec] at this
          exact this
        cases eb : b α S' with
        | nx α2 S2 =>
          rw [eb] at step
          have : ¬ ∃ n, whN c b n α2 S2 ≠ .no := fun ⟨n, h⟩ => h (step n)
          show Fl.no = mWh c b α2 S2
          unfold mWh
          rw [dif_neg this]
        | ct α2 S2 =>
          rw [eb] at step
          have : ¬ ∃ n, whN c b n α2 S2 ≠ .no := fun ⟨n, h⟩ => h (step n)
          show Fl.no = mWh c b α2 S2
          unfold mWh
          rw [dif_neg this]
        | no => rfl
        | rt d S2 => rw [eb] at step; exact (step 0).symm
        | bk d S2 => rw [eb] at step; exact (step 0).symm
        | ex c1 fs d S2 => rw [eb] at step; exact (step 0).symm
section
variable {X : Cx} {Z : KZ} {W : WX} {c : Expr} {body : List Stmt} {mt : MT} {mb : MS} {pos : Pos}
theorem ms_while (hp : PassesOwn (model X.prog X.w) X.A X.env X.xe) (hc : PT X c (tT Z W mt)) (hb : PSs X body (tS Z W mb)) : PS X (.While c body [] pos) (tS Z W (mWh mt mb)) :=
  imS (ps_while hp hc hb) fun D σ H ⟨ρ, S, α, rel, sl, o⟩ => by
    have hx : ∃ n, whN mt mb n α S ≠ .no := by
      by_cases hx : ∃ n, whN mt mb n α S ≠ .no
      · exact hx
      · unfold mWh at o
        rw [dif_neg hx] at o
        exact o.elim
    obtain ⟨n, hn⟩ := hx
    rw [mWh_of hn] at o
    refine ⟨fun n σ H => ∃ ρ S α, RelS Z ρ H S ∧ SlAt Z.K ρ H σ α ∧ OutS Z W ρ H D (whN mt mb n α S), ⟨n, ρ, S, α, rel, sl, o⟩, ?_⟩
    clear o hn n rel sl
    rintro n σ H ⟨ρ, S, α, rel, sl, o⟩
    cases n with
    | zero => exact o.elim
    | succ n =>
      unfold whN at o
      refine ⟨ρ, S, α, rel, sl, out_then sl o fun ρ' H' k S' _ g r o' => ?_⟩
      cases k with
      | false => exact iteF (o' ρ' H' σ Go.refl r (sl.go g))
      | true =>
        refine iteT ⟨fun σ H => ∃ ρ S α, RelS Z ρ H S ∧ SlAt Z.K ρ H σ α ∧ OutS Z W ρ H D (whN mt mb n α S), fun σ' H' h => ⟨n, Nat.lt_succ_self n, h⟩, ρ', S', α, r, sl.go g, ?_⟩
        rw [if_pos rfl] at o'
        cases eb : mb α S' with
        | nx α2 S2 =>
          rw [eb] at o'
          exact fun ρ2 H2 σ2 g2 r2 s2 => ⟨ρ2, S2, α2, r2, s2, OutS.shift o' g2⟩
        | ct α2 S2 =>
          rw [eb] at o'
          exact fun ρ2 H2 σ2 g2 r2 s2 => ⟨ρ2, S2, α2, r2, s2, OutS.shift o' g2⟩
        | bk α2 S2 => rw [eb] at o'; exact o'
        | rt d S2 => rw [eb] at o'; exact o'
        | ex c fs α2 S2 => rw [eb] at o'; exact o'
        | no => rw [eb] at o'; exact o'
end
end MD

namespace MD
open PySem PySem.Spec PyProof.Rows L2
/-! ### what is walked: the items, and the list that has to stay -/
abbrev ItM := List Dt × Option (Nat × List Dt)
abbrev MI := Env → Sto → Rs ItM
def chk (c : Option (Nat × List Dt)) (S : Sto) : Prop := match c with
  | none => True
  | some (n, l) => S[n]? = some (.lst l)
def ItOk (Z : KZ) (ρ0 : List Addr) (H0 : Hp) (J : It) (it : ItM) : Prop := ∀ (ρ : List Addr) (H : Hp) (S : Sto), St Z.K ρ0 H0 ρ H → RelS Z ρ H S → chk it.2 S → ∀ i : Nat,
  (∀ d, it.1[i]? = some d → J.go i H ∧ ∀ x H', J.yld i H x H' → Go Z.K ρ H ρ H' ∧ RelS Z ρ H' S ∧ DAt Z.K ρ H' x d) ∧ (it.1.length ≤ i → J.stop i H)
def tI (Z : KZ) (W : WX) (m : MI) : TI := fun σ H R => ∃ ρ S α, RelS Z ρ H S ∧ SlAt Z.K ρ H σ α ∧ Out Z (WO W σ) ρ H (fun ρ' H' it => ∀ J, ItOk Z ρ' H' J it → R J H') (m α S)
def itOf (x : Dt) (S : Sto) : Rs ItM := match x with
  | .tup l => .ok (l, none) S
  | .scr l => .ok (l.map .int, none) S
  | .loc n => match S[n]? with
    | some (.lst l) => .ok (l, some (n, l)) S
    | _ => .no
  | _ => .no
def mIt (m : ME) : MI := fun α S => (m α S).bind itOf
def mIrev (m : ME) : MI := fun α S => (m α S).bind fun x S1 => (itOf x S1).bind fun it S2 => .ok (it.1.reverse, it.2) S2
def rngD (lo : Int) (n : Nat) : List Dt := (List.range n).map fun (k : Nat) => .int (lo + (k : Int))
def mIr1 (a : MA) : MI := fun α S => (a α S).bind fun xs S1 => match xs with
  | [.int j] => if -(2 ^ 62) ≤ j ∧ j < 2 ^ 62 then .ok (rngD 0 j.toNat, none) S1 else .no
  | _ => .no
def mIr2 (a : MA) : MI := fun α S => (a α S).bind fun xs S1 => match xs with
  | [.int i, .int j] => if -(2 ^ 62) ≤ i ∧ i < 2 ^ 62 ∧ -(2 ^ 62) ≤ j ∧ j < 2 ^ 62 then .ok (rngD i (j - i).toNat, none) S1 else .no
  | _ => .no
section
variable {X : Cx} {Z : KZ} {W : WX} {K : PySem.W.Frag} {ρ ρ0 ρ' : List Addr} {H H0 H' : Hp} {S S' : Sto} {tg e iter a b : Expr} {m : ME} {mr : MA} {p pos : Pos} {v : V} {x : Dt} {l : List Dt} {vs : List V}
theorem imI {t t' : TI} (h : PI X tg iter t) (i : ∀ σ H R, t' σ H R → t σ H R) : PI X tg iter t' := ⟨fun pins s σ H R I q => h.run pins s σ H R I (i σ H R q)⟩
theorem orI {t t2 : TI} (h : PI X tg iter t) (h2 : PI X tg iter t2) : PI X tg iter (fun σ H R => t σ H R ∨ t2 σ H R) := ⟨fun pins s σ H R I q => by
  rcases q with q | q
  · exact h.run pins s σ H R I q
  · exact h2.run pins s σ H R I q⟩
theorem ok_rev {n i : Nat} {l : List Dt} {d : Dt} (hl : l.length = n) (h : l.reverse[i]? = some d) : i < n ∧ l[n - 1 - i]? = some d := by
  have hi : i < l.reverse.length := (List.getElem?_eq_some_iff.mp h).1
  rw [List.length_reverse] at hi
  rw [List.getElem?_reverse hi] at h
  exact ⟨by omega, by rw [← hl]; exact h⟩
theorem itOk_tup {a : Addr} (ha : H0 a = some (.tup vs)) (da : DsAt Z.K ρ0 H0 vs l) : ItOk Z ρ0 H0 (Itt Z.K a) (l, none) := fun ρ H S st rel _ i => by
  have ha' := st.tup _ _ ha
  have da' := da.st st
  refine ⟨fun d hd => ?_, fun hl => ⟨vs, SqT.of ha', by rw [da'.length]; exact hl⟩⟩
  obtain ⟨w, hw, dw⟩ := da'.get hd
  refine ⟨⟨vs, w, SqT.of ha', hw⟩, fun x H' ⟨e1, e2⟩ => ?_⟩
  subst e1
  have := e2 vs (SqT.of ha')
  rw [hw] at this
  cases this
  exact ⟨Go.refl, rel, dw⟩
theorem itOk_revT {a : Addr} (ha : H0 a = some (.tup vs)) (da : DsAt Z.K ρ0 H0 vs l) : ItOk Z ρ0 H0 (RT.ItvT Z.K a vs.length) (l.reverse, none) := fun ρ H S st rel _ i => by
  have ha' := st.tup _ _ ha
  have da' := da.st st
  refine ⟨fun d hd => ?_, fun hl => (by show vs.length ≤ i; rw [da'.length]; have hl : l.reverse.length ≤ i := hl; rw [List.length_reverse] at hl; exact hl)⟩
  obtain ⟨hi, hd⟩ := ok_rev da'.length.symm hd
  obtain ⟨w, hw, dw⟩ := da'.get hd
  refine ⟨⟨hi, vs, w, SqT.of ha', hw⟩, fun x H' ⟨e1, e2⟩ => ?_⟩
  subst e1
  have := e2 vs (SqT.of ha')
  rw [hw] at this
  cases this
  exact ⟨Go.refl, rel, dw⟩
theorem itOk_lst {a : Addr} {n : Nat} (ha : ρ0[n]? = some a) : ItOk Z ρ0 H0 (Itl Z.K a) (l, some (n, l)) := fun ρ H S st rel hc i => by
  obtain ⟨vs, hv, da⟩ := rel.lst (st.get ha) hc
  refine ⟨fun d hd => ?_, fun hl => ⟨vs, SqL.of hv, by rw [da.length]; exact hl⟩⟩
  obtain ⟨w, hw, dw⟩ := da.get hd
  refine ⟨⟨vs, w, SqL.of hv, hw⟩, fun x H' ⟨e1, e2⟩ => ?_⟩
  subst e1
  have := e2 vs (SqL.of hv)
  rw [hw] at this
  cases this
  exact ⟨Go.refl, rel, dw⟩
theorem itOk_revL {a : Addr} {n k : Nat} (ha : ρ0[n]? = some a) (hk : k = l.length) : ItOk Z ρ0 H0 (Itv Z.K a k) (l.reverse, some (n, l)) := fun ρ H S st rel hc i => by
  obtain ⟨vs, hv, da⟩ := rel.lst (st.get ha) hc
  refine ⟨fun d hd => ?_, fun hl => (by show k ≤ i; have hl : l.reverse.length ≤ i := hl; rw [List.length_reverse] at hl; omega)⟩
  obtain ⟨hi, hd⟩ := ok_rev hk.symm hd
  obtain ⟨w, hw, dw⟩ := da.get hd
  refine ⟨⟨hi, vs, w, SqL.of hv, hw⟩, fun x H' ⟨e1, e2⟩ => ?_⟩
  subst e1
  have := e2 vs (SqL.of hv)
  rw [hw] at this
  cases this
  exact ⟨Go.refl, rel, dw⟩
theorem itOk_scr {a : Addr} {ns : List Int} (ha : ScrAt Z.K H0 a ns) : ItOk Z ρ0 H0 (Itl Z.K a) (ns.map .int, none) := fun ρ H S st rel _ i => by
  have ha' := (st.scr _ _ ha).sql
  refine ⟨fun d hd => ?_, fun hl => ⟨_, ha', by rw [List.length_map]; have hl : (ns.map Dt.int).length ≤ i := hl; rw [List.length_map] at hl; exact hl⟩⟩
  have hd : (ns.map Dt.int)[i]? = some d := hd
  rw [List.getElem?_map] at hd
  obtain ⟨k, hk, rfl⟩ := Option.map_eq_some_iff.mp hd
  have hw : (ns.map V.int)[i]? = some (.int k) := by rw [List.getElem?_map, hk]; rfl
  refine ⟨⟨_, _, ha', hw⟩, fun x H' ⟨e1, e2⟩ => ?_⟩
  subst e1
  have := e2 _ ha'
  rw [hw] at this
  cases this
  exact ⟨Go.refl, rel, .int⟩
theorem itOk_revS {a : Addr} {ns : List Int} (ha : ScrAt Z.K H0 a ns) : ItOk Z ρ0 H0 (Itv Z.K a (ns.map V.int).length) ((ns.map .int).reverse, none) := fun ρ H S st rel _ i => by
  have ha' := (st.scr _ _ ha).sql
  refine ⟨fun d hd => ?_, fun hl => (by show _ ≤ i; rw [List.length_map]; have hl : (ns.map Dt.int).reverse.length ≤ i := hl; rw [List.length_reverse, List.length_map] at hl; exact hl)⟩
  obtain ⟨hi, hd⟩ := ok_rev (l := ns.map Dt.int) (n := ns.length) (List.length_map ..) hd
  rw [List.getElem?_map] at hd
  obtain ⟨k, hk, rfl⟩ := Option.map_eq_some_iff.mp hd
  have hw : (ns.map V.int)[(ns.map V.int).length - 1 - i]? = some (.int k) := by rw [List.length_map, List.getElem?_map, hk]; rfl
  refine ⟨⟨by rw [List.length_map]; exact hi, _, _, ha', hw⟩, fun x H' ⟨e1, e2⟩ => ?_⟩
  subst e1
  have := e2 _ ha'
  rw [hw] at this
  cases this
  exact ⟨Go.refl, rel, .int⟩
theorem itOk_rng {lo : Int} {n : Nat} : ItOk Z ρ0 H0 (Itr lo n) (rngD lo n, none) := fun ρ H S st rel _ i => by
  have hlen : (rngD lo n).length = n := by unfold rngD; rw [List.length_map, List.length_range]
  refine ⟨fun d hd => ?_, fun hl => (by show n ≤ i; have hl : (rngD lo n).length ≤ i := hl; omega)⟩
  have hi : i < n := by
    have := (List.getElem?_eq_some_iff.mp hd).1
    have this : i < (rngD lo n).length := this
    omega
  have hd : (rngD lo n)[i]? = some d := hd
  unfold rngD at hd
  rw [List.getElem?_map, List.getElem?_range hi] at hd
  cases hd
  refine ⟨hi, fun x H' ⟨e1, e2⟩ => ?_⟩
  subst e1 e2
  exact ⟨Go.refl, rel, .int⟩
theorem m_it (hK : X.K = Z.K) (he : PE X e (tE Z W m)) : PI X tg e (tI Z W (mIt m)) :=
  imI (orI (pi_list he) (pi_tup he)) fun σ H R ⟨ρ, S, α, rel, sl, o⟩ => by
    rw [hK]
    cases em : m α S with
    | no => unfold mIt at o; rw [em] at o; exact o.elim
    | ex c fs S1 =>
      refine .inl ⟨ρ, S, α, rel, sl, ?_⟩
      unfold mIt at o
      rw [em] at o ⊢
      exact o
    | ok x S1 =>
      have o' : Out Z (WO W σ) ρ H (fun ρ' H' it => ∀ J, ItOk Z ρ' H' J it → R J H') (itOf x S1) := by unfold mIt at o; rw [em] at o; exact o
      unfold itOf at o'
      split at o'
      · refine .inr ⟨ρ, S, α, rel, sl, ?_⟩
        rw [em]
        refine fun ρ1 H1 g1 rel1 v dv => ?_
        obtain ⟨a, us, rfl, ha, da⟩ := dv.tup_inv
        exact ⟨a, rfl, ⟨us, SqT.of ha⟩, (o'.shift g1).here rel1 _ (itOk_tup ha da)⟩
      · refine .inl ⟨ρ, S, α, rel, sl, ?_⟩
        rw [em]
        refine fun ρ1 H1 g1 rel1 v dv => ?_
        obtain ⟨a, rfl, ha⟩ := dv.scr_inv
        exact ⟨a, rfl, ⟨_, ha.sql⟩, (o'.shift g1).here rel1 _ (itOk_scr ha)⟩
      · split at o'
        · rename_i e
          refine .inl ⟨ρ, S, α, rel, sl, ?_⟩
          rw [em]
          refine fun ρ1 H1 g1 rel1 v dv => ?_
          obtain ⟨a, rfl, ha⟩ := dv.loc_inv
          obtain ⟨us, hv, da⟩ := rel1.lst ha e
          exact ⟨a, rfl, ⟨us, SqL.of hv⟩, (o'.shift g1).here rel1 _ (itOk_lst ha)⟩
        · exact o'.elim
      · exact o'.elim
theorem m_irev (hK : X.K = Z.K) (hg : Gl X "reversed") (hm : X.mg "reversed" = none) (he : PE X e (tE Z W m)) (hs : starEach [e] X.env = (false, eval e X.env) :: starEach [] X.env := by rfl) : PI X tg (.Call (.Name "reversed" p) [e] [] pos) (tI Z W (mIrev m)) :=
  imI (RT.pi_revA hg hm he hs) fun σ H R ⟨ρ, S, α, rel, sl, o⟩ => by
    rw [hK]
    refine ⟨ρ, S, α, rel, sl, o.bind.mono fun ρ1 H1 x _ _ g1 _ ⟨S1, e1, rel1, o1⟩ v dv => ?_⟩
    unfold itOf at o1
    split at o1
    · obtain ⟨a, us, rfl, ha, da⟩ := dv.tup_inv
      exact ⟨a, us, rfl, .inr ⟨SqT.of ha, o1.here rel1 _ (itOk_revT ha da)⟩⟩
    · obtain ⟨a, rfl, ha⟩ := dv.scr_inv
      exact ⟨a, _, rfl, .inl ⟨ha.sql, o1.here rel1 _ (itOk_revS ha)⟩⟩
    · obtain ⟨a, rfl, ha⟩ := dv.loc_inv
      split at o1
      · rename_i e
        obtain ⟨us, hv, da⟩ := rel1.lst ha e
        exact ⟨a, us, rfl, .inl ⟨SqL.of hv, o1.here rel1 _ (itOk_revL ha da.length)⟩⟩
      · exact o1.elim
    · exact o1.elim
theorem m_ir1 (hg : Gl X "range") (hm : X.mg "range" = none) (ha : PA X [a] (tA Z W mr)) (hs : starEach [a] X.env = [(false, eval a X.env)] := by rfl) : PI X tg (.Call (.Name "range" p) [a] [] pos) (tI Z W (mIr1 mr)) :=
  imI (pi_range1 hg hm ha hs) fun σ H R ⟨ρ, S, α, rel, sl, o⟩ => ⟨ρ, S, α, rel, sl, o.bind.mono fun ρ1 H1 xs _ _ g1 _ ⟨S1, e1, rel1, o1⟩ vs dv => by
    split at o1
    · obtain ⟨w, rfl, dw⟩ := dv.one
      cases dw
      split at o1
      · rename_i h
        exact ⟨_, rfl, h.1, h.2, o1.here rel1 _ itOk_rng⟩
      · exact o1.elim
    · exact o1.elim⟩
end
/-! ### for -/
open Classical in
noncomputable def forGo (c : Option (Nat × List Dt)) (g : MG) (b : MS) : List Dt → Env → Sto → Fl
  | [], α, S => .nx α S
  | d :: r, α, S => match g d α with
    | none => .no
    | some α1 => match b α1 S with
      | .nx α2 S2 => if chk c S2 then forGo c g b r α2 S2 else .no
      | .ct α2 S2 => if chk c S2 then forGo c g b r α2 S2 else .no
      | .bk α2 S2 => .nx α2 S2
      | f => f
noncomputable def mFor (mi : MI) (g : MG) (b : MS) : MS := fun α S => (mi α S).then α fun it S' => forGo it.2 g b it.1 α S'
def chk0 {it : ItM} {S S1 : Sto} (m : MI) (α : Env) : Prop := m α S = .ok it S1 → chk it.2 S1
/-- a source whose list stands there -/
def Src (m : MI) : Prop := ∀ α S it S1, m α S = .ok it S1 → chk it.2 S1
theorem itOf_src {x : Dt} {S S1 : Sto} {it : ItM} (h : itOf x S = .ok it S1) : chk it.2 S1 := by
  unfold itOf at h
  split at h
  · cases h; exact True.intro
  · cases h; exact True.intro
  · split at h
    · rename_i e
      cases h
      exact e
    · cases h
  · cases h
theorem src_it (m : ME) : Src (mIt m) := fun α S it S1 h => by
  unfold mIt at h
  cases em : m α S with
  | ok x S' => rw [em] at h; exact itOf_src h
  | ex c fs S' => rw [em] at h; cases h
  | no => rw [em] at h; cases h
theorem src_rev (m : ME) : Src (mIrev m) := fun α S it S1 h => by
  unfold mIrev at h
  cases em : m α S with
  | ok x S' =>
    rw [em] at h
    have h : (itOf x S').bind (fun it S2 => Rs.ok (it.1.reverse, it.2) S2) = .ok it S1 := h
    cases ei : itOf x S' with
    | ok y S2 =>
      rw [ei] at h
      cases h
      exact itOf_src (x := x) (S := S') (it := y) ei
    | ex c fs S2 => rw [ei] at h; cases h
    | no => rw [ei] at h; cases h
  | ex c fs S' => rw [em] at h; cases h
  | no => rw [em] at h; cases h
theorem src_r1 (m : MA) : Src (mIr1 m) := fun α S it S1 h => by
  unfold mIr1 at h
  cases em : m α S with
  | ok x S' =>
    rw [em] at h
    dsimp only [Rs.bind] at h
    split at h
    · split at h
      · cases h; exact True.intro
      · cases h
    · cases h
  | ex c fs S' => rw [em] at h; cases h
  | no => rw [em] at h; cases h
section
variable {X : Cx} {Z : KZ} {W : WX} {tg iter : Expr} {body : List Stmt} {mi : MI} {g : TG} {mg : MG} {mb : MS} {own : List Nat} {pos : Pos}
open Classical in
theorem ms_for (hp : PassesOwn (model X.prog X.w) X.A X.env X.xe) (hc : X.calm = true) (hi : PI X tg iter (tI Z W mi)) (src : Src mi) (hg : PG X tg g) (gk : GOk Z.K own g mg) (hb : PSs X body (tS Z W mb))
    (hs : ∀ x, foldedSetIterable iter X.env x = pure x := by intro _; rfl) : PS X (.For tg iter body [] pos) (tS Z W (mFor mi mg mb)) :=
  imS (ps_for hp hc hi hg hb hs) fun D σ H ⟨ρ, S, α, rel, sl, o⟩ => ⟨ρ, S, α, rel, sl, out_then sl o fun ρ1 H1 it S1 e1 g1 rel1 o1 J ok => by
    have c1 := src α S it S1 e1
    refine ⟨fun i m σ H => ∃ ρ S α, St Z.K ρ1 H1 ρ H ∧ RelS Z ρ H S ∧ SlAt Z.K ρ H σ α ∧ chk it.2 S ∧ m = (it.1.drop i).length ∧ OutS Z W ρ H D (forGo it.2 mg mb (it.1.drop i) α S), ⟨_, ρ1, S1, α, Go.refl.toSt, rel1, sl.go g1, c1, rfl, o1⟩, ?_⟩
    clear o o1 e1 c1 rel1 rel g1 sl
    rintro i m σ H ⟨ρ, S, α, st, rel, sl, c, hm, o⟩
    subst hm
    obtain ⟨ok1, ok2⟩ := ok ρ H S st rel c i
    cases hd : it.1.drop i with
    | nil =>
      rw [hd] at o
      have hl : it.1.length ≤ i := List.drop_eq_nil_iff.mp hd
      exact .inl ⟨ok2 hl, o ρ H σ Go.refl rel sl⟩
    | cons d r =>
      rw [hd] at o
      have hg : it.1[i]? = some d := by
        have := congrArg (·[0]?) hd
        simpa using this
      have hr : r = it.1.drop (i + 1) := by
        have := congrArg List.tail hd
        rw [List.tail_drop] at this
        exact this.symm
      obtain ⟨go, yld⟩ := ok1 d hg
      refine .inr ⟨go, fun σ' H' => ∃ ρ S α, St Z.K ρ1 H1 ρ H' ∧ RelS Z ρ H' S ∧ SlAt Z.K ρ H' σ' α ∧ chk it.2 S ∧ OutS Z W ρ H' D (forGo it.2 mg mb r α S), fun σ' H' ⟨ρ', S', α', st', rel', sl', c', o'⟩ => ⟨_, by rw [List.length_cons]; exact Nat.lt_succ_self _, ρ', S', α', st', rel', sl', c', by rw [hr], by rw [← hr]; exact o'⟩, fun x H' hy => ?_⟩
      obtain ⟨g2, rel2, dx⟩ := yld x H' hy
      unfold forGo at o
      cases em : mg d α with
      | none => rw [em] at o; exact o.elim
      | some α1 =>
        rw [em] at o
        refine gk ρ H' σ α α1 x d _ dx (sl.go g2) em fun σ' _ _ sl' => ⟨ρ, S, α1, rel2, sl', ?_⟩
        have o := OutS.shift o g2
        dsimp only at o
        have nxt : ∀ α2 S2, OutS Z W ρ H' D (if chk it.2 S2 then forGo it.2 mg mb r α2 S2 else .no) → ∀ ρ' H'' σ', Go Z.K ρ H' ρ' H'' → RelS Z ρ' H'' S2 → SlAt Z.K ρ' H'' σ' α2 → ∃ ρ S α, St Z.K ρ1 H1 ρ H'' ∧ RelS Z ρ H'' S ∧ SlAt Z.K ρ H'' σ' α ∧ chk it.2 S ∧ OutS Z W ρ H'' D (forGo it.2 mg mb r α S) := by
          intro α2 S2 o ρ' H'' σ' g r s
          by_cases hk : chk it.2 S2
          · rw [if_pos hk] at o
            exact ⟨ρ', S2, α2, (st.trans g2.toSt).trans g.toSt, r, s, hk, OutS.shift o g⟩
          · rw [if_neg hk] at o
            exact o.elim
        cases eb : mb α1 S with
        | nx α2 S2 => rw [eb] at o; exact nxt α2 S2 o
        | ct α2 S2 => rw [eb] at o; exact nxt α2 S2 o
        | bk α2 S2 => rw [eb] at o; exact o
        | rt d S2 => rw [eb] at o; exact o
        | ex c fs α2 S2 => rw [eb] at o; exact o
        | no => rw [eb] at o; exact o⟩
end
/-! ### comprehensions -/
abbrev WF : WX := fun _ _ _ _ => False
def wipeE (α : Env) : List Nat → Env
  | [] => α
  | v :: vs => (wipeE α vs).set v none
def mYes : MT := fun _ S => .ok true S
open Classical in
noncomputable def lcGo (c : Option (Nat × List Dt)) (g : MG) (t : MT) (m : ME) (α : Env) : List Dt → List Dt → Sto → Rs (List Dt)
  | [], acc, S => .ok acc S
  | d :: r, acc, S => match g d α with
    | none => .no
    | some α1 => match t α1 S with
      | .ok true S1 => match m α1 S1 with
        | .ok y S2 => if acc.length < 1000000 ∧ chk c S2 then lcGo c g t m α r (acc ++ [y]) S2 else .no
        | _ => .no
      | .ok false S1 => if chk c S1 then lcGo c g t m α r acc S1 else .no
      | _ => .no
noncomputable def mLc (vs : List Nat) (mi : MI) (g : MG) (t : MT) (m : ME) : ME := fun α S => (mi α S).bind fun it S1 => (lcGo it.2 g t m (wipeE α vs) it.1 [] S1).bind fun ds S2 => .ok (.loc S2.length) (S2 ++ [Cell.lst ds])
open Classical in
noncomputable def dcGo (c : Option (Nat × List Dt)) (g : MG) (t : MT) (mk mv : ME) (α : Env) : List Dt → List (Key × Dt) → Sto → Rs (List (Key × Dt))
  | [], acc, S => .ok acc S
  | d :: r, acc, S => match g d α with
    | none => .no
    | some α1 => match t α1 S with
      | .ok true S1 => match mk α1 S1 with
        | .ok y S2 => match mv α1 S2 with
          | .ok z S3 => match keyO y with
            | some k => if acc.length < 1000000 ∧ chk c S3 then dcGo c g t mk mv α r (putD acc k z) S3 else .no
            | none => .no
          | _ => .no
        | _ => .no
      | .ok false S1 => if chk c S1 then dcGo c g t mk mv α r acc S1 else .no
      | _ => .no
noncomputable def mDc (vs : List Nat) (mi : MI) (g : MG) (t : MT) (mk mv : ME) : ME := fun α S => (mi α S).bind fun it S1 => (dcGo it.2 g t mk mv (wipeE α vs) it.1 [] S1).bind fun ds S2 => .ok (.loc S2.length) (S2 ++ [Cell.dic ds])
section
variable {X : Cx} {Z : KZ} {W : WX} {K : PySem.W.Frag} {ρ ρ1 ρ' : List Addr} {H H1 H' : Hp} {S : Sto} {σ : L2.St} {α : Env} {D : Addr} {o o' : HO}
theorem wipeE_length (α : Env) : ∀ vs : List Nat, (wipeE α vs).length = α.length
  | [] => rfl
  | v :: vs => by unfold wipeE; rw [List.length_set, wipeE_length α vs]
theorem wipeE_some {i : Nat} {d : Dt} : ∀ {vs : List Nat}, (wipeE α vs)[i]? = some (some d) → α[i]? = some (some d) ∧ i ∉ vs
  | [], h => ⟨h, List.not_mem_nil⟩
  | v :: vs, h => by
    unfold wipeE at h
    by_cases hi : v = i
    · subst hi
      by_cases hv : v < (wipeE α vs).length
      · rw [List.getElem?_set_self hv] at h; cases h
      · rw [List.getElem?_eq_none (by simpa using hv)] at h; cases h
    · rw [List.getElem?_set_ne hi] at h
      obtain ⟨h1, h2⟩ := wipeE_some h
      exact ⟨h1, by simp only [List.mem_cons, not_or]; exact ⟨fun e => hi e.symm, h2⟩⟩
theorem SlAt.wipe (s : SlAt K ρ H σ α) (vs : List Nat) : SlAt K ρ H (wipe σ vs) (wipeE α vs) := ⟨by rw [wipe_length, wipeE_length, s.1], fun i d h => by
  obtain ⟨h1, h2⟩ := wipeE_some h
  obtain ⟨v, hv, dv⟩ := s.2 i d h1
  exact ⟨v, by rw [wipe_out h2]; exact hv, dv⟩⟩
theorem wipe_in {i : Nat} : ∀ {vs : List Nat}, i ∈ vs → (wipe σ vs)[i]? = if i < σ.length then some none else none
  | v :: vs, h => by
    show ((wipe σ vs).set v none)[i]? = _
    by_cases hi : v = i
    · subst hi
      by_cases hv : v < σ.length
      · rw [List.getElem?_set_self (by rw [wipe_length]; exact hv), if_pos hv]
      · rw [List.getElem?_eq_none (by rw [List.length_set, wipe_length]; omega), if_neg hv]
    · rw [List.getElem?_set_ne hi]
      exact wipe_in ((List.mem_cons.mp h).resolve_left (fun e => hi e.symm))
theorem wipe_same {σ σ' : L2.St} {vs : List Nat} (hl : σ'.length = σ.length) (h : ∀ j, j ∉ vs → σ'[j]? = (wipe σ vs)[j]?) : wipe σ' vs = wipe σ vs := by
  refine List.ext_getElem? fun j => ?_
  by_cases hj : j ∈ vs
  · rw [wipe_in hj, wipe_in hj, hl]
  · rw [wipe_out hj, h j hj]
/-- an object of ours that the model does not track is written -/
theorem go_off (g : Go K ρ H ρ1 H1) (hD : H D = none) (h : H1 D = some o) (m : mutO o = true) (hn : D ∉ ρ1) : Go K ρ H ρ1 (upd H1 D o') := ⟨g.toSt.trans (st_mut h m o'), fun b u q hb => by
  rw [upd_ne (ne_of_none q hD)]
  exact g.keep b u q hb, g.fresh⟩
theorem rel_off (rel : RelS Z ρ H S) (h : H D = some o) (m : mutO o = true) (hn : D ∉ ρ) : RelS Z ρ (upd H D o') S := ⟨rel.len, rel.nd, fun n a c h1 h2 => (rel.cell n a c h1 h2).st (st_mut h m o') (upd_ne fun e => hn (e ▸ List.mem_of_getElem? h1))⟩
theorem off_go (g : Go K ρ H ρ1 H1) (h : H D = some o) (hn : D ∉ ρ) : D ∉ ρ1 ∧ H1 D = some o := by
  have h1 := g.keep D o h hn
  refine ⟨fun hm => ?_, h1⟩
  rcases g.fresh D hm with q | q
  · exact hn q
  · rw [h] at q; cases q
variable {tg iter elt kx vx : Expr} {ifs : List Expr} {scope : Scope} {own : List (Str × Nat)} {pos : Pos} {mi : MI} {g : TG} {mg : MG} {mt : MT} {me mk mv : ME}
theorem mts0 : PTs X [] (tT Z W mYes) := ⟨fun pins s σ H Q I ⟨ρ, S, α, rel, sl, o⟩ => pts_nil.run pins s σ H Q I (o.here rel)⟩
theorem mts1 {c : Expr} (h : PT X c (tT Z W mt)) : PTs X [c] (tT Z W mt) := pts_one h
open Classical in
theorem lc_imp {σ : L2.St} {H : Hp} {Q : VK} (src : Src mi) (gk : GOk Z.K (own.map (·.2)) g mg) (h : tE Z W (mLc (own.map (·.2)) mi mg mt me) σ H Q) : tLc (tI Z W mi) g (tT Z WF mt) (tE Z WF me) (own.map (·.2)) σ H Q :=
  match h with
  | ⟨ρ, S, α, rel, sl, o⟩ => ⟨ρ, S, α, rel, sl, o.bind.mono fun ρ1 H1 it S1' em g1 _ ⟨S1, e1, rel1, o1⟩ J ok D hD => by
    have c1 := src α S it S1 e1
    have sl1 := (sl.go g1).wipe (own.map (·.2))
    refine ⟨fun i m H => ∃ ρ S acc accV, Go Z.K ρ1 H1 ρ H ∧ RelS Z ρ H S ∧ D ∉ ρ ∧ H D = some (.lst accV) ∧ DsAt Z.K ρ H accV acc ∧ chk it.2 S ∧ m = (it.1.drop i).length ∧ Out Z (WO W σ) ρ1 H1 (PV Z.K Q) ((lcGo it.2 mg mt me (wipeE α (own.map (·.2))) (it.1.drop i) acc S).bind fun ds S2 => Rs.ok (Dt.loc S2.length) (S2 ++ [Cell.lst ds])),
      ⟨_, ρ1, S1, [], [], go_new hD _, rel1.new hD _, rel1.not_mem hD, upd_same, .nil, c1, rfl, o1⟩, ?_⟩
    clear o o1 c1 e1 em
    rintro i m H2 ⟨ρ2, S2, acc, accV, g2, rel2, hn, hHD, dacc, c2, hm, o2⟩
    subst hm
    obtain ⟨ok1, ok2⟩ := ok ρ2 H2 S2 g2.toSt rel2 c2 i
    cases hd : it.1.drop i with
    | nil =>
      rw [hd] at o2
      refine .inl ⟨ok2 (List.drop_eq_nil_iff.mp hd), ?_⟩
      have o2 : Out Z (WO W σ) ρ1 H1 (PV Z.K Q) (.ok (.loc S2.length) (S2 ++ [Cell.lst acc])) := o2
      have st2 : St Z.K ρ2 H2 (ρ2 ++ [D]) H2 := st_app [D]
      refine o2 (ρ2 ++ [D]) H2 ⟨g2.toSt.trans st2, g2.keep, fun b hb => ?_⟩ ⟨by rw [List.length_append, List.length_append, rel2.len]; rfl, ?_, fun n a c h1 h2 => ?_⟩ _ (.loc (by rw [← rel2.len]; exact List.getElem?_concat_length))
      · rcases List.mem_append.mp hb with q | q
        · exact g2.fresh b q
        · rw [List.mem_singleton.mp q]
          exact .inr hD
      · rw [List.nodup_append]
        exact ⟨rel2.nd, List.nodup_cons.mpr ⟨List.not_mem_nil, List.nodup_nil⟩, fun x hx y hy e => by
          rw [List.mem_singleton.mp hy] at e
          exact hn (e ▸ hx)⟩
      · by_cases hl : n < ρ2.length
        · rw [List.getElem?_append_left hl] at h1
          rw [List.getElem?_append_left (by rw [← rel2.len]; exact hl)] at h2
          exact (rel2.cell n a c h1 h2).st st2 rfl
        · have hl2 : n = ρ2.length := by
            have := (List.getElem?_eq_some_iff.mp h1).1
            rw [List.length_append, List.length_singleton] at this
            omega
          subst hl2
          rw [List.getElem?_concat_length] at h1
          rw [rel2.len, List.getElem?_concat_length] at h2
          cases h1
          cases h2
          exact ⟨accV, hHD, dacc.st st2⟩
    | cons d r =>
      rw [hd] at o2
      have hgi : it.1[i]? = some d := by
        have := congrArg (·[0]?) hd
        simpa using this
      have hr : r = it.1.drop (i + 1) := by
        have := congrArg List.tail hd
        rw [List.tail_drop] at this
        exact this.symm
      obtain ⟨go, yld⟩ := ok1 d hgi
      refine .inr ⟨go, fun H' => ∃ ρ S acc accV, Go Z.K ρ1 H1 ρ H' ∧ RelS Z ρ H' S ∧ D ∉ ρ ∧ H' D = some (.lst accV) ∧ DsAt Z.K ρ H' accV acc ∧ chk it.2 S ∧ Out Z (WO W σ) ρ1 H1 (PV Z.K Q) ((lcGo it.2 mg mt me (wipeE α (own.map (·.2))) r acc S).bind fun ds S2 => Rs.ok (Dt.loc S2.length) (S2 ++ [Cell.lst ds])),
        fun H' ⟨ρ', S', acc', accV', g', rel', hn', hHD', dacc', c', o'⟩ => ⟨_, by rw [List.length_cons]; exact Nat.lt_succ_self _, ρ', S', acc', accV', g', rel', hn', hHD', dacc', c', by rw [hr], by rw [← hr]; exact o'⟩, fun x H' hy => ?_⟩
      obtain ⟨g3, rel3, dx⟩ := yld x H' hy
      obtain ⟨hn3, hHD3⟩ := off_go g3 hHD hn
      have g13 := g2.trans g3
      unfold lcGo at o2
      cases em : mg d (wipeE α (own.map (·.2))) with
      | none => rw [em] at o2; exact o2.elim
      | some α1 =>
        rw [em] at o2
        dsimp only at o2
        refine gk ρ2 H' (wipe σ (own.map (·.2))) _ α1 x d _ dx (sl1.go g13) em ?_
        intro σ2 hlen hj sl2
        refine ⟨wipe_same (by rw [hlen, wipe_length]) hj, ρ2, S2, α1, rel3, sl2, ?_⟩
        cases et : mt α1 S2 with
        | no => rw [et] at o2; exact o2.elim
        | ex c fs S3 => rw [et] at o2; exact o2.elim
        | ok b S3 =>
          rw [et] at o2
          intro ρ4 H4 g4 rel4
          obtain ⟨hn4, hHD4⟩ := off_go g4 hHD3 hn3
          cases b with
          | false =>
            refine iteF ?_
            dsimp only at o2
            by_cases hk : chk it.2 S3
            · rw [if_pos hk] at o2
              exact ⟨ρ4, S3, acc, accV, g13.trans g4, rel4, hn4, hHD4, (dacc.go g3).go g4, hk, o2⟩
            · rw [if_neg hk] at o2
              exact o2.elim
          | true =>
            refine iteT ⟨ρ4, S3, α1, rel4, sl2.go g4, ?_⟩
            dsimp only at o2
            cases ee : me α1 S3 with
            | no => rw [ee] at o2; exact o2.elim
            | ex c fs S4 => rw [ee] at o2; exact o2.elim
            | ok y S4 =>
              rw [ee] at o2
              intro ρ5 H5 g5 rel5 v dv
              obtain ⟨hn5, hHD5⟩ := off_go g5 hHD4 hn4
              dsimp only at o2
              by_cases hk : acc.length < 1000000 ∧ chk it.2 S4
              · rw [if_pos hk] at o2
                have d5 := ((dacc.go g3).go g4).go g5
                refine ⟨accV, hHD5, by rw [d5.length, sizeLine_eq]; omega, ρ5, S4, acc ++ [y], accV ++ [v], go_off ((g13.trans g4).trans g5) hD hHD5 rfl hn5, rel_off rel5 hHD5 rfl hn5, hn5, upd_same, (d5.append (.cons dv .nil)).st (st_mut hHD5 rfl _), hk.2, o2⟩
              · rw [if_neg hk] at o2
                exact o2.elim⟩
open Classical in
theorem m_lc (hc : X.calm = true) (hN : X.N.Nodup) (hi : PI X tg iter (tI Z W mi)) (src : Src mi) (ok : BlkOk X.N X.env.scope scope own)
    (hg : ∀ (s : Shared) (H : Hp) (C : Addr) (cl : List (Str × Addr)) (fp : List Addr), PG (X.blk s H scope (compEnvC scope cl C X.env) fp) tg g) (gk : GOk Z.K (own.map (·.2)) g mg) (ht : ∀ (s : Shared) (H : Hp) (C : Addr) (cl : List (Str × Addr)) (fp : List Addr), PTs (X.blk s H scope (compEnvC scope cl C X.env) fp) ifs (tT Z WF mt))
    (he : ∀ (s : Shared) (H : Hp) (C : Addr) (cl : List (Str × Addr)) (fp : List Addr), PE (X.blk s H scope (compEnvC scope cl C X.env) fp) elt (tE Z WF me)) (hs : ∀ x, foldedSetIterable iter X.env x = pure x := by intro _; rfl) :
    PE X (.ListComp elt [⟨tg, iter, ifs, 0⟩] scope pos) (tE Z W (mLc (own.map (·.2)) mi mg mt me)) :=
  imE (pe_lc hc hN hi ok hg ht he hs) fun σ H Q h => lc_imp src gk h
end
end MD

namespace MD
open PySem PySem.Spec PyProof.Rows L2
/-! ### further statements -/
/-- a, b = e -/
def mAsg (g : MG) (m : ME) : MS := fun α S => (m α S).then α fun d S' => match g d α with
  | some α' => .nx α' S'
  | none => .no
/-- o[i] = e -/
def dSetI (o i d : Dt) (S : Sto) : Option Sto := match o with
  | .loc n => match S[n]? with
    | some (.lst l) => match i with
      | .int k => match ixN l.length k with
        | some j => some (S.set n (.lst (l.set j d)))
        | none => none
      | _ => none
    | _ => none
  | _ => none
def mSub (o i m : ME) : MS := fun α S => (m α S).then α fun d S1 => (o α S1).then α fun x S2 => (i α S2).then α fun y S3 => match dSetI x y d S3 with
  | some S4 => .nx α S4
  | none => .no
def dPutI (o i d : Dt) (S : Sto) : Option Sto := match o with
  | .loc n => match S[n]? with
    | some (.dic kvs) => match keyO i with
      | some k => if kvs.length < 1000000 then some (S.set n (.dic (putD kvs k d))) else none
      | none => none
    | some (.dit kvs) => match keysO i with
      | some k => if kvs.length < 1000000 then some (S.set n (.dit (putD kvs k d))) else none
      | none => none
    | _ => none
  | _ => none
def mDPut (o i m : ME) : MS := fun α S => (m α S).then α fun d S1 => (o α S1).then α fun x S2 => (i α S2).then α fun y S3 => match dPutI x y d S3 with
  | some S4 => .nx α S4
  | none => .no
/-- del o[e:] -/
def dDelF (o i : Dt) (S : Sto) : Option Sto := match o with
  | .loc n => match S[n]? with
    | some (.lst l) => match i with
      | .int k => if 0 ≤ k ∧ k ≤ (l.length : Int) then some (S.set n (.lst (l.take k.toNat))) else none
      | _ => none
    | _ => none
  | _ => none
def mDelF (o e : ME) : MS := fun α S => (o α S).then α fun x S1 => (e α S1).then α fun y S2 => match dDelF x y S2 with
  | some S3 => .nx α S3
  | none => .no
section
variable {X : Cx} {Z : KZ} {W : WX} {tg o i e value : Expr} {mo mi m me : ME} {g : TG} {mg : MG} {own : List Nat} {pos pos' tpos p1 p2 p3 : Pos} {i1 : Nat} {ρ ρ' : List Addr} {H : Hp} {S S' : Sto} {D : Ends} {σ : L2.St} {α : Env}
theorem outS_put {n : Nat} {a : Addr} {c c' : Cell} {o' : HO} (oo : OutS Z W ρ H D (.nx α (S.set n c'))) (rel : RelS Z ρ H S) (sl : SlAt Z.K ρ H σ α) (ha : ρ[n]? = some a) (hc : S[n]? = some c) (hc' : ∀ H', Go Z.K ρ H ρ H' → H' a = some o' → CellAt Z ρ H' a c') : D.nx σ (upd H a o') := by
  obtain ⟨u, hu, mu⟩ := (rel.at ha hc).there
  have g : Go Z.K ρ H ρ (upd H a o') := go_mut (List.mem_of_getElem? ha) hu mu o'
  exact oo ρ _ σ g (rel.put ha hc (hc' _ g upd_same)) (sl.go g)
theorem ms_sub (ho : PE X o (tE Z W mo)) (hi : PE X i (tE Z W mi)) (he : PE X e (tE Z W me)) (hs : swapsWithSole [.Subscript o i tpos] e pos.line X.env = pure false := by rfl) (hw : swappedStores [.Subscript o i tpos] e X.env = pure none := by rfl) (h1 : (assignEach [.Subscript o i tpos] X.env).map (·.2) = [assign (.Subscript o i tpos) X.env] := by rfl)
    (hq : ∀ v, assign (.Subscript o i tpos) X.env v = (do
      let ov ← holding [v] (eval o X.env)
      let iv ← holding [v, ov] (eval i X.env)
      standAt tpos
      holding [v, ov, iv] (setItem ov iv v)
      release [v, ov, iv] []) := by intro _; rfl) :
    PS X (.Assign [.Subscript o i tpos] e pos) (tS Z W (mSub mo mi me)) :=
  imS (ps_asg he (pg_sub ho hi set_list hq) hs hw h1) fun D σ H ⟨ρ, S, α, rel, sl, oo⟩ => ⟨ρ, S, α, rel, sl, out_then (P := PV Z.K _) sl oo fun ρ1 H1 d S1 _ g1 r1 o1 v dv =>
    ⟨ρ1, S1, α, r1, sl.go g1, out_then (P := PV Z.K _) (sl.go g1) o1 fun ρ2 H2 x S2 _ g2 r2 o2 w dw => ⟨ρ2, S2, α, r2, (sl.go g1).go g2, out_then (P := PV Z.K _) ((sl.go g1).go g2) o2 fun ρ3 H3 y S3 _ g3 r3 o3 u du => by
      have dw := dw.go g3
      have dv := (dv.go g2).go g3
      have sl3 := ((sl.go g1).go g2).go g3
      cases es : dSetI x y d S3 with
      | none => rw [es] at o3; exact o3.elim
      | some S4 =>
        rw [es] at o3
        unfold dSetI at es
        split at es
        · obtain ⟨a, rfl, ha⟩ := dw.loc_inv
          split at es
          · rename_i e
            obtain ⟨us, hv, da⟩ := r3.lst ha e
            split at es
            · cases du
              split at es
              · rename_i j hj
                cases es
                refine ⟨a, us, _, j, rfl, rfl, hv, by rw [da.length]; exact hj, ?_⟩
                exact outS_put o3 r3 sl3 ha e fun H' g h => ⟨_, h, (da.set j dv).go g⟩
              · cases es
            · cases es
          · cases es
        · cases es⟩⟩⟩
end
/-! ### list(zip(a, b)), tuple(enumerate(a)) of tuples -/
def dZip (xs : List Dt) (S : Sto) : Rs Dt := match xs with
  | [.tup a, .tup b] => .ok (.loc S.length) (S ++ [.lst ((a.zip b).map fun p => .tup [p.1, p.2])])
  | _ => .no
def enumD (l : List Dt) : List Dt := (((List.range l.length).map fun (n : Nat) => Dt.int (n : Int)).zip l).map fun p => .tup [p.1, p.2]
def dEnum (x : Dt) (S : Sto) : Rs Dt := match x with
  | .tup a => .ok (.tup (enumD a)) S
  | _ => .no
section
variable {X : Cx} {Z : KZ} {W : WX} {e e2 : Expr} {mr : MA} {ma : ME} {p p2 cpos pos : Pos} {K : PySem.W.Frag} {ρ : List Addr} {H : Hp}
theorem same_go {ρ : List Addr} {H H' : Hp} (s : Same H H') : Go K ρ H ρ H' := ⟨⟨⟨[], by simp⟩, fun b xs q => s _ _ q, fun b l q => by
  rcases q with ⟨u, q⟩ | q
  · exact .inl ⟨u, s _ _ q⟩
  · exact .inr q⟩, fun b u q _ => s _ _ q, fun _ h => .inl h⟩
theorem RelS.same {ρ : List Addr} {H H' : Hp} {S : Sto} (rel : RelS Z ρ H S) (s : Same H H') : RelS Z ρ H' S := ⟨rel.len, rel.nd, fun n b c q1 q2 => by
  have q := rel.cell n b c q1 q2
  obtain ⟨u, eu, _⟩ := q.there
  exact q.st (same_go s).toSt ((s _ _ eu).trans eu.symm)⟩
end
/-! ### defs -/
def startE (n : Nat) (ds : List Dt) : Env := ds.map some ++ List.replicate (n - ds.length) none
def gcX (n : Nat) (c : Str) (fs : List (Str × Dt)) (S : Sto) : Rs Dt := if bddS n (S.take n) = true ∧ Dt.bddL n (fs.map (·.2)) = true then .ex c fs (S.take n) else .ex c fs S
def mFn (n : Nat) (b : MS) : List Dt → Sto → Rs Dt := fun ds S => match b (startE n ds) S with
  | .nx _ S' => gcR S.length .non S'
  | .rt d S' => gcR S.length d S'
  | .ex c fs _ S' => gcX S.length c fs S'
  | _ => .no
section
variable {P : Program} {w : World} {Z : KZ} {mg : Str → Option Value} {base : Heap}
theorem XAt.cut {ρ ρ' : List Addr} {H : Hp} {n : Nat} {d : Option Addr} {fs : List (Str × Dt)} (h : ∀ (j : Nat) (a : Addr), j < n → ρ'[j]? = some a → ρ[j]? = some a) (b : Dt.bddL n (fs.map (·.2)) = true) (x : XAt Z ρ' H d fs) : XAt Z ρ H d fs := by
  rcases x with x | ⟨a, ws, e1, e2, e3, e4⟩
  · exact .inl x
  · exact .inr ⟨a, ws, e1, e2, e3, e4.cut h b⟩
theorem fn_m {x qual : Str} {st : Stmt} {f : Addr} {fd : FuncData} {N ps : List Str} {k : Nat} {body : MS} (F : Fun Z.K x qual st f fd) (S : FnScope N ps (defScope st))
    (hb : ∀ (cdv : Value) (A : Around) (outer : List PySem.Env) (s : Shared) (H : Hp) (E : XK), RoomD k (A.deeper (envOfC qual (defScope st) s.heap.objs.size f cdv)) →
      PSs (cxOf (L2.CX P w) P w Z.K mg base N qual (defScope st) f cdv A outer s H E) (defBody st) (tS Z (fun c d _ H => E c d H) body)) :
    FnM P w Z mg base (k + 1) f fd ps (mFn N.length body) := by
  refine Fun.okD F S (fun vs H Q E ⟨ρ, S, ds, _, dv, hl, _⟩ => by rw [dv.length]; exact hl) fun cdv A outer s H vs Q E hr ⟨ρ, S', ds, rel, dv, hl, o⟩ => ⟨_, hb cdv A outer s H E hr, ρ, S', startE N.length ds, rel, ?_, ?_⟩
  · refine ⟨?_, fun i d hi => ?_⟩
    · unfold L2.start startE
      rw [List.length_append, List.length_append, List.length_map, List.length_map, List.length_replicate, List.length_replicate, dv.length]
    · unfold startE at hi
      by_cases h : i < ds.length
      · rw [List.getElem?_append_left (by simpa using h), List.getElem?_map] at hi
        obtain ⟨d', hd', e⟩ := Option.map_eq_some_iff.mp hi
        cases e
        obtain ⟨v, hv, dv'⟩ := dv.get hd'
        refine ⟨v, ?_, dv'⟩
        unfold L2.start
        rw [List.getElem?_append_left (by rw [List.length_map, dv.length]; exact h), List.getElem?_map, hv]
        rfl
      · rw [List.getElem?_append_right (by simpa using h), List.getElem?_replicate] at hi
        split at hi <;> cases hi
  · unfold mFn at o
    cases eb : body (startE N.length ds) S' with
    | nx α S1 =>
      rw [eb] at o
      exact fun ρ' H' σ' g r sl => gc_ok rel o g r .non
    | rt d S1 =>
      rw [eb] at o
      exact fun ρ' H' v g r dv' => gc_ok rel o g r dv'
    | ex c fs α S1 =>
      rw [eb] at o
      intro ρ' H' σ' dx g r sl x
      dsimp only at o
      unfold gcX at o
      split at o
      · rename_i h
        obtain ⟨g2, r2, hj⟩ := gc_state rel g r h.1
        exact o ρ H' dx g2 r2 (x.cut hj h.2)
      · exact o ρ' H' dx g r x
    | bk α S1 => rw [eb] at o; exact o.elim
    | ct α S1 => rw [eb] at o; exact o.elim
    | no => rw [eb] at o; exact o.elim
end
end MD

namespace MD
open PySem PySem.Spec PyProof.Rows L2
def ZK (K : PySem.W.Frag) : KZ := ⟨K, fun _ => 0⟩
theorem fn_zero {P : Program} {w : World} {Z : KZ} {mg : Str → Option Value} {base : Heap} {f : Addr} {fd : FuncData} {ps : List Str} : FnM P w Z mg base 0 f fd ps (fun _ _ => .no) :=
  ⟨fun vs H Q E ⟨ρ, S, ds, rel, dv, hl, o⟩ => o.elim, fun A outer s H args us vs Q E hr e0 hb r ⟨ρ, S, ds, rel, dv, hl, o⟩ => o.elim⟩
end MD

namespace MD
open PySem L2
/-! ### evaluating models -/
section
variable {β γ : Type} {α : Env} {S S' : Sto} {d : Dt}
@[simp] theorem bind_ok {b : β} {k : β → Sto → Rs γ} : (Rs.ok b S).bind k = k b S := rfl
@[simp] theorem bind_no {k : β → Sto → Rs γ} : (Rs.no : Rs β).bind k = .no := rfl
@[simp] theorem bind_ex {c : Str} {fs : List (Str × Dt)} {k : β → Sto → Rs γ} : (Rs.ex c fs S : Rs β).bind k = .ex c fs S := rfl
@[simp] theorem rthen_ok {b : β} {k : β → Sto → Fl} : (Rs.ok b S).then α k = k b S := rfl
@[simp] theorem rthen_no {k : β → Sto → Fl} : (Rs.no : Rs β).then α k = .no := rfl
@[simp] theorem rthen_ex {c : Str} {fs : List (Str × Dt)} {k : β → Sto → Fl} : (Rs.ex c fs S : Rs β).then α k = .ex c fs α S := rfl
@[simp] theorem fthen_nx {k : Env → Sto → Fl} : (Fl.nx α S).then k = k α S := rfl
@[simp] theorem fthen_rt {k : Env → Sto → Fl} : (Fl.rt d S).then k = .rt d S := rfl
@[simp] theorem fthen_bk {k : Env → Sto → Fl} : (Fl.bk α S).then k = .bk α S := rfl
@[simp] theorem fthen_ct {k : Env → Sto → Fl} : (Fl.ct α S).then k = .ct α S := rfl
@[simp] theorem fthen_ex {c : Str} {fs : List (Str × Dt)} {k : Env → Sto → Fl} : (Fl.ex c fs α S).then k = .ex c fs α S := rfl
@[simp] theorem fthen_no {k : Env → Sto → Fl} : Fl.no.then k = .no := rfl
@[simp] theorem sVar0 {x : Dt} {r : Env} : mVar 0 (some x :: r) S = .ok x S := rfl
@[simp] theorem sVar1 {x : Dt} {a : Option Dt} {r : Env} : mVar 1 (a :: some x :: r) S = .ok x S := rfl
@[simp] theorem sVar2 {x : Dt} {a b : Option Dt} {r : Env} : mVar 2 (a :: b :: some x :: r) S = .ok x S := rfl
@[simp] theorem sVar3 {x : Dt} {a b c : Option Dt} {r : Env} : mVar 3 (a :: b :: c :: some x :: r) S = .ok x S := rfl
@[simp] theorem sVar4 {x : Dt} {a b c e : Option Dt} {r : Env} : mVar 4 (a :: b :: c :: e :: some x :: r) S = .ok x S := rfl
@[simp] theorem sVar5 {x : Dt} {a b c e f : Option Dt} {r : Env} : mVar 5 (a :: b :: c :: e :: f :: some x :: r) S = .ok x S := rfl
@[simp] theorem sVar6 {x : Dt} {a b c e f g : Option Dt} {r : Env} : mVar 6 (a :: b :: c :: e :: f :: g :: some x :: r) S = .ok x S := rfl
@[simp] theorem sVar7 {x : Dt} {a b c e f g h : Option Dt} {r : Env} : mVar 7 (a :: b :: c :: e :: f :: g :: h :: some x :: r) S = .ok x S := rfl
@[simp] theorem sVar8 {x : Dt} {a b c e f g h i : Option Dt} {r : Env} : mVar 8 (a :: b :: c :: e :: f :: g :: h :: i :: some x :: r) S = .ok x S := rfl
@[simp] theorem sVar9 {x : Dt} {a b c e f g h i j : Option Dt} {r : Env} : mVar 9 (a :: b :: c :: e :: f :: g :: h :: i :: j :: some x :: r) S = .ok x S := rfl
@[simp] theorem sVar10 {x : Dt} {a b c e f g h i j k : Option Dt} {r : Env} : mVar 10 (a :: b :: c :: e :: f :: g :: h :: i :: j :: k :: some x :: r) S = .ok x S := rfl
@[simp] theorem sVar11 {x : Dt} {a b c e f g h i j k l : Option Dt} {r : Env} : mVar 11 (a :: b :: c :: e :: f :: g :: h :: i :: j :: k :: l :: some x :: r) S = .ok x S := rfl
@[simp] theorem sVar12 {x : Dt} {a b c e f g h i j k l m : Option Dt} {r : Env} : mVar 12 (a :: b :: c :: e :: f :: g :: h :: i :: j :: k :: l :: m :: some x :: r) S = .ok x S := rfl
@[simp] theorem sC {x : Dt} : mC x α S = .ok x S := rfl
@[simp] theorem sA0 : mA0 α S = .ok [] S := rfl
@[simp] theorem sA1 {m : ME} {r : MA} : mA1 m r α S = (m α S).bind fun d S1 => (r α S1).bind fun ds S2 => .ok (d :: ds) S2 := rfl
@[simp] theorem sTup {a : MA} : mTup a α S = (a α S).bind fun ds S1 => if ds.length ≤ 1000000 then .ok (.tup ds) S1 else .no := rfl
@[simp] theorem sLst {a : MA} : mLst a α S = (a α S).bind fun ds S1 => if ds.length ≤ 1000000 then .ok (.loc S1.length) (S1 ++ [Cell.lst ds]) else .no := rfl
@[simp] theorem sDic : mDic α S = .ok (.loc S.length) (S ++ [Cell.dic []]) := rfl
@[simp] theorem sDit : mDit α S = .ok (.loc S.length) (S ++ [Cell.dit []]) := rfl
@[simp] theorem sOp {f : Dt → Dt → Sto → Rs Dt} {a b : ME} : mOp f a b α S = (a α S).bind fun x S1 => (b α S1).bind fun y S2 => f x y S2 := rfl
@[simp] theorem sUn {f : Dt → Sto → Rs Dt} {a : ME} : mUn f a α S = (a α S).bind fun x S1 => f x S1 := rfl
@[simp] theorem sCall {f : List Dt → Sto → Rs Dt} {a : MA} : mCall f a α S = (a α S).bind fun ds S1 => f ds S1 := rfl
@[simp] theorem sOwn {n : Nat} {F : List Dt → Sto → Rs Dt} {ds : List Dt} : mOwn n F ds S = if ds.length = n then F ds S else .no := rfl
@[simp] theorem sSl {f : Dt → Option Int → Option Int → Sto → Rs Dt} {a : ME} {lo hi : MO} : mSl f a lo hi α S = (a α S).bind fun x S1 => (lo α S1).bind fun l S2 => (hi α S2).bind fun u S3 => f x l u S3 := rfl
@[simp] theorem sOn : mOn α S = .ok none S := rfl
theorem sOs {m : ME} : mOs m α S = (m α S).bind fun x S1 => match x with
  | .int i => .ok (some i) S1
  | _ => .no := rfl
@[simp] theorem sOs_int {m : ME} {i : Int} (h : m α S = .ok (.int i) S') : mOs m α S = .ok (some i) S' := by rw [sOs, h]; rfl
@[simp] theorem sAnd {a b : ME} : mAnd a b α S = (a α S).bind fun x S1 => match x with
  | .bl true => b α S1
  | .bl false => .ok (.bl false) S1
  | _ => .no := rfl
@[simp] theorem sOr {a b : ME} : mOr a b α S = (a α S).bind fun x S1 => match x with
  | .bl true => .ok (.bl true) S1
  | .bl false => b α S1
  | _ => .no := rfl
@[simp] theorem sNot {a : ME} : mNot a α S = (a α S).bind fun x S1 => (dTru x S1).bind fun c S2 => .ok (.bl (!c)) S2 := rfl
@[simp] theorem sIf {t : MT} {a b : ME} : mIf t a b α S = (t α S).bind fun c S1 => if c = true then a α S1 else b α S1 := rfl
@[simp] theorem sTru {m : ME} : mTru m α S = (m α S).bind dTru := rfl
@[simp] theorem sT {m : ME} : mT m α S = (m α S).bind asB := rfl
@[simp] theorem sasB {b : Bool} : asB (.bl b) S = .ok b S := rfl
@[simp] theorem stAnd {a b : MT} : mtAnd a b α S = (a α S).bind fun c S1 => if c = true then b α S1 else .ok false S1 := rfl
@[simp] theorem stOr {a b : MT} : mtOr a b α S = (a α S).bind fun c S1 => if c = true then .ok true S1 else b α S1 := rfl
@[simp] theorem stNot {a : MT} : mtNot a α S = (a α S).bind fun c S1 => .ok (!c) S1 := rfl
@[simp] theorem sYes : mYes α S = .ok true S := rfl
theorem sMt {f : Dt → List Dt → Sto → Rs Dt} {o : ME} {a : MA} : mMt f o a α S = (o α S).bind fun x S1 => if isL x S1 = true then (a α S1).bind fun xs S2 => f x xs S2 else .no := rfl
theorem sMt0 {f : Dt → List Dt → Sto → Rs Dt} {o : ME} : mMt0 f o α S = (o α S).bind fun x S1 => if isL x S1 = true then f x [] S1 else .no := rfl
@[simp] theorem sNx : mNx α S = .nx α S := rfl
@[simp] theorem sBk : mBk α S = .bk α S := rfl
@[simp] theorem sCt : mCt α S = .ct α S := rfl
@[simp] theorem sSq {a b : MS} : mSq a b α S = (a α S).then b := rfl
@[simp] theorem sSet {i : Nat} {m : ME} : mSet i m α S = (m α S).then α fun d S' => .nx (α.set i (some d)) S' := rfl
@[simp] theorem sEx {m : ME} : mEx m α S = (m α S).then α fun _ S' => .nx α S' := rfl
@[simp] theorem sRt {m : ME} : mRt m α S = (m α S).then α fun d S' => .rt d S' := rfl
@[simp] theorem sRtN : mRtN α S = .rt .non S := rfl
@[simp] theorem sIfS {c : MT} {a b : MS} : mIfS c a b α S = (c α S).then α fun k S' => if k = true then a α S' else b α S' := rfl
@[simp] theorem sAsg {g : MG} {m : ME} : mAsg g m α S = (m α S).then α fun d S' => match g d α with
  | some α' => .nx α' S'
  | none => .no := rfl
@[simp] theorem sgN {i : Nat} {d : Dt} : gN i d α = some (α.set i (some d)) := rfl
@[simp] theorem sGc {m : ME} {d : Dt} (h : m α S = .ok d S') : mGc m α S = gcR S.length d S' := by unfold mGc; rw [h]
/-! the store -/
@[simp] theorem get0 {a : Cell} {r : Sto} : (S ++ a :: r)[S.length]? = some a := by rw [List.getElem?_append_right (Nat.le_refl _), Nat.sub_self]; rfl
@[simp] theorem get1 {a b : Cell} {r : Sto} : (S ++ a :: b :: r)[S.length + 1]? = some b := by rw [List.getElem?_append_right (by omega), Nat.add_sub_cancel_left]; rfl
@[simp] theorem get2 {a b c : Cell} {r : Sto} : (S ++ a :: b :: c :: r)[S.length + 2]? = some c := by rw [List.getElem?_append_right (by omega), Nat.add_sub_cancel_left]; rfl
@[simp] theorem get3 {a b c e : Cell} {r : Sto} : (S ++ a :: b :: c :: e :: r)[S.length + 3]? = some e := by rw [List.getElem?_append_right (by omega), Nat.add_sub_cancel_left]; rfl
@[simp] theorem set0 {a c : Cell} {r : Sto} : (S ++ a :: r).set S.length c = S ++ c :: r := by rw [List.set_append_right _ _ (Nat.le_refl _), Nat.sub_self]; rfl
@[simp] theorem set1 {a b c : Cell} {r : Sto} : (S ++ a :: b :: r).set (S.length + 1) c = S ++ a :: c :: r := by rw [List.set_append_right _ _ (by omega), Nat.add_sub_cancel_left]; rfl
@[simp] theorem set2 {a b e c : Cell} {r : Sto} : (S ++ a :: b :: e :: r).set (S.length + 2) c = S ++ a :: b :: c :: r := by rw [List.set_append_right _ _ (by omega), Nat.add_sub_cancel_left]; rfl
def Wf (S : Sto) : Prop := bddS S.length S = true
theorem gc_len {d : Dt} (h : S'.length = S.length) : gcR S.length d S' = .ok d S' := by
  unfold gcR
  rw [← h, List.take_length]
  by_cases hb : bddS S'.length S' = true
  · rw [if_pos hb]
    by_cases hd : d.bdd S'.length = true
    · rw [if_pos hd]
    · rw [if_neg hd]
      cases d with
      | loc m =>
        dsimp only
        have : S'.length ≤ m := by
          rw [Dt.bdd, decide_eq_true_eq] at hd
          omega
        rw [List.getElem?_eq_none this]
      | _ => rfl
  · rw [if_neg hb]
@[simp] theorem gc_same {d : Dt} : gcR S.length d S = .ok d S := gc_len rfl
@[simp] theorem gc_set {n : Nat} {c : Cell} {d : Dt} : gcR S.length d (S.set n c) = .ok d (S.set n c) := gc_len (List.length_set ..)
theorem gc_drop (hS : Wf S) {G : Sto} (hd : d.bdd S.length = true) : gcR S.length d (S ++ G) = .ok d S := by
  unfold gcR
  rw [List.take_left' rfl, if_pos (show bddS S.length S = true from hS), if_pos hd]
/-- .. where old cells were written, too -/
theorem gc_dropW (h : S'.length = S.length) (hS : Wf S') {G : Sto} (hd : d.bdd S.length = true) : gcR S.length d (S' ++ G) = .ok d S' := by
  rw [← h] at hd ⊢
  exact gc_drop hS hd
theorem gc_at (hS : Wf S) {m : Nat} {c : Cell} {G : Sto} (hm : S.length ≤ m) (e : (S ++ G)[m]? = some c) (hc : c.bdd S.length = true) : gcR S.length (.loc m) (S ++ G) = .ok (.loc S.length) (S ++ [c]) := by
  unfold gcR
  rw [List.take_left' rfl, if_pos (show bddS S.length S = true from hS), if_neg (by rw [Dt.bdd, decide_eq_true_eq]; omega)]
  dsimp only
  rw [e]
  dsimp only
  rw [if_pos hc]
/-- a new cell stays -/
theorem gc_one {c : Cell} : gcR S.length (.loc S.length) (S ++ [c]) = .ok (.loc S.length) (S ++ [c]) := by
  unfold gcR
  rw [List.take_left' rfl]
  by_cases hb : bddS S.length S = true
  · rw [if_pos hb, if_neg (by rw [Dt.bdd, decide_eq_true_eq]; omega)]
    dsimp only
    rw [get0]
    dsimp only
    by_cases hc : c.bdd S.length = true
    · rw [if_pos hc]
    · rw [if_neg hc]
  · rw [if_neg hb]
theorem wf_app {G : Sto} (h : Wf S) (hG : bddS (S.length + G.length) G = true) : Wf (S ++ G) := by
  unfold Wf bddS at *
  rw [List.length_append, List.all_append, Bool.and_eq_true]
  refine ⟨?_, hG⟩
  rw [List.all_eq_true] at h ⊢
  have mono : ∀ (n m : Nat), n ≤ m → (∀ d : Dt, d.bdd n = true → d.bdd m = true) := by
    intro n m hnm
    have key : ∀ N : Nat, (∀ d : Dt, sizeOf d ≤ N → d.bdd n = true → d.bdd m = true) ∧ (∀ l : List Dt, sizeOf l ≤ N → Dt.bddL n l = true → Dt.bddL m l = true) := by
      intro N
      induction N with
      | zero =>
        refine ⟨fun d hd => ?_, fun l hl => ?_⟩
        · cases d <;> simp at hd
        · cases l <;> simp at hl
      | succ N ih =>
        refine ⟨fun d hd => ?_, fun l hl => ?_⟩
        · cases d with
          | tup l => intro h; rw [Dt.bdd] at h ⊢; exact ih.2 l (by simp at hd; omega) h
          | con l => intro h; rw [Dt.bdd] at h ⊢; exact ih.2 l (by simp at hd; omega) h
          | loc j => intro h; rw [Dt.bdd, decide_eq_true_eq] at h ⊢; omega
          | _ => intro _; rw [Dt.bdd] <;> simp
        · cases l with
          | nil => intro _; rw [Dt.bddL]
          | cons a r =>
            intro h
            rw [Dt.bddL, Bool.and_eq_true] at h ⊢
            exact ⟨ih.1 a (by simp at hl; omega) h.1, ih.2 r (by simp at hl; omega) h.2⟩
    exact fun d => (key (sizeOf d)).1 d (Nat.le_refl _)
  have monoL : ∀ (n m : Nat), n ≤ m → (∀ l : List Dt, Dt.bddL n l = true → Dt.bddL m l = true) := by
    intro n m hnm l
    induction l with
    | nil => intro _; rw [Dt.bddL]
    | cons a r ih =>
      intro h
      rw [Dt.bddL, Bool.and_eq_true] at h ⊢
      exact ⟨mono n m hnm a h.1, ih h.2⟩
  intro c hc
  have := h c hc
  cases c with
  | lst l => exact monoL _ _ (by omega) l this
  | dic l => exact monoL _ _ (by omega) _ this
  | dit l => exact monoL _ _ (by omega) _ this
  | ins c l => exact monoL _ _ (by omega) _ this
@[simp] theorem isL0 {l : List Dt} {r : Sto} : isL (.loc S.length) (S ++ Cell.lst l :: r) = true := by unfold isL; simp
@[simp] theorem isL1 {a : Cell} {l : List Dt} {r : Sto} : isL (.loc (S.length + 1)) (S ++ a :: Cell.lst l :: r) = true := by unfold isL; simp
end
end MD

namespace MD
open PySem PySem.Spec PyProof.Rows L2
/-! ### a law at its script -/
theorem scr_of {K : PySem.W.Frag} {H : Hp} {a : Addr} {ns : List Int} (hO : Only H) (hS : SqL K H a (ns.map V.int)) : ScrAt K H a ns := by
  rcases hS with (h | ⟨o, h⟩) | h
  · rcases hO a with e | ⟨o, xs, e⟩
    · rw [h] at e; cases e
    · rw [h] at e; cases e
  · exact .inl ⟨o, h⟩
  · exact .inr (.inr h)
theorem law_cx {P : Program} {w : World} {H : Hp} {s s' : Shared} {e : Value} (h : L2.CX P w [] H s (fun _ _ _ => False) e s') : False := by
  obtain ⟨_, _, _, _, _, _, _, _, _, _, _, _, z⟩ := h
  exact z
end MD

namespace MD
open PySem PySem.Spec PyProof.Rows L2
/-! ### names of the module that are bound to a text or a number -/
section
variable {X : Cx} {Z : KZ} {W : WX} {pos : Pos}
theorem mGStr {x y : Str} (hg : Gl X x) (hm : ∃ t, X.mg x = some (.str y t)) (hd : (x == ("__debug__" : Str)) = false := by decide) : PE X (.Name x pos) (tE Z W (mC (.str y))) := by
  obtain ⟨t, hm⟩ := hm
  exact imE (pe_glob (v := .str y) hg hm ⟨t, rfl⟩ hd) fun σ H Q ⟨ρ, S, α, rel, sl, o⟩ => o.here rel _ .str
end
end MD

namespace MD
open PySem PySem.Spec PyProof.Rows L2
/-! ### sums, the less of two, texts of numbers -/
def dSum (xs : List Dt) (S : Sto) : Rs Dt := match xs with
  | [.loc n] => match S[n]? with
    | some (.lst l) => match mapO intO l with
      | some ns => .ok (.int ns.sum) S
      | none => .no
    | _ => .no
  | _ => .no
def dMin2 (xs : List Dt) (S : Sto) : Rs Dt := match xs with
  | [.int i, .int j] => .ok (.int (if j < i then j else i)) S
  | _ => .no
def dMax2 (xs : List Dt) (S : Sto) : Rs Dt := match xs with
  | [.int i, .int j] => .ok (.int (if j > i then j else i)) S
  | _ => .no
def dStr (xs : List Dt) (S : Sto) : Rs Dt := match xs with
  | [.int i] => if i.natAbs < 1000000000 then .ok (.str (toString i)) S else .no
  | [.str a] => .ok (.str a) S
  | _ => .no
def dInt3 (xs : List Dt) (S : Sto) : Rs Dt := match xs with
  | [.int i] => .ok (.int i) S
  | [.bl b] => .ok (.int (if b then 1 else 0)) S
  | [.str a] => match PySem.intText? a with
    | some n => if a.length ≤ 640 then .ok (.int n) S else .no
    | none => .no
  | _ => .no
section
variable {X : Cx} {Z : KZ}
theorem log2_small {n : Nat} (h : n < 1000000000) : n.log2 < 1920 := by
  have : n.log2 < 30 := by
    by_cases h0 : n = 0
    · subst h0; decide
    · exact (Nat.log2_lt h0).mpr (Nat.lt_of_lt_of_le h (by decide))
  omega
abbrev RStr : List V → Hp → VK → Prop := fun xs H Q => (∃ i : Int, xs = [.int i] ∧ i.natAbs.log2 < 1920 ∧ Q (.str (toString i)) H) ∨ ∃ a, xs = [.str a] ∧ Q (.str a) H
theorem crStr : CallR X (.type "str") RStr := CallR.or call_str_int SkE.call_str_str
theorem cmStr : CallM Z dStr RStr := by
  intro E ρ H S xs vs Q rel dv o
  unfold dStr at o
  split at o
  · obtain ⟨v, rfl, d⟩ := dv.one
    cases d
    split at o
    · rename_i h
      exact .inl ⟨_, rfl, log2_small h, o.here rel _ .str⟩
    · exact o.elim
  · obtain ⟨v, rfl, d⟩ := dv.one
    cases d
    exact .inr ⟨_, rfl, o.here rel _ .str⟩
  · exact o.elim
abbrev RInt3 : List V → Hp → VK → Prop := fun xs H Q => ((∃ i, xs = [.int i] ∧ Q (.int i) H) ∨ ∃ k, xs = [.bl k] ∧ Q (.int (if k then 1 else 0)) H) ∨ ∃ a n, xs = [.str a] ∧ PySem.intText? a = some n ∧ a.length ≤ 640 ∧ Q (.int n) H
theorem crInt3 : CallR X (.type "int") RInt3 := CallR.or call_int1 call_int_str
theorem cmInt3 : CallM Z dInt3 RInt3 := by
  intro E ρ H S xs vs Q rel dv o
  unfold dInt3 at o
  split at o
  · obtain ⟨v, rfl, d⟩ := dv.one
    cases d
    exact .inl (.inl ⟨_, rfl, o.here rel _ .int⟩)
  · obtain ⟨v, rfl, d⟩ := dv.one
    cases d
    exact .inl (.inr ⟨_, rfl, o.here rel _ .int⟩)
  · obtain ⟨v, rfl, d⟩ := dv.one
    cases d
    split at o
    · rename_i n e
      split at o
      · rename_i h
        exact .inr ⟨_, n, rfl, e, h, o.here rel _ .int⟩
      · exact o.elim
    · exact o.elim
  · exact o.elim
end
/-! ### methods of texts -/
def isStr : Dt → Bool
  | .str _ => true
  | _ => false
def mM0 (f : Dt → List Dt → Sto → Rs Dt) (o : ME) : ME := fun α S => (o α S).bind fun x S1 => if isStr x = true then f x [] S1 else .no
def mM1 (f : Dt → List Dt → Sto → Rs Dt) (o e : ME) : ME := fun α S => (o α S).bind fun x S1 => if isStr x = true then (e α S1).bind fun y S2 => f x [y] S2 else .no
def strO : Dt → Option Str
  | .str x => some x
  | _ => none
def dSplit (x : Dt) (xs : List Dt) (S : Sto) : Rs Dt := match x, xs with
  | .str a, [.str b] => if (b.length == 0) = false ∧ a.length ≤ 1000000 then .ok (.loc S.length) (S ++ [.lst ((Txt.split a b).map .str)]) else .no
  | _, _ => .no
def dPartition (x : Dt) (xs : List Dt) (S : Sto) : Rs Dt := match x, xs with
  | .str a, [.str b] => if (b.length == 0) = false ∧ a.length ≤ 1000000 then .ok (.tup [.str (Txt.partition a b).1, .str (Txt.partition a b).2.1, .str (Txt.partition a b).2.2]) S else .no
  | _, _ => .no
def joinFits (a : Str) (ys : List Str) : Prop := (ys.map (·.length)).sum + ys.length * a.length ≤ 16777216
instance (a : Str) (ys : List Str) : Decidable (joinFits a ys) := inferInstanceAs (Decidable (_ ≤ _))
def dJoin (x : Dt) (xs : List Dt) (S : Sto) : Rs Dt := match x, xs with
  | .str a, [.loc n] => match S[n]? with
    | some (.lst l) => match mapO strO l with
      | some ys => if joinFits a ys then .ok (.str (Txt.join a ys)) S else .no
      | none => .no
    | _ => .no
  | .str a, [.tup l] => match mapO strO l with
    | some ys => if joinFits a ys then .ok (.str (Txt.join a ys)) S else .no
    | none => .no
  | _, _ => .no
def dStarts (x : Dt) (xs : List Dt) (S : Sto) : Rs Dt := match x, xs with
  | .str a, [.str b] => .ok (.bl (Txt.startswith a b)) S
  | _, _ => .no
def dIsLower (x : Dt) (xs : List Dt) (S : Sto) : Rs Dt := match x, xs with
  | .str a, [] => .ok (.bl (Txt.islower a)) S
  | _, _ => .no
def dUpper (x : Dt) (xs : List Dt) (S : Sto) : Rs Dt := match x, xs with
  | .str a, [] => if a.length ≤ 1000000 then .ok (.str (Txt.upper a)) S else .no
  | _, _ => .no
section
variable {X : Cx} {Z : KZ} {W : WX} {K : PySem.W.Frag} {ρ : List Addr} {H : Hp} {S : Sto} {vs : List V} {l : List Dt} {o e : Expr} {mo me : ME} {pos apos : Pos} {v : V} {x : Dt} {name : Str} {id : String} {f : Dt → List Dt → Sto → Rs Dt} {r : V → List V → Hp → VK → Prop}
theorem strs_of : ∀ {vs : List V} {l : List Dt} {ns : List Str}, DsAt K ρ H vs l → mapO strO l = some ns → vs = ns.map V.str
  | _, _, ks, .nil, h => by cases h; rfl
  | _, _, ks, .cons (d := d) (ds := r) a t, h => by
    rw [mapO] at h
    cases e1 : strO d with
    | none => rw [e1] at h; cases h
    | some p =>
      cases e2 : mapO strO r with
      | none => rw [e1, e2] at h; cases h
      | some ps' =>
        rw [e1, e2] at h
        cases h
        rw [List.map_cons, strs_of t e2]
        cases a <;> first | (cases e1; rfl) | cases e1
theorem isStr_of (d : DAt K ρ H v x) (h : isStr x = true) : ∃ a, v = .str a := by
  cases d <;> first | exact ⟨_, rfl⟩ | cases h
theorem m_sm0 (slot : Slot "str" name id) (ty : typeOf (.builtin id) = pure (.type "method_descriptor")) (rule : MtR X id r) (hf : MtMd Z f r) (ho : PE X o (tE Z W mo))
    (hbase : attributeBase o name X.env (eval o X.env) = eval o X.env := by rfl) (hline : (apos.endLine == pos.line) = true := by rfl) : PE X (.Call (.Attribute o name apos) [] [] pos) (tE Z W (mM0 f mo)) :=
  imE (pe_m0 slot ty rule ho hbase hline) fun σ H Q ⟨ρ, S, α, rel, sl, o⟩ => ⟨ρ, S, α, rel, sl, o.bind.mono fun ρ1 H1 x _ _ g1 _ ⟨S1, e1, rel1, o1⟩ v dv => by
    by_cases hl : isStr x = true
    · rw [if_pos hl] at o1
      exact ⟨isStr_of dv hl, hf _ ρ1 H1 S1 x [] v [] Q rel1 dv .nil o1⟩
    · rw [if_neg hl] at o1
      exact o1.elim⟩
theorem m_sm1 (slot : Slot "str" name id) (ty : typeOf (.builtin id) = pure (.type "method_descriptor")) (rule : MtR X id r) (hf : MtMd Z f r) (ho : PE X o (tE Z W mo)) (he : PE X e (tE Z W me))
    (hs : starEach [e] X.env = [(false, eval e X.env)] := by rfl) (hbase : attributeBase o name X.env (eval o X.env) = eval o X.env := by rfl) (hline : (apos.endLine == pos.line) = true := by rfl) :
    PE X (.Call (.Attribute o name apos) [e] [] pos) (tE Z W (mM1 f mo me)) :=
  imE (pe_m1 slot ty rule ho he hs hbase hline) fun σ H Q ⟨ρ, S, α, rel, sl, o⟩ => ⟨ρ, S, α, rel, sl, o.bind.mono fun ρ1 H1 x _ _ g1 _ ⟨S1, e1, rel1, o1⟩ v dv => by
    by_cases hl : isStr x = true
    · rw [if_pos hl] at o1
      exact ⟨isStr_of dv hl, ρ1, S1, α, rel1, sl.go g1, o1.bind.mono fun ρ2 H2 y _ _ g2 _ ⟨S2, e2, rel2, o2⟩ w dw => hf _ ρ2 H2 S2 x [y] v [w] Q rel2 (dv.go g2) (.cons dw .nil) o2⟩
    · rw [if_neg hl] at o1
      exact o1.elim⟩
theorem DsAt.strs {K : PySem.W.Frag} {ρ : List Addr} {H : Hp} : ∀ l : List Str, DsAt K ρ H (l.map V.str) (l.map Dt.str)
  | [] => .nil
  | _ :: r => .cons .str (DsAt.strs r)
theorem mfSplit : MtMd Z dSplit (fun x xs H Q => ∃ a b, x = .str a ∧ xs = [.str b] ∧ (b.length == 0) = false ∧ a.length + 2 ≤ sizeLine ∧ rNewStrs (Txt.split a b) H Q) := by
  intro E ρ H S x xs v vs Q rel dx dv o
  unfold dSplit at o
  split at o
  · obtain ⟨w, rfl, dw⟩ := dv.one
    cases dx
    cases dw
    split at o
    · rename_i h
      exact ⟨_, _, rfl, rfl, h.1, by rw [sizeLine_eq]; omega, out_lst o rel (DsAt.strs _)⟩
    · exact o.elim
  · exact o.elim
abbrev RJoin (K : PySem.W.Frag) : V → List V → Hp → VK → Prop := fun x xs H Q => ∃ a p, ∃ ys : List Str, x = .str a ∧ xs = [.ref p] ∧ (SqL K H p (ys.map V.str) ∨ SqT K H p (ys.map V.str)) ∧ (ys.map (·.length)).sum + ys.length * a.length ≤ 16777216 ∧ Q (.str (Txt.join a ys)) H
theorem mtJoin (hK : X.K = Z.K) : MtR X "str.join" (RJoin Z.K) := by
  rw [← hK]
  exact mt_join
theorem mfJoin : MtMd Z dJoin (RJoin Z.K) := by
  intro E ρ H S x xs v vs Q rel dx dv o
  unfold dJoin at o
  split at o
  · obtain ⟨w, rfl, dw⟩ := dv.one
    cases dx
    obtain ⟨p, rfl, hp⟩ := dw.loc_inv
    split at o
    · rename_i e
      obtain ⟨us, hv, da⟩ := rel.lst hp e
      split at o
      · rename_i ys ey
        split at o
        · rename_i h
          rw [strs_of da ey] at hv
          exact ⟨_, p, ys, rfl, rfl, .inl (SqL.of hv), h, o.here rel _ .str⟩
        · exact o.elim
      · exact o.elim
    · exact o.elim
  · obtain ⟨w, rfl, dw⟩ := dv.one
    cases dx
    obtain ⟨p, us, rfl, hp, da⟩ := dw.tup_inv
    split at o
    · rename_i ys ey
      split at o
      · rename_i h
        rw [strs_of da ey] at hp
        exact ⟨_, p, ys, rfl, rfl, .inr (SqT.of hp), h, o.here rel _ .str⟩
      · exact o.elim
    · exact o.elim
  · exact o.elim
theorem mfStarts : MtMd Z dStarts (fun x xs H Q => ∃ a b, x = .str a ∧ xs = [.str b] ∧ Q (.bl (Txt.startswith a b)) H) := by
  intro E ρ H S x xs v vs Q rel dx dv o
  unfold dStarts at o
  split at o
  · obtain ⟨w, rfl, dw⟩ := dv.one
    cases dx
    cases dw
    exact ⟨_, _, rfl, rfl, o.here rel _ .bl⟩
  · exact o.elim
theorem mfUpper : MtMd Z dUpper (fun x xs H Q => ∃ a, x = .str a ∧ xs = [] ∧ a.length ≤ 5592405 ∧ Q (.str (Txt.upper a)) H) := by
  intro E ρ H S x xs v vs Q rel dx dv o
  unfold dUpper at o
  split at o
  · cases dv
    cases dx
    split at o
    · exact ⟨_, rfl, rfl, by omega, o.here rel _ .str⟩
    · exact o.elim
  · exact o.elim
end
/-! ### the characters of a text -/
def chrD (c : Nat) : Dt := .str ⟨#[c]⟩
def itOfS (x : Dt) (S : Sto) : Rs ItM := match x with
  | .str z => .ok (z.cps.toList.map chrD, none) S
  | _ => .no
def mIts (m : ME) : MI := fun α S => (m α S).bind itOfS
theorem src_its (m : ME) : Src (mIts m) := fun α S it S1 h => by
  unfold mIts at h
  cases em : m α S with
  | no => rw [em] at h; cases h
  | ex c fs S2 => rw [em] at h; cases h
  | ok x S2 =>
    rw [em] at h
    change itOfS x S2 = _ at h
    unfold itOfS at h
    split at h
    · cases h; exact True.intro
    · cases h
section
variable {X : Cx} {Z : KZ} {W : WX} {tg e : Expr} {m : ME} {ρ0 : List Addr} {H0 : Hp}
theorem itOk_str (z : Str) : ItOk Z ρ0 H0 (Its z) (z.cps.toList.map chrD, none) := fun ρ H S st rel _ i => by
  refine ⟨fun d hd => ?_, fun hl => (by show z.cps.size ≤ i; have hl : (z.cps.toList.map chrD).length ≤ i := hl; rw [List.length_map, Array.length_toList] at hl; exact hl)⟩
  have hd : (z.cps.toList.map chrD)[i]? = some d := hd
  rw [List.getElem?_map] at hd
  obtain ⟨c, hc, rfl⟩ := Option.map_eq_some_iff.mp hd
  rw [Array.getElem?_toList] at hc
  refine ⟨(Array.getElem?_eq_some_iff.mp hc).1, fun x H' ⟨e1, c', e2, e3⟩ => ?_⟩
  subst e1 e3
  rw [hc] at e2
  cases e2
  exact ⟨Go.refl, rel, .str⟩
theorem m_its (he : PE X e (tE Z W m)) : PI X tg e (tI Z W (mIts m)) :=
  imI (pi_str he) fun σ H R ⟨ρ, S, α, rel, sl, o⟩ => ⟨ρ, S, α, rel, sl, o.bind.mono fun ρ1 H1 x _ _ g1 _ ⟨S1, e1, rel1, o1⟩ v dv => by
    unfold itOfS at o1
    split at o1
    · cases dv
      exact ⟨_, rfl, o1.here rel1 _ (itOk_str _)⟩
    · exact o1.elim⟩
end
/-! ### formatted texts -/
def mFmt (m : ME) : ME := fun α S => (m α S).bind fun x S1 => match x with
  | .str y => if y.length ≤ 1000000 then .ok (.str y) S1 else .no
  | .int i => if i.natAbs < 1000000000 then .ok (.str (toString i)) S1 else .no
  | _ => .no
def mFmtR (m : ME) : ME := fun α S => (m α S).bind fun x S1 => match x with
  | .str y => if (reprText y).length ≤ 1000000 then .ok (.str (reprText y)) S1 else .no
  | .int i => if i.natAbs < 1000000000 then .ok (.str (toString i)) S1 else .no
  | _ => .no
def mJsA : List ME → Str → Env → Sto → Rs Str
  | [], acc, _, S => .ok acc S
  | m :: r, acc, α, S => (m α S).bind fun x S1 => match x with
    | .str y => if acc.length + y.length ≤ 1000000 then mJsA r (acc ++ y) α S1 else .no
    | _ => .no
def mJs (ms : List ME) : ME := fun α S => (mJsA ms Str.empty α S).bind fun x S1 => .ok (.str x) S1
section
variable {X : Cx} {Z : KZ} {W : WX} {e : Expr} {m : ME} {pos : Pos}
theorem m_fmt (he : PE X e (tE Z W m)) : PE X (.FormattedValue e (-1) none pos) (tE Z W (mFmt m)) :=
  imE (pe_fmt he) fun σ H Q ⟨ρ, S, α, rel, sl, o⟩ => ⟨ρ, S, α, rel, sl, o.bind.mono fun ρ1 H1 x _ _ g1 _ ⟨S1, e1, rel1, o1⟩ v dv => by
    cases x with
    | str y =>
      cases dv
      dsimp only at o1
      split at o1
      · exact .inl ⟨y, rfl, by rw [sizeLine_eq]; omega, o1.here rel1 _ .str⟩
      · exact o1.elim
    | int i =>
      cases dv
      dsimp only at o1
      split at o1
      · rename_i h
        exact .inr ⟨i, rfl, log2_small h, o1.here rel1 _ .str⟩
      · exact o1.elim
    | _ => exact o1.elim⟩
theorem m_fmtR (he : PE X e (tE Z W m)) : PE X (.FormattedValue e 114 none pos) (tE Z W (mFmtR m)) :=
  imE (pe_fmtR he) fun σ H Q ⟨ρ, S, α, rel, sl, o⟩ => ⟨ρ, S, α, rel, sl, o.bind.mono fun ρ1 H1 x _ _ g1 _ ⟨S1, e1, rel1, o1⟩ v dv => by
    cases x with
    | str y =>
      cases dv
      dsimp only at o1
      split at o1
      · exact .inl ⟨y, rfl, by rw [sizeLine_eq]; omega, o1.here rel1 _ .str⟩
      · exact o1.elim
    | int i =>
      cases dv
      dsimp only at o1
      split at o1
      · rename_i h
        exact .inr ⟨i, rfl, log2_small h, o1.here rel1 _ .str⟩
      · exact o1.elim
    | _ => exact o1.elim⟩
inductive PJm (X : Cx) (Z : KZ) (W : WX) : List Expr → List ME → Prop where
  | nil : PJm X Z W [] []
  | cons {e : Expr} {m : ME} {es : List Expr} {ms : List ME} (h : PE X e (tE Z W m)) (r : PJm X Z W es ms) : PJm X Z W (e :: es) (m :: ms)
theorem PJm.pj {es : List Expr} {ms : List ME} (h : PJm X Z W es ms) : PJ X es (ms.map (tE Z W)) := by
  induction h with
  | nil => exact .nil
  | cons h _ i => exact .cons h i
theorem len_app (a b : Str) : (a ++ b).length = a.length + b.length := by
  show (a.cps ++ b.cps).size = _
  rw [Array.size_append]
  rfl
theorem js_of : ∀ (ms : List ME) (acc : Str) (σ : L2.St) (H : Hp) (P : Str → Hp → Prop) (ρ : List Addr) (S : Sto) (α : Env), RelS Z ρ H S → SlAt Z.K ρ H σ α → Out Z (WO W σ) ρ H (fun _ H' b => P b H') (mJsA ms acc α S) → tJs (ms.map (tE Z W)) acc σ H P
  | [], acc, σ, H, P, ρ, S, α, rel, sl, o => o.here rel
  | m :: r, acc, σ, H, P, ρ, S, α, rel, sl, o => by
    unfold mJsA at o
    refine ⟨ρ, S, α, rel, sl, o.bind.mono fun ρ1 H1 x _ _ g1 _ ⟨S1, e1, rel1, o1⟩ v dv => ?_⟩
    cases x with
    | str y =>
      cases dv
      dsimp only at o1
      split at o1
      · exact ⟨y, rfl, by rw [len_app, sizeLine_eq]; omega, js_of r (acc ++ y) σ H1 P ρ1 S1 α rel1 (sl.go g1) o1⟩
      · exact o1.elim
    | _ => exact o1.elim
theorem m_js {v1 v2 : Expr} {rest : List Expr} {ms : List ME} (h : PJm X Z W (v1 :: v2 :: rest) ms) : PE X (.JoinedStr (v1 :: v2 :: rest) pos) (tE Z W (mJs ms)) :=
  imE (pe_joined h.pj) fun σ H Q ⟨ρ, S, α, rel, sl, o⟩ => js_of ms Str.empty σ H _ ρ S α rel sl (o.bind.mono fun ρ1 H1 x _ _ g1 _ ⟨S1, e1, rel1, o1⟩ => o1.here rel1 _ .str)
/-! a < b < c -/
def mChain (f g : Dt → Dt → Sto → Rs Dt) (a b c : ME) : ME := fun α S => (a α S).bind fun x S1 => (b α S1).bind fun y S2 => (f x y S2).bind fun z S3 => match z with
  | .bl true => (c α S3).bind fun w S4 => g y w S4
  | .bl false => .ok (.bl false) S3
  | _ => .no
theorem m_chain {op op' : CmpOp} {r r' : R2} {f g : Dt → Dt → Sto → Rs Dt} {a b c : Expr} {ma mb mc : ME} (ho : OpR X (compareOp op) r) (ho' : OpR X (compareOp op') r') (hf : OpM Z f r) (hg : OpM Z g r') (ha : PE X a (tE Z W ma)) (hb : PE X b (tE Z W mb)) (hc : PE X c (tE Z W mc))
    (hm : lastMarks [op, op'] [b, c] = false := by with_unfolding_all rfl) : PE X (.Compare a [op, op'] [b, c] pos) (tE Z W (mChain f g ma mb mc)) :=
  imE (pe_chain ho ho' ha hb hc hm) fun σ H Q ⟨ρ, S, α, rel, sl, o⟩ => ⟨ρ, S, α, rel, sl, o.bind.mono fun ρ1 H1 x _ _ g1 _ ⟨S1, e1, rel1, o1⟩ v dv =>
    ⟨ρ1, S1, α, rel1, sl.go g1, o1.bind.mono fun ρ2 H2 y _ _ g2 _ ⟨S2, e2, rel2, o2⟩ u du => hf _ ρ2 H2 S2 x y v u _ rel2 (dv.go g2) du (o2.bind.mono fun ρ3 H3 z _ _ g3 _ ⟨S3, e3, rel3, o3⟩ w dw => by
      cases z with
      | bl k =>
        cases dw
        refine ⟨k, rfl, ?_⟩
        cases k with
        | true => exact iteT ⟨ρ3, S3, α, rel3, ((sl.go g1).go g2).go g3, o3.bind.mono fun ρ4 H4 q _ _ g4 _ ⟨S4, e4, rel4, o4⟩ t dt => hg _ ρ4 H4 S4 y q u t Q rel4 ((du.go g3).go g4) dt o4⟩
        | false => exact iteF (o3.here rel3 _ .bl)
      | _ => exact o3.elim)⟩⟩
/-! x += e, for whole numbers -/
def mAugI (i : Nat) (m : ME) : MS := fun α S => match α[i]? with
  | some (some (.int a)) => (m α S).then α fun y S1 => match y with
    | .int b => .nx (α.set i (some (.int (a + b)))) S1
    | _ => .no
  | _ => .no
end
/-! list(range(n)) -/
def dLrng (x : Dt) (S : Sto) : Rs Dt := match x with
  | .int n => if 0 ≤ n ∧ n ≤ 1000000 then .ok (.loc S.length) (S ++ [.lst (rngD 0 n.toNat)]) else .no
  | _ => .no
section
variable {X : Cx} {Z : KZ} {W : WX} {e : Expr} {m : ME} {p p2 cpos pos : Pos}
end
/-! name = [..] on one line: the name is a local -/
section
variable {X : Cx} {Z : KZ} {tg iter elt : Expr} {ifs : List Expr} {scope : Scope} {own : List (Str × Nat)} {pos spos py : Pos} {y : Str} {mi : MI} {g : TG} {mg : MG} {mt : MT} {me : ME} {W : WX} {i : Nat}
end
end MD

namespace MD
open PySem PySem.Spec PyProof.Rows L2 NdefX
/-! ### an own error whose __init__ begins with super().__init__(..) -/
/-- what the written part tells of its class C (and of the cell cc that holds it) -/
structure SupC (K : PySem.W.Frag) (C cc : Addr) : Prop where
  o : OexC K C
  cell : ∃ cl cld csl, K.lookup cc = some ⟨cl, cld, .cell (some (.ref C)), csl⟩
  cls : ∃ cd, PySem.W.clsIn K C = some cd
  sub : PySem.W.mroIn K C (.ref C) = some true
  any : PySem.W.nsIn K cStatics "thirdparty.any" = some none
  sup : PySem.W.ks_superIn K C C "__init__" = some (some (.builtin "ValueError.__init__"))
  val : PySem.W.subIn K (.ref C) (.type "ValueError") = some true
/-- what the context tells of the def that runs -/
structure SupX (X : Cx) (cc : Addr) : Prop where
  ks : X.env.kindOf "super" = some .globalImplicit
  kc : X.env.kindOf "__class__" = some .free
  clo : X.env.cells.lookup ("__class__" : Str) = some cc
  mg : X.mg "super" = none
  sf : X.N[0]? = some ("self" : Str)
  kf : X.env.kindOf "self" = some .local
  fn : ∃ f oc od fd osl ar, X.env.func = some f ∧ X.K.lookup f = some ⟨oc, od, .func fd, osl⟩ ∧ (fd.params.posonlyargs ++ fd.params.args).head? = some ar ∧ ar.arg = ("self" : Str)
  cd : ∃ cda ccl cdd ccs vs file tf, X.env.code = .ref cda ∧ X.K.lookup cda = some ⟨ccl, cdd, .fields vs, ccs⟩ ∧ vs[2]? = some (.str file tf) ∧ ((X.prog.main.file : Str) == file) = true
  top : (X.prog.main.scope.names.lookup ("super" : Str)).isSome = false
section
variable {X : Cx} {C cc a : Addr} {pins : List (Addr × Obj)} {σ : L2.St} {H : Hp} {s : Shared} {body : List Stmt} {e : Expr} {es : List Expr} {t : TA} {p0 p1 p2 p3 p4 : Pos}
end
/-! ### the def __init__ itself -/
/-- what C's __init__ keeps: the object gets its dict, which holds the one field -/
def spErr (C : Addr) (fld : Str) (ok : V → Prop) : Sp := fun vs H Q _ => ∃ a v, vs = [.ref a, v] ∧ ok v ∧ H a = some (exo a C none) ∧
  ∀ (H' : Hp) (dx : Addr), (∀ b o, H b = some o → H' b = some o) → H' dx = none → dx ≠ a → Q .non (upd (upd H' dx (exd dx [(fld, v)])) a (exo a C (some dx)))
/-- the words of such a def -/
abbrev errBody (fld : Str) (vals : List Expr) (pj p0 p1 p2 p3 p4 p5 p6 p7 p8 : Pos) : List Stmt :=
  [.Expr (.Call (.Attribute (.Call (.Name "super" p0) [] [] p1) "__init__" p2) [.JoinedStr vals pj] [] p3) p4, .Assign [.Attribute (.Name "self" p5) fld p6] (.Name fld p7) p8]
section
variable {P : Program} {w : World} {K : PySem.W.Frag} {mg : Str → Option Value} {base : Heap} {CX : CXT} {k : Nat} {f C cc cda : Addr} {fd : FuncData} {name qual fld : Str} {params : Arguments} {scope : Scope} {dV kV doc pm ct oc : Value} {an od : Option Addr} {osl : Array (Option Value)} {vals : List Expr} {pj p0 p1 p2 p3 p4 p5 p6 p7 p8 : Pos} {ok : V → Prop} {ar : Arg}
end
end MD

namespace MD
open PySem PySem.Spec PyProof.Rows L2 NdefX
/-! ### fields of instances -/
def putFD (f : Str) (d : Dt) : List (Str × Dt) → List (Str × Dt)
  | [] => [(f, d)]
  | (g, x) :: r => if g = f then (g, d) :: r else (g, x) :: putFD f d r
section
variable {K : PySem.W.Frag} {ρ : List Addr} {H : Hp}
end
def insOf (cn : Str) (x : Dt) (S : Sto) : Option (Nat × List (Str × Dt)) := match x with
  | .loc n => match S[n]? with
    | some (.ins c fs) => if c = cn then some (n, fs) else none
    | _ => none
  | _ => none
def mFld (cn f : Str) (o : ME) : ME := fun α S => (o α S).bind fun x S1 => match insOf cn x S1 with
  | some (_, fs) => match fs.lookup f with
    | some d => .ok d S1
    | none => .no
  | none => .no
def mSetF (cn f : Str) (o m : ME) : MS := fun α S => (m α S).then α fun d S1 => (o α S1).then α fun x S2 => match insOf cn x S2 with
  | some (n, fs) => if fs.length < 900 then .nx α (S2.set n (.ins cn (putFD f d fs))) else .no
  | none => .no
def mMeth (cn m : Str) (n : Nat) (F : List Dt → Sto → Rs Dt) (o : ME) (a : MA) : ME := fun α S => (o α S).bind fun x S1 => match insOf cn x S1 with
  | some (_, fs) => if fs.lookup m = none then (a α S1).bind fun ds S2 => mOwn n F (x :: ds) S2 else .no
  | none => .no
def mMake (cn : Str) (n : Nat) (F : List Dt → Sto → Rs Dt) (a : MA) : ME := fun α S => (a α S).bind fun ds S1 => (mOwn n F (.loc S1.length :: ds) (S1 ++ [.ins cn []])).bind fun d S2 => match d with
  | .non => .ok (.loc S1.length) S2
  | _ => .no
section
variable {X : Cx} {Z : KZ} {W : WX} {cn f m : Str} {o e : Expr} {es : List Expr} {mo me : ME} {mr : MA} {pos pos' apos p : Pos} {k : Nat} {C g : Addr} {fd : FuncData} {ps : List Str} {F : List Dt → Sto → Rs Dt} {sp : Sp}
/-! ### methods and new instances -/
end
end MD

namespace MD
open PySem PySem.Spec PyProof.Rows L2 NdefX
/-! ### a new instance -/
section
variable {X : Cx} {Z : KZ} {W : WX} {cn : Str} {x : Str} {e : Expr} {es : List Expr} {mr : MA} {pos p : Pos} {k : Nat} {g C : Addr} {fd : FuncData} {ps : List Str} {F : List Dt → Sto → Rs Dt} {sp : Sp}
end
/-! ### raise -/
def okE : Dt → Bool
  | .str x => decide (x.length ≤ 900000)
  | .int i => decide (i.natAbs < 1000000000 ∧ (Str.ofString (toString i)).length ≤ 1000)
  | _ => false
def okEV : V → Prop
  | .str x => x.length ≤ 900000
  | .int i => i.natAbs < 1000000000 ∧ (Str.ofString (toString i)).length ≤ 1000
  | _ => False
def mRaise (cn fld : Str) (m : ME) : MS := fun α S => (m α S).then α fun d S1 => if okE d = true then .ex cn [(fld, d)] α S1 else .no
/-- an own error without a field: raise C('..') -/
def mRaise0 (cn : Str) (m : ME) : MS := fun α S => (m α S).then α fun d S1 => .ex cn [] α S1
section
variable {X : Cx} {Z : KZ} {W : WX} {cn fld : Str} {x : Str} {e : Expr} {m : ME} {pos p pos' : Pos} {k : Nat} {f C : Addr} {fd : FuncData}
theorem RelS.more {ρ : List Addr} {H H' : Hp} {S : Sto} (r : RelS Z ρ H S) (k : ∀ b o, H b = some o → H' b = some o) : St Z.K ρ H ρ H' ∧ RelS Z ρ H' S := by
  have st : St Z.K ρ H ρ H' := ⟨⟨[], by simp⟩, fun a xs h => k a _ h, fun a l h => by
    rcases h with ⟨u, h⟩ | h
    · exact .inl ⟨u, k a _ h⟩
    · exact .inr h⟩
  exact ⟨st, r.len, r.nd, fun n a c h1 h2 => by
    have q := r.cell n a c h1 h2
    obtain ⟨u, hu, _⟩ := q.there
    exact q.st st ((k a _ hu).trans hu.symm)⟩
end
end MD

namespace MD
open PySem PySem.Spec PyProof.Rows L2 NdefX
/-! ### try .. except -/
def noEx (r : Fl) : Fl := match r with
  | .ex _ _ _ _ => .no
  | r => r
/-- except C: suite; mt tells which classes the clause takes -/
def mTryS (mt : Str → Option Bool) (mb ms : MS) : MS := fun α S => match mb α S with
  | .ex c fs α' S' => match mt c with
    | some true => noEx (ms α' S')
    | some false => .ex c fs α' S'
    | none => .no
  | r => r
/-- except C as n: return n.f; i is n's slot -/
def mTryF (mt : Str → Option Bool) (cn : Str) (i : Nat) (f : Str) (mb : MS) : MS := fun α S => match mb α S with
  | .ex c fs α' S' => match mt c with
    | some true => if c = cn ∧ i < α'.length then (match fs.lookup f with
      | some d => .rt d S'
      | none => .no) else .no
    | some false => .ex c fs α' S'
    | none => .no
  | r => r
section
variable {X : Cx} {Z : KZ} {W : WX} {x n f : Str} {c : Value} {i : Nat} {body suite : List Stmt} {b₀ : Stmt} {np pos pos' p1 p2 p3 : Pos} {mb ms : MS} {mt : Str → Option Bool} {cn : Str}
end
end MD

namespace MD
open PySem PySem.Spec PyProof.Rows L2 NdefX
/-- a method of the class at C -/
structure DefAtM (K : PySem.W.Frag) (C : Addr) (x qual : Str) (st : Stmt) (ps : List Str) (f : Addr) (fd : FuncData) : Prop where
  F : Fun K x qual st f fd
  b : Binds K fd ps []
  m : Meth K C x f
/-- an own error with one field -/
structure ErrAt (P : Program) (w : World) (K : PySem.W.Frag) (mg : Str → Option Value) (base : Heap) (x fld : Str) (C f : Addr) (fd : FuncData) : Prop where
  g : mg x = some (.ref C)
  o : OexC K C
  iC : PySem.W.findIn K (.ref C) "__init__" = some (some (.ref f))
  tI : PySem.W.typeIn K (.ref f) = some (.type "function")
  F : FnOk P w K mg base (L2.CX P w) 9 f fd ["self", fld] (spErr C fld okEV)
  b : Binds K fd ["self", fld] []
  no : PySem.W.findIn K (.ref C) fld = some none
  xf : XfC K C
  ex : PySem.W.exmOne K (.ref C) (.ref C) = some true
theorem rel_none (Z : KZ) (H : Hp) : RelS Z [] H [] := ⟨rfl, List.nodup_nil, fun n a c h => by
  rw [List.getElem?_nil] at h
  cases h⟩
section
variable {P : Program} {w : World} {K : PySem.W.Frag} {mg : Str → Option Value} {base : Heap} {CX : CXT} {f : Addr} {C cc cda : Addr} {name qual fld pre : Str} {params : Arguments} {scope : Scope} {j : Nat} {p0 p1 p2 pj : Pos} {body : List Stmt}
end
/-- a def of one level below, where there is one -/
def dn (M : Nat → List Dt → Sto → Rs Dt) : Nat → List Dt → Sto → Rs Dt
  | 0 => fun _ _ => .no
  | k + 1 => M k
end MD

namespace MD
open PySem PySem.Spec PyProof.Rows L2
/-- a clause that takes the class x alone, of classes of which only x flies -/
def mtOnly (x : Str) : Str → Option Bool := fun c => if c = x then some true else none
/-! list(range(a, b)), tuple(range(a, b)) -/
def mRg2 (tp : Bool) (a b : ME) : ME := fun α S => (a α S).bind fun x S1 => (b α S1).bind fun y S2 => match x, y with
  | .int i, .int j => if 0 ≤ i ∧ i ≤ 1000000 ∧ 0 ≤ j ∧ j ≤ 1000000 then (if tp = true then .ok (.tup (rngD i (j - i).toNat)) S2 else .ok (.loc S2.length) (S2 ++ [.lst (rngD i (j - i).toNat)])) else .no
  | _, _ => .no
section
variable {X : Cx} {Z : KZ} {W : WX} {e e2 : Expr} {m m2 : ME} {p p2 cpos pos : Pos}
end
end MD
namespace MD
open PySem PySem.Spec PyProof.Rows L2
/-! ### the end of a law whose program has classes -/
def spScr (K : PySem.W.Frag) : Sp := fun vs H Q _ => ∃ (a : Addr) (ns : List Int), vs = [.ref a] ∧ ScrAt K H a ns ∧ ns.length ≤ 63 ∧ ∀ H', Q (.bl true) H'
theorem spScr_of {Z : KZ} {F : List Dt → Sto → Rs Dt} (hF : ∀ ns : List Int, ns.length ≤ 63 → ∃ S, F [.scr ns] [] = .ok (.bl true) S) : ∀ vs H Q E, spScr Z.K vs H Q E → spM Z 1 F vs H Q E := fun vs H Q E ⟨a, ns, e, hs, hl, q⟩ => by
  subst e
  obtain ⟨S, eS⟩ := hF ns hl
  refine ⟨[], [], [.scr ns], rel_none _ _, .cons (.scr hs) .nil, rfl, ?_⟩
  rw [eS]
  intro ρ' H' go rel v dv
  cases dv
  exact q _
/-- does the clause of the class C take errors of the class D -/
theorem exm_at {K : PySem.W.Frag} {C D : Addr} {b : Bool} (h1 : PySem.W.subIn K (.ref C) (.type "BaseException") = some true) (h2 : PySem.W.isClsIn K C = true) (h3 : PySem.W.typeIn K (.ref C) = some (.type "type")) (h4 : PySem.W.subIn K (.ref D) (.ref C) = some b) : PySem.W.exmOne K (.ref D) (.ref C) = some b := by
  have q : (PySem.W.clsIn K C).isSome = true := h2
  unfold PySem.W.exmOne PySem.W.kitCls
  rw [h1]
  simp only [beq_self_eq_true, if_true]
  rw [q, h3]
  simp only [beq_self_eq_true, Bool.and_self, if_true]
  exact h4
end MD

namespace MD
open PySem PySem.Spec PyProof.Rows L2
/-! ### enumerate of a list, walked -/
def mIen (a : MA) : MI := fun α S => (a α S).bind fun xs S1 => match xs with
  | [.loc n] => match S1[n]? with
    | some (.lst l) => .ok (enumD l, some (n, l)) S1
    | _ => .no
  | _ => .no
section
variable {X : Cx} {Z : KZ} {W : WX} {ρ0 : List Addr} {H0 : Hp} {e : Expr} {m : ME} {p pos tpos : Pos} {elts : List Expr} {kk : Nat} {l : List Dt}
end
/-! ### len(set(..)) of ints -/
def metN (ns : List Int) : Nat := (PyProof.Rows.firstMet (fun i => ns.getD i 0) ns.length).length
def mLnS (m : ME) : ME := fun α S => (m α S).bind fun x S1 => match x with
  | .loc n => match S1[n]? with
    | some (.lst l) => match mapO intO l with
      | some ns => if ns.length ≤ 4000 then .ok (.int (metN ns)) S1 else .no
      | none => .no
    | _ => .no
  | _ => .no
section
variable {X : Cx} {Z : KZ} {W : WX} {e : Expr} {m : ME}
def tLnS (K : PySem.W.Frag) (ta : TE) : TE := fun σ H Q => ta σ H fun x H1 => ∃ (l : Addr) (ns : List Int), x = .ref l ∧ SqL K H1 l (ns.map V.int) ∧ ns.length ≤ 4000 ∧ Q (.int (metN ns : Nat)) H1
end
end MD

namespace MD
open PySem PySem.Spec PyProof.Rows L2
/-! ### sorted(xs) of ints -/
def srtL (ns : List Int) : List Int := ns.mergeSort fun a b => decide (a ≤ b)
def dSorted (xs : List Dt) (S : Sto) : Rs Dt := match xs with
  | [.loc n] => match S[n]? with
    | some (.lst l) => match mapO intO l with
      | some ns => .ok (.loc S.length) (S ++ [.lst ((srtL ns).map .int)])
      | none => .no
    | _ => .no
  | _ => .no
section
variable {X : Cx} {Z : KZ}
end
/-! ### a text's count of a text -/
def dCount (x : Dt) (xs : List Dt) (S : Sto) : Rs Dt := match x, xs with
  | .str a, [.str b] => .ok (.int (Txt.count a b)) S
  | _, _ => .no
section
variable {Z : KZ}
end
end MD

namespace MD
open PySem PySem.Spec PyProof.Rows L2
/-! ### a ** b of small numbers -/
def dPow (x y : Dt) (S : Sto) : Rs Dt := match x, y with
  | .int i, .int j => if 0 ≤ j ∧ j ≤ 1000000 ∧ i.natAbs < 2 ^ 64 then .ok (.int (i ^ j.toNat)) S else .no
  | _, _ => .no
section
variable {Z : KZ}
theorem omPow : OpM Z dPow (rI CPow fun i j => .int (i ^ j.toNat)) := by
  intro E ρ H S x y v u Q rel dx dy o
  unfold dPow at o
  split at o
  · cases dx
    cases dy
    split at o
    · rename_i h
      exact ⟨_, _, rfl, rfl, h, o.here rel _ .int⟩
    · exact o.elim
  · exact o.elim
end
/-! ### raise C(e), C without an __init__ of its own -/
section
variable {X : Cx} {Z : KZ} {W : WX} {cn x : Str} {e : Expr} {m : ME} {pos p pos' : Pos} {C : Addr}
theorem ms_raise1 {B newId initId : String} {bmB : List Value} (hc : X.calm = true) (tk : Takes X W) (hcl : Z.cl cn = C) (FB : ExcBaseFacts B newId initId bmB) (q : PySem.W.excIn X.K C bmB newId = true) (kC : PySem.W.keepIn X.K (.ref C) = true) (r : Raises X (.ref C)) (hg : Gl X x) (hm : X.mg x = some (.ref C)) (he : PE X e (tE Z W m))
    (hst : starEach [e] X.env = (false, eval e X.env) :: starEach [] X.env := by rfl) (hdb : (x == ("__debug__" : Str)) = false := by decide) :
    PS X (.Raise (some (.Call (.Name x p) [e] [] pos)) none pos') (tS Z W (mRaise0 cn m)) := by
  subst hcl
  refine imS (ps_raise hc tk (SkE.pmk_own1 FB q hm kC r hg he hst hdb)) fun D σ H ⟨ρ, S, α, rel, sl, oo⟩ => ⟨ρ, S, α, rel, sl, ?_⟩
  unfold mRaise0 at oo
  exact out_then (P := PV Z.K _) sl oo fun ρ' H' d S' _ g r' o' v dv => o' ρ' H' σ none Go.refl r' (sl.go g) (.inl ⟨rfl, rfl⟩)
end
/-! ### str.replace of written texts, and the defs whose first statement holds it -/
def mRep (y z : Str) (o : ME) : ME := fun α S => (o α S).bind fun x S1 => match x with
  | .str a => if a.length + (a.length + 1) * z.length ≤ 16777216 then .ok (.str (Txt.replace a y z)) S1 else .no
  | _ => .no
section
variable {X : Cx} {Z : KZ} {W : WX} {m ma mb : ME} {o e : Expr} {y z : Str} {j k : Nat} {c0 c1 apos pos pos' : Pos} {st : Stmt} {sts : List Stmt} {msa msb : MS}
theorem rep_im {t : TE} (σ : L2.St) (H : Hp) (Q : VK) (h : tE Z W (mRep y z m) σ H Q) (hm : ∀ Q', tE Z W m σ H Q' → t σ H Q') : CwR.tReplC t y z σ H Q := by
  obtain ⟨ρ, S, α, rel, sl, oo⟩ := h
  unfold CwR.tReplC
  refine hm _ ⟨ρ, S, α, rel, sl, ?_⟩
  unfold mRep at oo
  refine oo.bind.mono fun ρ1 H1 x _ _ g1 _ ⟨S1, e1, rel1, o1⟩ v dv => ?_
  cases x with
  | str a =>
    dsimp only at o1
    split at o1
    · rename_i hl
      cases dv
      exact ⟨_, rfl, hl, o1.here rel1 _ .str⟩
    · exact o1.elim
  | _ => exact o1.elim
theorem m_rep1 (ho : PE X o (tE Z W m)) (hyz : (y == z) = false) (hst : starEach [.Constant (.str y) j c0, .Constant (.str z) k c1] X.env = [(false, eval (.Constant (.str y) j c0) X.env), (false, eval (.Constant (.str z) k c1) X.env)] := by rfl)
    (hab : attributeBase o "replace" X.env (eval o X.env) = eval o X.env := by rfl) (hl : (apos.endLine == pos.line) = true := by rfl) :
    PET X (.Call (.Attribute o "replace" apos) [.Constant (.str y) j c0, .Constant (.str z) k c1] [] pos) (tE Z W (mRep y z m)) :=
  fun pins s σ H Q h0 I q => CwR.pet_replC ho hyz hst hab hl pins s σ H Q h0 I (rep_im σ H Q q fun _ h => h)
theorem m_rep2 (ho : PET X o (tE Z W m)) (hyz : (y == z) = false) (hst : starEach [.Constant (.str y) j c0, .Constant (.str z) k c1] X.env = [(false, eval (.Constant (.str y) j c0) X.env), (false, eval (.Constant (.str z) k c1) X.env)] := by rfl)
    (hab : attributeBase o "replace" X.env (eval o X.env) = eval o X.env := by rfl) (hl : (apos.endLine == pos.line) = true := by rfl) :
    PET X (.Call (.Attribute o "replace" apos) [.Constant (.str y) j c0, .Constant (.str z) k c1] [] pos) (tE Z W (mRep y z m)) :=
  fun pins s σ H Q h0 I q => CwR.pet_replT ho hyz hst hab hl pins s σ H Q h0 I (rep_im σ H Q q fun _ h => h)
theorem ms_setT {i : Nat} {x : Str} (hN : X.N.Nodup) (hi : X.N[i]? = some x) (hx : Loc X.env.scope x) (he : PET X e (tE Z W m)) (hs : swapsWith e (some (.Name x pos')) pos.line X.env = pure false := by rfl) (hf : X.fn x = true ∨ X.env.scope.names.lookup x = some .local := by first | exact .inl rfl | exact .inr rfl | assumption) :
    PST X (.Assign [.Name x pos'] e pos) (tS Z W (mSet i (mGc m))) := by
  intro pins s σ H D h0 I ⟨ρ, S, α, rel, sl, o⟩
  have q : tE Z W m σ H (fun x H1 => gName i x σ H1 D.nx) := ⟨ρ, S, α, rel, sl, out_gc rel (out_then (P := PV Z.K _) sl o fun ρ' H' d S' _ g r o' v dv => o' ρ' H' _ Go.refl r ((sl.go g).set i dv))⟩
  exact wpAny_Assign_Name (thn (he pins s σ H _ h0 I q) fun v s1 ⟨y, H1, I1, r1, q1⟩ => store_ok I1 hN hi hx r1 (fun s2 I2 => ⟨_, H1, I2, q1⟩) hf) hs
theorem ms2T (h : PST X st (tS Z W msa)) (h2 : PSs X sts (tS Z W msb)) : PSsT X (st :: sts) (tS Z W (mSq msa msb)) := by
  intro pins s σ H D h0 I ⟨ρ, S, α, rel, sl, o⟩
  refine psst_cons h (PSsT.of h2) pins s σ H D h0 I ⟨ρ, S, α, rel, sl, ?_⟩
  unfold mSq at o
  cases em : msa α S with
  | nx α1 S1 =>
    rw [em] at o
    exact fun ρ' H' σ' g r s => ⟨ρ', S1, α1, r, s, OutS.shift o g⟩
  | rt d S1 => rw [em] at o; exact o
  | bk α1 S1 => rw [em] at o; exact o
  | ct α1 S1 => rw [em] at o; exact o
  | ex c fs α1 S1 => rw [em] at o; exact o
  | no => rw [em] at o; exact o
end
/-! ### a def whose body wants a token: it has a parameter, which brings one -/
section
variable {P : Program} {w : World} {K : PySem.W.Frag} {mg : Str → Option Value} {base : Heap} {CX : CXT} {j k : Nat} {f : Addr} {fd : FuncData} {ps : List Str} {sp sp' : Sp}
theorem fnD_ofT {name qual : Str} {params : Arguments} {body : List Stmt} {scope : Scope} {dV kV doc pm cdv ct oc : Value} {an od : Option Addr}
    {osl : Array (Option Value)} {N : List Str} (lk : K.lookup f = some ⟨oc, od, .func (PySem.W.fnOf name qual params body scope dV kV doc pm an cdv ct), osl⟩) (hcd : PySem.W.codeIn K cdv qual = true) (S : FnScope N ps scope)
    (hnc : ∀ y ∈ scope.names, y.2 ≠ .cell) (hps : 1 ≤ ps.length)
    (len : ∀ vs H Q E, sp vs H Q E → vs.length = ps.length)
    (hbody : ∀ (A : Around) (outer : List PySem.Env) (s : Shared) (H : Hp) (vs : List V) (Q : VK) (E : XK), RoomD k (A.deeper (envOfC qual scope s.heap.objs.size f cdv)) → sp vs H Q E →
      ∃ t, PSsT (cxOf CX P w K mg base N qual scope f cdv A outer s H E) body t ∧ t { nx := fun _ H' => Q .non H', rt := Q } (start N vs) H) :
    FnD P w K mg base CX (k + 1) f (PySem.W.fnOf name qual params body scope dV kV doc pm an cdv ct) ps sp := by
  refine ⟨len, fun A outer s H args us vs Q E hr e0 hb r hsp => ?_⟩
  have hl := len _ _ _ _ hsp
  have KX : K.In s.heap := e0.mod.kin.keeps fun b o e => (e0.bs b o e).1
  have lim : s.heap.NoLimit := e0.mod.nolimit.keeps fun b o e => (e0.bs b o e).1
  have hul : us.length = ps.length := by rw [← r.length]; exact hl
  have hkind : ∀ y ∈ ps.zip us, scope.names.lookup y.1 = some .local := fun ⟨n, v⟩ hy => by
    rcases S.par n (List.of_mem_zip hy).1 with q | q
    · exact q
    · exact absurd rfl (hnc _ (mem_of_lookup q))
  refine codeAny_call_function hr.depth (KX _ _ lk) rfl S.co S.gen rfl (PySem.W.codeRec_of KX hcd) (hb _ _ _ _ ?_)
  refine wpAny_newFunctionEnv hnc hkind (fun h' hns hsb => ?_) S.kind
  have hz : (ps.zip us).length = ps.length := by rw [List.length_zip, hul, Nat.min_self]
  have keep : ∀ (b : Addr) (o : Obj), s.heap.get? b = some o → h'.get? b = some o := fun b o e => hsb.extBut b o (Nat.ne_of_lt (Heap.lt_size e)) (Heap.get?_push_of_some _ e)
  have hcl := L2.cells_none scope.names (s.heap.objs.size + 1) [] hnc
  have hm : (bindL (envOfC qual scope s.heap.objs.size f cdv).kindOf (ps.zip us) fun _ => none) = fun y => (ps.zip us).reverse.lookup y := funext fun y => by
    rw [L2.bindL_loc (kindOf := (envOfC qual scope s.heap.objs.size f cdv).kindOf) (ps.zip us) (fun _ => none) (fun x hx => hkind x hx) y]
    cases (ps.zip us).reverse.lookup y <;> rfl
  have x : InCallC s s.heap.objs.size (bindL (envOfC qual scope s.heap.objs.size f cdv).kindOf (ps.zip us) fun _ => none) (cellsFrom (s.heap.objs.size + 1) scope.names []) (bindC (envOfC qual scope s.heap.objs.size f cdv).kindOf (ps.zip us) fun _ => none) ⟨h', s.gens, s.drawn, s.toks + (ps.zip us).length, s.os⟩ := by
    rw [hm, hcl]
    exact ⟨⟨⟨h', _, rfl⟩, hns, keep, Nat.le_refl _⟩, (fun n c hc => (by cases hc)), List.Pairwise.nil, fun n c hc => absurd hc List.not_mem_nil⟩
  have henv : newEnv scope s.heap.objs.size mainGlobals [] (qual ++ ".<locals>.") (some f) cdv none builtinsNs = envOfC qual scope s.heap.objs.size f cdv := by
    unfold newEnv envOfC
    rw [hcl]
  show _ ∧ codeAny _ _ (.func body (newEnv scope s.heap.objs.size mainGlobals [] (qual ++ ".<locals>.") (some f) cdv none builtinsNs)) _ _
  rw [henv]
  refine ⟨lim.keeps x.toInCall.keep, codeAny_func ?_⟩
  obtain ⟨t, ht, hq⟩ := hbody A outer s H vs Q E (hr.deeper _) hsp
  have I : Inv (cxOf CX P w K mg base N qual scope f cdv A outer s H E) [] (start N vs) H ⟨h', s.gens, s.drawn, s.toks + (ps.zip us).length, s.os⟩ := inv_start S hr.hd e0 hl r x
  refine wpAny_mono (ht [] _ (start N vs) H _ (by show 1 ≤ s.toks + (ps.zip us).length; omega) I hq) (fun fl s' hs => ?_) fun e s' hs => hs
  have fin : ∀ {σ' : L2.St} {H' : Hp} {v : V} {u : Value}, Inv (cxOf CX P w K mg base N qual scope f cdv A outer s H E) [] σ' H' s' → RelV v u → Q v H' → CE outer P w H s Q u s' :=
    fun {σ' H' v u} J rv q => ⟨v, H', J.os, J.bare, J.base, J.hok, rv, q⟩
  cases fl with
  | ret u =>
    obtain ⟨v, σ', H', J, rv, q⟩ := hs
    exact fin J rv q
  | next =>
    obtain ⟨σ', H', J, q⟩ := hs
    exact fin (v := V.non) (u := Value.none) J rfl q
  | brk =>
    obtain ⟨_, _, _, q⟩ := hs
    exact False.elim q
  | cont =>
    obtain ⟨_, _, _, q⟩ := hs
    exact False.elim q
end
section
variable {P : Program} {w : World} {Z : KZ} {mg : Str → Option Value} {base : Heap}
theorem fn_mT {x qual : Str} {st : Stmt} {f : Addr} {fd : FuncData} {N ps : List Str} {k : Nat} {body : MS} (F : Fun Z.K x qual st f fd) (S : FnScope N ps (defScope st)) (hnc : ∀ y ∈ (defScope st).names, y.2 ≠ .cell) (hps : 1 ≤ ps.length)
    (hb : ∀ (cdv : Value) (A : Around) (outer : List PySem.Env) (s : Shared) (H : Hp) (E : XK), RoomD k (A.deeper (envOfC qual (defScope st) s.heap.objs.size f cdv)) →
      PSsT (cxOf (L2.CX P w) P w Z.K mg base N qual (defScope st) f cdv A outer s H E) (defBody st) (tS Z (fun c d _ H => E c d H) body)) :
    FnM P w Z mg base (k + 1) f fd ps (mFn N.length body) := by
  obtain ⟨oc, od, kV, doc, pm, an, cdv, ct, osl, rfl, lk, hcd⟩ := F.ex
  refine fnD_ofT lk hcd S hnc hps (fun vs H Q E ⟨ρ, S, ds, _, dv, hl, _⟩ => by rw [dv.length]; exact hl) fun A outer s H vs Q E hr ⟨ρ, S', ds, rel, dv, hl, o⟩ => ⟨_, hb cdv A outer s H E hr, ρ, S', startE N.length ds, rel, ?_, ?_⟩
  · refine ⟨?_, fun i d hi => ?_⟩
    · unfold L2.start startE
      rw [List.length_append, List.length_append, List.length_map, List.length_map, List.length_replicate, List.length_replicate, dv.length]
    · unfold startE at hi
      by_cases h : i < ds.length
      · rw [List.getElem?_append_left (by simpa using h), List.getElem?_map] at hi
        obtain ⟨d', hd', e⟩ := Option.map_eq_some_iff.mp hi
        cases e
        obtain ⟨v, hv, dv'⟩ := dv.get hd'
        refine ⟨v, ?_, dv'⟩
        unfold L2.start
        rw [List.getElem?_append_left (by rw [List.length_map, dv.length]; exact h), List.getElem?_map, hv]
        rfl
      · rw [List.getElem?_append_right (by simpa using h), List.getElem?_replicate] at hi
        split at hi <;> cases hi
  · unfold mFn at o
    cases eb : body (startE N.length ds) S' with
    | nx α S1 =>
      rw [eb] at o
      exact fun ρ' H' σ' g r sl => gc_ok rel o g r .non
    | rt d S1 =>
      rw [eb] at o
      exact fun ρ' H' v g r dv' => gc_ok rel o g r dv'
    | ex c fs α S1 =>
      rw [eb] at o
      intro ρ' H' σ' dx g r sl x
      dsimp only at o
      unfold gcX at o
      split at o
      · rename_i h
        obtain ⟨g2, r2, hj⟩ := gc_state rel g r h.1
        exact o ρ H' dx g2 r2 (x.cut hj h.2)
      · exact o ρ' H' dx g r x
    | bk α S1 => rw [eb] at o; exact o.elim
    | ct α S1 => rw [eb] at o; exact o.elim
    | no => rw [eb] at o; exact o.elim
end
end MD

namespace MD
open PySem PySem.Spec PyProof.Rows L2
/-! ### l.index(text) of a list of texts -/
def dIndex (x : Dt) (xs : List Dt) (S : Sto) : Rs Dt := match x, xs with
  | .loc n, [.str z] => match S[n]? with
    | some (.lst l) => match mapO strO l with
      | some ys => if ys.findIdx (fun y => y == z) < ys.length then .ok (.int ((ys.findIdx (fun y => y == z) : Nat) : Int)) S else .no
      | none => .no
    | _ => .no
  | _, _ => .no
section
variable {Z : KZ}
end
/-! ### what is never reached: a raise, and the clauses behind a body that raises nothing -/
def mNo : MS := fun _ _ => .no
def mTryN (mb : MS) : MS := fun α S => noEx (mb α S)
section
variable {X : Cx} {Z : KZ} {W : WX} {body : List Stmt} {b : Stmt} {h₀ : ExceptHandler} {hds : List ExceptHandler} {pos : Pos} {mb : MS}
end
/-! ### a chain of two comparisons, as a test -/
section
variable {X : Cx} {Z : KZ} {W : WX} {pos : Pos}
theorem chain_read {r r' : R2} {f g : Dt → Dt → Sto → Rs Dt} {ma mb mc : ME} (hf : OpM Z f r) (hg : OpM Z g r') {σ : L2.St} {H : Hp} {Q : VK} (h : tE Z W (mChain f g ma mb mc) σ H Q) : tChain r r' (tE Z W ma) (tE Z W mb) (tE Z W mc) σ H Q := by
  obtain ⟨ρ, S, α, rel, sl, o⟩ := h
  exact ⟨ρ, S, α, rel, sl, o.bind.mono fun ρ1 H1 x _ _ g1 _ ⟨S1, e1, rel1, o1⟩ v dv =>
    ⟨ρ1, S1, α, rel1, sl.go g1, o1.bind.mono fun ρ2 H2 y _ _ g2 _ ⟨S2, e2, rel2, o2⟩ u du => hf _ ρ2 H2 S2 x y v u _ rel2 (dv.go g2) du (o2.bind.mono fun ρ3 H3 z _ _ g3 _ ⟨S3, e3, rel3, o3⟩ w dw => by
      cases z with
      | bl k =>
        cases dw
        refine ⟨k, rfl, ?_⟩
        cases k with
        | true => exact iteT ⟨ρ3, S3, α, rel3, ((sl.go g1).go g2).go g3, o3.bind.mono fun ρ4 H4 q _ _ g4 _ ⟨S4, e4, rel4, o4⟩ t dt => hg _ ρ4 H4 S4 y q u t Q rel4 ((du.go g3).go g4) dt o4⟩
        | false => exact iteF (o3.here rel3 _ .bl)
      | _ => exact o3.elim)⟩⟩
theorem mt_chain {op op' : CmpOp} {r r' : R2} {f g : Dt → Dt → Sto → Rs Dt} {a b c : Expr} {ma mb mc : ME} (ho : OpR X (compareOp op) r) (ho' : OpR X (compareOp op') r') (hf : OpM Z f r) (hg : OpM Z g r') (ha : PE X a (tE Z W ma)) (hb : PE X b (tE Z W mb)) (hc : PE X c (tE Z W mc))
    (hm : lastMarks [op, op'] [b, c] = false := by with_unfolding_all rfl) : PT X (.Compare a [op, op'] [b, c] pos) (tT Z W (mT (mChain f g ma mb mc))) :=
  imT (pt_chain ho ho' ha hb hc hm) fun σ H Q ⟨ρ, S, α, rel, sl, o⟩ => by
    refine chain_read (Q := fun x H' => ∃ k, x = .bl k ∧ Q k H') hf hg ⟨ρ, S, α, rel, sl, o.bind.mono fun ρ1 H1 x _ _ g1 _ ⟨S1, e1, rel1, o1⟩ v dv => ?_⟩
    cases x with
    | bl k =>
      cases dv
      exact ⟨k, rfl, o1.here rel1⟩
    | _ => exact o1.elim
end
end MD

namespace MD
open PySem PySem.Spec PyProof.Rows L2
/-! ### a, b, c = x, y, z -/
def mPar3 (i j l : Nat) (m : MA) : MS := fun α S => (m α S).then α fun xs S1 => match xs with
  | [x, y, z] => .nx (((α.set i (some x)).set j (some y)).set l (some z)) S1
  | _ => .no
section
variable {X : Cx} {Z : KZ} {W : WX} {i j l : Nat} {x y z : Str} {a b c : Expr} {m : MA} {px py pz pt pos : Pos} {kt k2 pt2}
end
end MD

namespace MD
open PySem PySem.Spec PyProof.Rows L2
/-! ### enumerate(xs, start=k), walked -/
section
variable {M : Model} {A : Around} {E : Value → Shared → Prop} {s : Shared} {env : PySem.Env}
end
section
variable {prog : Program} {w : World} {A : Around} {E : Value → Shared → Prop} {s : Shared}
end
/-- the list at a as it stands at each turn, each item in a new pair; the count begins with c -/
def ItS (K : PySem.W.Frag) (c : Int) (a : Addr) : It :=
  ⟨fun i H => ∃ (xs : List V) (x : V), SqL K H a xs ∧ xs[i]? = some x, fun i H v H' => ∃ T x, v = .ref T ∧ H T = none ∧ H' = upd H T (.tup [.int (c + (i : Nat)), x]) ∧ ∀ xs, SqL K H a xs → xs[i]? = some x, fun i H => ∃ xs : List V, SqL K H a xs ∧ xs.length ≤ i⟩
def iEnumS (c : Int) (K : PySem.W.Frag) (ta : TA) : TI := fun σ H R => ta σ H fun vs H1 => ∃ a xs, vs = [.ref a] ∧ SqL K H1 a xs ∧ R (ItS K c a) H1
/-- a list's items, numbered from c -/
def enumSD (c : Int) (l : List Dt) : List Dt := (enumD l).map fun d => match d with
  | .tup [.int i, x] => .tup [.int (c + i), x]
  | d => d
def mIenS (c : Int) (a : MA) : MI := fun α S => (a α S).bind fun xs S1 => match xs with
  | [.loc n] => match S1[n]? with
    | some (.lst l) => .ok (enumSD c l, some (n, l)) S1
    | _ => .no
  | _ => .no
section
variable {X : Cx} {Z : KZ} {W : WX} {ρ0 : List Addr} {H0 : Hp} {e : Expr} {m : ME} {p pos tpos cp kp : Pos} {elts : List Expr} {kk : Nat} {l : List Dt} {c : Int} {j : Nat}
end
/-! name = {..} on one line: the name is a local -/
section
variable {tg iter elt kx vx : Expr} {ifs : List Expr} {scope : Scope} {own : List (Str × Nat)} {pos : Pos} {mi : MI} {g : TG} {mg : MG} {mt : MT} {me mk mv : ME}
end
section
variable {X : Cx} {Z : KZ} {tg iter kx vx : Expr} {ifs : List Expr} {scope : Scope} {own : List (Str × Nat)} {pos spos py : Pos} {y : Str} {mi : MI} {g : TG} {mg : MG} {mt : MT} {mk mv : ME} {W : WX} {i : Nat}
end
/-! an own error without an __init__, caught by its own class -/
end MD

namespace DM
open PySem L2 MD
noncomputable def M_h_pick : Nat → List Dt → Sto → Rs Dt
  | 0 => fun _ _ => .no
  | k + 1 => mFn 6 (mSq (mIfS (mT (mOp dGt (mOp dIx (mVar 0) (mC (.int 1))) (mC (.int 0)))) (mSq (mSet 3 (mGc (mOp dMod (mCall dInt (mA1 (mOp dIx (mVar 0) (mC (.int 1))) mA0)) (mVar 2))))
      (mSq (mSub (mVar 0) (mC (.int 1)) (mOp dDiv (mOp dIx (mVar 0) (mC (.int 1))) (mVar 2)))
      (mRt (mVar 3)))) mNx)
      (mSq (mSet 4 (mGc (mOp dIx (mVar 0) (mC (.int 0)))))
      (mSq (mSub (mVar 0) (mC (.int 0)) (mOp dAdd (mVar 4) (mC (.int 1))))
      (mSq (mIfS (mT (mOp dLt (mVar 4) (mCall dLen (mA1 (mVar 1) mA0)))) (mSq (mSet 5 (mGc (mCall dAbs (mA1 (mCall dInt (mA1 (mOp dIx (mVar 1) (mVar 4)) mA0)) mA0))))
      (mSq (mIfS (mT (mOp dGe (mVar 5) (mOp dPow (mC (.int 10)) (mC (.int 18))))) (mSq (mSub (mVar 0) (mC (.int 1)) (mOp dDiv (mVar 5) (mVar 2)))
      (mRt (mOp dMod (mCall dInt (mA1 (mVar 5) mA0)) (mVar 2)))) mNx)
      (mSub (mVar 0) (mC (.int 2)) (mOp dMod (mCall dInt (mA1 (mOp dAdd (mOp dAdd (mOp dMul (mOp dIx (mVar 0) (mC (.int 2))) (mC (.int 40014))) (mOp dMul (mVar 5) (mC (.int 69621)))) (mC (.int 17))) mA0)) (mC (.int 2147483563)))))) mNx)
      (mSq (mSub (mVar 0) (mC (.int 2)) (mOp dMod (mCall dInt (mA1 (mOp dAdd (mOp dAdd (mOp dMul (mOp dIx (mVar 0) (mC (.int 2))) (mC (.int 48271))) (mOp dMul (mC (.int 11)) (mVar 4))) (mC (.int 5))) mA0)) (mC (.int 2147483647))))
      (mRt (mOp dMod (mCall dInt (mA1 (mOp dDiv (mOp dMul (mOp dIx (mVar 0) (mC (.int 2))) (mOp dIx (mVar 0) (mC (.int 2)))) (mC (.int 8191))) mA0)) (mVar 2))))))))
noncomputable def M_h_same : Nat → List Dt → Sto → Rs Dt
  | 0 => fun _ _ => .no
  | k + 1 => mFn 3 (mSq (mIfS (mT (mOp dIsN (mVar 1) (mC .non))) (mRt (mOp dIsN (mVar 0) (mC .non))) mNx)
      (mSq (mIfS (mTru (mCall dIsi (mA1 (mVar 1) (mA1 (mC (.ty "tuple")) mA0)))) (mSq (mIfS (mtOr (mtNot (mTru (mCall dIsi (mA1 (mVar 0) (mA1 (mC (.ty "tuple")) mA0))))) (mT (mOp dNe (mCall dLen (mA1 (mVar 0) mA0)) (mCall dLen (mA1 (mVar 1) mA0))))) (mRt (mC (.bl false))) mNx)
      (mSq (mFor (mIr1 (mA1 (mCall dLen (mA1 (mVar 1) mA0)) mA0)) (gN 2) (mIfS (mtNot (mTru (mCall (mOwn 2 (M_h_same k)) (mA1 (mOp dIx (mVar 0) (mVar 2)) (mA1 (mOp dIx (mVar 1) (mVar 2)) mA0))))) (mRt (mC (.bl false))) mNx))
      (mRt (mC (.bl true))))) mNx)
      (mSq (mIfS (mTru (mCall dIsi (mA1 (mVar 1) (mA1 (mC (.ty "int")) mA0)))) (mRt (mAnd (mCall dIsi (mA1 (mVar 0) (mA1 (mC (.ty "int")) mA0))) (mAnd (mNot (mCall dIsi (mA1 (mVar 0) (mA1 (mC (.ty "bool")) mA0)))) (mOp dEq (mVar 0) (mVar 1))))) mNx)
      (mRt (mAnd (mCall dIsi (mA1 (mVar 0) (mA1 (mC (.ty "str")) mA0))) (mOp dEq (mVar 0) (mVar 1)))))))
noncomputable def M_h_new : Nat → List Dt → Sto → Rs Dt
  | 0 => fun _ _ => .no
  | k + 1 => mFn 4 (mSq (mIfS (mT (mOp dNotIn (mVar 1) (mVar 0))) (mRt (mVar 1)) mNx)
      (mSq (mFor (mIr1 (mA1 (mC (.int 99)) mA0)) (gN 2) (mSq (mSet 3 (mGc (mOp dAdd (mSl dSl (mVar 1) mOn (mOs (mC (.int 10)))) (mCall dStr (mA1 (mVar 2) mA0)))))
      (mIfS (mT (mOp dNotIn (mVar 3) (mVar 0))) (mRt (mVar 3)) mNx)))
      (mRt (mVar 1))))
noncomputable def M_h_name : Nat → List Dt → Sto → Rs Dt
  | 0 => fun _ _ => .no
  | k + 1 => mFn 8 (mSq (mSet 3 (mGc (mC (.str "abcdefghijklmnopqrstuvwxyz"))))
      (mSq (mSet 4 (mGc (mOp dAdd (mOp dAdd (mVar 3) (mM0 dUpper (mVar 3))) (mC (.str "0123456789")))))
      (mSq (mSet 5 (mGc (mOp dAdd (mC (.int 1)) (mCall (mOwn 3 (M_h_pick k)) (mA1 (mVar 0) (mA1 (mVar 1) (mA1 (mC (.int 3)) mA0)))))))
      (mSq (mIfS (mT (mOp dEq (mVar 5) (mC (.int 3)))) (mSet 5 (mGc (mOp dAdd (mC (.int 1)) (mCall (mOwn 3 (M_h_pick k)) (mA1 (mVar 0) (mA1 (mVar 1) (mA1 (mC (.int 12)) mA0))))))) mNx)
      (mSq (mSet 6 (mGc (mOp dIx (mOp dIx (mLst (mA1 (mVar 3) (mA1 (mM0 dUpper (mVar 3)) mA0))) (mCall dInt (mA1 (mVar 2) mA0))) (mCall (mOwn 3 (M_h_pick k)) (mA1 (mVar 0) (mA1 (mVar 1) (mA1 (mC (.int 26)) mA0)))))))
      (mSq (mFor (mIr1 (mA1 (mOp dSub (mVar 5) (mC (.int 1))) mA0)) (gN 7) (mSet 6 (mGc (mOp dAdd (mVar 6) (mOp dIx (mVar 4) (mCall (mOwn 3 (M_h_pick k)) (mA1 (mVar 0) (mA1 (mVar 1) (mA1 (mC (.int 62)) mA0)))))))))
      (mRt (mVar 6))))))))
noncomputable def M_h_world : Nat → List Dt → Sto → Rs Dt
  | 0 => fun _ _ => .no
  | k + 1 => mFn 8 (mSq (mSet 3 (mGc (mLst mA0)))
      (mSq (mSet 4 (mGc (mLst mA0)))
      (mSq (mFor (mIr1 (mA1 (mOp dAdd (mC (.int 1)) (mCall (mOwn 3 (M_h_pick k)) (mA1 (mVar 0) (mA1 (mVar 1) (mA1 (mC (.int 4)) mA0))))) mA0)) (gN 5) (mSq (mEx (mGc (mMt dAppend (mVar 3) (mA1 (mCall (mOwn 2 (M_h_new k)) (mA1 (mVar 3) (mA1 (mCall (mOwn 3 (M_h_name k)) (mA1 (mVar 0) (mA1 (mVar 1) (mA1 (mC (.bl true)) mA0)))) mA0))) mA0))))
      (mEx (mGc (mMt dAppend (mVar 4) (mA1 (mTup (mA1 (mOp dIx (mVar 3) (mVar 5)) (mA1 (mCall (mOwn 3 (M_h_pick k)) (mA1 (mVar 0) (mA1 (mVar 1) (mA1 (mC (.int 3)) mA0)))) mA0))) mA0))))))
      (mSq (mSet 3 (mGc (mLst mA0)))
      (mSq (mSet 6 (mGc (mLst mA0)))
      (mSq (mFor (mIr1 (mA1 (mCall (mOwn 3 (M_h_pick k)) (mA1 (mVar 0) (mA1 (mVar 1) (mA1 (mVar 2) mA0)))) mA0)) (gN 5) (mSq (mEx (mGc (mMt dAppend (mVar 3) (mA1 (mCall (mOwn 2 (M_h_new k)) (mA1 (mVar 3) (mA1 (mCall (mOwn 3 (M_h_name k)) (mA1 (mVar 0) (mA1 (mVar 1) (mA1 (mC (.bl false)) mA0)))) mA0))) mA0))))
      (mSq (mSet 7 (mGc (mCall (mOwn 3 (M_h_pick k)) (mA1 (mVar 0) (mA1 (mVar 1) (mA1 (mC (.int 4)) mA0))))))
      (mSq (mIfS (mT (mOp dEq (mCall (mOwn 3 (M_h_pick k)) (mA1 (mVar 0) (mA1 (mVar 1) (mA1 (mC (.int 12)) mA0)))) (mC (.int 0)))) (mSet 7 (mGc (mCall (mOwn 3 (M_h_pick k)) (mA1 (mVar 0) (mA1 (mVar 1) (mA1 (mC (.int 101)) mA0)))))) mNx)
      (mEx (mGc (mMt dAppend (mVar 6) (mA1 (mTup (mA1 (mOp dIx (mVar 3) (mVar 5)) (mA1 (mVar 7) mA0))) mA0))))))))
      (mRt (mTup (mA1 (mVar 6) (mA1 (mVar 4) mA0))))))))))
noncomputable def M_h_body : Nat → List Dt → Sto → Rs Dt
  | 0 => fun _ _ => .no
  | k + 1 => mFn 12 (mSq (mSub (mVar 0) (mC (.int 3)) (mOp dSub (mOp dIx (mVar 0) (mC (.int 3))) (mC (.int 1))))
      (mSq (mAsg (gT [5, 6]) (mGc (mVar 2)))
      (mSq (mSet 7 (mGc (mCall (mOwn 3 (M_h_pick k)) (mA1 (mVar 0) (mA1 (mVar 1) (mA1 (mC (.int 5)) mA0))))))
      (mSq (mIfS (mtAnd (mT (mOp dLt (mVar 7) (mC (.int 2)))) (mT (mOp dGt (mVar 3) (mC (.int 0))))) (mSq (mSet 8 (mGc (mCall (mOwn 3 (M_h_pick k)) (mA1 (mVar 0) (mA1 (mVar 1) (mA1 (mVar 3) mA0))))))
      (mSet 9 (mGc (mCall dInt (mA1 (mOp dEq (mCall (mOwn 3 (M_h_pick k)) (mA1 (mVar 0) (mA1 (mVar 1) (mA1 (mC (.int 4)) mA0)))) (mC (.int 0))) mA0))))) (mIfS (mtOr (mT (mOp dLt (mVar 7) (mC (.int 4)))) (mT (mOp dEq (mCall dLen (mA1 (mVar 5) mA0)) (mC (.int 0))))) (mAsg (gT [8, 9]) (mGc (mOp dIx (mVar 6) (mCall (mOwn 3 (M_h_pick k)) (mA1 (mVar 0) (mA1 (mVar 1) (mA1 (mCall dLen (mA1 (mVar 6) mA0)) mA0))))))) (mAsg (gT [8, 9]) (mGc (mOp dIx (mVar 5) (mCall (mOwn 3 (M_h_pick k)) (mA1 (mVar 0) (mA1 (mVar 1) (mA1 (mCall dLen (mA1 (mVar 5) mA0)) mA0)))))))))
      (mSq (mIfS (mT (mOp dEq (mCall (mOwn 3 (M_h_pick k)) (mA1 (mVar 0) (mA1 (mVar 1) (mA1 (mC (.int 8)) mA0)))) (mC (.int 0)))) (mSet 9 (mGc (mCall (mOwn 3 (M_h_pick k)) (mA1 (mVar 0) (mA1 (mVar 1) (mA1 (mC (.int 4)) mA0)))))) mNx)
      (mSq (mSet 10 (mGc (mLst mA0)))
      (mSq (mFor (mIr1 (mA1 (mVar 9) mA0)) (gN 11) (mIfS (mtAnd (mT (mOp dGt (mOp dIx (mVar 0) (mC (.int 3))) (mC (.int 0)))) (mT (mOp dLt (mVar 4) (mC (.int 40))))) (mEx (mGc (mMt dAppend (mVar 10) (mA1 (mCall (mOwn 5 (M_h_body k)) (mA1 (mVar 0) (mA1 (mVar 1) (mA1 (mVar 2) (mA1 (mVar 3) (mA1 (mOp dAdd (mVar 4) (mC (.int 1))) mA0)))))) mA0)))) mNx))
      (mRt (mTup (mA1 (mVar 8) (mA1 (mCall dTuple (mA1 (mVar 10) mA0)) mA0)))))))))))
noncomputable def M_h_written : Nat → List Dt → Sto → Rs Dt
  | 0 => fun _ _ => .no
  | k + 1 => mFn 4 (mSq (mSet 1 (mGc (mCall dStr (mA1 (mOp dIx (mVar 0) (mC (.int 0))) mA0))))
      (mSq (mIfS (mTru (mCall dIsi (mA1 (mOp dIx (mVar 0) (mC (.int 0))) (mA1 (mC (.ty "int")) mA0)))) (mSet 1 (mGc (mOp dAdd (mC (.str "?")) (mVar 1)))) mNx)
      (mSq (mFor (mIt (mOp dIx (mVar 0) (mC (.int 1)))) (gN 2) (mSq (mSet 3 (mGc (mCall (mOwn 1 (M_h_written k)) (mA1 (mVar 2) mA0))))
      (mSq (mIfS (mT (mOp dGt (mCall dLen (mA1 (mOp dIx (mVar 2) (mC (.int 1))) mA0)) (mC (.int 0)))) (mSet 3 (mGc (mOp dAdd (mOp dAdd (mC (.str "(")) (mVar 3)) (mC (.str ")"))))) mNx)
      (mSet 1 (mGc (mOp dAdd (mOp dAdd (mVar 1) (mC (.str " "))) (mVar 3)))))))
      (mRt (mVar 1)))))
end DM

namespace DM
open PySem L2 MD
noncomputable def M_places : Nat → List Dt → Sto → Rs Dt
  | 0 => fun _ _ => .no
  | k + 1 => mFn 4 (mSq (mSet 1 (mGc (mLst mA0)))
      (mSq (mSet 2 (mGc (mLst (mA1 (mVar 0) mA0))))
      (mSq (mWh (mTru (mVar 2)) (mSq (mSet 3 (mGc (mMt0 dPop (mVar 2))))
      (mSq (mEx (mGc (mMt dAppend (mVar 1) (mA1 (mVar 3) mA0))))
      (mEx (mGc (mMt dExtend (mVar 2) (mA1 (mUn dRev (mOp dIx (mVar 3) (mC (.int 1)))) mA0)))))))
      (mRt (mVar 1)))))
noncomputable def M_applied : Nat → List Dt → Sto → Rs Dt
  | 0 => fun _ _ => .no
  | k + 1 => mFn 2 (mRt (mTup (mA1 (mOp dIx (mVar 0) (mC (.int 0))) (mA1 (mOp dAdd (mOp dIx (mVar 0) (mC (.int 1))) (mVar 1)) mA0))))
noncomputable def M_assembled : Nat → List Dt → Sto → Rs Dt
  | 0 => fun _ _ => .no
  | k + 1 => mFn 6 (mSq (mSet 1 (mGc (mLst mA0)))
      (mSq (mFor (mIrev (mVar 0)) (gT [2, 3]) (mSq (mSet 4 (mGc (mOp dSub (mCall dLen (mA1 (mVar 1) mA0)) (mVar 3))))
      (mSq (mSet 5 (mGc (mCall dTuple (mA1 (mUn dRev (mSl dSl (mVar 1) (mOs (mVar 4)) mOn)) mA0))))
      (mSq (mDelF (mVar 1) (mVar 4))
      (mEx (mGc (mMt dAppend (mVar 1) (mA1 (mCall (mOwn 2 (M_applied k)) (mA1 (mVar 2) (mA1 (mVar 5) mA0))) mA0))))))))
      (mRt (mOp dIx (mVar 1) (mC (.int 0))))))
noncomputable def M_shape : Nat → List Dt → Sto → Rs Dt
  | 0 => fun _ _ => .no
  | k + 1 => mFn 3 (mRt (mLc [1, 2] (mIt (mCall (mOwn 1 (M_places k)) (mA1 (mVar 0) mA0))) (gT [1, 2]) mYes (mTup (mA1 (mVar 1) (mA1 (mCall dLen (mA1 (mVar 2) mA0)) mA0)))))
noncomputable def M_same : Nat → List Dt → Sto → Rs Dt
  | 0 => fun _ _ => .no
  | k + 1 => mFn 2 (mRt (mOp dEq (mCall (mOwn 1 (M_shape k)) (mA1 (mVar 0) mA0)) (mCall (mOwn 1 (M_shape k)) (mA1 (mVar 1) mA0))))
noncomputable def M_once : Nat → List Dt → Sto → Rs Dt
  | 0 => fun _ _ => .no
  | k + 1 => mFn 2 (mRt (mCall dTuple (mA1 (mDc [1] (mIt (mVar 0)) (gN 1) mYes (mVar 1) (mC (.bl true))) mA0)))
noncomputable def M_size : Nat → List Dt → Sto → Rs Dt
  | 0 => fun _ _ => .no
  | k + 1 => mFn 1 (mRt (mCall dLen (mA1 (mCall (mOwn 1 (M_places k)) (mA1 (mVar 0) mA0)) mA0)))
noncomputable def M_unknowns : Nat → List Dt → Sto → Rs Dt
  | 0 => fun _ _ => .no
  | k + 1 => mFn 2 (mRt (mCall (mOwn 1 (M_once k)) (mA1 (mLc [1] (mIt (mCall (mOwn 1 (M_places k)) (mA1 (mVar 0) mA0))) (gN 1) (mTru (mCall dIsi (mA1 (mOp dIx (mVar 1) (mC (.int 0))) (mA1 (mC (.ty "int")) mA0)))) (mOp dIx (mVar 1) (mC (.int 0)))) mA0)))
noncomputable def M_names : Nat → List Dt → Sto → Rs Dt
  | 0 => fun _ _ => .no
  | k + 1 => mFn 2 (mRt (mCall (mOwn 1 (M_once k)) (mA1 (mLc [1] (mIt (mCall (mOwn 1 (M_places k)) (mA1 (mVar 0) mA0))) (gN 1) (mTru (mCall dIsi (mA1 (mOp dIx (mVar 1) (mC (.int 0))) (mA1 (mC (.ty "str")) mA0)))) (mOp dIx (mVar 1) (mC (.int 0)))) mA0)))
noncomputable def M_is_lone_unknown : Nat → List Dt → Sto → Rs Dt
  | 0 => fun _ _ => .no
  | k + 1 => mFn 1 (mRt (mAnd (mCall dIsi (mA1 (mOp dIx (mVar 0) (mC (.int 0))) (mA1 (mC (.ty "int")) mA0))) (mNot (mOp dIx (mVar 0) (mC (.int 1))))))
noncomputable def M_lone_unknowns : Nat → List Dt → Sto → Rs Dt
  | 0 => fun _ _ => .no
  | k + 1 => mFn 3 (mRt (mCall dTuple (mA1 (mLc [2] (mIr2 (mA1 (mVar 0) (mA1 (mOp dAdd (mVar 0) (mVar 1)) mA0))) (gN 2) mYes (mTup (mA1 (mVar 2) (mA1 (mTup mA0) mA0)))) mA0)))
noncomputable def M_put : Nat → List Dt → Sto → Rs Dt
  | 0 => fun _ _ => .no
  | k + 1 => mFn 7 (mSq (mSet 4 (mGc (mDc [2, 3] (mIt (mVar 1)) (gT [2, 3]) mYes (mVar 2) (mVar 3))))
      (mRt (mCall (mOwn 1 (M_assembled k)) (mA1 (mLc [5, 6] (mIt (mCall (mOwn 1 (M_places k)) (mA1 (mVar 0) mA0))) (gT [5, 6]) mYes (mTup (mA1 (mGet2 (mVar 4) (mVar 5) (mTup (mA1 (mVar 5) (mA1 (mTup mA0) mA0)))) (mA1 (mCall dLen (mA1 (mVar 6) mA0)) mA0)))) mA0))))
end DM

namespace DM
open PySem L2 MD
noncomputable def M_by_name : Nat → List Dt → Sto → Rs Dt
  | 0 => fun _ _ => .no
  | k + 1 => mFn 2 (mRt (mDc [1] (mIt (mVar 0)) (gN 1) mYes (mOp dIx (mVar 1) (mC (.int 1))) (mVar 1)))
noncomputable def M_is_by_cases : Nat → List Dt → Sto → Rs Dt
  | 0 => fun _ _ => .no
  | k + 1 => mFn 3 (mSq (mSet 2 (mGc (mGet1 (mVar 0) (mOp dIx (mVar 1) (mC (.int 0))))))
      (mRt (mAnd (mOp dNotN (mVar 2) (mC .non)) (mAnd (mOp dEq (mOp dIx (mVar 2) (mC (.int 0))) (mC (.str "cases"))) (mOp dGe (mCall dLen (mA1 (mOp dIx (mVar 1) (mC (.int 1))) mA0)) (mOp dIx (mVar 2) (mC (.int 2))))))))
noncomputable def M_unfolded : Nat → List Dt → Sto → Rs Dt
  | 0 => fun _ _ => .no
  | k + 1 => mFn 3 (mRt (mCall (mOwn 2 (M_applied k)) (mA1 (mCall (mOwn 2 (M_put k)) (mA1 (mVar 0) (mA1 (mUn dEnum (mSl dSl (mVar 1) mOn (mOs (mVar 2)))) mA0))) (mA1 (mSl dSl (mVar 1) (mOs (mVar 2)) mOn) mA0))))
noncomputable def M_demand_at_once : Nat → List Dt → Sto → Rs Dt
  | 0 => fun _ _ => .no
  | k + 1 => mFn 5 (mSq (mAsg (gT [2, 3]) (mGc (mVar 1)))
      (mSq (mIfS (mTru (mCall dIsi (mA1 (mVar 2) (mA1 (mC (.ty "int")) mA0)))) (mRt (mIf (mTru (mVar 3)) (mTup (mA1 (mC (.str "stuck")) (mA1 (mVar 2) mA0))) (mTup (mA1 (mC (.str "unknown")) (mA1 (mVar 2) mA0))))) mNx)
      (mSq (mSet 4 (mGc (mGet1 (mVar 0) (mVar 2))))
      (mSq (mIfS (mtOr (mT (mOp dIsN (mVar 4) (mC .non))) (mT (mOp dLt (mCall dLen (mA1 (mVar 3) mA0)) (mOp dIx (mVar 4) (mC (.int 2)))))) (mRt (mTup (mA1 (mC (.str "value")) mA0))) mNx)
      (mRt (mTup (mA1 (mC (.str "step")) (mA1 (mCall (mOwn 3 (M_unfolded k)) (mA1 (mOp dIx (mVar 4) (mC (.int 3))) (mA1 (mVar 3) (mA1 (mOp dIx (mVar 4) (mC (.int 2))) mA0)))) mA0))))))))
noncomputable def M_demand_of_rules : Nat → List Dt → Sto → Rs Dt
  | 0 => fun _ _ => .no
  | k + 1 => mFn 7 (mSq (mAsg (gT [2, 3]) (mGc (mOp dIx (mOp dIx (mVar 1) (mC (.int 1))) (mC (.int 0)))))
      (mSq (mFor (mIt (mOp dIx (mVar 0) (mC (.int 3)))) (gT [4, 5, 6]) (mIfS (mtAnd (mT (mOp dEq (mVar 4) (mVar 2))) (mT (mOp dEq (mVar 5) (mCall dLen (mA1 (mVar 3) mA0))))) (mRt (mTup (mA1 (mC (.str "step")) (mA1 (mCall (mOwn 3 (M_unfolded k)) (mA1 (mVar 6) (mA1 (mOp dAdd (mVar 3) (mSl dSl (mOp dIx (mVar 1) (mC (.int 1))) (mOs (mC (.int 1))) mOn)) (mA1 (mOp dSub (mOp dAdd (mVar 5) (mOp dIx (mVar 0) (mC (.int 2)))) (mC (.int 1))) mA0)))) mA0)))) mNx))
      (mRt (mTup (mA1 (mC (.str "error")) mA0)))))
noncomputable def M_demand_by_cases : Nat → List Dt → Sto → Rs Dt
  | 0 => fun _ _ => .no
  | k + 1 => mFn 3 (mSq (mIfS (mT (mOp dEq (mOp dIx (mVar 2) (mC (.int 0))) (mC (.str "step")))) (mRt (mTup (mA1 (mC (.str "step")) (mA1 (mTup (mA1 (mOp dIx (mVar 1) (mC (.int 0))) (mA1 (mOp dAdd (mTup (mA1 (mOp dIx (mVar 2) (mC (.int 1))) mA0)) (mSl dSl (mOp dIx (mVar 1) (mC (.int 1))) (mOs (mC (.int 1))) mOn)) mA0))) mA0)))) mNx)
      (mSq (mIfS (mT (mOp dEq (mOp dIx (mVar 2) (mC (.int 0))) (mC (.str "unknown")))) (mRt (mTup (mA1 (mC (.str "needs")) (mA1 (mOp dIx (mVar 2) (mC (.int 1))) (mA1 (mOp dIx (mVar 1) (mC (.int 0))) mA0))))) mNx)
      (mSq (mIfS (mT (mOp dEq (mOp dIx (mVar 2) (mC (.int 0))) (mC (.str "value")))) (mRt (mCall (mOwn 2 (M_demand_of_rules k)) (mA1 (mVar 0) (mA1 (mVar 1) mA0)))) mNx)
      (mRt (mVar 2)))))
noncomputable def M_demand_of : Nat → List Dt → Sto → Rs Dt
  | 0 => fun _ _ => .no
  | k + 1 => mFn 6 (mSq (mSet 2 (mGc (mVar 1)))
      (mSq (mSet 3 (mGc (mLst mA0)))
      (mSq (mWh (mTru (mCall (mOwn 2 (M_is_by_cases k)) (mA1 (mVar 0) (mA1 (mVar 2) mA0)))) (mSq (mEx (mGc (mMt dAppend (mVar 3) (mA1 (mVar 2) mA0))))
      (mSet 2 (mGc (mOp dIx (mOp dIx (mVar 2) (mC (.int 1))) (mC (.int 0)))))))
      (mSq (mSet 4 (mGc (mCall (mOwn 2 (M_demand_at_once k)) (mA1 (mVar 0) (mA1 (mVar 2) mA0)))))
      (mSq (mFor (mIrev (mVar 3)) (gN 5) (mSet 4 (mGc (mCall (mOwn 3 (M_demand_by_cases k)) (mA1 (mOp dIx (mVar 0) (mOp dIx (mVar 5) (mC (.int 0)))) (mA1 (mVar 5) (mA1 (mVar 4) mA0)))))))
      (mRt (mVar 4)))))))
noncomputable def M_demand : Nat → List Dt → Sto → Rs Dt
  | 0 => fun _ _ => .no
  | k + 1 => mFn 2 (mRt (mCall (mOwn 2 (M_demand_of k)) (mA1 (mCall (mOwn 1 (M_by_name k)) (mA1 (mVar 0) mA0)) (mA1 (mVar 1) mA0))))
noncomputable def M_first_fresh : Nat → List Dt → Sto → Rs Dt
  | 0 => fun _ _ => .no
  | k + 1 => mFn 1 (mRt (mOp dAdd (mCall dMax1 (mA1 (mCall (mOwn 1 (M_unknowns k)) (mA1 (mVar 0) mA0)) mA0)) (mC (.int 1))))
noncomputable def M_learnt : Nat → List Dt → Sto → Rs Dt
  | 0 => fun _ _ => .no
  | k + 1 => mFn 10 (mSq (mSet 4 (mGc (mCall (mOwn 1 (M_first_fresh k)) (mA1 (mVar 1) mA0))))
      (mSq (mSet 5 (mGc (mLst mA0)))
      (mSq (mFor (mIt (mOp dIx (mVar 3) (mC (.int 3)))) (gT [6, 7, 8]) (mSq (mSet 9 (mGc (mCall (mOwn 2 (M_put k)) (mA1 (mVar 1) (mA1 (mTup (mA1 (mTup (mA1 (mVar 2) (mA1 (mTup (mA1 (mVar 6) (mA1 (mCall (mOwn 2 (M_lone_unknowns k)) (mA1 (mVar 4) (mA1 (mVar 7) mA0))) mA0))) mA0))) mA0)) mA0)))))
      (mEx (mGc (mMt dAppend (mVar 5) (mA1 (mOp dIx (mCall (mOwn 2 (M_demand_of k)) (mA1 (mVar 0) (mA1 (mVar 9) mA0))) (mC (.int 1))) mA0))))))
      (mRt (mCall dTuple (mA1 (mVar 5) mA0))))))
noncomputable def M_driving : Nat → List Dt → Sto → Rs Dt
  | 0 => fun _ _ => .no
  | k + 1 => mFn 3 (mSq (mSet 2 (mGc (mCall (mOwn 2 (M_demand_of k)) (mA1 (mVar 0) (mA1 (mVar 1) mA0)))))
      (mSq (mIfS (mT (mOp dEq (mOp dIx (mVar 2) (mC (.int 0))) (mC (.str "step")))) (mRt (mTup (mA1 (mC (.str "stepped")) (mA1 (mTup (mA1 (mOp dIx (mVar 2) (mC (.int 1))) mA0)) mA0)))) mNx)
      (mSq (mIfS (mT (mOp dEq (mOp dIx (mVar 2) (mC (.int 0))) (mC (.str "needs")))) (mRt (mTup (mA1 (mC (.str "branched")) (mA1 (mCall (mOwn 4 (M_learnt k)) (mA1 (mVar 0) (mA1 (mVar 1) (mA1 (mOp dIx (mVar 2) (mC (.int 1))) (mA1 (mOp dIx (mVar 0) (mOp dIx (mVar 2) (mC (.int 2)))) mA0))))) mA0)))) mNx)
      (mRt (mTup (mA1 (mC .non) (mA1 (mTup mA0) mA0)))))))
noncomputable def M_drive : Nat → List Dt → Sto → Rs Dt
  | 0 => fun _ _ => .no
  | k + 1 => mFn 2 (mRt (mOp dIx (mCall (mOwn 2 (M_driving k)) (mA1 (mCall (mOwn 1 (M_by_name k)) (mA1 (mVar 0) mA0)) (mA1 (mVar 1) mA0))) (mC (.int 1))))
end DM

namespace DM
open PySem L2 MD
noncomputable def M_write_head : Nat → List Dt → Sto → Rs Dt
  | 0 => fun _ _ => .no
  | k + 1 => mFn 1 (mRt (mIf (mTru (mCall dIsi (mA1 (mVar 0) (mA1 (mC (.ty "int")) mA0)))) (mJs [(mC (.str "?")), (mFmt (mVar 0))]) (mVar 0)))
noncomputable def M_write_term : Nat → List Dt → Sto → Rs Dt
  | 0 => fun _ _ => .no
  | k + 1 => mFn 5 (mSq (mSet 1 (mGc (mLst mA0)))
      (mSq (mSet 2 (mGc (mLst (mA1 (mVar 0) mA0))))
      (mSq (mWh (mTru (mVar 2)) (mSq (mSet 3 (mGc (mMt0 dPop (mVar 2))))
      (mIfS (mTru (mCall dIsi (mA1 (mVar 3) (mA1 (mC (.ty "str")) mA0)))) (mEx (mGc (mMt dAppend (mVar 1) (mA1 (mVar 3) mA0)))) (mSq (mEx (mGc (mMt dAppend (mVar 1) (mA1 (mCall (mOwn 1 (M_write_head k)) (mA1 (mOp dIx (mVar 3) (mC (.int 0))) mA0)) mA0))))
      (mFor (mIrev (mOp dIx (mVar 3) (mC (.int 1)))) (gN 4) (mEx (mGc (mMt dExtend (mVar 2) (mA1 (mIf (mTru (mOp dIx (mVar 4) (mC (.int 1)))) (mLst (mA1 (mC (.str ")")) (mA1 (mVar 4) (mA1 (mC (.str " (")) mA0)))) (mLst (mA1 (mVar 4) (mA1 (mC (.str " ")) mA0)))) mA0)))))))))
      (mRt (mM1 dJoin (mC (.str "")) (mVar 1))))))
noncomputable def M_front : Nat → List Dt → Sto → Rs Dt
  | 0 => fun _ _ => .no
  | k + 1 => mFn 2 (mRt (mTup (mA1 (mOp dIx (mVar 0) (mC (.int 0))) (mA1 (mSl dSl (mOp dIx (mVar 0) (mC (.int 1))) mOn (mOs (mOp dSub (mCall dLen (mA1 (mOp dIx (mVar 0) (mC (.int 1))) mA0)) (mVar 1)))) mA0))))
noncomputable def M_meetings : Nat → List Dt → Sto → Rs Dt
  | 0 => fun _ _ => .no
  | k + 1 => mFn 7 (mSq (mSet 2 (mGc (mLst mA0)))
      (mSq (mSet 3 (mGc (mLst (mA1 (mTup (mA1 (mVar 0) (mA1 (mVar 1) mA0))) mA0))))
      (mSq (mWh (mTru (mVar 3)) (mSq (mAsg (gT [4, 5]) (mGc (mMt0 dPop (mVar 3))))
      (mSq (mSet 6 (mGc (mCall dZip (mA1 (mUn dRev (mOp dIx (mVar 4) (mC (.int 1)))) (mA1 (mUn dRev (mOp dIx (mVar 5) (mC (.int 1)))) mA0)))))
      (mSq (mEx (mGc (mMt dAppend (mVar 2) (mA1 (mTup (mA1 (mCall (mOwn 2 (M_front k)) (mA1 (mVar 4) (mA1 (mCall dLen (mA1 (mVar 6) mA0)) mA0))) (mA1 (mCall (mOwn 2 (M_front k)) (mA1 (mVar 5) (mA1 (mCall dLen (mA1 (mVar 6) mA0)) mA0))) (mA1 (mCall dLen (mA1 (mVar 6) mA0)) mA0)))) mA0))))
      (mEx (mGc (mMt dExtend (mVar 3) (mA1 (mVar 6) mA0))))))))
      (mRt (mVar 2)))))
noncomputable def M_match : Nat → List Dt → Sto → Rs Dt
  | 0 => fun _ _ => .no
  | k + 1 => mFn 7 (mSq (mSet 2 (mGc (mDic)))
      (mSq (mFor (mIt (mCall (mOwn 2 (M_meetings k)) (mA1 (mVar 0) (mA1 (mVar 1) mA0)))) (gT [3, 4, 5]) (mSq (mSet 6 (mGc (mIf (mTru (mCall (mOwn 1 (M_is_lone_unknown k)) (mA1 (mVar 3) mA0))) (mSetd (mVar 2) (mOp dIx (mVar 3) (mC (.int 0))) (mVar 4)) (mVar 3))))
      (mIfS (mtNot (mTru (mCall (mOwn 2 (M_same k)) (mA1 (mVar 6) (mA1 (mVar 4) mA0))))) (mRt (mC .non)) mNx)))
      (mRt (mUn dItems (mVar 2)))))
noncomputable def M_generalize : Nat → List Dt → Sto → Rs Dt
  | 0 => fun _ _ => .no
  | k + 1 => mFn 10 (mSq (mSet 2 (mGc (mLst mA0)))
      (mSq (mSet 3 (mGc (mDit)))
      (mSq (mSet 4 (mGc (mLst mA0)))
      (mSq (mSet 5 (mGc (mLst mA0)))
      (mSq (mFor (mIt (mCall (mOwn 2 (M_meetings k)) (mA1 (mVar 0) (mA1 (mVar 1) mA0)))) (gT [6, 7, 8]) (mSq (mIfS (mtAnd (mTru (mCall dIsi (mA1 (mOp dIx (mVar 6) (mC (.int 0))) (mA1 (mC (.ty "str")) mA0)))) (mTru (mCall (mOwn 2 (M_same k)) (mA1 (mVar 6) (mA1 (mVar 7) mA0))))) (mSq (mEx (mGc (mMt dAppend (mVar 2) (mA1 (mTup (mA1 (mVar 6) (mA1 (mVar 8) mA0))) mA0))))
      (mCt)) mNx)
      (mSq (mSet 9 (mGc (mTup (mA1 (mCall (mOwn 1 (M_write_term k)) (mA1 (mVar 6) mA0)) (mA1 (mCall (mOwn 1 (M_write_term k)) (mA1 (mVar 7) mA0)) mA0)))))
      (mSq (mIfS (mT (mOp dNotIn (mVar 9) (mVar 3))) (mSq (mDPut (mVar 3) (mVar 9) (mCall dLen (mA1 (mVar 3) mA0)))
      (mSq (mEx (mGc (mMt dAppend (mVar 4) (mA1 (mVar 6) mA0))))
      (mEx (mGc (mMt dAppend (mVar 5) (mA1 (mVar 7) mA0)))))) mNx)
      (mEx (mGc (mMt dAppend (mVar 2) (mA1 (mTup (mA1 (mTup (mA1 (mOp dIx (mVar 3) (mVar 9)) (mA1 (mTup mA0) mA0))) (mA1 (mVar 8) mA0))) mA0))))))))
      (mRt (mTup (mA1 (mCall (mOwn 1 (M_assembled k)) (mA1 (mVar 2) mA0)) (mA1 (mCall dTuple (mA1 (mVar 4) mA0)) (mA1 (mCall dTuple (mA1 (mVar 5) mA0)) mA0))))))))))
end DM

namespace DM
open PySem L2 MD
open DF (Tm)
/-! ### indices, lengths, lists -/
section
variable {a b c e f : Dt} {r l : List Dt} {S : Sto} {i : Int} {n : Nat}
theorem atI_nat' {α : Type} {xs : List α} {j : Nat} {v : α} (h : xs[j]? = some v) : atI xs (j : Int) = some v := atI_nat h
theorem ix_at {d : Dt} (h : l[n]? = some d) : dIx (.tup l) (.int (n : Int)) S = .ok d S := by unfold dIx; dsimp only; rw [atI_nat' h]
@[simp] theorem ix_t0 : dIx (.tup (a :: r)) (.int 0) S = .ok a S := ix_at (n := 0) rfl
@[simp] theorem ix_t1 : dIx (.tup (a :: b :: r)) (.int 1) S = .ok b S := ix_at (n := 1) rfl
@[simp] theorem ix_t2 : dIx (.tup (a :: b :: c :: r)) (.int 2) S = .ok c S := ix_at (n := 2) rfl
@[simp] theorem ix_t3 : dIx (.tup (a :: b :: c :: e :: r)) (.int 3) S = .ok e S := ix_at (n := 3) rfl
theorem ix_loc {m : Nat} {d : Dt} (hS : S[m]? = some (Cell.lst l)) (h : l[n]? = some d) : dIx (.loc m) (.int (n : Int)) S = .ok d S := by unfold dIx; dsimp only; rw [hS]; dsimp only; rw [atI_nat' h]
@[simp] theorem len_t : dLen [.tup l] S = .ok (.int l.length) S := rfl
theorem len_loc {m : Nat} (hS : S[m]? = some (Cell.lst l)) : dLen [.loc m] S = .ok (.int l.length) S := by unfold dLen; dsimp only; rw [hS]
@[simp] theorem rev_t : dRev (.tup l) S = .ok (.tup l.reverse) S := rfl
@[simp] theorem tup_t : dTuple [.tup l] S = .ok (.tup l) S := rfl
theorem tup_loc {m : Nat} (hS : S[m]? = some (Cell.lst l)) : dTuple [.loc m] S = .ok (.tup l) S := by unfold dTuple; dsimp only; rw [hS]
@[simp] theorem tup_app {s : Sto} : dTuple [.loc S.length] (S ++ Cell.lst l :: s) = .ok (.tup l) (S ++ Cell.lst l :: s) := tup_loc get0
@[simp] theorem add_ii {i j : Int} : dAdd (.int i) (.int j) S = .ok (.int (i + j)) S := rfl
@[simp] theorem sub_ii {i j : Int} : dSub (.int i) (.int j) S = .ok (.int (i - j)) S := rfl
theorem add_tt {m : List Dt} (h : l.length + m.length ≤ 1000000) : dAdd (.tup l) (.tup m) S = .ok (.tup (l ++ m)) S := by unfold dAdd; dsimp only; rw [if_pos h]
theorem app_loc {m : Nat} {d : Dt} (hS : S[m]? = some (Cell.lst l)) (h : l.length < 1000000) : dAppend (.loc m) [d] S = .ok .non (S.set m (Cell.lst (l ++ [d]))) := by unfold dAppend; dsimp only; rw [hS]; dsimp only; rw [if_pos h]
theorem pop_loc {m : Nat} {d : Dt} (hS : S[m]? = some (Cell.lst (l ++ [d]))) : dPop (.loc m) [] S = .ok d (S.set m (Cell.lst l)) := by
  unfold dPop; dsimp only; rw [hS]; dsimp only; rw [List.getLast?_concat]; dsimp only; rw [List.dropLast_concat]
@[simp] theorem tru_bl {b : Bool} : dTru (.bl b) S = .ok b S := rfl
@[simp] theorem tru_t : dTru (.tup l) S = .ok (!l.isEmpty) S := rfl
@[simp] theorem it_t : itOf (.tup l) S = .ok (l, none) S := rfl
theorem it_loc {m : Nat} (hS : S[m]? = some (Cell.lst l)) : itOf (.loc m) S = .ok (l, some (m, l)) S := by unfold itOf; dsimp only; rw [hS]
@[simp] theorem sIt {m : ME} {α : MD.Env} : mIt m α S = (m α S).bind itOf := rfl
@[simp] theorem sIrev {m : ME} {α : MD.Env} : mIrev m α S = (m α S).bind fun x S1 => (itOf x S1).bind fun it S2 => .ok (it.1.reverse, it.2) S2 := rfl
@[simp] theorem chk_none : chk none S = True := rfl
@[simp] theorem chk_some {m : Nat} : chk (some (m, l)) S = (S[m]? = some (Cell.lst l)) := rfl
end
/-! ### terms as values -/
mutual
def tD : Tm → Dt
  | .mk h ts => .tup [kD h, .tup (tDL ts)]
def tDL : List Tm → List Dt
  | [] => []
  | t :: r => tD t :: tDL r
end
theorem tDL_map : ∀ ts : List Tm, tDL ts = ts.map tD
  | [] => rfl
  | t :: r => by rw [tDL, tDL_map r, List.map_cons]
theorem tD_eq (t : Tm) : tD t = .tup [kD t.hd, .tup (t.args.map tD)] := by
  cases t with
  | mk h ts => rw [tD, tDL_map]; rfl
theorem tD_mk (h : Key) (ts : List Tm) : tD (.mk h ts) = .tup [kD h, .tup (ts.map tD)] := tD_eq _
@[simp] theorem kD_bdd (n : Nat) (k : Key) : (kD k).bdd n = true := by cases k <;> rfl
mutual
theorem tD_bdd (n : Nat) : ∀ t : Tm, (tD t).bdd n = true
  | .mk h ts => by rw [tD, Dt.bdd, Dt.bddL, Dt.bddL, Dt.bddL, Dt.bdd, tDL_bdd n ts, kD_bdd]; rfl
theorem tDL_bdd (n : Nat) : ∀ ts : List Tm, Dt.bddL n (tDL ts) = true
  | [] => by rw [tDL, Dt.bddL]
  | t :: r => by rw [tDL, Dt.bddL, tD_bdd n t, tDL_bdd n r]; rfl
end
theorem tDs_bdd (n : Nat) (ts : List Tm) : Dt.bddL n (ts.map tD) = true := by rw [← tDL_map]; exact tDL_bdd n ts
/-! ### places -/
@[simp] theorem mFn_eq {n : Nat} {b : MS} {ds : List Dt} {S : Sto} : mFn n b ds S = match b (startE n ds) S with
  | .nx _ S' => gcR S.length .non S'
  | .rt d S' => gcR S.length d S'
  | .ex c fs _ S' => gcX S.length c fs S'
  | _ => .no := rfl
abbrev plC : MT := mTru (mVar 2)
abbrev plB : MS := mSq (mSet 3 (mGc (mMt0 dPop (mVar 2)))) (mSq (mEx (mGc (mMt dAppend (mVar 1) (mA1 (mVar 3) mA0)))) (mEx (mGc (mMt dExtend (mVar 2) (mA1 (mUn dRev (mOp dIx (mVar 3) (mC (.int 1)))) mA0)))))
end DM

namespace DM
open PySem L2 MD
open DF (Tm)
/-! ### comprehensions that leave the store -/
theorem lcGo_pure {β : Type} {c : Option (Nat × List Dt)} {g : MG} {t : MT} {m : ME} {α : MD.Env} {S : Sto} (hc : chk c S) (e : β → Dt) (p : β → Bool) (f : β → Dt) : ∀ (xs : List β) (acc : List Dt),
    (∀ x ∈ xs, ∃ α1, g (e x) α = some α1 ∧ t α1 S = .ok (p x) S ∧ (p x = true → m α1 S = .ok (f x) S)) → acc.length + xs.length ≤ 1000000 → lcGo c g t m α (xs.map e) acc S = .ok (acc ++ (xs.filter p).map f) S
  | [], acc, _, _ => by simp [lcGo]
  | x :: r, acc, h, hl => by
    obtain ⟨α1, h1, h2, h3⟩ := h x (List.mem_cons_self ..)
    rw [List.length_cons] at hl
    rw [List.map_cons, lcGo, h1]
    dsimp only
    rw [h2]
    cases hp : p x with
    | false =>
      dsimp only
      rw [if_pos hc, lcGo_pure hc e p f r acc (fun y hy => h y (List.mem_cons_of_mem _ hy)) (by omega), List.filter_cons_of_neg (by rw [hp]; exact Bool.false_ne_true)]
    | true =>
      dsimp only
      rw [h3 hp]
      dsimp only
      rw [if_pos ⟨by omega, hc⟩, lcGo_pure hc e p f r _ (fun y hy => h y (List.mem_cons_of_mem _ hy)) (by rw [List.length_append, List.length_singleton]; omega), List.filter_cons_of_pos hp, List.map_cons, List.append_assoc]
      rfl
theorem lcGo_all {β : Type} {c : Option (Nat × List Dt)} {g : MG} {m : ME} {α : MD.Env} {S : Sto} (hc : chk c S) (e : β → Dt) (f : β → Dt) (xs : List β) (acc : List Dt)
    (h : ∀ x ∈ xs, ∃ α1, g (e x) α = some α1 ∧ m α1 S = .ok (f x) S) (hl : acc.length + xs.length ≤ 1000000) : lcGo c g mYes m α (xs.map e) acc S = .ok (acc ++ xs.map f) S := by
  have := lcGo_pure (t := mYes) hc e (fun _ => true) f xs acc (fun x hx => by
    obtain ⟨α1, h1, h2⟩ := h x hx
    exact ⟨α1, h1, rfl, fun _ => h2⟩) hl
  rw [this, List.filter_eq_self.mpr fun _ _ => rfl]
/-! ### applied, lone_unknowns -/
theorem applied_eq (k : Nat) (S : Sto) (t : Tm) (as : List Tm) (h : t.args.length + as.length ≤ 1000000) : M_applied (k + 1) [tD t, .tup (as.map tD)] S = .ok (tD (t.appl as)) S := by
  cases t with
  | mk g ts =>
    have h : ts.length + as.length ≤ 1000000 := h
    rw [M_applied, mFn_eq, tD_mk g ts, show (Tm.mk g ts).appl as = .mk g (ts ++ as) from rfl, tD_mk, List.map_append]
    have e1 : dAdd (.tup (ts.map tD)) (.tup (as.map tD)) S = .ok (.tup (ts.map tD ++ as.map tD)) S := add_tt (by rw [List.length_map, List.length_map]; exact h)
    simp [startE, e1]
def lonesT (a : Int) (n : Nat) : List Tm := (List.range n).map fun (k : Nat) => .mk (.inl (a + (k : Int))) []
/-! ### once, size, unknowns, names -/
@[simp] theorem keyO_kD (k : Key) : keyO (kD k) = some k := by cases k <;> rfl
theorem kDs_bdd (n : Nat) (ks : List Key) : Dt.bddL n (ks.map kD) = true := by
  induction ks with
  | nil => rfl
  | cons k r ih => rw [List.map_cons, Dt.bddL, kD_bdd, ih]; rfl
theorem isi_int_int {S : Sto} {i : Int} : dIsi [.int i, .ty "int"] S = .ok (.bl true) S := by
  have : kitB "int" "int" = some true := by decide +kernel
  unfold dIsi tyN
  dsimp only
  rw [this]
theorem isi_str_int {S : Sto} {i : Str} : dIsi [.str i, .ty "int"] S = .ok (.bl false) S := by
  have : kitB "str" "int" = some false := by decide +kernel
  unfold dIsi tyN
  dsimp only
  rw [this]
theorem isi_int_str {S : Sto} {i : Int} : dIsi [.int i, .ty "str"] S = .ok (.bl false) S := by
  have : kitB "int" "str" = some false := by decide +kernel
  unfold dIsi tyN
  dsimp only
  rw [this]
theorem isi_str_str {S : Sto} {i : Str} : dIsi [.str i, .ty "str"] S = .ok (.bl true) S := by
  have : kitB "str" "str" = some true := by decide +kernel
  unfold dIsi tyN
  dsimp only
  rw [this]
theorem isi_t {S : Sto} {l : List Dt} : dIsi [.tup l, .ty "tuple"] S = .ok (.bl true) S := by
  have : kitB "tuple" "tuple" = some true := by decide +kernel
  unfold dIsi tyN
  dsimp only
  rw [this]
def isUnkK : Key → Bool
  | .inl _ => true
  | .inr _ => false
theorem isi_kD {S : Sto} (h : Key) : dIsi [kD h, .ty "int"] S = .ok (.bl (isUnkK h)) S := by
  cases h with
  | inl i => exact isi_int_int
  | inr x => exact isi_str_int
theorem isi_kS {S : Sto} (h : Key) : dIsi [kD h, .ty "str"] S = .ok (.bl (!isUnkK h)) S := by
  cases h with
  | inl i => exact isi_int_str
  | inr x => exact isi_str_str
end DM

namespace DM
open PySem L2 MD
open DF (Tm)
/-! ### assembled -/
def rowT (r : Tm × Nat) : Dt := .tup [tD r.1, .int (r.2 : Int)]
theorem cutD_from {α : Type} (xs : List α) (n : Nat) (h : n ≤ xs.length) : cutD xs (some (n : Int)) none = xs.drop n := by
  unfold cutD
  rw [show HT.sIx xs.length 0 (some (n : Int)) = min n xs.length from HT.sIx_nat xs.length 0 n, HT.sIx_none, Nat.min_eq_left h]
  exact List.take_of_length_le (by rw [List.length_drop]; exact Nat.le_refl _)
theorem sl_loc {m : Nat} {l : List Dt} {S : Sto} {lo hi : Option Int} (hS : S[m]? = some (Cell.lst l)) : dSl (.loc m) lo hi S = .ok (.loc S.length) (S ++ [Cell.lst (cutD l lo hi)]) := by unfold dSl; dsimp only; rw [hS]
noncomputable abbrev asmB (k : Nat) : MS := mSq (mSet 4 (mGc (mOp dSub (mCall dLen (mA1 (mVar 1) mA0)) (mVar 3))))
      (mSq (mSet 5 (mGc (mCall dTuple (mA1 (mUn dRev (mSl dSl (mVar 1) (mOs (mVar 4)) mOn)) mA0))))
      (mSq (mDelF (mVar 1) (mVar 4))
      (mEx (mGc (mMt dAppend (mVar 1) (mA1 (mCall (mOwn 2 (M_applied k)) (mA1 (mVar 2) (mA1 (mVar 5) mA0))) mA0))))))
def rowE (e : Tm → Dt) (r : Tm × Nat) : Dt := .tup [e r.1, .int (r.2 : Int)]
/-- a row's part is applied as its term -/
def RowOk (k : Nat) (e : Tm → Dt) (u : Tm) : Prop := ∀ (S : Sto) (as : List Tm), u.args.length + as.length ≤ 1000000 → M_applied (k + 1) [e u, .tup (as.map tD)] S = .ok (tD (u.appl as)) S
def runF (st : List Tm) : List (Tm × Nat) → List Tm
  | [] => st
  | r :: rs => runF (DF.step st r) rs
/-- each row's number is there when its turn comes -/
def OkF (st : List Tm) : List (Tm × Nat) → Prop
  | [] => True
  | r :: rs => r.2 ≤ st.length ∧ OkF (DF.step st r) rs
/-! ### put -/
def partT (p : Int × Tm) : Dt := .tup [.int p.1, tD p.2]
end DM

namespace DF
open PySem L2
/-! ### steps and what is put in -/
def UnkB (n : Nat) (b : Tm) : Prop := ∀ i : Int, (Sum.inl i : Key) ∈ b.heads → 0 ≤ i ∧ i < (n : Int)
structure FsD (fs : List Fn) : Prop where
  ok : FsOk fs
  pl : ∀ x n b, Fn.plain x n b ∈ fs → UnkB n b
  cs : ∀ x n rs, Fn.cases x n rs ∈ fs → (rs.map (·.1)).Nodup ∧ ∀ r ∈ rs, r.2.1 ≤ 6 ∧ getF fs (.inr r.1) = none ∧ UnkB (r.2.1 + n - 1) r.2.2
/-- what becomes of a demand when something is put in -/
def PutOk (fs : List Fn) (θ : List (Int × Tm)) (t : Tm) : Dem → Prop
  | .step u => dem fs (t.put θ) = .step (u.put θ)
  | .val => dem fs (t.put θ) = .val ∧ ∃ x, t.hd = .inr x
  | .err => dem fs (t.put θ) = .err
  | _ => True
/-! ### driving -/
def lones (a : Int) (n : Nat) : List Tm := (List.range n).map fun (k : Nat) => .mk (.inl (a + (k : Int))) []
def unkIs (t : Tm) : List Int := (dedup (t.heads.filter unkK)).filterMap fun k => match k with
  | .inl i => some i
  | .inr _ => none
def top (t : Tm) : Int := match unkIs t with
  | [] => 0
  | n :: ns => ns.foldl max n + 1
/-- what is learnt by a rule -/
def learnP (i m : Int) (r : Str × Nat × Tm) : List (Int × Tm) := [(i, .mk (.inr r.1) (lones m r.2.1))]
def stepOf : Dem → Tm
  | .step u => u
  | _ => .mk (.inl 0) []
def drvK (fs : List Fn) (t : Tm) : Dt := match dem fs t with
  | .step _ => .key (.inr "stepped")
  | .needs _ _ => .key (.inr "branched")
  | _ => .non
def drvL (fs : List Fn) (t : Tm) : List Tm := match dem fs t with
  | .step u => [u]
  | .needs i x => match getF fs (.inr x) with
    | some (.cases _ _ rs) => rs.map fun r => stepOf (dem fs (t.put (learnP i (top t) r)))
    | _ => []
  | _ => []
end DF

namespace DM
open PySem L2 MD
open DF (Tm Fn Dem getF byCs dem dem0 byC ruleS findR unf enumP FsOk FnOk')
/-! ### programs as values -/
def ruleT (r : Str × Nat × Tm) : Dt := .tup [.str r.1, .int (r.2.1 : Int), tD r.2.2]
def fnD : Fn → Dt
  | .plain x n b => .tup [.str "plain", .str x, .int (n : Int), tD b]
  | .cases x n rs => .tup [.str "cases", .str x, .int (n : Int), .tup (rs.map ruleT)]
def demD : Dem → Dt
  | .val => .tup [.str "value"]
  | .step t => .tup [.str "step", tD t]
  | .err => .tup [.str "error"]
  | .unk i => .tup [.str "unknown", .int i]
  | .needs i x => .tup [.str "needs", .int i, .str x]
  | .stuck i => .tup [.str "stuck", .int i]
def kvF (fs : List Fn) : List (Key × Dt) := fs.map fun f => (Sum.inr f.name, fnD f)
def DicAt (S : Sto) (D : Nat) (fs : List Fn) : Prop := S[D]? = some (Cell.dic (kvF fs))
theorem rule_bdd (n : Nat) (rs : List (Str × Nat × Tm)) : Dt.bddL n (rs.map ruleT) = true := by
  induction rs with
  | nil => rfl
  | cons p r ih =>
    rw [List.map_cons, Dt.bddL, ih, Bool.and_true, ruleT, Dt.bdd, Dt.bddL, Dt.bddL, Dt.bddL, Dt.bddL, tD_bdd]
    rfl
theorem fnD_bdd (n : Nat) (f : Fn) : (fnD f).bdd n = true := by
  cases f with
  | plain x m b => rw [fnD, Dt.bdd, Dt.bddL, Dt.bddL, Dt.bddL, Dt.bddL, Dt.bddL, tD_bdd]; rfl
  | cases x m rs =>
    show (true && (true && (true && (Dt.bddL n (rs.map ruleT) && true)))) = true
    rw [rule_bdd]
    rfl
theorem fns_bdd (n : Nat) (fs : List Fn) : Dt.bddL n ((kvF fs).map (·.2)) = true := by
  unfold kvF
  rw [List.map_map]
  induction fs with
  | nil => rfl
  | cons f r ih =>
    rw [List.map_cons, Dt.bddL, ih, Bool.and_true]
    exact fnD_bdd n f
theorem fnL_bdd (n : Nat) (fs : List Fn) : Dt.bddL n (fs.map fnD) = true := by
  induction fs with
  | nil => rfl
  | cons f r ih => rw [List.map_cons, Dt.bddL, ih, fnD_bdd]; rfl
theorem demD_bdd (n : Nat) (d : Dem) : (demD d).bdd n = true := by
  cases d with
  | step t => rw [demD, Dt.bdd, Dt.bddL, Dt.bddL, Dt.bddL, tD_bdd]; rfl
  | _ => rfl
theorem eq_ss {a b : Str} {S : Sto} : dEq (.str a) (.str b) S = .ok (.bl (decide (a = b))) S := rfl
theorem eq_ii {a b : Int} {S : Sto} : dEq (.int a) (.int b) S = .ok (.bl (decide (a = b))) S := rfl
theorem args_size (t : Tm) : t.args.length ≤ t.size := by
  cases t with
  | mk k ts =>
    rw [Tm.size]
    have := Tm.len_sizeL ts
    show ts.length ≤ _
    omega
end DM

namespace DM
open PySem L2 MD
open DF (Tm Fn Dem getF byCs dem dem0 byC ruleS findR unf enumP FsOk FnOk')
theorem gT2 {α : MD.Env} {i j : Nat} {a b : Dt} : gT [i, j] (.tup [a, b]) α = some ((α.set i (some a)).set j (some b)) := rfl
theorem gT3 {α : MD.Env} {i j k : Nat} {a b c : Dt} : gT [i, j, k] (.tup [a, b, c]) α = some (((α.set i (some a)).set j (some b)).set k (some c)) := rfl
@[simp] theorem sOsC {i : Int} {α : MD.Env} {S : Sto} : mOs (mC (.int i)) α S = .ok (some i) S := rfl
end DM

namespace DM
open PySem L2 MD
open DF (Tm Fn Dem getF byCs dem dem0 byC ruleS findR unf enumP FsOk FnOk' FsD)
/-! ### demand_of -/
/-- the way into a term -/
inductive Way (fs : List Fn) : Tm → List Tm → Tm → Prop
  | nil {t : Tm} : byCs fs t = none → Way fs t [] t
  | cons {t u : Tm} {l : List Tm} {v : Tm} {n : Nat} {rs : List (Str × Nat × Tm)} {rest : List Tm} : byCs fs t = some (n, rs) → t.args = u :: rest → Way fs u l v → Way fs t (t :: l) v
noncomputable abbrev doC (k : Nat) : MT := mTru (mCall (mOwn 2 (M_is_by_cases k)) (mA1 (mVar 0) (mA1 (mVar 2) mA0)))
abbrev doB : MS := mSq (mEx (mGc (mMt dAppend (mVar 3) (mA1 (mVar 2) mA0)))) (mSet 2 (mGc (mOp dIx (mOp dIx (mVar 2) (mC (.int 1))) (mC (.int 0)))))
noncomputable abbrev foB (k : Nat) : MS := mSet 4 (mGc (mCall (mOwn 3 (M_demand_by_cases k)) (mA1 (mOp dIx (mVar 0) (mOp dIx (mVar 5) (mC (.int 0)))) (mA1 (mVar 5) (mA1 (mVar 4) mA0)))))
end DM

namespace MD
open PySem L2
/-! ### running models by simp -/
section
variable {α : Env} {S S' G : Sto} {d : Dt} {n m k : Nat}
theorem xVar {i : Nat} : mVar i α S = match α[i]? with
  | some (some d) => .ok d S
  | _ => .no := rfl
theorem xFor {mi : MI} {g : MG} {b : MS} : mFor mi g b α S = (mi α S).then α fun it S' => forGo it.2 g b it.1 α S' := rfl
def rng1' (xs : List Dt) (S : Sto) : Rs ItM := match xs with
  | [.int j] => if -(2 ^ 62) ≤ j ∧ j < 2 ^ 62 then .ok (rngD 0 j.toNat, none) S else .no
  | _ => .no
def rng2' (xs : List Dt) (S : Sto) : Rs ItM := match xs with
  | [.int i, .int j] => if -(2 ^ 62) ≤ i ∧ i < 2 ^ 62 ∧ -(2 ^ 62) ≤ j ∧ j < 2 ^ 62 then .ok (rngD i (j - i).toNat, none) S else .no
  | _ => .no
theorem rng1_ex : ∃ f : List Dt → Sto → Rs ItM, f = rng1' := ⟨_, rfl⟩
theorem rng2_ex : ∃ f : List Dt → Sto → Rs ItM, f = rng2' := ⟨_, rfl⟩
/-- not to be unfolded: the kernel would count to 2 ^ 62 -/
noncomputable def rng1 : List Dt → Sto → Rs ItM := Classical.choose rng1_ex
noncomputable def rng2 : List Dt → Sto → Rs ItM := Classical.choose rng2_ex
theorem rng1_eq : rng1 = rng1' := Classical.choose_spec rng1_ex
theorem rng2_eq : rng2 = rng2' := Classical.choose_spec rng2_ex
theorem xIr1 {a : MA} : mIr1 a α S = (a α S).bind rng1 := by rw [rng1_eq]; rfl
theorem xIr2 {a : MA} : mIr2 a α S = (a α S).bind rng2 := by rw [rng2_eq]; rfl
theorem big62 : (1000000000 : Int) < 2 ^ 62 := by decide
theorem rng1_at {j : Int} (h0 : -1000000000 ≤ j) (h1 : j ≤ 1000000000) : rng1 [.int j] S = .ok (rngD 0 j.toNat, none) S := by
  have b := big62
  generalize hb : (2 : Int) ^ 62 = b2 at b
  rw [rng1_eq]
  unfold rng1'
  dsimp only
  rw [hb, if_pos ⟨by omega, by omega⟩]
theorem rng2_at {i j : Int} (h0 : -1000000000 ≤ i) (h1 : i ≤ 1000000000) (h2 : -1000000000 ≤ j) (h3 : j ≤ 1000000000) : rng2 [.int i, .int j] S = .ok (rngD i (j - i).toNat, none) S := by
  have b := big62
  generalize hb : (2 : Int) ^ 62 = b2 at b
  rw [rng2_eq]
  unfold rng2'
  dsimp only
  rw [hb, if_pos ⟨by omega, by omega, by omega, by omega⟩]
theorem xAug {i : Nat} {m : ME} : mAugI i m α S = match α[i]? with
  | some (some (.int a)) => (m α S).then α fun y S1 => match y with
    | .int b => .nx (α.set i (some (.int (a + b)))) S1
    | _ => .no
  | _ => .no := rfl
theorem xset_s {β : Type} {a b : β} {l : List β} {n : Nat} : (a :: l).set (n + 1) b = a :: l.set n b := Eq.trans rfl rfl
theorem xset_0 {β : Type} {a b : β} {l : List β} : (a :: l).set 0 b = b :: l := Eq.trans rfl rfl
theorem xIxT {l : List Dt} {i : Int} : dIx (.tup l) (.int i) S = match atI l i with
  | some d => .ok d S
  | none => .no := Eq.trans rfl rfl
theorem xIxC {l : List Dt} {i : Int} : dIx (.con l) (.int i) S = match atI l i with
  | some d => .ok d S
  | none => .no := Eq.trans rfl rfl
theorem xIxR {l : List Int} {i : Int} : dIx (.scr l) (.int i) S = match atI l i with
  | some d => .ok (.int d) S
  | none => .no := Eq.trans rfl rfl
theorem xIxL {n : Nat} {i : Int} : dIx (.loc n) (.int i) S = match S[n]? with
  | some (.lst l) => (match atI l i with
    | some d => .ok d S
    | none => .no)
  | _ => match dGetO n (.int i) S with
    | some (some d) => .ok d S
    | _ => .no := by
  cases e : S[n]? with
  | none => simp only [dIx, e] <;> rfl
  | some c => cases c <;> simp only [dIx, e] <;> rfl
theorem xGc {m : ME} : mGc m α S = (m α S).bind fun d S' => gcR S.length d S' := by
  unfold mGc Rs.bind
  cases m α S <;> rfl
theorem xStart {ds : List Dt} : startE n ds = ds.map some ++ List.replicate (n - ds.length) none := rfl
theorem getR (h : S.length ≤ n) : (S ++ G)[n]? = G[n - S.length]? := List.getElem?_append_right h
theorem setR {c : Cell} (h : S.length ≤ n) : (S ++ G).set n c = S ++ G.set (n - S.length) c := List.set_append_right _ _ h
theorem setL {c : Cell} (h : n < S.length) : (S ++ G).set n c = S.set n c ++ G := List.set_append_left _ _ h
theorem bddLocT (h : m < n) : (Dt.loc m).bdd n = true := by rw [Dt.bdd]; exact decide_eq_true h
theorem bddLocF (h : n ≤ m) : (Dt.loc m).bdd n = false := by rw [Dt.bdd]; exact decide_eq_false (by omega)
theorem bddNon : Dt.non.bdd n = true := by rw [Dt.bdd] <;> simp
theorem bddBl {b : Bool} : (Dt.bl b).bdd n = true := by rw [Dt.bdd] <;> simp
theorem bddInt {i : Int} : (Dt.int i).bdd n = true := by rw [Dt.bdd] <;> simp
theorem bddStr {x : Str} : (Dt.str x).bdd n = true := by rw [Dt.bdd] <;> simp
theorem bddScr {l : List Int} : (Dt.scr l).bdd n = true := by rw [Dt.bdd] <;> simp
theorem bddTup {l : List Dt} : (Dt.tup l).bdd n = Dt.bddL n l := by rw [Dt.bdd]
theorem bddCon {l : List Dt} : (Dt.con l).bdd n = Dt.bddL n l := by rw [Dt.bdd]
theorem bddNil : Dt.bddL n [] = true := by rw [Dt.bddL]
theorem bddCons {l : List Dt} : Dt.bddL n (d :: l) = (d.bdd n && Dt.bddL n l) := by rw [Dt.bddL]
theorem bddApp : ∀ {l r : List Dt}, Dt.bddL n (l ++ r) = (Dt.bddL n l && Dt.bddL n r)
  | [], r => by rw [List.nil_append, bddNil, Bool.true_and]
  | a :: l, r => by rw [List.cons_append, bddCons, bddCons, bddApp, Bool.and_assoc]
theorem bddRev : ∀ {l : List Dt}, Dt.bddL n l.reverse = Dt.bddL n l
  | [] => rfl
  | a :: l => by rw [List.reverse_cons, bddApp, bddRev, bddCons, bddCons, bddNil, Bool.and_true, Bool.and_comm]
theorem intsB : ∀ l : List Int, Dt.bddL n (l.map Dt.int) = true
  | [] => bddNil
  | a :: l => by rw [List.map_cons, bddCons, intsB l, bddInt]; rfl
theorem bddLst {l : List Dt} : (Cell.lst l).bdd n = Dt.bddL n l := rfl
theorem bddDic {l : List (Key × Dt)} : (Cell.dic l).bdd n = Dt.bddL n (l.map (·.2)) := rfl
theorem bddDit {l : List (List Key × Dt)} : (Cell.dit l).bdd n = Dt.bddL n (l.map (·.2)) := rfl
theorem bddIns {c : Str} {l : List (Str × Dt)} : (Cell.ins c l).bdd n = Dt.bddL n (l.map (·.2)) := rfl
theorem bddSNil : bddS n [] = true := rfl
theorem bddSCons {c : Cell} {l : Sto} : bddS n (c :: l) = (c.bdd n && bddS n l) := List.all_cons ..
theorem bddSApp {l r : Sto} : bddS n (l ++ r) = (bddS n l && bddS n r) := List.all_append ..
theorem Dt.bdd_mono (h : n ≤ m) : ∀ N : Nat, (∀ d : Dt, sizeOf d ≤ N → d.bdd n = true → d.bdd m = true) ∧ (∀ l : List Dt, sizeOf l ≤ N → Dt.bddL n l = true → Dt.bddL m l = true) := by
  intro N
  induction N with
  | zero =>
    refine ⟨fun d hd => ?_, fun l hl => ?_⟩
    · cases d <;> simp at hd
    · cases l <;> simp at hl
  | succ N ih =>
    refine ⟨fun d hd => ?_, fun l hl => ?_⟩
    · cases d with
      | tup l => intro h; rw [Dt.bdd] at h ⊢; exact ih.2 l (by simp at hd; omega) h
      | con l => intro h; rw [Dt.bdd] at h ⊢; exact ih.2 l (by simp at hd; omega) h
      | loc j => intro h; rw [Dt.bdd, decide_eq_true_eq] at h ⊢; omega
      | _ => intro _; rw [Dt.bdd] <;> simp
    · cases l with
      | nil => intro _; rw [Dt.bddL]
      | cons a r =>
        intro h
        rw [Dt.bddL, Bool.and_eq_true] at h ⊢
        exact ⟨ih.1 a (by simp at hl; omega) h.1, ih.2 r (by simp at hl; omega) h.2⟩
theorem bddL_up {l : List Dt} (h : n ≤ m) (hl : Dt.bddL n l = true) : Dt.bddL m l = true := (Dt.bdd_mono h (sizeOf l)).2 l (Nat.le_refl _) hl
theorem cell_up {c : Cell} (h : n ≤ m) (hc : c.bdd n = true) : c.bdd m = true := by
  cases c <;> exact bddL_up h hc
theorem bddS_up {S : Sto} (h : n ≤ m) (hS : bddS n S = true) : bddS m S = true := by
  unfold bddS at *
  rw [List.all_eq_true] at *
  exact fun c hc => cell_up h (hS c hc)
theorem Wf.up (hS : Wf S) (h : S.length ≤ m) : bddS m S = true := bddS_up h hS
theorem take_nf (h : S.length ≤ n) : (S ++ G).take n = S ++ G.take (n - S.length) := by
  rw [List.take_append]
  rw [List.take_of_length_le h]
/-- what stays of a state -/
theorem gc_nf (hS : Wf S) (h : S.length ≤ n) : gcR n d (S ++ G) = if bddS n (G.take (n - S.length)) = true then (if d.bdd n = true then .ok d (S ++ G.take (n - S.length)) else match d with
    | .loc m => match (S ++ G)[m]? with
      | some c => if c.bdd n = true then .ok (.loc n) (S ++ (G.take (n - S.length) ++ [c])) else .ok d (S ++ G)
      | none => .ok d (S ++ G)
    | _ => .ok d (S ++ G)) else .ok d (S ++ G) := by
  unfold gcR
  rw [take_nf h, bddSApp, hS.up h, Bool.true_and]
  simp only [List.append_assoc]
  all_goals rfl
theorem gcX_nf {c : Str} {fs : List (Str × Dt)} (hS : Wf S) (h : S.length ≤ n) : gcX n c fs (S ++ G) = if bddS n (G.take (n - S.length)) = true ∧ Dt.bddL n (fs.map (·.2)) = true then .ex c fs (S ++ G.take (n - S.length)) else .ex c fs (S ++ G) := by
  unfold gcX
  rw [take_nf h, bddSApp, hS.up h, Bool.true_and]
theorem gcX_same {c : Str} {fs : List (Str × Dt)} : gcX S.length c fs S = .ex c fs S := by
  unfold gcX
  rw [List.take_length]
  by_cases h : bddS S.length S = true ∧ Dt.bddL S.length (fs.map (·.2)) = true
  · rw [if_pos h]
  · rw [if_neg h]
theorem isEmpty_app {β : Type} {l r : List β} : (l ++ r).isEmpty = (l.isEmpty && r.isEmpty) := by cases l <;> rfl
theorem atN {β : Type} {l : List β} {j : Nat} : atI l (j : Int) = l[j]? := by
  unfold atI ixN
  rw [if_pos (by omega)]
  by_cases h : (j : Int) < (l.length : Int)
  · rw [if_pos h]; simp
  · rw [if_neg h, List.getElem?_eq_none (by omega)]; rfl
theorem at0 {β : Type} {l : List β} : atI l 0 = l[0]? := atN (j := 0)
theorem at1 {β : Type} {l : List β} : atI l 1 = l[1]? := atN (j := 1)
theorem at2 {β : Type} {l : List β} : atI l 2 = l[2]? := atN (j := 2)
theorem at3 {β : Type} {l : List β} : atI l 3 = l[3]? := atN (j := 3)
theorem at4 {β : Type} {l : List β} : atI l 4 = l[4]? := atN (j := 4)
theorem at5 {β : Type} {l : List β} : atI l 5 = l[5]? := atN (j := 5)
theorem atM {β : Type} {l : List β} : atI l (-1) = l.getLast? := by
  unfold atI ixN
  rw [if_neg (by omega)]
  cases l with
  | nil => rfl
  | cons a r =>
    rw [if_pos (by rw [List.length_cons]; omega), List.getLast?_eq_getElem?]
    show (a :: r)[(-1 + ((r.length + 1 : Nat) : Int)).toNat]? = _
    rw [show (-1 + ((r.length + 1 : Nat) : Int)).toNat = r.length by omega]
    rfl
theorem char_inj {a b : Char} (h : a.toNat = b.toNat) : a = b := by
  apply Char.ext
  exact UInt32.toNat_inj.mp h
theorem str_eq {a b : String} : (Str.ofString a = Str.ofString b) = (a = b) := by
  apply propext
  constructor
  · intro h
    rw [Str.ofString_eq_toList, Str.ofString_eq_toList] at h
    have h := congrArg (fun s => s.cps.toList) h
    simp only [List.toList_toArray] at h
    have : a.toList = b.toList := (List.map_inj_right fun x y e => char_inj e).mp h
    exact String.toList_inj.mp this
  · rintro rfl; rfl
end
end MD

namespace DM
open PySem L2 MD
noncomputable def M_parts_of : Nat → List Dt → Sto → Rs Dt
  | 0 => fun _ _ => .no
  | k + 1 => mFn 6 (mSq (mSet 1 (mGc (mLst mA0)))
      (mSq (mSet 2 (mGc (mLst mA0)))
      (mSq (mFor (mIrev (mCall (mOwn 1 (M_shape k)) (mA1 (mVar 0) mA0))) (gT [3, 4]) (mSq (mEx (mGc (mMt dAppend (mVar 1) (mA1 (mTup (mA1 (mIf (mTru (mCall dIsi (mA1 (mVar 3) (mA1 (mC (.ty "int")) mA0)))) (mC (.str "?")) (mVar 3)) (mA1 (mC .non) mA0))) mA0))))
      (mSq (mFor (mIr1 (mA1 (mVar 4) mA0)) (gN 5) (mEx (mGc (mMt dAppend (mVar 1) (mA1 (mTup (mA1 (mOp dSub (mCall dLen (mA1 (mVar 1) mA0)) (mC (.int 1))) (mA1 (mMt0 dPop (mVar 2)) mA0))) mA0)))))
      (mEx (mGc (mMt dAppend (mVar 2) (mA1 (mOp dSub (mCall dLen (mA1 (mVar 1) mA0)) (mC (.int 1))) mA0)))))))
      (mRt (mVar 1)))))
noncomputable def M_lying : Nat → List Dt → Sto → Rs Dt
  | 0 => fun _ _ => .no
  | k + 1 => mFn 9 (mSq (mAsg (gT [3, 4]) (mGc (mVar 0)))
      (mSq (mSet 5 (mGc (mLst mA0)))
      (mSq (mFor (mIt (mVar 1)) (gT [6, 7]) (mIfS (mT (mOp dIsN (mVar 7) (mC .non))) (mEx (mGc (mMt dAppend (mVar 5) (mA1 (mAnd (mOp dIsN (mVar 4) (mC .non)) (mOp dEq (mVar 3) (mVar 6))) mA0)))) (mSq (mSet 8 (mGc (mAnd (mOp dNotN (mVar 4) (mC .non)) (mAnd (mOp dIx (mOp dIx (mVar 2) (mVar 3)) (mVar 6)) (mOp dIx (mOp dIx (mVar 2) (mVar 4)) (mVar 7))))))
      (mEx (mGc (mMt dAppend (mVar 5) (mA1 (mOr (mVar 8) (mOr (mOp dIx (mVar 5) (mVar 6)) (mOp dIx (mVar 5) (mVar 7)))) mA0)))))))
      (mRt (mVar 5)))))
noncomputable def M_within : Nat → List Dt → Sto → Rs Dt
  | 0 => fun _ _ => .no
  | k + 1 => mFn 6 (mSq (mSet 2 (mGc (mCall (mOwn 1 (M_parts_of k)) (mA1 (mVar 1) mA0))))
      (mSq (mSet 3 (mGc (mLst mA0)))
      (mSq (mFor (mIt (mCall (mOwn 1 (M_parts_of k)) (mA1 (mVar 0) mA0))) (gN 4) (mSq (mSet 5 (mGc (mCall (mOwn 3 (M_lying k)) (mA1 (mVar 4) (mA1 (mVar 2) (mA1 (mVar 3) mA0))))))
      (mSq (mIfS (mtNot (mTru (mCall dAny (mA1 (mVar 5) mA0)))) (mRt (mC (.bl false))) mNx)
      (mEx (mGc (mMt dAppend (mVar 3) (mA1 (mVar 5) mA0)))))))
      (mRt (mOp dIx (mOp dIx (mVar 3) (mUn dNeg (mC (.int 1)))) (mUn dNeg (mC (.int 1))))))))
end DM

namespace DM
open PySem L2 MD
noncomputable def M_Session___init__ : Nat → List Dt → Sto → Rs Dt
  | 0 => fun _ _ => .no
  | k + 1 => mFn 3 (mSq (mSetF "Session" "_functions" (mVar 0) (mGc (mCall (mOwn 1 (M_by_name k)) (mA1 (mVar 1) mA0))))
      (mSq (mSetF "Session" "_nodes" (mVar 0) (mGc (mLst (mA1 (mTup (mA1 (mVar 2) (mA1 (mC (.str "open")) (mA1 (mC .non) (mA1 (mTup mA0) (mA1 (mC .non) (mA1 (mTup mA0) mA0))))))) mA0))))
      (mSetF "Session" "_lines" (mVar 0) (mGc (mLst (mA1 (mJs [(mC (.str "start ")), (mFmt (mCall (mOwn 1 (M_write_term k)) (mA1 (mVar 2) mA0)))]) mA0))))))
noncomputable def M_Session__closed : Nat → List Dt → Sto → Rs Dt
  | 0 => fun _ _ => .no
  | k + 1 => mFn 13 (mSq (mSet 7 (mGc (mCall dLen (mA1 (mFld "Session" "_nodes" (mVar 0)) mA0))))
      (mSq (mIfS (mT (mOp dGt (mOp dAdd (mVar 7) (mCall dLen (mA1 (mVar 3) mA0))) (mC (.int 40)))) (mRaise "Refused" "reason" (mC (.str "nodes"))) mNx)
      (mSq (mIfS (mTru (mCall dAny (mA1 (mLc [8] (mIt (mVar 3)) (gN 8) mYes (mOp dGt (mCall (mOwn 1 (M_size k)) (mA1 (mVar 8) mA0)) (mC (.int 60)))) mA0))) (mRaise "Refused" "reason" (mC (.str "size"))) mNx)
      (mSq (mSet 9 (mGc (mRg2 true (mVar 7) (mOp dAdd (mVar 7) (mCall dLen (mA1 (mVar 3) mA0))))))
      (mSq (mAsg (gT [10, 11, 12, 11, 11, 11]) (mGc (mOp dIx (mFld "Session" "_nodes" (mVar 0)) (mVar 1))))
      (mSq (mSub (mFld "Session" "_nodes" (mVar 0)) (mVar 1) (mTup (mA1 (mVar 10) (mA1 (mVar 2) (mA1 (mVar 12) (mA1 (mVar 9) (mA1 (mVar 4) (mA1 (mVar 5) mA0))))))))
      (mSq (mEx (mGc (mMt dExtend (mFld "Session" "_nodes" (mVar 0)) (mA1 (mLc [8] (mIt (mVar 3)) (gN 8) mYes (mTup (mA1 (mVar 8) (mA1 (mC (.str "open")) (mA1 (mVar 1) (mA1 (mTup mA0) (mA1 (mC .non) (mA1 (mTup mA0) mA0)))))))) mA0))))
      (mSq (mEx (mGc (mMt dAppend (mFld "Session" "_lines" (mVar 0)) (mA1 (mVar 6) mA0))))
      (mRt (mVar 9))))))))))
noncomputable def M_Session__is_node : Nat → List Dt → Sto → Rs Dt
  | 0 => fun _ _ => .no
  | k + 1 => mFn 2 (mRt (mChain dLe dLt (mC (.int 0)) (mVar 1) (mCall dLen (mA1 (mFld "Session" "_nodes" (mVar 0)) mA0))))
noncomputable def M_Session__open_term : Nat → List Dt → Sto → Rs Dt
  | 0 => fun _ _ => .no
  | k + 1 => mFn 2 (mSq (mIfS (mtOr (mtNot (mTru (mMeth "Session" "_is_node" 2 (M_Session__is_node k) (mVar 0) (mA1 (mVar 1) mA0)))) (mT (mOp dNe (mOp dIx (mOp dIx (mFld "Session" "_nodes" (mVar 0)) (mVar 1)) (mC (.int 1))) (mC (.str "open"))))) (mRaise "Refused" "reason" (mC (.str "not open"))) mNx)
      (mRt (mOp dIx (mOp dIx (mFld "Session" "_nodes" (mVar 0)) (mVar 1)) (mC (.int 0)))))
noncomputable def M_Session_node : Nat → List Dt → Sto → Rs Dt
  | 0 => fun _ _ => .no
  | k + 1 => mFn 2 (mSq (mIfS (mtNot (mTru (mMeth "Session" "_is_node" 2 (M_Session__is_node k) (mVar 0) (mA1 (mVar 1) mA0)))) (mRaise "Refused" "reason" (mC (.str "no node"))) mNx)
      (mRt (mOp dIx (mFld "Session" "_nodes" (mVar 0)) (mVar 1))))
noncomputable def M_Session_way : Nat → List Dt → Sto → Rs Dt
  | 0 => fun _ _ => .no
  | k + 1 => mFn 4 (mSq (mSet 2 (mGc (mLst mA0)))
      (mSq (mSet 3 (mGc (mOp dIx (mMeth "Session" "node" 2 (M_Session_node k) (mVar 0) (mA1 (mVar 1) mA0)) (mC (.int 2)))))
      (mSq (mWh (mT (mOp dNotN (mVar 3) (mC .non))) (mSq (mEx (mGc (mMt dAppend (mVar 2) (mA1 (mVar 3) mA0))))
      (mSet 3 (mGc (mOp dIx (mOp dIx (mFld "Session" "_nodes" (mVar 0)) (mVar 3)) (mC (.int 2)))))))
      (mRt (mCall dTuple (mA1 (mVar 2) mA0))))))
noncomputable def M_Session_count : Nat → List Dt → Sto → Rs Dt
  | 0 => fun _ _ => .no
  | k + 1 => mFn 1 (mRt (mCall dLen (mA1 (mFld "Session" "_nodes" (mVar 0)) mA0)))
noncomputable def M_Session_whistle : Nat → List Dt → Sto → Rs Dt
  | 0 => fun _ _ => .no
  | k + 1 => mFn 8 (mSq (mSet 2 (mGc (mOp dIx (mMeth "Session" "node" 2 (M_Session_node k) (mVar 0) (mA1 (mVar 1) mA0)) (mC (.int 0)))))
      (mSq (mAsg (gT [3, 4]) (mGc (mCall (mOwn 2 (M_driving k)) (mA1 (mFld "Session" "_functions" (mVar 0)) (mA1 (mVar 2) mA0)))))
      (mSq (mFor (mIt (mMeth "Session" "way" 2 (M_Session_way k) (mVar 0) (mA1 (mVar 1) mA0))) (gN 5) (mSq (mAsg (gT [6, 7, 4, 4, 4, 4]) (mGc (mOp dIx (mFld "Session" "_nodes" (mVar 0)) (mVar 5))))
      (mSq (mIfS (mtAnd (mT (mOp dEq (mVar 7) (mVar 3))) (mTru (mCall (mOwn 2 (M_within k)) (mA1 (mVar 6) (mA1 (mVar 2) mA0))))) (mRt (mVar 5)) mNx)
      (mIfS (mtAnd (mT (mOp dEq (mVar 3) (mC (.str "stepped")))) (mT (mOp dEq (mVar 7) (mC (.str "branched"))))) (mRt (mC .non)) mNx))))
      (mRt (mC .non)))))
noncomputable def M_Session_drive : Nat → List Dt → Sto → Rs Dt
  | 0 => fun _ _ => .no
  | k + 1 => mFn 4 (mSq (mAsg (gT [2, 3]) (mGc (mCall (mOwn 2 (M_driving k)) (mA1 (mFld "Session" "_functions" (mVar 0)) (mA1 (mMeth "Session" "_open_term" 2 (M_Session__open_term k) (mVar 0) (mA1 (mVar 1) mA0)) mA0)))))
      (mSq (mIfS (mT (mOp dIsN (mVar 2) (mC .non))) (mRaise "Refused" "reason" (mC (.str "nothing to drive"))) mNx)
      (mSq (mIfS (mT (mOp dNotN (mMeth "Session" "whistle" 2 (M_Session_whistle k) (mVar 0) (mA1 (mVar 1) mA0)) (mC .non))) (mRaise "Refused" "reason" (mC (.str "whistle"))) mNx)
      (mRt (mMeth "Session" "_closed" 7 (M_Session__closed k) (mVar 0) (mA1 (mVar 1) (mA1 (mVar 2) (mA1 (mVar 3) (mA1 (mC .non) (mA1 (mTup mA0) (mA1 (mJs [(mC (.str "drive ")), (mFmt (mVar 1))]) mA0)))))))))))
noncomputable def M_exposed_terms : Nat → List Dt → Sto → Rs Dt
  | 0 => fun _ _ => .no
  | k + 1 => mFn 2 (mSq (mIfS (mtAnd (mtNot (mTru (mCall dIsi (mA1 (mOp dIx (mVar 1) (mC (.int 0))) (mA1 (mC (.ty "int")) mA0))))) (mT (mOp dNe (mOp dIx (mCall (mOwn 2 (M_demand_of k)) (mA1 (mVar 0) (mA1 (mVar 1) mA0))) (mC (.int 0))) (mC (.str "value"))))) (mRaise "Refused" "reason" (mC (.str "no value"))) mNx)
      (mRt (mOp dIx (mVar 1) (mC (.int 1)))))
noncomputable def M_Session_expose : Nat → List Dt → Sto → Rs Dt
  | 0 => fun _ _ => .no
  | k + 1 => mFn 3 (mSq (mSet 2 (mGc (mCall (mOwn 2 (M_exposed_terms k)) (mA1 (mFld "Session" "_functions" (mVar 0)) (mA1 (mMeth "Session" "_open_term" 2 (M_Session__open_term k) (mVar 0) (mA1 (mVar 1) mA0)) mA0)))))
      (mRt (mMeth "Session" "_closed" 7 (M_Session__closed k) (mVar 0) (mA1 (mVar 1) (mA1 (mC (.str "exposed")) (mA1 (mVar 2) (mA1 (mC .non) (mA1 (mTup mA0) (mA1 (mJs [(mC (.str "expose ")), (mFmt (mVar 1))]) mA0)))))))))
end DM

namespace DM
open PySem L2 MD
noncomputable def M_g_tape : Nat → List Dt → Sto → Rs Dt
  | 0 => fun _ _ => .no
  | k + 1 => mFn 6 (mSq (mSet 1 (mGc (mLst mA0)))
      (mSq (mSet 2 (mGc (mC (.int 1))))
      (mSq (mFor (mIt (mSl dSl (mVar 0) mOn (mOs (mC (.int 63))))) (gN 3) (mSq (mSet 4 (mGc (mCall dAbs (mA1 (mCall dInt (mA1 (mVar 3) mA0)) mA0))))
      (mSq (mSet 2 (mGc (mOp dAdd (mVar 2) (mVar 4))))
      (mFor (mIr1 (mA1 (mC (.int 24)) mA0)) (gN 5) (mSq (mEx (mGc (mMt dAppend (mVar 1) (mA1 (mOp dMod (mCall dInt (mA1 (mVar 4) mA0)) (mC (.int 60))) mA0))))
      (mSq (mSet 4 (mGc (mOp dDiv (mVar 4) (mC (.int 60)))))
      (mIfS (mT (mOp dEq (mVar 4) (mC (.int 0)))) (mBk) mNx)))))))
      (mRt (mLst (mA1 (mC (.int 0)) (mA1 (mVar 1) (mA1 (mOp dMod (mCall dInt (mA1 (mVar 2) mA0)) (mC (.int 1000003))) mA0))))))))
noncomputable def M_g_next : Nat → List Dt → Sto → Rs Dt
  | 0 => fun _ _ => .no
  | k + 1 => mFn 3 (mSq (mSet 2 (mGc (mOp dIx (mVar 0) (mC (.int 0)))))
      (mSq (mSub (mVar 0) (mC (.int 0)) (mOp dAdd (mVar 2) (mC (.int 1))))
      (mSq (mIfS (mT (mOp dLt (mVar 2) (mCall dLen (mA1 (mOp dIx (mVar 0) (mC (.int 1))) mA0)))) (mRt (mOp dMod (mCall dInt (mA1 (mOp dIx (mOp dIx (mVar 0) (mC (.int 1))) (mVar 2)) mA0)) (mVar 1))) mNx)
      (mRt (mOp dMod (mOp dDiv (mOp dMod (mCall dInt (mA1 (mOp dAdd (mOp dMul (mOp dAdd (mVar 2) (mC (.int 1))) (mC (.int 48271))) (mOp dMul (mOp dIx (mVar 0) (mC (.int 2))) (mC (.int 69621)))) mA0)) (mC (.int 2147483647))) (mC (.int 11))) (mVar 1))))))
noncomputable def M_g_term : Nat → List Dt → Sto → Rs Dt
  | 0 => fun _ _ => .no
  | k + 1 => mFn 8 (mSq (mSet 4 (mGc (mCall (mOwn 2 (M_g_next k)) (mA1 (mVar 0) (mA1 (mC (.int 4)) mA0)))))
      (mSq (mIfS (mtOr (mT (mOp dEq (mVar 3) (mC (.int 0)))) (mT (mOp dEq (mVar 4) (mC (.int 0))))) (mSq (mIfS (mtAnd (mT (mOp dGt (mVar 2) (mC (.int 0)))) (mT (mOp dGt (mCall (mOwn 2 (M_g_next k)) (mA1 (mVar 0) (mA1 (mC (.int 3)) mA0))) (mC (.int 0))))) (mRt (mTup (mA1 (mCall (mOwn 2 (M_g_next k)) (mA1 (mVar 0) (mA1 (mVar 2) mA0))) (mA1 (mTup mA0) mA0)))) mNx)
      (mRt (mTup (mA1 (mOp dIx (mLst (mA1 (mC (.str "Z")) (mA1 (mC (.str "Nil")) (mA1 (mC (.str "T")) mA0)))) (mCall (mOwn 2 (M_g_next k)) (mA1 (mVar 0) (mA1 (mC (.int 3)) mA0)))) (mA1 (mTup mA0) mA0))))) mNx)
      (mSq (mSet 5 (mGc (mOp dIx (mVar 1) (mCall (mOwn 2 (M_g_next k)) (mA1 (mVar 0) (mA1 (mCall dLen (mA1 (mVar 1) mA0)) mA0))))))
      (mSq (mIfS (mT (mOp dEq (mOp dIx (mVar 5) (mC (.int 0))) (mC (.str "?")))) (mSq (mIfS (mT (mOp dEq (mVar 2) (mC (.int 0)))) (mRt (mTup (mA1 (mC (.str "Z")) (mA1 (mTup mA0) mA0)))) mNx)
      (mRt (mTup (mA1 (mCall (mOwn 2 (M_g_next k)) (mA1 (mVar 0) (mA1 (mVar 2) mA0))) (mA1 (mTup (mA1 (mCall (mOwn 4 (M_g_term k)) (mA1 (mVar 0) (mA1 (mVar 1) (mA1 (mVar 2) (mA1 (mOp dSub (mVar 3) (mC (.int 1))) mA0))))) mA0)) mA0))))) mNx)
      (mSq (mSet 6 (mGc (mOp dIx (mVar 5) (mC (.int 1)))))
      (mSq (mIfS (mT (mOp dEq (mCall (mOwn 2 (M_g_next k)) (mA1 (mVar 0) (mA1 (mC (.int 8)) mA0))) (mC (.int 0)))) (mSet 6 (mGc (mCall (mOwn 2 (M_g_next k)) (mA1 (mVar 0) (mA1 (mC (.int 4)) mA0))))) mNx)
      (mRt (mTup (mA1 (mOp dIx (mVar 5) (mC (.int 0))) (mA1 (mCall dTuple (mA1 (mLc [7] (mIr1 (mA1 (mVar 6) mA0)) (gN 7) mYes (mCall (mOwn 4 (M_g_term k)) (mA1 (mVar 0) (mA1 (mVar 1) (mA1 (mVar 2) (mA1 (mOp dSub (mVar 3) (mC (.int 1))) mA0)))))) mA0)) mA0))))))))))
noncomputable def M_g_heads : Nat → List Dt → Sto → Rs Dt
  | 0 => fun _ _ => .no
  | k + 1 => mFn 1 (mSq (mSet 0 (mGc (mLst (mA1 (mTup (mA1 (mC (.str "add")) (mA1 (mC (.int 2)) mA0))) (mA1 (mTup (mA1 (mC (.str "S")) (mA1 (mC (.int 1)) mA0))) (mA1 (mTup (mA1 (mC (.str "app")) (mA1 (mC (.int 2)) mA0))) (mA1 (mTup (mA1 (mC (.str "Cons")) (mA1 (mC (.int 2)) mA0))) (mA1 (mTup (mA1 (mC (.str "rev")) (mA1 (mC (.int 2)) mA0))) (mA1 (mTup (mA1 (mC (.str "map")) (mA1 (mC (.int 2)) mA0))) (mA1 (mTup (mA1 (mC (.str "twice")) (mA1 (mC (.int 2)) mA0))) (mA1 (mTup (mA1 (mC (.str "even")) (mA1 (mC (.int 1)) mA0))) mA0)))))))))))
      (mRt (mOp dAdd (mVar 0) (mLst (mA1 (mTup (mA1 (mC (.str "add")) (mA1 (mC (.int 2)) mA0))) (mA1 (mTup (mA1 (mC (.str "S")) (mA1 (mC (.int 1)) mA0))) (mA1 (mTup (mA1 (mC (.str "k")) (mA1 (mC (.int 2)) mA0))) (mA1 (mTup (mA1 (mC (.str "f")) (mA1 (mC (.int 2)) mA0))) (mA1 (mTup (mA1 (mC (.str "g")) (mA1 (mC (.int 2)) mA0))) (mA1 (mTup (mA1 (mC (.str "Z")) (mA1 (mC (.int 0)) mA0))) (mA1 (mTup (mA1 (mC (.str "one")) (mA1 (mC (.int 0)) mA0))) (mA1 (mTup (mA1 (mC (.str "?")) (mA1 (mC (.int 0)) mA0))) (mA1 (mTup (mA1 (mC (.str "loop")) (mA1 (mC (.int 1)) mA0))) mA0)))))))))))))
noncomputable def M_g_program : Nat → List Dt → Sto → Rs Dt
  | 0 => fun _ _ => .no
  | k + 1 => mFn 18 (mSq (mSet 1 (mGc (mTup (mA1 (mC (.int 0)) (mA1 (mTup mA0) mA0)))))
      (mSq (mSet 2 (mGc (mTup (mA1 (mC (.int 1)) (mA1 (mTup mA0) mA0)))))
      (mSq (mSet 3 (mGc (mTup (mA1 (mC (.int 2)) (mA1 (mTup mA0) mA0)))))
      (mSq (mSet 4 (mGc (mTup (mA1 (mC (.str "Z")) (mA1 (mTup mA0) mA0)))))
      (mSq (mSet 5 (mGc (mTup (mA1 (mC (.str "cases")) (mA1 (mC (.str "add")) (mA1 (mC (.int 2)) (mA1 (mTup (mA1 (mTup (mA1 (mC (.str "Z")) (mA1 (mC (.int 0)) (mA1 (mVar 1) mA0)))) (mA1 (mTup (mA1 (mC (.str "S")) (mA1 (mC (.int 1)) (mA1 (mTup (mA1 (mC (.str "S")) (mA1 (mTup (mA1 (mTup (mA1 (mC (.str "add")) (mA1 (mTup (mA1 (mVar 1) (mA1 (mVar 2) mA0))) mA0))) mA0)) mA0))) mA0)))) mA0))) mA0)))))))
      (mSq (mSet 6 (mGc (mTup (mA1 (mC (.str "cases")) (mA1 (mC (.str "app")) (mA1 (mC (.int 2)) (mA1 (mTup (mA1 (mTup (mA1 (mC (.str "Nil")) (mA1 (mC (.int 0)) (mA1 (mVar 1) mA0)))) (mA1 (mTup (mA1 (mC (.str "Cons")) (mA1 (mC (.int 2)) (mA1 (mTup (mA1 (mC (.str "Cons")) (mA1 (mTup (mA1 (mVar 1) (mA1 (mTup (mA1 (mC (.str "app")) (mA1 (mTup (mA1 (mVar 2) (mA1 (mVar 3) mA0))) mA0))) mA0))) mA0))) mA0)))) mA0))) mA0)))))))
      (mSq (mSet 7 (mGc (mTup (mA1 (mC (.str "cases")) (mA1 (mC (.str "rev")) (mA1 (mC (.int 2)) (mA1 (mTup (mA1 (mTup (mA1 (mC (.str "Nil")) (mA1 (mC (.int 0)) (mA1 (mVar 1) mA0)))) (mA1 (mTup (mA1 (mC (.str "Cons")) (mA1 (mC (.int 2)) (mA1 (mTup (mA1 (mC (.str "rev")) (mA1 (mTup (mA1 (mVar 2) (mA1 (mTup (mA1 (mC (.str "Cons")) (mA1 (mTup (mA1 (mVar 1) (mA1 (mVar 3) mA0))) mA0))) mA0))) mA0))) mA0)))) mA0))) mA0)))))))
      (mSq (mSet 8 (mGc (mTup (mA1 (mC (.str "Cons")) (mA1 (mTup (mA1 (mTup (mA1 (mC (.int 2)) (mA1 (mTup (mA1 (mVar 1) mA0)) mA0))) (mA1 (mTup (mA1 (mC (.str "map")) (mA1 (mTup (mA1 (mVar 2) (mA1 (mVar 3) mA0))) mA0))) mA0))) mA0)))))
      (mSq (mSet 9 (mGc (mTup (mA1 (mC (.str "cases")) (mA1 (mC (.str "map")) (mA1 (mC (.int 2)) (mA1 (mTup (mA1 (mTup (mA1 (mC (.str "Nil")) (mA1 (mC (.int 0)) (mA1 (mTup (mA1 (mC (.str "Nil")) (mA1 (mTup mA0) mA0))) mA0)))) (mA1 (mTup (mA1 (mC (.str "Cons")) (mA1 (mC (.int 2)) (mA1 (mVar 8) mA0)))) mA0))) mA0)))))))
      (mSq (mSet 10 (mGc (mTup (mA1 (mC (.str "cases")) (mA1 (mC (.str "even")) (mA1 (mC (.int 1)) (mA1 (mTup (mA1 (mTup (mA1 (mC (.str "Z")) (mA1 (mC (.int 0)) (mA1 (mTup (mA1 (mC (.str "T")) (mA1 (mTup mA0) mA0))) mA0)))) (mA1 (mTup (mA1 (mC (.str "S")) (mA1 (mC (.int 1)) (mA1 (mTup (mA1 (mC (.str "odd")) (mA1 (mTup (mA1 (mVar 1) mA0)) mA0))) mA0)))) mA0))) mA0)))))))
      (mSq (mSet 11 (mGc (mTup (mA1 (mC (.str "cases")) (mA1 (mC (.str "odd")) (mA1 (mC (.int 1)) (mA1 (mTup (mA1 (mTup (mA1 (mC (.str "Z")) (mA1 (mC (.int 0)) (mA1 (mTup (mA1 (mC (.str "F")) (mA1 (mTup mA0) mA0))) mA0)))) (mA1 (mTup (mA1 (mC (.str "S")) (mA1 (mC (.int 1)) (mA1 (mTup (mA1 (mC (.str "even")) (mA1 (mTup (mA1 (mVar 1) mA0)) mA0))) mA0)))) mA0))) mA0)))))))
      (mSq (mSet 12 (mGc (mTup (mA1 (mTup (mA1 (mC (.str "plain")) (mA1 (mC (.str "twice")) (mA1 (mC (.int 2)) (mA1 (mTup (mA1 (mC (.int 0)) (mA1 (mTup (mA1 (mTup (mA1 (mC (.int 0)) (mA1 (mTup (mA1 (mVar 2) mA0)) mA0))) mA0)) mA0))) mA0))))) (mA1 (mTup (mA1 (mC (.str "plain")) (mA1 (mC (.str "k")) (mA1 (mC (.int 2)) (mA1 (mVar 1) mA0))))) (mA1 (mTup (mA1 (mC (.str "plain")) (mA1 (mC (.str "one")) (mA1 (mC (.int 0)) (mA1 (mTup (mA1 (mC (.str "S")) (mA1 (mTup (mA1 (mVar 4) mA0)) mA0))) mA0))))) mA0))))))
      (mSq (mSet 13 (mGc (mTup (mA1 (mC (.str "plain")) (mA1 (mC (.str "loop")) (mA1 (mC (.int 1)) (mA1 (mTup (mA1 (mC (.str "loop")) (mA1 (mTup (mA1 (mVar 1) mA0)) mA0))) mA0)))))))
      (mSq (mSet 14 (mGc (mCall (mOwn 0 (M_g_heads k)) mA0)))
      (mSq (mSet 15 (mGc (mTup (mA1 (mC (.str "plain")) (mA1 (mC (.str "f")) (mA1 (mC (.int 2)) (mA1 (mCall (mOwn 4 (M_g_term k)) (mA1 (mVar 0) (mA1 (mVar 14) (mA1 (mC (.int 2)) (mA1 (mC (.int 2)) mA0))))) mA0)))))))
      (mSq (mSet 16 (mGc (mTup (mA1 (mTup (mA1 (mC (.str "Z")) (mA1 (mC (.int 0)) (mA1 (mCall (mOwn 4 (M_g_term k)) (mA1 (mVar 0) (mA1 (mVar 14) (mA1 (mC (.int 1)) (mA1 (mC (.int 2)) mA0))))) mA0)))) (mA1 (mTup (mA1 (mC (.str "S")) (mA1 (mC (.int 1)) (mA1 (mCall (mOwn 4 (M_g_term k)) (mA1 (mVar 0) (mA1 (mVar 14) (mA1 (mC (.int 2)) (mA1 (mC (.int 2)) mA0))))) mA0)))) mA0)))))
      (mSq (mSet 17 (mGc (mTup (mA1 (mC (.str "cases")) (mA1 (mC (.str "g")) (mA1 (mC (.int 2)) (mA1 (mVar 16) mA0)))))))
      (mRt (mOp dAdd (mOp dAdd (mTup (mA1 (mVar 5) (mA1 (mVar 6) (mA1 (mVar 7) (mA1 (mVar 9) (mA1 (mVar 10) (mA1 (mVar 11) mA0))))))) (mVar 12)) (mTup (mA1 (mVar 13) (mA1 (mVar 15) (mA1 (mVar 17) mA0)))))))))))))))))))))))
end DM

namespace DM
open PySem L2 MD
noncomputable def M_Session_open_nodes : Nat → List Dt → Sto → Rs Dt
  | 0 => fun _ _ => .no
  | k + 1 => mFn 3 (mRt (mCall dTuple (mA1 (mLc [1, 2] (mIen (mA1 (mFld "Session" "_nodes" (mVar 0)) mA0)) (gT [1, 2]) (mT (mOp dEq (mOp dIx (mVar 2) (mC (.int 1))) (mC (.str "open")))) (mVar 1)) mA0)))
noncomputable def M_folded_terms : Nat → List Dt → Sto → Rs Dt
  | 0 => fun _ _ => .no
  | k + 1 => mFn 5 (mSq (mSet 2 (mGc (mCall (mOwn 2 (M_match k)) (mA1 (mVar 0) (mA1 (mVar 1) mA0)))))
      (mSq (mIfS (mT (mOp dIsN (mVar 2) (mC .non))) (mRaise "Refused" "reason" (mC (.str "no instance"))) mNx)
      (mRt (mCall dTuple (mA1 (mLc [3, 4] (mIt (mVar 2)) (gT [3, 4]) (mtNot (mTru (mCall (mOwn 1 (M_is_lone_unknown k)) (mA1 (mVar 4) mA0)))) (mVar 4)) mA0)))))
noncomputable def M_Session_fold : Nat → List Dt → Sto → Rs Dt
  | 0 => fun _ _ => .no
  | k + 1 => mFn 5 (mSq (mSet 3 (mGc (mMeth "Session" "_open_term" 2 (M_Session__open_term k) (mVar 0) (mA1 (mVar 1) mA0))))
      (mSq (mIfS (mtOr (mtNot (mTru (mMeth "Session" "_is_node" 2 (M_Session__is_node k) (mVar 0) (mA1 (mVar 2) mA0)))) (mT (mOp dNotIn (mOp dIx (mOp dIx (mFld "Session" "_nodes" (mVar 0)) (mVar 2)) (mC (.int 1))) (mTup (mA1 (mC (.str "stepped")) (mA1 (mC (.str "branched")) mA0)))))) (mRaise "Refused" "reason" (mC (.str "not driven"))) mNx)
      (mSq (mSet 4 (mGc (mCall (mOwn 2 (M_folded_terms k)) (mA1 (mOp dIx (mOp dIx (mFld "Session" "_nodes" (mVar 0)) (mVar 2)) (mC (.int 0))) (mA1 (mVar 3) mA0)))))
      (mRt (mMeth "Session" "_closed" 7 (M_Session__closed k) (mVar 0) (mA1 (mVar 1) (mA1 (mC (.str "folded")) (mA1 (mVar 4) (mA1 (mVar 2) (mA1 (mTup mA0) (mA1 (mJs [(mC (.str "fold ")), (mFmt (mVar 1)), (mC (.str " ")), (mFmt (mVar 2))]) mA0)))))))))))
noncomputable def M_Session_leave : Nat → List Dt → Sto → Rs Dt
  | 0 => fun _ _ => .no
  | k + 1 => mFn 2 (mSq (mEx (mGc (mMeth "Session" "_open_term" 2 (M_Session__open_term k) (mVar 0) (mA1 (mVar 1) mA0))))
      (mRt (mMeth "Session" "_closed" 7 (M_Session__closed k) (mVar 0) (mA1 (mVar 1) (mA1 (mC (.str "left")) (mA1 (mTup mA0) (mA1 (mC .non) (mA1 (mTup mA0) (mA1 (mJs [(mC (.str "leave ")), (mFmt (mVar 1))]) mA0)))))))))
noncomputable def M_are_new : Nat → List Dt → Sto → Rs Dt
  | 0 => fun _ _ => .no
  | k + 1 => mFn 8 (mSq (mSet 5 (mGc (mLc [3, 4] (mIt (mVar 2)) (gT [3, 4]) mYes (mVar 3))))
      (mSq (mIfS (mtOr (mtNot (mTru (mVar 5))) (mT (mOp dLt (mLnS (mVar 5)) (mCall dLen (mA1 (mVar 5) mA0))))) (mRt (mC (.bl false))) mNx)
      (mSq (mSet 6 (mGc (mCall (mOwn 1 (M_unknowns k)) (mA1 (mVar 0) mA0))))
      (mSq (mSet 7 (mGc (mCall (mOwn 1 (M_unknowns k)) (mA1 (mVar 1) mA0))))
      (mRt (mCall dAll (mA1 (mLc [3] (mIt (mVar 5)) (gN 3) mYes (mAnd (mOp dIn (mVar 3) (mVar 7)) (mOp dNotIn (mVar 3) (mVar 6)))) mA0)))))))
noncomputable def M_split_terms : Nat → List Dt → Sto → Rs Dt
  | 0 => fun _ _ => .no
  | k + 1 => mFn 6 (mSq (mIfS (mtNot (mTru (mCall (mOwn 3 (M_are_new k)) (mA1 (mVar 0) (mA1 (mVar 1) (mA1 (mVar 2) mA0)))))) (mRaise "Refused" "reason" (mC (.str "unknowns"))) mNx)
      (mSq (mIfS (mtNot (mTru (mCall (mOwn 2 (M_same k)) (mA1 (mCall (mOwn 2 (M_put k)) (mA1 (mVar 1) (mA1 (mVar 2) mA0))) (mA1 (mVar 0) mA0))))) (mRaise "Refused" "reason" (mC (.str "not the term"))) mNx)
      (mSq (mSet 5 (mGc (mOp dAdd (mTup (mA1 (mVar 1) mA0)) (mCall dTuple (mA1 (mLc [3, 4] (mIt (mVar 2)) (gT [3, 4]) mYes (mVar 4)) mA0)))))
      (mSq (mIfS (mTru (mCall dAny (mA1 (mLc [4] (mIt (mVar 5)) (gN 4) mYes (mOp dGe (mCall (mOwn 1 (M_size k)) (mA1 (mVar 4) mA0)) (mCall (mOwn 1 (M_size k)) (mA1 (mVar 0) mA0)))) mA0))) (mRaise "Refused" "reason" (mC (.str "not smaller"))) mNx)
      (mRt (mVar 5))))))
noncomputable def M_Session_split : Nat → List Dt → Sto → Rs Dt
  | 0 => fun _ _ => .no
  | k + 1 => mFn 10 (mSq (mSet 4 (mGc (mCall (mOwn 3 (M_split_terms k)) (mA1 (mMeth "Session" "_open_term" 2 (M_Session__open_term k) (mVar 0) (mA1 (mVar 1) mA0)) (mA1 (mVar 2) (mA1 (mVar 3) mA0))))))
      (mSq (mSet 7 (mGc (mM1 dJoin (mC (.str "")) (mLc [5, 6] (mIt (mVar 3)) (gT [5, 6]) mYes (mJs [(mC (.str " | ?")), (mFmt (mVar 5)), (mC (.str " = ")), (mFmt (mCall (mOwn 1 (M_write_term k)) (mA1 (mVar 6) mA0)))])))))
      (mSq (mSet 9 (mGc (mCall dTuple (mA1 (mLc [5, 8] (mIt (mVar 3)) (gT [5, 8]) mYes (mVar 5)) mA0))))
      (mRt (mMeth "Session" "_closed" 7 (M_Session__closed k) (mVar 0) (mA1 (mVar 1) (mA1 (mC (.str "split")) (mA1 (mVar 4) (mA1 (mC .non) (mA1 (mVar 9) (mA1 (mJs [(mC (.str "split ")), (mFmt (mVar 1)), (mC (.str " ")), (mFmt (mCall (mOwn 1 (M_write_term k)) (mA1 (mVar 2) mA0))), (mFmt (mVar 7))]) mA0)))))))))))
noncomputable def M_g_split : Nat → List Dt → Sto → Rs Dt
  | 0 => fun _ _ => .no
  | k + 1 => mFn 7 (mSq (mSet 2 (mGc (mOp dAdd (mC (.int 30)) (mCall (mOwn 2 (M_g_next k)) (mA1 (mVar 0) (mA1 (mC (.int 3)) mA0))))))
      (mSq (mSet 3 (mGc (mLst mA0)))
      (mSq (mSet 4 (mGc (mLst mA0)))
      (mSq (mFor (mIt (mOp dIx (mVar 1) (mC (.int 1)))) (gN 5) (mIfS (mtAnd (mT (mOp dGt (mCall dLen (mA1 (mOp dIx (mVar 5) (mC (.int 1))) mA0)) (mC (.int 0)))) (mtAnd (mT (mOp dEq (mCall dLen (mA1 (mVar 4) mA0)) (mC (.int 0)))) (mT (mOp dEq (mCall (mOwn 2 (M_g_next k)) (mA1 (mVar 0) (mA1 (mC (.int 2)) mA0))) (mC (.int 0)))))) (mSq (mSet 6 (mGc (mCall (mOwn 2 (M_g_split k)) (mA1 (mVar 0) (mA1 (mVar 5) mA0)))))
      (mSq (mEx (mGc (mMt dAppend (mVar 3) (mA1 (mOp dIx (mVar 6) (mC (.int 0))) mA0))))
      (mSet 4 (mGc (mOp dAdd (mVar 4) (mCall dList (mA1 (mOp dIx (mVar 6) (mC (.int 1))) mA0))))))) (mIfS (mtAnd (mtOr (mT (mOp dGt (mCall dLen (mA1 (mOp dIx (mVar 5) (mC (.int 1))) mA0)) (mC (.int 0)))) (mTru (mCall dIsi (mA1 (mOp dIx (mVar 5) (mC (.int 0))) (mA1 (mC (.ty "str")) mA0))))) (mT (mOp dGt (mCall (mOwn 2 (M_g_next k)) (mA1 (mVar 0) (mA1 (mC (.int 3)) mA0))) (mC (.int 0))))) (mSq (mEx (mGc (mMt dAppend (mVar 3) (mA1 (mTup (mA1 (mOp dAdd (mOp dAdd (mVar 2) (mCall dLen (mA1 (mVar 4) mA0))) (mC (.int 5))) (mA1 (mTup mA0) mA0))) mA0))))
      (mEx (mGc (mMt dAppend (mVar 4) (mA1 (mTup (mA1 (mOp dAdd (mOp dAdd (mVar 2) (mCall dLen (mA1 (mVar 4) mA0))) (mC (.int 5))) (mA1 (mVar 5) mA0))) mA0))))) (mEx (mGc (mMt dAppend (mVar 3) (mA1 (mVar 5) mA0)))))))
      (mRt (mTup (mA1 (mTup (mA1 (mOp dIx (mVar 1) (mC (.int 0))) (mA1 (mCall dTuple (mA1 (mVar 3) mA0)) mA0))) (mA1 (mCall dTuple (mA1 (mVar 4) mA0)) mA0))))))))
noncomputable def M_g_moved : Nat → List Dt → Sto → Rs Dt
  | 0 => fun _ _ => .no
  | k + 1 => mFn 8 (mSq (mSet 3 (mGc (mCall (mOwn 2 (M_g_next k)) (mA1 (mVar 0) (mA1 (mC (.int 7)) mA0)))))
      (mSq (mTryF (mtOnly "Refused") "Refused" 7 "reason" (mIfS (mT (mOp dEq (mVar 3) (mC (.int 0)))) (mEx (mGc (mMeth "Session" "expose" 2 (M_Session_expose k) (mVar 1) (mA1 (mVar 2) mA0)))) (mIfS (mT (mOp dLt (mVar 3) (mC (.int 4)))) (mEx (mGc (mMeth "Session" "drive" 2 (M_Session_drive k) (mVar 1) (mA1 (mVar 2) mA0)))) (mIfS (mT (mOp dEq (mVar 3) (mC (.int 4)))) (mSq (mSet 4 (mGc (mMeth "Session" "way" 2 (M_Session_way k) (mVar 1) (mA1 (mVar 2) mA0))))
      (mSq (mSet 5 (mGc (mCall (mOwn 2 (M_g_next k)) (mA1 (mVar 0) (mA1 (mMeth "Session" "count" 1 (M_Session_count k) (mVar 1) mA0) mA0)))))
      (mSq (mIfS (mtAnd (mT (mOp dGt (mCall dLen (mA1 (mVar 4) mA0)) (mC (.int 0)))) (mT (mOp dGt (mCall (mOwn 2 (M_g_next k)) (mA1 (mVar 0) (mA1 (mC (.int 3)) mA0))) (mC (.int 0))))) (mSet 5 (mGc (mOp dIx (mVar 4) (mCall (mOwn 2 (M_g_next k)) (mA1 (mVar 0) (mA1 (mCall dLen (mA1 (mVar 4) mA0)) mA0)))))) mNx)
      (mEx (mGc (mMeth "Session" "fold" 3 (M_Session_fold k) (mVar 1) (mA1 (mVar 2) (mA1 (mVar 5) mA0)))))))) (mIfS (mT (mOp dEq (mVar 3) (mC (.int 5)))) (mSq (mSet 6 (mGc (mCall (mOwn 2 (M_g_split k)) (mA1 (mVar 0) (mA1 (mOp dIx (mMeth "Session" "node" 2 (M_Session_node k) (mVar 1) (mA1 (mVar 2) mA0)) (mC (.int 0))) mA0)))))
      (mEx (mGc (mMeth "Session" "split" 4 (M_Session_split k) (mVar 1) (mA1 (mVar 2) (mA1 (mOp dIx (mVar 6) (mC (.int 0))) (mA1 (mOp dIx (mVar 6) (mC (.int 1))) mA0))))))) (mEx (mGc (mMeth "Session" "leave" 2 (M_Session_leave k) (mVar 1) (mA1 (mVar 2) mA0)))))))))
      (mRt (mC (.str "made")))))
end DM

namespace DM
open PySem L2 MD
noncomputable def M_is_exposed : Nat → List Dt → Sto → Rs Dt
  | 0 => fun _ _ => .no
  | k + 1 => mFn 2 (mSq (mTryS (mtOnly "Refused") (mEx (mGc (mMeth "Session" "expose" 2 (M_Session_expose k) (mVar 0) (mA1 (mVar 1) mA0)))) (mRt (mC (.bl false))))
      (mRt (mC (.bl true))))
noncomputable def M_nearest_pattern : Nat → List Dt → Sto → Rs Dt
  | 0 => fun _ _ => .no
  | k + 1 => mFn 7 (mSq (mSet 2 (mGc (mOp dIx (mMeth "Session" "node" 2 (M_Session_node k) (mVar 0) (mA1 (mVar 1) mA0)) (mC (.int 0)))))
      (mSq (mFor (mIt (mMeth "Session" "way" 2 (M_Session_way k) (mVar 0) (mA1 (mVar 1) mA0))) (gN 3) (mSq (mAsg (gT [4, 5, 6, 6, 6, 6]) (mGc (mMeth "Session" "node" 2 (M_Session_node k) (mVar 0) (mA1 (mVar 3) mA0))))
      (mIfS (mtAnd (mT (mOp dIn (mVar 5) (mTup (mA1 (mC (.str "stepped")) (mA1 (mC (.str "branched")) mA0))))) (mT (mOp dNotN (mCall (mOwn 2 (M_match k)) (mA1 (mVar 4) (mA1 (mVar 2) mA0))) (mC .non)))) (mRt (mVar 3)) mNx)))
      (mRt (mC .non))))
noncomputable def M_is_folded : Nat → List Dt → Sto → Rs Dt
  | 0 => fun _ _ => .no
  | k + 1 => mFn 3 (mSq (mSet 2 (mGc (mCall (mOwn 2 (M_nearest_pattern k)) (mA1 (mVar 0) (mA1 (mVar 1) mA0)))))
      (mSq (mIfS (mT (mOp dIsN (mVar 2) (mC .non))) (mRt (mC (.bl false))) mNx)
      (mSq (mTryS (mtOnly "Refused") (mEx (mGc (mMeth "Session" "fold" 3 (M_Session_fold k) (mVar 0) (mA1 (mVar 1) (mA1 (mVar 2) mA0))))) (mRt (mC (.bl false))))
      (mRt (mC (.bl true))))))
noncomputable def M_is_driven : Nat → List Dt → Sto → Rs Dt
  | 0 => fun _ _ => .no
  | k + 1 => mFn 2 (mSq (mTryS (mtOnly "Refused") (mEx (mGc (mMeth "Session" "drive" 2 (M_Session_drive k) (mVar 0) (mA1 (mVar 1) mA0)))) (mRt (mC (.bl false))))
      (mRt (mC (.bl true))))
noncomputable def M_named : Nat → List Dt → Sto → Rs Dt
  | 0 => fun _ _ => .no
  | k + 1 => mFn 8 (mSq (mSet 2 (mGc (mCall (mOwn 1 (M_unknowns k)) (mA1 (mVar 1) mA0))))
      (mSq (mSet 4 (mGc (mLc [3] (mIr1 (mA1 (mOp dAdd (mCall dLen (mA1 (mVar 2) mA0)) (mCall dLen (mA1 (mVar 0) mA0))) mA0)) (gN 3) (mT (mOp dNotIn (mVar 3) (mVar 2))) (mVar 3))))
      (mSq (mSet 5 (mGc (mLst mA0)))
      (mSq (mSet 6 (mGc (mLst mA0)))
      (mSq (mFor (mIt (mVar 0)) (gN 7) (mIfS (mTru (mCall (mOwn 1 (M_is_lone_unknown k)) (mA1 (mVar 7) mA0))) (mEx (mGc (mMt dAppend (mVar 5) (mA1 (mVar 7) mA0)))) (mSq (mSet 3 (mGc (mOp dIx (mVar 4) (mCall dLen (mA1 (mVar 6) mA0)))))
      (mSq (mEx (mGc (mMt dAppend (mVar 5) (mA1 (mTup (mA1 (mVar 3) (mA1 (mTup mA0) mA0))) mA0))))
      (mEx (mGc (mMt dAppend (mVar 6) (mA1 (mTup (mA1 (mVar 3) (mA1 (mVar 7) mA0))) mA0))))))))
      (mRt (mTup (mA1 (mCall dTuple (mA1 (mVar 5) mA0)) (mA1 (mCall dTuple (mA1 (mVar 6) mA0)) mA0)))))))))
noncomputable def M_is_split : Nat → List Dt → Sto → Rs Dt
  | 0 => fun _ _ => .no
  | k + 1 => mFn 4 (mSq (mTryS (mtOnly "Refused") (mEx (mGc (mMeth "Session" "split" 4 (M_Session_split k) (mVar 0) (mA1 (mVar 1) (mA1 (mVar 2) (mA1 (mVar 3) mA0)))))) (mRt (mC (.bl false))))
      (mRt (mC (.bl true))))
noncomputable def M_is_split_by_whistle : Nat → List Dt → Sto → Rs Dt
  | 0 => fun _ _ => .no
  | k + 1 => mFn 9 (mSq (mSet 2 (mGc (mMeth "Session" "whistle" 2 (M_Session_whistle k) (mVar 0) (mA1 (mVar 1) mA0))))
      (mSq (mIfS (mT (mOp dIsN (mVar 2) (mC .non))) (mRt (mC (.bl false))) mNx)
      (mSq (mSet 3 (mGc (mOp dIx (mMeth "Session" "node" 2 (M_Session_node k) (mVar 0) (mA1 (mVar 1) mA0)) (mC (.int 0)))))
      (mSq (mAsg (gT [4, 5, 6]) (mGc (mCall (mOwn 2 (M_generalize k)) (mA1 (mOp dIx (mMeth "Session" "node" 2 (M_Session_node k) (mVar 0) (mA1 (mVar 2) mA0)) (mC (.int 0))) (mA1 (mVar 3) mA0)))))
      (mSq (mAsg (gT [7, 8]) (mGc (mCall (mOwn 2 (M_named k)) (mA1 (mVar 6) (mA1 (mVar 3) mA0)))))
      (mRt (mCall (mOwn 4 (M_is_split k)) (mA1 (mVar 0) (mA1 (mVar 1) (mA1 (mCall (mOwn 2 (M_put k)) (mA1 (mVar 4) (mA1 (mUn dEnum (mVar 7)) mA0))) (mA1 (mVar 8) mA0)))))))))))
noncomputable def M_is_split_by_head : Nat → List Dt → Sto → Rs Dt
  | 0 => fun _ _ => .no
  | k + 1 => mFn 5 (mSq (mSet 2 (mGc (mOp dIx (mMeth "Session" "node" 2 (M_Session_node k) (mVar 0) (mA1 (mVar 1) mA0)) (mC (.int 0)))))
      (mSq (mAsg (gT [3, 4]) (mGc (mCall (mOwn 2 (M_named k)) (mA1 (mOp dIx (mVar 2) (mC (.int 1))) (mA1 (mVar 2) mA0)))))
      (mRt (mCall (mOwn 4 (M_is_split k)) (mA1 (mVar 0) (mA1 (mVar 1) (mA1 (mTup (mA1 (mOp dIx (mVar 2) (mC (.int 0))) (mA1 (mVar 3) mA0))) (mA1 (mVar 4) mA0))))))))
noncomputable def M_make_move : Nat → List Dt → Sto → Rs Dt
  | 0 => fun _ _ => .no
  | k + 1 => mFn 3 (mSq (mSet 2 (mGc (mOr (mCall (mOwn 2 (M_is_exposed k)) (mA1 (mVar 0) (mA1 (mVar 1) mA0))) (mOr (mCall (mOwn 2 (M_is_folded k)) (mA1 (mVar 0) (mA1 (mVar 1) mA0))) (mOr (mCall (mOwn 2 (M_is_driven k)) (mA1 (mVar 0) (mA1 (mVar 1) mA0))) (mOr (mCall (mOwn 2 (M_is_split_by_whistle k)) (mA1 (mVar 0) (mA1 (mVar 1) mA0))) (mCall (mOwn 2 (M_is_split_by_head k)) (mA1 (mVar 0) (mA1 (mVar 1) mA0)))))))))
      (mIfS (mtNot (mTru (mVar 2))) (mEx (mGc (mMeth "Session" "leave" 2 (M_Session_leave k) (mVar 0) (mA1 (mVar 1) mA0)))) mNx))
noncomputable def M_Session_auto : Nat → List Dt → Sto → Rs Dt
  | 0 => fun _ _ => .no
  | k + 1 => mFn 3 (mSq (mSet 1 (mGc (mC (.int 0))))
      (mSq (mSet 2 (mGc (mMeth "Session" "open_nodes" 1 (M_Session_open_nodes k) (mVar 0) mA0)))
      (mSq (mWh (mTru (mVar 2)) (mSq (mEx (mGc (mCall (mOwn 2 (M_make_move k)) (mA1 (mVar 0) (mA1 (mOp dIx (mVar 2) (mC (.int 0))) mA0)))))
      (mSq (mAugI 1 (mC (.int 1)))
      (mSet 2 (mGc (mMeth "Session" "open_nodes" 1 (M_Session_open_nodes k) (mVar 0) mA0))))))
      (mRt (mVar 1)))))
noncomputable def M_Session_journal : Nat → List Dt → Sto → Rs Dt
  | 0 => fun _ _ => .no
  | k + 1 => mFn 2 (mRt (mM1 dJoin (mC (.str "")) (mLc [1] (mIt (mFld "Session" "_lines" (mVar 0))) (gN 1) mYes (mJs [(mFmt (mVar 1)), (mC (.str "\n"))]))))
end DM

namespace DM
open PySem L2 MD
open DF (Tm Fn Dem getF byCs dem dem0 byC ruleS findR unf enumP FsOk FnOk' FsD unkIs top learnP lones stepOf drvL)
/-! ### learnt, driving, drive -/
noncomputable abbrev leB (k : Nat) : MS := mSq (mSet 9 (mGc (mCall (mOwn 2 (M_put k)) (mA1 (mVar 1) (mA1 (mTup (mA1 (mTup (mA1 (mVar 2) (mA1 (mTup (mA1 (mVar 6) (mA1 (mCall (mOwn 2 (M_lone_unknowns k)) (mA1 (mVar 4) (mA1 (mVar 7) mA0))) mA0))) mA0))) mA0)) mA0)))))
      (mEx (mGc (mMt dAppend (mVar 5) (mA1 (mOp dIx (mCall (mOwn 2 (M_demand_of k)) (mA1 (mVar 0) (mA1 (mVar 9) mA0))) (mC (.int 1))) mA0))))
def drvKD (fs : List Fn) (t : Tm) : Dt := match dem fs t with
  | .step _ => .str "stepped"
  | .needs _ _ => .str "branched"
  | _ => .non
end DM

namespace DF
open PySem L2
/-- the names that terms of the tape have -/
def lawNames : List Str := ["add", "S", "app", "Cons", "rev", "map", "twice", "even", "k", "f", "g", "Z", "one", "loop", "Nil", "T"]
/-- the heads of terms of the tape -/
def LK (most : Int) : Key → Prop
  | .inl i => 0 ≤ i ∧ i < most
  | .inr x => x ∈ lawNames
theorem LK.ok {most : Int} : ∀ {k : Key}, LK most k → KOk k
  | .inl _, _ => True.intro
  | .inr x, h => by
    have : ∀ x ∈ lawNames, PyData.strOk x = true := by decide +kernel
    exact this x h
theorem LK.all {most : Int} {t : Tm} (h : t.All (LK most)) : t.All KOk := fun k hk => (h k hk).ok
theorem LK.up {m n : Int} (hmn : m ≤ n) {t : Tm} (h : t.All (LK m)) : t.All (LK n) := fun k hk => by
  have := h k hk
  cases k with
  | inl i => exact ⟨this.1, Int.lt_of_lt_of_le this.2 hmn⟩
  | inr x => exact this
def HsOk (hs : List (Str × Int)) : Prop := (∀ x ∈ hs, (x.1 = "?" ∨ x.1 ∈ lawNames) ∧ 0 ≤ x.2 ∧ x.2 ≤ 3) ∧ 0 < hs.length ∧ hs.length ≤ 1000
def progNames : List Str := lawNames ++ (["odd", "F"] : List Str)
/-- the heads of bodies -/
def PK (n : Nat) : Key → Prop
  | .inl i => 0 ≤ i ∧ i < (n : Int)
  | .inr x => x ∈ progNames
instance decPK (n : Nat) : (k : Key) → Decidable (PK n k)
  | .inl i => by unfold PK; exact inferInstance
  | .inr x => by unfold PK; exact inferInstance
def BodyOk (n : Nat) (b : Tm) : Prop := b.size ≤ 16 ∧ b.high ≤ 4 ∧ ∀ k ∈ b.heads, PK n k
instance (n : Nat) (b : Tm) : Decidable (BodyOk n b) := by unfold BodyOk; exact inferInstance
structure FnB (f : Fn) : Prop where
  ar : f.arity ≤ 2
  nm : f.name ∈ progNames
  bd : ∀ x n b, f = .plain x n b → BodyOk n b
  rl : ∀ x n rs, f = .cases x n rs → 1 ≤ n ∧ rs.length ≤ 4 ∧ (rs.map (·.1)).Nodup ∧ ∀ r ∈ rs, r.2.1 ≤ 6 ∧ r.1 ∈ progNames ∧ BodyOk (r.2.1 + n - 1) r.2.2
def PgOk (fs : List Fn) : Prop := (fs.map Fn.name).Nodup ∧ fs.length = 12 ∧ ∀ f ∈ fs, FnB f
theorem PK.ok {n : Nat} : ∀ {k : Key}, PK n k → KOk k
  | .inl _, _ => True.intro
  | .inr x, h => by
    have : ∀ x ∈ progNames, PyData.strOk x = true := by decide +kernel
    exact this x h
theorem name_ok {x : Str} (h : x ∈ progNames) : KOk (.inr x) := PK.ok (n := 0) (k := .inr x) h
theorem PgOk.fs {fs : List Fn} (h : PgOk fs) : FsOk fs := by
  obtain ⟨h1, h2, h3⟩ := h
  refine ⟨h1, by omega, fun f hf => ?_⟩
  have b := h3 f hf
  refine ⟨by have := b.ar; omega, fun x n rs e => (b.rl x n rs e).1, fun x n bd e => ?_, fun x n rs e => ?_, name_ok b.nm⟩
  · have q := b.bd x n bd e
    exact ⟨by have := q.1; omega, fun k hk => (q.2.2 k hk).ok⟩
  · obtain ⟨q1, q2, q3, q4⟩ := b.rl x n rs e
    refine ⟨by omega, fun r hr => ?_⟩
    obtain ⟨p1, p2, p3⟩ := q4 r hr
    exact ⟨by omega, name_ok p2, by have := p3.1; omega, fun k hk => (p3.2.2 k hk).ok⟩
abbrev aX : Tm := .mk (.inl 0) []
abbrev aY : Tm := .mk (.inl 1) []
abbrev aZ : Tm := .mk (.inl 2) []
abbrev nm (x : Str) (ts : List Tm) : Tm := .mk (.inr x) ts
def progFs (t1 t2 t3 : Tm) : List Fn := [.cases "add" 2 [("Z", 0, aX), ("S", 1, nm "S" [nm "add" [aX, aY]])], .cases "app" 2 [("Nil", 0, aX), ("Cons", 2, nm "Cons" [aX, nm "app" [aY, aZ]])],
  .cases "rev" 2 [("Nil", 0, aX), ("Cons", 2, nm "rev" [aY, nm "Cons" [aX, aZ]])], .cases "map" 2 [("Nil", 0, nm "Nil" []), ("Cons", 2, nm "Cons" [.mk (.inl 2) [aX], nm "map" [aY, aZ]])],
  .cases "even" 1 [("Z", 0, nm "T" []), ("S", 1, nm "odd" [aX])], .cases "odd" 1 [("Z", 0, nm "F" []), ("S", 1, nm "even" [aX])],
  .plain "twice" 2 (.mk (.inl 0) [.mk (.inl 0) [aY]]), .plain "k" 2 aX, .plain "one" 0 (nm "S" [nm "Z" []]), .plain "loop" 1 (nm "loop" [aX]), .plain "f" 2 t1, .cases "g" 2 [("Z", 0, t2), ("S", 1, t3)]]
theorem all_leafP {Pr : Key → Prop} {k : Key} (h : Pr k) : (Tm.mk k []).All Pr := Tm.All.mk h fun _ hx => absurd hx List.not_mem_nil
theorem size_leaf (k : Key) : (Tm.mk k []).size = 1 := by rw [Tm.size, Tm.sizeL]
theorem high_leaf (k : Key) : (Tm.mk k []).high = 1 := by rw [Tm.high, Tm.highL]
end DF

namespace DM
open PySem L2 MD
open DF (Tm Fn LK lawNames)
/-! ### the tape -/
def tpc (a : Int) (nl : Nat) (sd : Int) : Cell := Cell.lst [.int a, .loc nl, .int sd]
structure TpAt (S : Sto) (tp nl : Nat) (zs : List Int) (sd a : Int) : Prop where
  t : S[tp]? = some (tpc a nl sd)
  n : S[nl]? = some (Cell.lst (zs.map .int))
  p : 0 ≤ a
  l : zs.length ≤ 100000
section
variable {S : Sto} {tp nl : Nat} {zs : List Int} {sd a a' : Int} {G : Sto}
theorem TpAt.lt (h : TpAt S tp nl zs sd a) : tp < S.length := (List.getElem?_eq_some_iff.mp h.t).1
theorem TpAt.nlt (h : TpAt S tp nl zs sd a) : nl < S.length := (List.getElem?_eq_some_iff.mp h.n).1
theorem TpAt.ne (h : TpAt S tp nl zs sd a) : tp ≠ nl := fun e => by
  have h1 := h.t
  rw [e, h.n] at h1
  have h1 := Cell.lst.inj (Option.some.inj h1)
  cases zs with
  | nil => cases h1
  | cons x r =>
    cases r with
    | nil => cases h1
    | cons y r =>
      rw [List.map_cons, List.map_cons] at h1
      have := (List.cons.inj (List.cons.inj h1).2).1
      cases this
theorem TpAt.set (h : TpAt S tp nl zs sd a) (p : 0 ≤ a') : TpAt (S.set tp (tpc a' nl sd)) tp nl zs sd a' := ⟨List.getElem?_set_self h.lt, by rw [List.getElem?_set_ne h.ne]; exact h.n, p, h.l⟩
theorem TpAt.app (h : TpAt S tp nl zs sd a) (G : Sto) : TpAt (S ++ G) tp nl zs sd a := ⟨by rw [List.getElem?_append_left h.lt]; exact h.t, by rw [List.getElem?_append_left h.nlt]; exact h.n, h.p, h.l⟩
theorem TpAt.wf (h : TpAt S tp nl zs sd a) (hS : Wf S) : Wf (S.set tp (tpc a' nl sd)) := by
  unfold Wf bddS at *
  rw [List.length_set, List.all_eq_true]
  intro c hc
  rcases List.mem_or_eq_of_mem_set hc with hc | rfl
  · exact List.all_eq_true.mp hS c hc
  · show Dt.bddL S.length [Dt.int a', .loc nl, .int sd] = true
    rw [Dt.bddL, Dt.bddL, Dt.bddL, Dt.bddL]
    show (true && (decide (nl < S.length) && (true && true))) = true
    rw [decide_eq_true h.nlt]
    rfl
end
end DM

namespace DM
open PySem L2 MD
open DF (Tm Fn LK lawNames HsOk)
/-! ### the tape made -/
noncomputable abbrev tpI : MS := mSq (mEx (mGc (mMt dAppend (mVar 1) (mA1 (mOp dMod (mCall dInt (mA1 (mVar 4) mA0)) (mC (.int 60))) mA0))))
      (mSq (mSet 4 (mGc (mOp dDiv (mVar 4) (mC (.int 60)))))
      (mIfS (mT (mOp dEq (mVar 4) (mC (.int 0)))) (mBk) mNx))
noncomputable abbrev tpO : MS := mSq (mSet 4 (mGc (mCall dAbs (mA1 (mCall dInt (mA1 (mVar 3) mA0)) mA0))))
      (mSq (mSet 2 (mGc (mOp dAdd (mVar 2) (mVar 4))))
      (mFor (mIr1 (mA1 (mC (.int 24)) mA0)) (gN 5) tpI))
/-! ### the heads -/
def hdT (x : Str × Int) : Dt := .tup [.str x.1, .int x.2]
def hdsL : List (Str × Int) := [("add", 2), ("S", 1), ("app", 2), ("Cons", 2), ("rev", 2), ("map", 2), ("twice", 2), ("even", 1), ("add", 2), ("S", 1), ("k", 2), ("f", 2), ("g", 2), ("Z", 0), ("one", 0), ("?", 0), ("loop", 1)]
end DM

namespace DM
open PySem L2 MD
open DF (Tm Fn LK lawNames HsOk all_leafP size_leaf high_leaf)
/-! ### terms of the tape -/
structure TmG (most : Int) (dep : Nat) (t : Tm) : Prop where
  al : t.All (LK most)
  sz : t.size ≤ 4 ^ dep
  hi : t.high ≤ dep + 1
def GenR (S : Sto) (tp nl : Nat) (sd most : Int) (dep : Nat) (r : Rs Dt) : Prop := ∃ (t : Tm) (a : Int), r = .ok (tD t) (S.set tp (tpc a nl sd)) ∧ 0 ≤ a ∧ TmG most dep t
def GenF (S : Sto) (tp nl : Nat) (sd most : Int) (dep : Nat) (r : Fl) : Prop := ∃ (t : Tm) (a : Int) (G : Sto), r = .rt (tD t) (S.set tp (tpc a nl sd) ++ G) ∧ 0 ≤ a ∧ TmG most dep t
theorem l2le (a b : Dt) : [a, b].length ≤ 1000000 := by show (2 : Nat) ≤ _; decide
section
variable {S : Sto} {tp nl : Nat} {zs : List Int} {sd a : Int}
theorem set2' {c1 c2 : Cell} : (S.set tp c1).set tp c2 = S.set tp c2 := List.set_set ..
noncomputable abbrev lfS (k : Nat) : MS := mSq (mIfS (mtAnd (mT (mOp dGt (mVar 2) (mC (.int 0)))) (mT (mOp dGt (mCall (mOwn 2 (M_g_next k)) (mA1 (mVar 0) (mA1 (mC (.int 3)) mA0))) (mC (.int 0))))) (mRt (mTup (mA1 (mCall (mOwn 2 (M_g_next k)) (mA1 (mVar 0) (mA1 (mVar 2) mA0))) (mA1 (mTup mA0) mA0)))) mNx)
      (mRt (mTup (mA1 (mOp dIx (mLst (mA1 (mC (.str "Z")) (mA1 (mC (.str "Nil")) (mA1 (mC (.str "T")) mA0)))) (mCall (mOwn 2 (M_g_next k)) (mA1 (mVar 0) (mA1 (mC (.int 3)) mA0)))) (mA1 (mTup mA0) mA0))))
theorem tup0 {r : MD.Env} {S : Sto} : mTup mA0 r S = .ok (.tup []) S := rfl
theorem GenF.set {most a' : Int} {dep : Nat} {f : Fl} (h : GenF (S.set tp (tpc a' nl sd)) tp nl sd most dep f) : GenF S tp nl sd most dep f := by
  obtain ⟨t, a1, G, rfl, h1, h2⟩ := h
  exact ⟨t, a1, G, by rw [set2'], h1, h2⟩
theorem GenF.then {most : Int} {dep : Nat} {f : Fl} {k : MD.Env → Sto → Fl} (h : GenF S tp nl sd most dep f) : GenF S tp nl sd most dep (f.then k) := by
  obtain ⟨t, a1, G, rfl, h1, h2⟩ := h
  exact ⟨t, a1, G, rfl, h1, h2⟩
/-- what a drawn term is made by -/
def Rec (F : List Dt → Sto → Rs Dt) (tp nl : Nat) (zs : List Int) (sd : Int) (hp : Nat) (hs : List (Str × Int)) (most : Int) (dep : Nat) : Prop := ∀ (S : Sto) (a : Int), TpAt S tp nl zs sd a → Wf S → S[hp]? = some (Cell.lst (hs.map hdT)) → GenR S tp nl sd most dep (F [.loc tp, .loc hp, .int most, .int (dep : Int)] S)
noncomputable abbrev rcE (F : List Dt → Sto → Rs Dt) : ME := mCall (mOwn 4 F) (mA1 (mVar 0) (mA1 (mVar 1) (mA1 (mVar 2) (mA1 (mOp dSub (mVar 3) (mC (.int 1))) mA0))))
end
end DM

namespace DM
open PySem L2 MD
open DF (Tm Fn LK lawNames HsOk all_leafP size_leaf high_leaf)
section
variable {S : Sto} {tp nl : Nat} {zs : List Int} {sd a : Int}
noncomputable abbrev tmS2 (k : Nat) (F : List Dt → Sto → Rs Dt) : MS := (mSq (mIfS (mT (mOp dEq (mOp dIx (mVar 5) (mC (.int 0))) (mC (.str "?")))) (mSq (mIfS (mT (mOp dEq (mVar 2) (mC (.int 0)))) (mRt (mTup (mA1 (mC (.str "Z")) (mA1 (mTup mA0) mA0)))) mNx)
      (mRt (mTup (mA1 (mCall (mOwn 2 (M_g_next k)) (mA1 (mVar 0) (mA1 (mVar 2) mA0))) (mA1 (mTup (mA1 (rcE F) mA0)) mA0))))) mNx)
      (mSq (mSet 6 (mGc (mOp dIx (mVar 5) (mC (.int 1)))))
      (mSq (mIfS (mT (mOp dEq (mCall (mOwn 2 (M_g_next k)) (mA1 (mVar 0) (mA1 (mC (.int 8)) mA0))) (mC (.int 0)))) (mSet 6 (mGc (mCall (mOwn 2 (M_g_next k)) (mA1 (mVar 0) (mA1 (mC (.int 4)) mA0))))) mNx)
      (mRt (mTup (mA1 (mOp dIx (mVar 5) (mC (.int 0))) (mA1 (mCall dTuple (mA1 (mLc [7] (mIr1 (mA1 (mVar 6) mA0)) (gN 7) mYes (rcE F)) mA0)) mA0)))))))
end
end DM

namespace DM
open PySem L2 MD
open DF (Tm Fn LK lawNames HsOk BodyOk progFs)
section
variable {S : Sto} {tp nl : Nat} {zs : List Int} {sd a : Int}
theorem l3le (a b c : Dt) : [a, b, c].length ≤ 1000000 := by show (3 : Nat) ≤ _; decide
end
end DM

namespace DM
open PySem L2 MD
open DF (Tm Fn KOk PgOk dem byCs getF unf enumP FsD lones learnP top stepOf)
/-! ### equal values -/
mutual
def cv : DF.Dt → Dt
  | .non => .non
  | .key k => kD k
  | .tup l => .tup (cvL l)
def cvL : List DF.Dt → List Dt
  | [] => []
  | d :: r => cv d :: cvL r
end
/-! ### what a step makes -/
theorem args_all {P : Key → Prop} {t : Tm} (h : t.All P) : ∀ u ∈ t.args, u.All P := by
  cases t with
  | mk k ts =>
    intro u hu j hj
    refine h j ?_
    rw [Tm.heads]
    refine List.mem_cons_of_mem _ ?_
    have : ∀ ts : List Tm, u ∈ ts → j ∈ Tm.headsL ts := by
      intro ts
      induction ts with
      | nil => intro h; exact absurd h List.not_mem_nil
      | cons a r ih =>
        intro h
        rw [Tm.headsL]
        rcases List.mem_cons.mp h with rfl | h
        · exact List.mem_append_left _ hj
        · exact List.mem_append_right _ (ih h)
    exact this ts hu
theorem hd_all {P : Key → Prop} {t : Tm} (h : t.All P) : P t.hd := by
  cases t with
  | mk k ts => exact h k (by rw [Tm.heads]; exact List.mem_cons_self ..)
theorem appl_all {P : Key → Prop} {t : Tm} {as : List Tm} (h : t.All P) (ha : ∀ u ∈ as, u.All P) : (t.appl as).All P := by
  unfold Tm.appl
  refine Tm.All.mk (hd_all h) fun u hu => ?_
  rcases List.mem_append.mp hu with hu | hu
  · exact args_all h u hu
  · exact ha u hu
end DM

namespace DM
open PySem L2 MD
open DF (Tm)
/-! ### the text of a term, as its code points -/
noncomputable def hdS : Key → Str
  | .inl i => (Str.empty ++ ("?" : Str)) ++ ((toString i : String) : Str)
  | .inr x => x
noncomputable def hcs (k : Key) : List Nat := (hdS k).cps.toList
mutual
noncomputable def wt : Tm → List Nat
  | .mk h ts => hcs h ++ wtL ts
noncomputable def wtL : List Tm → List Nat
  | [] => []
  | t :: ts => (if t.args = [] then 32 :: wt t else 32 :: 40 :: (wt t ++ [41])) ++ wtL ts
end
def Plain (c : Nat) : Prop := c ≠ 32 ∧ c ≠ 40 ∧ c ≠ 41
/-- a head whose text is of plain signs, not empty -/
structure HOk (k : Key) : Prop where
  ne : hcs k ≠ []
  pl : ∀ c ∈ hcs k, Plain c
def Stop (r : List Nat) : Prop := r = [] ∨ ∃ q, r = 41 :: q
theorem all_hd {P : Key → Prop} {h : Key} {ts : List Tm} (a : (Tm.mk h ts).All P) : P h := a h (by rw [Tm.heads]; exact List.mem_cons_self ..)
theorem mem_headsL : ∀ {ts : List Tm} {t : Tm} {k : Key}, t ∈ ts → k ∈ t.heads → k ∈ Tm.headsL ts
  | u :: ts, t, k, ht, hk => by
    rw [Tm.headsL]
    rcases List.mem_cons.mp ht with rfl | ht
    · exact List.mem_append_left _ hk
    · exact List.mem_append_right _ (mem_headsL ht hk)
theorem all_sub' {P : Key → Prop} {h : Key} {ts : List Tm} (a : (Tm.mk h ts).All P) {t : Tm} (ht : t ∈ ts) : t.All P := fun k hk => a k (by rw [Tm.heads]; exact List.mem_cons_of_mem _ (mem_headsL ht hk))
section
variable {P : Key → Prop} (hP : ∀ k, P k → HOk k) (inj : ∀ k l, P k → P l → hcs k = hcs l → k = l)
include hP inj
end
end DM

namespace DM
open PySem L2 MD
open DF (Tm)
open DF (LK lawNames)
end DM

namespace DM
open PySem L2 MD
open DF (Tm)
local macro_rules | `(tactic| walk_at "x") => `(tactic| simp (disch := omega) only [MD.bind_ok, MD.bind_no, MD.bind_ex, MD.rthen_ok, MD.rthen_no, MD.rthen_ex, MD.fthen_nx, MD.fthen_rt, MD.fthen_bk, MD.fthen_ct, MD.fthen_ex, MD.fthen_no, MD.xVar, MD.xAug, MD.xFor, MD.xIr1, MD.xIr2, MD.rng1_at, MD.rng2_at, Int.toNat_natCast, Int.ofNat_eq_natCast, MD.sC, MD.sA0, MD.sA1, MD.sTup, MD.sLst, MD.sDic, MD.sDit, MD.sOp, MD.sUn, MD.sCall, MD.sOwn, MD.sSl, MD.sOn, MD.sOs, MD.sAnd, MD.sOr, MD.sNot, MD.sIf, MD.sTru, MD.sT, MD.sasB, MD.stAnd, MD.stOr, MD.stNot, MD.sYes, MD.sMt, MD.sMt0, MD.sNx, MD.sBk, MD.sCt, MD.sSq, MD.sSet, MD.sEx, MD.sRt, MD.sRtN, MD.sIfS, MD.sAsg, MD.sgN, DM.gT2, DM.gT3, MD.xGc, DM.mFn_eq, MD.xStart, MD.getR, MD.setR, MD.gc_same, MD.gcX_same, MD.gc_nf, MD.gcX_nf, MD.bddLocT, MD.bddLocF, MD.bddNon, MD.bddBl, MD.bddInt, MD.bddStr, MD.bddScr, MD.bddTup, MD.bddCon, MD.bddNil, MD.bddCons, MD.bddApp, MD.intsB, MD.bddLst, MD.bddDic, MD.bddDit, MD.bddIns, MD.bddSNil, MD.bddSCons, MD.bddSApp, DM.tDs_bdd, DM.tD_bdd, DM.kD_bdd, DM.kDs_bdd, DM.fnD_bdd, DM.fns_bdd, DM.fnL_bdd, DM.demD_bdd, List.map_cons, List.getLast?_concat, List.dropLast_concat, MD.isEmpty_app, List.isEmpty_cons, List.isEmpty_nil, List.isEmpty_map, List.isEmpty_reverse, Bool.and_false, List.map_nil, List.replicate_succ, List.replicate_zero, List.cons_append, List.nil_append, List.append_assoc, List.append_nil, List.length_cons, List.length_nil, List.length_append, List.length_map, List.length_reverse, MD.bddRev, List.getElem?_cons_succ, List.getElem?_cons_zero, MD.xset_s, MD.xset_0, List.take_succ_cons, List.take_zero, List.take_nil, Nat.sub_self, Nat.add_sub_cancel_left, Nat.add_zero, Nat.zero_add, Nat.add_assoc, Nat.reduceAdd, Nat.reduceSub, Nat.reduceLeDiff, Nat.reduceEqDiff, Nat.reduceLT, Nat.le_refl, Bool.and_true, Bool.true_and, Bool.and_self, Bool.not_true, Bool.not_false, Bool.false_eq_true, Bool.true_eq_false, if_true, if_false, if_pos, and_true, true_and, ite_true, ite_false, reduceIte, DM.ix_t0, DM.ix_t1, DM.ix_t2, DM.ix_t3, DM.len_t, DM.rev_t, DM.tup_t, DM.add_ii, DM.sub_ii, DM.tru_bl, DM.tru_t, DM.it_t, DM.chk_none, DM.sIt, DM.sIrev, MD.dLen, MD.xIxT, MD.xIxC, MD.xIxR, MD.xIxL, MD.dAppend, MD.dExtend, MD.dPop, MD.dTuple, MD.dList, MD.dRev, MD.itOf, MD.dTru, MD.isL, MD.dAdd, MD.dSub, MD.dMul, MD.dNeg, MD.dCmp, MD.dLt, MD.dLe, MD.dGt, MD.dGe, MD.dIsN, MD.dNotN, MD.Dt.isN, MD.dEq, MD.dNe, MD.dEqG, MD.eqSc, MD.dSl, MD.at0, MD.at1, MD.at2, MD.at3, MD.at4, MD.at5, MD.atN, MD.atM, DM.isi_int_int, DM.isi_str_int, DM.isi_int_str, DM.isi_str_str, DM.isi_t, DM.isi_kD, DM.isi_kS, DM.eq_ss, MD.str_eq, String.reduceEq, eq_self, decide_true, decide_false, decide_eq_true_eq, DM.eq_ii, *])
open DF (LK lawNames)
theorem ofS_len (s : String) : (Str.ofString s).length = s.length := by
  rw [Str.ofString_eq_byList]
  show ((s.toList.map Char.toNat).toArray).size = _
  rw [List.size_toArray, List.length_map, String.length_toList]
theorem int_len {i : Int} (h : 0 ≤ i ∧ i < 100000000) : (Str.ofString (toString i)).length ≤ 8 := by
  rw [ofS_len]
  obtain ⟨n, rfl⟩ : ∃ n : Nat, i = n := ⟨i.toNat, by omega⟩
  exact (Nat.length_repr_le_iff (n := n) (by decide : 0 < 8)).mpr (by omega)
theorem app_len (a b : Str) : (a ++ b).length = a.length + b.length := by
  show (a.cps ++ b.cps).size = _
  rw [Array.size_append]; rfl
/-- heads that are written in at most 20 signs -/
def HG : Key → Prop
  | .inl i => 0 ≤ i ∧ i < 100000000
  | .inr x => x.length ≤ 20
theorem LK.hg {k : Key} (h : LK 3 k) : HG k := by
  cases k with
  | inl i => exact ⟨h.1, Int.lt_of_lt_of_le h.2 (by decide)⟩
  | inr x =>
    have : ∀ x ∈ lawNames, x.length ≤ 20 := by decide +kernel
    exact this x h
theorem hdS_len (k : Key) (h : HG k) : (hdS k).length ≤ 20 := by
  cases k with
  | inl i =>
    show ((Str.empty ++ ("?" : Str)) ++ (Str.ofString (toString i))).length ≤ 20
    rw [app_len]
    have : (Str.empty ++ ("?" : Str)).length = 1 := by decide +kernel
    have := int_len h
    omega
  | inr x => exact h
theorem js_eq {i : Int} (h : 0 ≤ i ∧ i < 100000000) (S : Sto) : mJs [(mC (.str "?")), (mFmt (mVar 0))] [some (.int i)] S = .ok (.str (hdS (.inl i))) S := by
  have l1 : Str.empty.length + Str.length ("?" : Str) ≤ 1000000 := by decide +kernel
  have l2 : (Str.empty ++ ("?" : Str)).length + Str.length ((toString i : String) : Str) ≤ 1000000 := by
    have : (Str.empty ++ ("?" : Str)).length = 1 := by decide +kernel
    have := int_len h
    omega
  have l3 : i.natAbs < 1000000000 := by omega
  unfold mJs
  rw [mJsA, sC, bind_ok]
  dsimp only
  rw [if_pos l1, mJsA]
  unfold mFmt
  rw [sVar0, bind_ok]
  dsimp only
  rw [if_pos l3, bind_ok]
  dsimp only
  rw [if_pos l2, mJsA, bind_ok]
  rfl
theorem write_head_eq (k : Nat) (S : Sto) (h : Key) (hk : HG h) : M_write_head (k + 1) [kD h] S = .ok (.str (hdS h)) S := by
  cases h with
  | inl i =>
    have e := js_eq (i := i) hk S
    rw [M_write_head, mFn_eq, show kD (.inl i) = .int i from rfl, show startE 1 [Dt.int i] = [some (.int i)] from rfl]
    walk_at "x"
  | inr x =>
    rw [M_write_head, mFn_eq, show kD (.inr x) = .str x from rfl, show startE 1 [Dt.str x] = [some (.str x)] from rfl]
    walk_at "x"
    rfl
end DM

namespace DM
open PySem L2 MD
open DF (Tm)
local macro_rules | `(tactic| walk_at "x") => `(tactic| simp (disch := omega) only [MD.bind_ok, MD.bind_no, MD.bind_ex, MD.rthen_ok, MD.rthen_no, MD.rthen_ex, MD.fthen_nx, MD.fthen_rt, MD.fthen_bk, MD.fthen_ct, MD.fthen_ex, MD.fthen_no, MD.xVar, MD.xAug, MD.xFor, MD.xIr1, MD.xIr2, MD.rng1_at, MD.rng2_at, Int.toNat_natCast, Int.ofNat_eq_natCast, MD.sC, MD.sA0, MD.sA1, MD.sTup, MD.sLst, MD.sDic, MD.sDit, MD.sOp, MD.sUn, MD.sCall, MD.sOwn, MD.sSl, MD.sOn, MD.sOs, MD.sAnd, MD.sOr, MD.sNot, MD.sIf, MD.sTru, MD.sT, MD.sasB, MD.stAnd, MD.stOr, MD.stNot, MD.sYes, MD.sMt, MD.sMt0, MD.sNx, MD.sBk, MD.sCt, MD.sSq, MD.sSet, MD.sEx, MD.sRt, MD.sRtN, MD.sIfS, MD.sAsg, MD.sgN, DM.gT2, DM.gT3, MD.xGc, DM.mFn_eq, MD.xStart, MD.getR, MD.setR, MD.gc_same, MD.gcX_same, MD.gc_nf, MD.gcX_nf, MD.bddLocT, MD.bddLocF, MD.bddNon, MD.bddBl, MD.bddInt, MD.bddStr, MD.bddScr, MD.bddTup, MD.bddCon, MD.bddNil, MD.bddCons, MD.bddApp, MD.intsB, MD.bddLst, MD.bddDic, MD.bddDit, MD.bddIns, MD.bddSNil, MD.bddSCons, MD.bddSApp, DM.tDs_bdd, DM.tD_bdd, DM.kD_bdd, DM.kDs_bdd, DM.fnD_bdd, DM.fns_bdd, DM.fnL_bdd, DM.demD_bdd, List.map_cons, List.getLast?_concat, List.dropLast_concat, MD.isEmpty_app, List.isEmpty_cons, List.isEmpty_nil, List.isEmpty_map, List.isEmpty_reverse, Bool.and_false, List.map_nil, List.replicate_succ, List.replicate_zero, List.cons_append, List.nil_append, List.append_assoc, List.append_nil, List.length_cons, List.length_nil, List.length_append, List.length_map, List.length_reverse, MD.bddRev, List.getElem?_cons_succ, List.getElem?_cons_zero, MD.xset_s, MD.xset_0, List.take_succ_cons, List.take_zero, List.take_nil, Nat.sub_self, Nat.add_sub_cancel_left, Nat.add_zero, Nat.zero_add, Nat.add_assoc, Nat.reduceAdd, Nat.reduceSub, Nat.reduceLeDiff, Nat.reduceEqDiff, Nat.reduceLT, Nat.le_refl, Bool.and_true, Bool.true_and, Bool.and_self, Bool.not_true, Bool.not_false, Bool.false_eq_true, Bool.true_eq_false, if_true, if_false, if_pos, and_true, true_and, ite_true, ite_false, reduceIte, DM.ix_t0, DM.ix_t1, DM.ix_t2, DM.ix_t3, DM.len_t, DM.rev_t, DM.tup_t, DM.add_ii, DM.sub_ii, DM.tru_bl, DM.tru_t, DM.it_t, DM.chk_none, DM.sIt, DM.sIrev, MD.dLen, MD.xIxT, MD.xIxC, MD.xIxR, MD.xIxL, MD.dAppend, MD.dExtend, MD.dPop, MD.dTuple, MD.dList, MD.dRev, MD.itOf, MD.dTru, MD.isL, MD.dAdd, MD.dSub, MD.dMul, MD.dNeg, MD.dCmp, MD.dLt, MD.dLe, MD.dGt, MD.dGe, MD.dIsN, MD.dNotN, MD.Dt.isN, MD.dEq, MD.dNe, MD.dEqG, MD.eqSc, MD.dSl, MD.at0, MD.at1, MD.at2, MD.at3, MD.at4, MD.at5, MD.atN, MD.atM, DM.isi_int_int, DM.isi_str_int, DM.isi_int_str, DM.isi_str_str, DM.isi_t, DM.isi_kD, DM.isi_kS, DM.eq_ss, MD.str_eq, String.reduceEq, eq_self, decide_true, decide_false, decide_eq_true_eq, DM.eq_ii, *])
open DF (LK lawNames)
abbrev It := Str ⊕ Tm
noncomputable def itD : It → Dt
  | .inl x => .str x
  | .inr t => tD t
noncomputable def argI (t : Tm) : List It := if t.args = [] then [.inl " ", .inr t] else [.inl " (", .inr t, .inl ")"]
noncomputable def argR (t : Tm) : List Dt := if t.args = [] then [tD t, .str " "] else [.str ")", tD t, .str " ("]
theorem argR_eq (t : Tm) : argR t = ((argI t).map itD).reverse := by
  unfold argR argI
  split <;> rfl
theorem argR_le (t : Tm) : (argR t).length ≤ 3 := by
  unfold argR
  split <;> simp
theorem ext_one (S : Sto) (hS : Wf S) (B : MS) (hB : B = mEx (mGc (mMt dExtend (mVar 2) (mA1 (mIf (mTru (mOp dIx (mVar 4) (mC (.int 1)))) (mLst (mA1 (mC (.str ")")) (mA1 (mVar 4) (mA1 (mC (.str " (")) mA0)))) (mLst (mA1 (mVar 4) (mA1 (mC (.str " ")) mA0)))) mA0))))
    (p l : List Dt) (bp : ∀ n, Dt.bddL n p = true) (bl : ∀ n, Dt.bddL n l = true) (hl : l.length ≤ 500000) (x0 x3 : Option Dt) (u : Tm) :
    B [x0, some (.loc S.length), some (.loc (S.length + 1)), x3, some (tD u)] (S ++ [Cell.lst p, Cell.lst l]) = .nx [x0, some (.loc S.length), some (.loc (S.length + 1)), x3, some (tD u)] (S ++ [Cell.lst p, Cell.lst (l ++ argR u)]) := by
  subst hB
  cases u with
  | mk h ts =>
    cases ts with
    | nil =>
      rw [argR, show (Tm.mk h []).args = [] from rfl, if_pos rfl, tD_mk]
      walk_at "x"
    | cons a as =>
      rw [argR, show (Tm.mk h (a :: as)).args = a :: as from rfl, if_neg (show ¬ (a :: as = []) from fun h => nomatch h), tD_mk]
      walk_at "x"
theorem ext_loop (S : Sto) (hS : Wf S) (B : MS) (hB : B = mEx (mGc (mMt dExtend (mVar 2) (mA1 (mIf (mTru (mOp dIx (mVar 4) (mC (.int 1)))) (mLst (mA1 (mC (.str ")")) (mA1 (mVar 4) (mA1 (mC (.str " (")) mA0)))) (mLst (mA1 (mVar 4) (mA1 (mC (.str " ")) mA0)))) mA0))))
    (p : List Dt) (bp : ∀ n, Dt.bddL n p = true) (x0 x3 : Option Dt) : ∀ (us : List Tm) (l : List Dt) (bl : ∀ n, Dt.bddL n l = true) (hl : l.length + 3 * us.length ≤ 500000) (z4 : Option Dt),
    ∃ z4', forGo none (gN 4) B (us.map tD) [x0, some (.loc S.length), some (.loc (S.length + 1)), x3, z4] (S ++ [Cell.lst p, Cell.lst l]) = .nx [x0, some (.loc S.length), some (.loc (S.length + 1)), x3, z4'] (S ++ [Cell.lst p, Cell.lst (l ++ us.flatMap argR)])
  | [], l, bl, hl, z4 => ⟨z4, by rw [List.flatMap_nil, List.append_nil]; rfl⟩
  | u :: us, l, bl, hl, z4 => by
    rw [List.length_cons] at hl
    have hr := argR_le u
    have bu : ∀ n, Dt.bddL n (argR u) = true := fun n => by
      unfold argR
      split
      · rw [bddCons, bddCons, bddNil, tD_bdd, bddStr]; rfl
      · rw [bddCons, bddCons, bddCons, bddNil, tD_bdd, bddStr, bddStr]; rfl
    obtain ⟨z, e⟩ := ext_loop S hS B hB p bp x0 x3 us (l ++ argR u) (fun n => by rw [bddApp, bl, bu]; rfl) (by rw [List.length_append]; omega) (some (tD u))
    refine ⟨z, ?_⟩
    rw [List.map_cons, forGo, sgN]
    simp only [xset_s, xset_0]
    rw [ext_one S hS B hB p l bp bl (by omega) x0 x3 u]
    dsimp only
    rw [if_pos (show chk none _ from True.intro), e, List.flatMap_cons, List.append_assoc]
mutual
noncomputable def pcs : Tm → List Str
  | .mk h ts => hdS h :: pcsL ts
noncomputable def pcsL : List Tm → List Str
  | [] => []
  | t :: ts => (if t.args = [] then (" " : Str) :: pcs t else (" (" : Str) :: (pcs t ++ [(")" : Str)])) ++ pcsL ts
end
noncomputable def outOne : It → List Str
  | .inl x => [x]
  | .inr t => pcs t
noncomputable def outI (its : List It) : List Str := its.flatMap outOne
theorem outI_args : ∀ ts : List Tm, outI (ts.flatMap argI) = pcsL ts
  | [] => by rw [pcsL]; rfl
  | t :: ts => by
    rw [pcsL, ← outI_args ts, List.flatMap_cons, outI, List.flatMap_append]
    congr 1
    unfold argI
    split
    · rw [List.flatMap_cons, List.flatMap_cons, List.flatMap_nil, List.append_nil]; rfl
    · rw [List.flatMap_cons, List.flatMap_cons, List.flatMap_cons, List.flatMap_nil, List.append_nil]; rfl
theorem pcs_pos (t : Tm) : 0 < (pcs t).length := by
  cases t with
  | mk h ts => rw [pcs, List.length_cons]; omega
theorem its_le : ∀ its : List It, its.length ≤ (outI its).length
  | [] => Nat.le_refl _
  | i :: its => by
    have := its_le its
    rw [List.length_cons, outI, List.flatMap_cons, List.length_append]
    unfold outI at this
    have : 0 < (outOne i).length := by
      cases i with
      | inl x => exact Nat.zero_lt_one
      | inr t => exact pcs_pos t
    omega
theorem rev_args (ts : List Tm) : ts.reverse.flatMap argR = ((ts.flatMap argI).map itD).reverse := by
  induction ts with
  | nil => rfl
  | cons t ts ih => rw [List.reverse_cons, List.flatMap_append, ih, List.flatMap_cons (xs := ts), List.map_append, List.reverse_append, List.flatMap_cons, List.flatMap_nil, List.append_nil, argR_eq]
theorem itsB (n : Nat) (its : List It) : Dt.bddL n (its.map itD).reverse = true := by
  rw [bddRev]
  induction its with
  | nil => exact bddNil
  | cons i its ih =>
    rw [List.map_cons, bddCons, ih]
    cases i with
    | inl x => rw [itD, bddStr]; rfl
    | inr t => rw [itD, tD_bdd]; rfl
theorem strsB (n : Nat) (ps : List Str) : Dt.bddL n (ps.map Dt.str) = true := by
  induction ps with
  | nil => exact bddNil
  | cons i its ih => rw [List.map_cons, bddCons, ih, bddStr]; rfl
end DM

namespace DM
open PySem L2 MD
open DF (Tm)
local macro_rules | `(tactic| walk_at "x") => `(tactic| simp (disch := omega) only [MD.bind_ok, MD.bind_no, MD.bind_ex, MD.rthen_ok, MD.rthen_no, MD.rthen_ex, MD.fthen_nx, MD.fthen_rt, MD.fthen_bk, MD.fthen_ct, MD.fthen_ex, MD.fthen_no, MD.xVar, MD.xAug, MD.xFor, MD.xIr1, MD.xIr2, MD.rng1_at, MD.rng2_at, Int.toNat_natCast, Int.ofNat_eq_natCast, MD.sC, MD.sA0, MD.sA1, MD.sTup, MD.sLst, MD.sDic, MD.sDit, MD.sOp, MD.sUn, MD.sCall, MD.sOwn, MD.sSl, MD.sOn, MD.sOs, MD.sAnd, MD.sOr, MD.sNot, MD.sIf, MD.sTru, MD.sT, MD.sasB, MD.stAnd, MD.stOr, MD.stNot, MD.sYes, MD.sMt, MD.sMt0, MD.sNx, MD.sBk, MD.sCt, MD.sSq, MD.sSet, MD.sEx, MD.sRt, MD.sRtN, MD.sIfS, MD.sAsg, MD.sgN, DM.gT2, DM.gT3, MD.xGc, DM.mFn_eq, MD.xStart, MD.getR, MD.setR, MD.gc_same, MD.gcX_same, MD.gc_nf, MD.gcX_nf, MD.bddLocT, MD.bddLocF, MD.bddNon, MD.bddBl, MD.bddInt, MD.bddStr, MD.bddScr, MD.bddTup, MD.bddCon, MD.bddNil, MD.bddCons, MD.bddApp, MD.intsB, MD.bddLst, MD.bddDic, MD.bddDit, MD.bddIns, MD.bddSNil, MD.bddSCons, MD.bddSApp, DM.tDs_bdd, DM.tD_bdd, DM.kD_bdd, DM.kDs_bdd, DM.fnD_bdd, DM.fns_bdd, DM.fnL_bdd, DM.demD_bdd, List.map_cons, List.getLast?_concat, List.dropLast_concat, MD.isEmpty_app, List.isEmpty_cons, List.isEmpty_nil, List.isEmpty_map, List.isEmpty_reverse, Bool.and_false, List.map_nil, List.replicate_succ, List.replicate_zero, List.cons_append, List.nil_append, List.append_assoc, List.append_nil, List.length_cons, List.length_nil, List.length_append, List.length_map, List.length_reverse, MD.bddRev, List.getElem?_cons_succ, List.getElem?_cons_zero, MD.xset_s, MD.xset_0, List.take_succ_cons, List.take_zero, List.take_nil, Nat.sub_self, Nat.add_sub_cancel_left, Nat.add_zero, Nat.zero_add, Nat.add_assoc, Nat.reduceAdd, Nat.reduceSub, Nat.reduceLeDiff, Nat.reduceEqDiff, Nat.reduceLT, Nat.le_refl, Bool.and_true, Bool.true_and, Bool.and_self, Bool.not_true, Bool.not_false, Bool.false_eq_true, Bool.true_eq_false, if_true, if_false, if_pos, and_true, true_and, ite_true, ite_false, reduceIte, DM.ix_t0, DM.ix_t1, DM.ix_t2, DM.ix_t3, DM.len_t, DM.rev_t, DM.tup_t, DM.add_ii, DM.sub_ii, DM.tru_bl, DM.tru_t, DM.it_t, DM.chk_none, DM.sIt, DM.sIrev, MD.dLen, MD.xIxT, MD.xIxC, MD.xIxR, MD.xIxL, MD.dAppend, MD.dExtend, MD.dPop, MD.dTuple, MD.dList, MD.dRev, MD.itOf, MD.dTru, MD.isL, MD.dAdd, MD.dSub, MD.dMul, MD.dNeg, MD.dCmp, MD.dLt, MD.dLe, MD.dGt, MD.dGe, MD.dIsN, MD.dNotN, MD.Dt.isN, MD.dEq, MD.dNe, MD.dEqG, MD.eqSc, MD.dSl, MD.at0, MD.at1, MD.at2, MD.at3, MD.at4, MD.at5, MD.atN, MD.atM, DM.isi_int_int, DM.isi_str_int, DM.isi_int_str, DM.isi_str_str, DM.isi_t, DM.isi_kD, DM.isi_kS, DM.eq_ss, MD.str_eq, String.reduceEq, eq_self, decide_true, decide_false, decide_eq_true_eq, DM.eq_ii, *])
open DF (LK lawNames)
theorem outI_cons (i : It) (r : List It) : outI (i :: r) = outOne i ++ outI r := by
  unfold outI
  rw [List.flatMap_cons]
theorem outI_app (a b : List It) : outI (a ++ b) = outI a ++ outI b := by
  unfold outI
  rw [List.flatMap_append]
def AllI (its : List It) : Prop := ∀ t, (Sum.inr t : It) ∈ its → t.All (HG)
theorem wr_loop (k : Nat) (S : Sto) (hS : Wf S) (F : MS) (hF : F = mEx (mGc (mMt dExtend (mVar 2) (mA1 (mIf (mTru (mOp dIx (mVar 4) (mC (.int 1)))) (mLst (mA1 (mC (.str ")")) (mA1 (mVar 4) (mA1 (mC (.str " (")) mA0)))) (mLst (mA1 (mVar 4) (mA1 (mC (.str " ")) mA0)))) mA0)))) (B : MS) (hB : B = mSq (mSet 3 (mGc (mMt0 dPop (mVar 2))))
      (mIfS (mTru (mCall dIsi (mA1 (mVar 3) (mA1 (mC (.ty "str")) mA0)))) (mEx (mGc (mMt dAppend (mVar 1) (mA1 (mVar 3) mA0)))) (mSq (mEx (mGc (mMt dAppend (mVar 1) (mA1 (mCall (mOwn 1 (M_write_head (k + 1))) (mA1 (mOp dIx (mVar 3) (mC (.int 0))) mA0)) mA0))))
      (mFor (mIrev (mOp dIx (mVar 3) (mC (.int 1)))) (gN 4) F))))
    (x0 : Option Dt) : ∀ (M : Nat) (its : List It) (ps : List Str) (z3 z4 : Option Dt), (outI its).length < M → ps.length + (outI its).length ≤ 100000 → AllI its →
      ∃ z3' z4', mWh (mTru (mVar 2)) B [x0, some (.loc S.length), some (.loc (S.length + 1)), z3, z4] (S ++ [Cell.lst (ps.map .str), Cell.lst ((its.map itD).reverse)]) = .nx [x0, some (.loc S.length), some (.loc (S.length + 1)), z3', z4'] (S ++ [Cell.lst ((ps ++ outI its).map .str), Cell.lst []]) := by
  intro M
  induction M with
  | zero => intro its ps z3 z4 h; omega
  | succ M ih =>
    intro its ps z3 z4 hM hl hA
    rw [mWh_eq]
    have bP : ∀ n, Dt.bddL n (ps.map Dt.str) = true := fun n => strsB n ps
    have pl : ps.length ≤ 100000 := by omega
    cases its with
    | nil =>
      have hC : mTru (mVar 2) [x0, some (.loc S.length), some (.loc (S.length + 1)), z3, z4] (S ++ [Cell.lst (ps.map .str), Cell.lst ((([] : List It).map itD).reverse)]) = .ok false (S ++ [Cell.lst (ps.map .str), Cell.lst ((([] : List It).map itD).reverse)]) := by
        rw [List.map_nil, List.reverse_nil]
        walk_at "x"
      rw [hC, rthen_ok, if_neg Bool.false_ne_true]
      exact ⟨z3, z4, by rw [show outI [] = [] from rfl, List.append_nil]; rfl⟩
    | cons i rest =>
      have hC : mTru (mVar 2) [x0, some (.loc S.length), some (.loc (S.length + 1)), z3, z4] (S ++ [Cell.lst (ps.map .str), Cell.lst ((rest.map itD).reverse ++ [itD i])]) = .ok true (S ++ [Cell.lst (ps.map .str), Cell.lst ((rest.map itD).reverse ++ [itD i])]) := by
        walk_at "x"
      rw [List.map_cons, List.reverse_cons, hC, rthen_ok, if_pos rfl]
      have bR : ∀ n, Dt.bddL n (rest.map itD).reverse = true := fun n => itsB n rest
      have rl := its_le rest
      have hAr : AllI rest := fun t ht => hA t (List.mem_cons_of_mem _ ht)
      cases i with
      | inl x =>
        rw [outI_cons, outOne, List.length_append, List.length_singleton] at hM hl
        obtain ⟨a, b, e⟩ := ih rest (ps ++ [x]) (some (.str x)) z4 (by omega) (by rw [List.length_append, List.length_singleton]; omega) hAr
        refine ⟨a, b, ?_⟩
        have st : B [x0, some (.loc S.length), some (.loc (S.length + 1)), z3, z4] (S ++ [Cell.lst (ps.map .str), Cell.lst ((rest.map itD).reverse ++ [.str x])]) = .nx [x0, some (.loc S.length), some (.loc (S.length + 1)), some (.str x), z4] (S ++ [Cell.lst ((ps ++ [x]).map .str), Cell.lst ((rest.map itD).reverse)]) := by
          rw [hB, List.map_append, show [x].map Dt.str = [.str x] from rfl]
          clear e hC ih hM hA hAr
          walk_at "x"
        rw [itD, st]
        dsimp only
        rw [e, outI_cons, outOne, List.append_assoc]
      | inr t =>
        have hAt := hA t (List.mem_cons_self ..)
        cases t with
        | mk h ts =>
          rw [outI_cons, outOne, pcs, List.cons_append, List.length_cons, List.length_append] at hM hl
          have oa := outI_args ts
          have tl : ts.length ≤ (pcsL ts).length := by
            rw [← oa]
            have q := its_le (ts.flatMap argI)
            have q2 : ∀ us : List Tm, us.length ≤ (us.flatMap argI).length := fun us => by
              induction us with
              | nil => exact Nat.le_refl _
              | cons u us ih =>
                rw [List.flatMap_cons, List.length_append, List.length_cons]
                have : 1 ≤ (argI u).length := by
                  unfold argI
                  split
                  · exact (by decide : 1 ≤ 2)
                  · exact (by decide : 1 ≤ 3)
                omega
            have := q2 ts
            omega
          have rl2 : rest.length ≤ 100000 := by omega
          obtain ⟨z4', lp⟩ := ext_loop S hS F hF ((ps ++ [hdS h]).map .str) (fun n => strsB n _) x0 (some (tD (.mk h ts))) ts.reverse (rest.map itD).reverse (fun n => itsB n rest) (by rw [List.length_reverse, List.length_map, List.length_reverse]; omega) z4
          rw [rev_args, ← List.reverse_append, ← List.map_append] at lp
          obtain ⟨a, b, e⟩ := ih (ts.flatMap argI ++ rest) (ps ++ [hdS h]) (some (tD (.mk h ts))) z4' (by rw [outI_app, oa, List.length_append]; omega) (by rw [List.length_append, List.length_singleton, outI_app, oa, List.length_append]; omega) (fun u hu => by
            rcases List.mem_append.mp hu with hu | hu
            · obtain ⟨v, hv, hu⟩ := List.mem_flatMap.mp hu
              have : u = v := by
                unfold argI at hu
                split at hu
                · simp only [List.mem_cons, List.not_mem_nil, or_false, reduceCtorEq, false_or, Sum.inr.injEq] at hu
                  exact hu
                · simp only [List.mem_cons, List.not_mem_nil, or_false, reduceCtorEq, false_or, Sum.inr.injEq] at hu
                  exact hu
              rw [this]
              exact all_sub' hAt hv
            · exact hAr u hu)
          refine ⟨a, b, ?_⟩
          have s1 : mGc (mMt0 dPop (mVar 2)) [x0, some (.loc S.length), some (.loc (S.length + 1)), z3, z4] (S ++ [Cell.lst (ps.map .str), Cell.lst ((rest.map itD).reverse ++ [tD (.mk h ts)])]) = .ok (tD (.mk h ts)) (S ++ [Cell.lst (ps.map .str), Cell.lst ((rest.map itD).reverse)]) := by
            clear e hC ih hM hA hAr lp
            walk_at "x"
          have s2 : mTru (mCall dIsi (mA1 (mVar 3) (mA1 (mC (.ty "str")) mA0))) [x0, some (.loc S.length), some (.loc (S.length + 1)), some (tD (.mk h ts)), z4] (S ++ [Cell.lst (ps.map .str), Cell.lst ((rest.map itD).reverse)]) = .ok false (S ++ [Cell.lst (ps.map .str), Cell.lst ((rest.map itD).reverse)]) := by
            rw [tD_mk]
            rfl
          have wh := write_head_eq k (S ++ [Cell.lst (ps.map .str), Cell.lst ((rest.map itD).reverse)]) h (all_hd hAt)
          have s3 : mEx (mGc (mMt dAppend (mVar 1) (mA1 (mCall (mOwn 1 (M_write_head (k + 1))) (mA1 (mOp dIx (mVar 3) (mC (.int 0))) mA0)) mA0))) [x0, some (.loc S.length), some (.loc (S.length + 1)), some (tD (.mk h ts)), z4] (S ++ [Cell.lst (ps.map .str), Cell.lst ((rest.map itD).reverse)]) = .nx [x0, some (.loc S.length), some (.loc (S.length + 1)), some (tD (.mk h ts)), z4] (S ++ [Cell.lst ((ps ++ [hdS h]).map .str), Cell.lst ((rest.map itD).reverse)]) := by
            clear e hC ih hM hA hAr lp s1 s2
            rw [List.map_append, show [hdS h].map Dt.str = [.str (hdS h)] from rfl, tD_mk]
            walk_at "x"
          have s4 : mIrev (mOp dIx (mVar 3) (mC (.int 1))) [x0, some (.loc S.length), some (.loc (S.length + 1)), some (tD (.mk h ts)), z4] (S ++ [Cell.lst ((ps ++ [hdS h]).map .str), Cell.lst ((rest.map itD).reverse)]) = .ok (ts.reverse.map tD, none) (S ++ [Cell.lst ((ps ++ [hdS h]).map .str), Cell.lst ((rest.map itD).reverse)]) := by
            clear e hC ih hM hA hAr lp s1 s2 s3 wh
            rw [tD_mk, List.map_reverse]
            walk_at "x"
          rw [itD, hB, sSq, sSet, s1, rthen_ok, fthen_nx]
          simp only [xset_s, xset_0]
          rw [sIfS, s2, rthen_ok, if_neg Bool.false_ne_true, sSq, s3, fthen_nx, xFor, s4, rthen_ok]
          dsimp only
          rw [lp]
          dsimp only
          rw [← hB, e, outI_cons, outOne, pcs, outI_app, oa, List.append_assoc]
          rfl
end DM

namespace DM
open PySem L2 MD
open DF (Tm)
open DF (LK lawNames)
theorem join_cps : ∀ ps : List Str, (Str.join ("" : Str) ps).cps.toList = ps.flatMap fun p => p.cps.toList
  | [] => rfl
  | [x] => by rw [List.flatMap_cons, List.flatMap_nil, List.append_nil]; rfl
  | x :: y :: r => by
    rw [List.flatMap_cons, ← join_cps (y :: r), Str.join]
    · show ((x.cps ++ (Str.ofString "").cps) ++ (Str.join (Str.ofString "") (y :: r)).cps).toList = _
      rw [Array.toList_append, Array.toList_append, show (Str.ofString "").cps.toList = [] from by decide +kernel, List.append_nil]
    · intro h; cases h
mutual
theorem pcs_wt : ∀ t : Tm, (pcs t).flatMap (fun p => p.cps.toList) = wt t
  | .mk h ts => by rw [pcs, wt, List.flatMap_cons, pcsL_wt ts]; rfl
theorem pcsL_wt : ∀ ts : List Tm, (pcsL ts).flatMap (fun p => p.cps.toList) = wtL ts
  | [] => by rw [pcsL, wtL]; rfl
  | t :: ts => by
    rw [pcsL, wtL, List.flatMap_append, pcsL_wt ts]
    congr 1
    by_cases h : t.args = []
    · rw [if_pos h, if_pos h, List.flatMap_cons, pcs_wt t, show (Str.ofString " ").cps.toList = [32] from by decide +kernel]; rfl
    · rw [if_neg h, if_neg h, List.flatMap_cons, List.flatMap_append, pcs_wt t, List.flatMap_cons, List.flatMap_nil, List.append_nil, show (Str.ofString " (").cps.toList = [32, 40] from by decide +kernel, show (Str.ofString ")").cps.toList = [41] from by decide +kernel]; rfl
end
mutual
theorem pcs_len : ∀ t : Tm, (pcs t).length + 2 ≤ 3 * t.size
  | .mk h ts => by rw [pcs, Tm.size, List.length_cons]; have := pcsL_len ts; omega
theorem pcsL_len : ∀ ts : List Tm, (pcsL ts).length ≤ 3 * Tm.sizeL ts
  | [] => by rw [pcsL]; exact Nat.zero_le _
  | t :: ts => by
    rw [pcsL, Tm.sizeL, List.length_append]
    have := pcsL_len ts
    have := pcs_len t
    split
    · rw [List.length_cons]; omega
    · rw [List.length_cons, List.length_append, List.length_singleton]; omega
end
mutual
theorem pcs_piece : ∀ t : Tm, t.All (HG) → ∀ p ∈ pcs t, p.length ≤ 20
  | .mk h ts, a, p, hp => by
    rw [pcs] at hp
    rcases List.mem_cons.mp hp with rfl | hp
    · exact hdS_len _ (all_hd a)
    · exact pcsL_piece ts (fun t ht => all_sub' a ht) p hp
theorem pcsL_piece : ∀ ts : List Tm, (∀ t ∈ ts, t.All (HG)) → ∀ p ∈ pcsL ts, p.length ≤ 20
  | [], _, p, hp => by rw [pcsL] at hp; cases hp
  | t :: ts, a, p, hp => by
    have s1 : Str.length (" " : Str) ≤ 20 := by decide +kernel
    have s2 : Str.length (" (" : Str) ≤ 20 := by decide +kernel
    have s3 : Str.length (")" : Str) ≤ 20 := by decide +kernel
    rw [pcsL] at hp
    rcases List.mem_append.mp hp with hp | hp
    · have ih := pcs_piece t (a t (List.mem_cons_self ..))
      split at hp
      · rcases List.mem_cons.mp hp with rfl | hp
        · exact s1
        · exact ih p hp
      · rcases List.mem_cons.mp hp with rfl | hp
        · exact s2
        · rcases List.mem_append.mp hp with hp | hp
          · exact ih p hp
          · rw [List.mem_singleton.mp hp]; exact s3
    · exact pcsL_piece ts (fun t ht => a t (List.mem_cons_of_mem _ ht)) p hp
end
theorem sum_le : ∀ ps : List Str, (∀ p ∈ ps, p.length ≤ 20) → (ps.map (·.length)).sum ≤ 20 * ps.length
  | [], _ => Nat.zero_le _
  | p :: ps, h => by
    rw [List.map_cons, List.sum_cons, List.length_cons]
    have := h p (List.mem_cons_self ..)
    have := sum_le ps fun q hq => h q (List.mem_cons_of_mem _ hq)
    omega
theorem strO_all (ps : List Str) : mapO strO (ps.map Dt.str) = some ps := by
  induction ps with
  | nil => rfl
  | cons p ps ih => rw [List.map_cons, mapO, strO, ih]
noncomputable def wtS (t : Tm) : Str := Txt.join ("" : Str) (pcs t)
theorem write_term_eq (k : Nat) (S : Sto) (hS : Wf S) (t : Tm) (ht : t.All (HG)) (hs : t.size ≤ 10000) : M_write_term (k + 2) [tD t] S = .ok (.str (wtS t)) S := by
  have pl := pcs_len t
  obtain ⟨z3, z4, e⟩ := wr_loop k S hS _ rfl _ rfl (some (tD t)) ((pcs t).length + 1) [.inr t] [] none none (by show (outI [.inr t]).length < _; rw [outI_cons, show outI [] = [] from rfl, List.append_nil]; exact Nat.lt_succ_self _) (by rw [outI_cons, show outI [] = [] from rfl, List.append_nil]; show 0 + (pcs t).length ≤ _; omega) (fun u hu => by
    have : u = t := by
      simp only [List.mem_cons, List.not_mem_nil, or_false, Sum.inr.injEq] at hu
      exact hu
    rw [this]; exact ht)
  rw [outI_cons, show outI [] = [] from rfl, List.append_nil, List.nil_append, show outOne (.inr t) = pcs t from rfl, show ([Sum.inr t].map itD).reverse = [tD t] from rfl, show ([] : List Str).map Dt.str = [] from rfl] at e
  have jf : joinFits ("" : Str) (pcs t) := by
    have := sum_le _ (pcs_piece t ht)
    have e0 : Str.length ("" : Str) = 0 := by decide +kernel
    show ((pcs t).map (·.length)).sum + (pcs t).length * Str.length ("" : Str) ≤ 16777216
    rw [e0]
    omega
  have j : dJoin (.str ("" : Str)) [.loc S.length] (S ++ [Cell.lst ((pcs t).map .str), Cell.lst []]) = .ok (.str (wtS t)) (S ++ [Cell.lst ((pcs t).map .str), Cell.lst []]) := by
    unfold dJoin
    dsimp only
    rw [get0]
    dsimp only
    rw [strO_all]
    dsimp only
    rw [if_pos jf]
    rfl
  rw [M_write_term, mFn_eq, show startE 5 [tD t] = [some (tD t), none, none, none, none] from rfl]
  have c1 : mGc (mLst mA0) [some (tD t), none, none, none, none] S = .ok (.loc S.length) (S ++ [Cell.lst []]) := by
    rw [sGc (d := .loc S.length) (S' := S ++ [Cell.lst []]) rfl, gc_one]
  have c2 : mGc (mLst (mA1 (mVar 0) mA0)) [some (tD t), some (.loc S.length), none, none, none] (S ++ [Cell.lst []]) = .ok (.loc (S.length + 1)) (S ++ [Cell.lst [], Cell.lst [tD t]]) := by
    have w : Wf (S ++ [Cell.lst []]) := wf_app hS rfl
    rw [sGc (d := .loc (S ++ [Cell.lst []]).length) (S' := (S ++ [Cell.lst []]) ++ [Cell.lst [tD t]]) rfl, gc_one, List.length_append, List.append_assoc]
    rfl
  rw [sSq, sSet, c1, rthen_ok, fthen_nx]
  simp only [xset_s, xset_0]
  rw [sSq, sSet, c2, rthen_ok, fthen_nx]
  simp only [xset_s, xset_0]
  rw [sSq, e, fthen_nx, sRt, show ∀ (m1 m2 : ME) (α : MD.Env) S1, mM1 dJoin m1 m2 α S1 = (m1 α S1).bind fun x S1 => if isStr x = true then (m2 α S1).bind fun y S2 => dJoin x [y] S2 else .no from fun _ _ _ _ => rfl, sC, bind_ok, if_pos (show isStr (Dt.str (Str.ofString "")) = true from rfl), sVar1, bind_ok, j, rthen_ok]
  exact gc_drop hS bddStr
theorem wtS_cps (t : Tm) : (wtS t).cps.toList = wt t := by
  unfold wtS
  rw [show Txt.join (Str.ofString "") (pcs t) = Str.join (Str.ofString "") (pcs t) from PySem.StrLaws.glued_eq_join _ _]
  exact (join_cps _).trans (pcs_wt t)
end DM

namespace DM
open PySem L2 MD
open DF (Tm)
/-! ### terms as applications, and how one lies within another -/
inductive Ap where
  | leaf (a : Str)
  | ap (f x : Ap)
def Ap.leaves : Ap → Nat
  | .leaf _ => 1
  | .ap f x => f.leaves + x.leaves
inductive Lies : Ap → Ap → Prop
  | leaf {a : Str} : Lies (.leaf a) (.leaf a)
  | both {g y f x : Ap} : Lies g f → Lies y x → Lies (.ap g y) (.ap f x)
  | left {p f x : Ap} : Lies p f → Lies p (.ap f x)
  | right {p f x : Ap} : Lies p x → Lies p (.ap f x)
theorem Lies.refl : ∀ p : Ap, Lies p p
  | .leaf _ => .leaf
  | .ap f x => .both (refl f) (refl x)
theorem Lies.trans {q r : Ap} (h2 : Lies q r) : ∀ {p : Ap}, Lies p q → Lies p r := by
  induction h2 with
  | leaf => exact fun h => h
  | both _ _ i j =>
    intro p h
    cases h with
    | both a b => exact .both (i a) (j b)
    | left a => exact .left (i a)
    | right a => exact .right (j a)
  | left _ i => exact fun h => .left (i h)
  | right _ i => exact fun h => .right (i h)
/-! a term is its head, applied to one argument after another; which unknown it is does not matter -/
def kS : Key → Str
  | .inl _ => "?"
  | .inr x => x
mutual
def toAp : Tm → Ap
  | .mk k ts => toApL (.leaf (kS k)) ts
def toApL (p : Ap) : List Tm → Ap
  | [] => p
  | t :: ts => toApL (.ap p (toAp t)) ts
end
/-- two terms that are equal up to the numbers of unknowns -/
inductive Same' : Tm → Tm → Prop
  | mk {k j : Key} {ts us : List Tm} : kS k = kS j → ts.length = us.length → (∀ (n : Nat) (t u : Tm), ts[n]? = some t → us[n]? = some u → Same' t u) → Same' (.mk k ts) (.mk j us)
end DM

namespace DM
open PySem L2 MD
open DF (Tm)
/-! ### the shape of a term -/
def shT (u : Tm) : Dt := .tup [kD u.hd, .int (u.args.length : Int)]
end DM

namespace DM
open PySem L2 MD
open DF (Tm)
/-! ### rows of applications -/
inductive RowAt (aps : List Ap) : Dt → Ap → Prop
  | leaf {s : Str} : RowAt aps (.tup [.str s, .non]) (.leaf s)
  | ap {f x : Nat} {g y : Ap} : aps[f]? = some g → aps[x]? = some y → RowAt aps (.tup [.int (f : Int), .int (x : Int)]) (.ap g y)
/-- the rows ds of the applications aps: each one's places lie before it -/
inductive Rows : List Dt → List Ap → Prop
  | nil : Rows [] []
  | snoc {ds : List Dt} {aps : List Ap} {d : Dt} {a : Ap} : Rows ds aps → RowAt aps d a → Rows (ds ++ [d]) (aps ++ [a])
theorem Rows.len {ds : List Dt} {aps : List Ap} (h : Rows ds aps) : ds.length = aps.length := by
  induction h with
  | nil => rfl
  | snoc _ _ i => rw [List.length_append, List.length_append, i]; rfl
section
variable {S : Sto}
noncomputable abbrev inB : MS := mEx (mGc (mMt dAppend (mVar 1) (mA1 (mTup (mA1 (mOp dSub (mCall dLen (mA1 (mVar 1) mA0)) (mC (.int 1))) (mA1 (mMt0 dPop (mVar 2)) mA0))) mA0)))
end
end DM

namespace DM
open PySem L2 MD
open DF (Tm)
abbrev nD (n : Nat) : Dt := .int (n : Int)
inductive Pls (aps : List Ap) : List Nat → List Tm → Prop
  | nil : Pls aps [] []
  | cons {x : Nat} {pl : List Nat} {t : Tm} {ts : List Tm} : aps[x]? = some (toAp t) → Pls aps pl ts → Pls aps (x :: pl) (t :: ts)
theorem Pls.ext {aps ex : List Ap} {pl : List Nat} {ts : List Tm} (h : Pls aps pl ts) : Pls (aps ++ ex) pl ts := by
  induction h with
  | nil => exact .nil
  | cons e _ i => exact .cons (by rw [List.getElem?_append_left (List.getElem?_eq_some_iff.mp e).1]; exact e) i
noncomputable abbrev hdB : ME := mMt dAppend (mVar 1) (mA1 (mTup (mA1 (mIf (mTru (mCall dIsi (mA1 (mVar 3) (mA1 (mC (.ty "int")) mA0)))) (mC (.str "?")) (mVar 3)) (mA1 (mC .non) mA0))) mA0)
end DM

namespace DM
open PySem L2 MD
open DF (Tm)
noncomputable abbrev ouB : MS := mSq (mEx (mGc hdB)) (mSq (mFor (mIr1 (mA1 (mVar 4) mA0)) (gN 5) inB) (mEx (mGc (mMt dAppend (mVar 2) (mA1 (mOp dSub (mCall dLen (mA1 (mVar 1) mA0)) (mC (.int 1))) mA0)))))
def gE (S0 : Sto) (x0 : Dt) (z3 z4 z5 : Option Dt) : MD.Env := [some x0, some (.loc S0.length), some (.loc (S0.length + 1)), z3, z4, z5]
end DM

namespace DM
open PySem L2 MD
open DF (Tm)
theorem bddL_snoc (n : Nat) (d : Dt) : ∀ l : List Dt, Dt.bddL n (l ++ [d]) = (Dt.bddL n l && d.bdd n)
  | [] => by
    show (d.bdd n && true) = (true && d.bdd n)
    rw [Bool.and_true, Bool.true_and]
  | a :: r => by rw [List.cons_append, Dt.bddL, Dt.bddL, bddL_snoc n d r, Bool.and_assoc]
theorem Rows.bdd {ds : List Dt} {aps : List Ap} (h : Rows ds aps) (n : Nat) : Dt.bddL n ds = true := by
  induction h with
  | nil => rw [Dt.bddL]
  | snoc _ r i =>
    rw [bddL_snoc, i]
    cases r <;> rfl
end DM

namespace DM
open PySem L2 MD
open DF (Tm)
/-! ### the answers for one part -/
open Classical in
noncomputable def ans (p : Ap) (qs : List Ap) : List Dt := qs.map fun q => Dt.bl (decide (Lies p q))
/-- the answers that were found for the parts before -/
def Found (S : Sto) (fl : Nat) (aps qs : List Ap) : Prop := ∃ l : List Dt, S[fl]? = some (Cell.lst l) ∧ ∀ (f : Nat) (g : Ap), aps[f]? = some g → ∃ c : Nat, l[f]? = some (.loc c) ∧ S[c]? = some (Cell.lst (ans g qs))
theorem Found.app {S : Sto} {fl : Nat} {aps qs : List Ap} (h : Found S fl aps qs) (G : Sto) : Found (S ++ G) fl aps qs := by
  obtain ⟨l, e, h⟩ := h
  refine ⟨l, by rw [List.getElem?_append_left (List.getElem?_eq_some_iff.mp e).1]; exact e, fun f g hg => ?_⟩
  obtain ⟨c, h1, h2⟩ := h f g hg
  exact ⟨c, h1, by rw [List.getElem?_append_left (List.getElem?_eq_some_iff.mp h2).1]; exact h2⟩
end DM

namespace DM
open PySem L2 MD
open DF (Tm)
noncomputable def LB (p q : Ap) : Bool := @decide (Lies p q) (Classical.propDecidable _)
noncomputable abbrev lyB : MS := mIfS (mT (mOp dIsN (mVar 7) (mC .non))) (mEx (mGc (mMt dAppend (mVar 5) (mA1 (mAnd (mOp dIsN (mVar 4) (mC .non)) (mOp dEq (mVar 3) (mVar 6))) mA0)))) (mSq (mSet 8 (mGc (mAnd (mOp dNotN (mVar 4) (mC .non)) (mAnd (mOp dIx (mOp dIx (mVar 2) (mVar 3)) (mVar 6)) (mOp dIx (mOp dIx (mVar 2) (mVar 4)) (mVar 7))))))
      (mEx (mGc (mMt dAppend (mVar 5) (mA1 (mOr (mVar 8) (mOr (mOp dIx (mVar 5) (mVar 6)) (mOp dIx (mVar 5) (mVar 7)))) mA0)))))
end DM

namespace DM
open PySem L2 MD
open DF (Tm)
theorem Rows.at {ds : List Dt} {aps : List Ap} (h : Rows ds aps) : ∀ (i : Nat) (d : Dt), ds[i]? = some d → ∃ q, aps[i]? = some q ∧ RowAt (aps.take i) d q := by
  induction h with
  | nil => exact fun i d h => by rw [List.getElem?_nil] at h; cases h
  | @snoc ds aps d a hr ra ih =>
    intro i e he
    have hlen := hr.len
    by_cases hi : i < ds.length
    · rw [List.getElem?_append_left hi] at he
      obtain ⟨q, h1, h2⟩ := ih i e he
      exact ⟨q, by rw [List.getElem?_append_left (by omega)]; exact h1, by rw [List.take_append_of_le_length (by omega)]; exact h2⟩
    · have hi2 : i < (ds ++ [d]).length := (List.getElem?_eq_some_iff.mp he).1
      rw [List.length_append, List.length_singleton] at hi2
      have hi3 : i = ds.length := by omega
      subst hi3
      rw [List.getElem?_append_right (Nat.le_refl _), Nat.sub_self] at he
      cases he
      refine ⟨a, by rw [hlen, List.getElem?_append_right (Nat.le_refl _), Nat.sub_self]; rfl, ?_⟩
      rw [hlen, List.take_left' rfl]
      exact ra
end DM

namespace DM
open PySem L2 MD
open DF (Tm)
/-- the store while the rows of the first term are gone through -/
def wiL (n i : Nat) : List Dt := (List.range i).map fun (f : Nat) => Dt.loc (n + 3 + f)
noncomputable def wiS (S : Sto) (tds pds : List Dt) (pa qs : List Ap) (i : Nat) : Sto := S ++ ([Cell.lst tds, Cell.lst (wiL S.length i), Cell.lst pds] ++ (pa.take i).map fun g => Cell.lst (ans g qs))
section
variable {S : Sto} {tds pds : List Dt} {pa qs : List Ap}
end
end DM

namespace DM
open PySem L2 MD
open DF (Tm)
section
variable {S : Sto} {tds pds : List Dt} {pa qs : List Ap}
end
end DM

namespace DM
open PySem L2 MD
open DF (Tm)
local macro_rules | `(tactic| walk_at "x") => `(tactic| simp (disch := omega) only [MD.bind_ok, MD.bind_no, MD.bind_ex, MD.rthen_ok, MD.rthen_no, MD.rthen_ex, MD.fthen_nx, MD.fthen_rt, MD.fthen_bk, MD.fthen_ct, MD.fthen_ex, MD.fthen_no, MD.xVar, MD.xFor, MD.xIr1, MD.xIr2, MD.rng1_at, MD.rng2_at, Int.toNat_natCast, Int.ofNat_eq_natCast, MD.sC, MD.sA0, MD.sA1, MD.sTup, MD.sLst, MD.sDic, MD.sDit, MD.sOp, MD.sUn, MD.sCall, MD.sOwn, MD.sSl, MD.sOn, MD.sOs, MD.sAnd, MD.sOr, MD.sNot, MD.sIf, MD.sTru, MD.sT, MD.sasB, MD.stAnd, MD.stOr, MD.stNot, MD.sYes, MD.sMt, MD.sMt0, MD.sNx, MD.sBk, MD.sCt, MD.sSq, MD.sSet, MD.sEx, MD.sRt, MD.sRtN, MD.sIfS, MD.sAsg, MD.sgN, DM.gT2, DM.gT3, MD.xGc, DM.mFn_eq, MD.xStart, MD.getR, MD.setR, MD.gc_same, MD.gcX_same, MD.gc_nf, MD.gcX_nf, MD.bddLocT, MD.bddLocF, MD.bddNon, MD.bddBl, MD.bddInt, MD.bddStr, MD.bddScr, MD.bddTup, MD.bddCon, MD.bddNil, MD.bddCons, MD.bddApp, MD.intsB, MD.bddLst, MD.bddDic, MD.bddDit, MD.bddIns, MD.bddSNil, MD.bddSCons, MD.bddSApp, DM.tDs_bdd, DM.tD_bdd, DM.kD_bdd, DM.kDs_bdd, DM.fnD_bdd, DM.fns_bdd, DM.fnL_bdd, DM.demD_bdd, List.map_cons, List.map_nil, List.replicate_succ, List.replicate_zero, List.cons_append, List.nil_append, List.append_assoc, List.append_nil, List.length_cons, List.length_nil, List.length_append, List.length_map, List.getElem?_cons_succ, List.getElem?_cons_zero, List.set_cons_succ, List.set_cons_zero, List.take_succ_cons, List.take_zero, List.take_nil, Nat.sub_self, Nat.add_sub_cancel_left, Nat.add_zero, Nat.zero_add, Nat.add_assoc, Nat.reduceAdd, Nat.reduceSub, Nat.reduceLeDiff, Nat.reduceEqDiff, Nat.reduceLT, Nat.le_refl, Bool.and_true, Bool.true_and, Bool.and_self, Bool.not_true, Bool.not_false, Bool.false_eq_true, Bool.true_eq_false, if_true, if_false, if_pos, and_true, true_and, ite_true, ite_false, reduceIte, DM.ix_t0, DM.ix_t1, DM.ix_t2, DM.ix_t3, DM.len_t, DM.rev_t, DM.tup_t, DM.add_ii, DM.sub_ii, DM.tru_bl, DM.tru_t, DM.it_t, DM.chk_none, DM.sIt, DM.sIrev, MD.dLen, MD.dIx, MD.dAppend, MD.dExtend, MD.dPop, MD.dTuple, MD.dList, MD.dRev, MD.itOf, MD.dTru, MD.isL, MD.dAdd, MD.dSub, MD.dMul, MD.dNeg, MD.dCmp, MD.dLt, MD.dLe, MD.dGt, MD.dGe, MD.dIsN, MD.dNotN, MD.Dt.isN, MD.dEq, MD.dNe, MD.dEqG, MD.eqSc, MD.dSl, MD.at0, MD.at1, MD.at2, MD.at3, MD.at4, MD.at5, MD.atN, MD.atM, DM.isi_int_int, DM.isi_str_int, DM.isi_int_str, DM.isi_str_str, DM.isi_t, DM.isi_kD, DM.isi_kS, DM.eq_ss, MD.str_eq, String.reduceEq, eq_self, decide_true, decide_false, decide_eq_true_eq, DM.eq_ii, *])
section
variable {S : Sto} {tds pds : List Dt} {pa qs : List Ap}
end
end DM

namespace DM
open PySem L2 MD
open DF (Tm)
local macro_rules | `(tactic| walk_at "x") => `(tactic| simp (disch := omega) only [MD.bind_ok, MD.bind_no, MD.bind_ex, MD.rthen_ok, MD.rthen_no, MD.rthen_ex, MD.fthen_nx, MD.fthen_rt, MD.fthen_bk, MD.fthen_ct, MD.fthen_ex, MD.fthen_no, MD.xVar, MD.xAug, MD.xFor, MD.xIr1, MD.xIr2, MD.rng1_at, MD.rng2_at, Int.toNat_natCast, Int.ofNat_eq_natCast, MD.sC, MD.sA0, MD.sA1, MD.sTup, MD.sLst, MD.sDic, MD.sDit, MD.sOp, MD.sUn, MD.sCall, MD.sOwn, MD.sSl, MD.sOn, MD.sOs, MD.sAnd, MD.sOr, MD.sNot, MD.sIf, MD.sTru, MD.sT, MD.sasB, MD.stAnd, MD.stOr, MD.stNot, MD.sYes, MD.sMt, MD.sMt0, MD.sNx, MD.sBk, MD.sCt, MD.sSq, MD.sSet, MD.sEx, MD.sRt, MD.sRtN, MD.sIfS, MD.sAsg, MD.sgN, DM.gT2, DM.gT3, MD.xGc, DM.mFn_eq, MD.xStart, MD.getR, MD.setR, MD.gc_same, MD.gcX_same, MD.gc_nf, MD.gcX_nf, MD.bddLocT, MD.bddLocF, MD.bddNon, MD.bddBl, MD.bddInt, MD.bddStr, MD.bddScr, MD.bddTup, MD.bddCon, MD.bddNil, MD.bddCons, MD.bddApp, MD.intsB, MD.bddLst, MD.bddDic, MD.bddDit, MD.bddIns, MD.bddSNil, MD.bddSCons, MD.bddSApp, DM.tDs_bdd, DM.tD_bdd, DM.kD_bdd, DM.kDs_bdd, DM.fnD_bdd, DM.fns_bdd, DM.fnL_bdd, DM.demD_bdd, List.map_cons, List.getLast?_concat, List.dropLast_concat, MD.isEmpty_app, List.isEmpty_cons, List.isEmpty_nil, List.isEmpty_map, List.isEmpty_reverse, Bool.and_false, List.map_nil, List.replicate_succ, List.replicate_zero, List.cons_append, List.nil_append, List.append_assoc, List.append_nil, List.length_cons, List.length_nil, List.length_append, List.length_map, List.length_reverse, MD.bddRev, List.getElem?_cons_succ, List.getElem?_cons_zero, MD.xset_s, MD.xset_0, List.take_succ_cons, List.take_zero, List.take_nil, Nat.sub_self, Nat.add_sub_cancel_left, Nat.add_zero, Nat.zero_add, Nat.add_assoc, Nat.reduceAdd, Nat.reduceSub, Nat.reduceLeDiff, Nat.reduceEqDiff, Nat.reduceLT, Nat.le_refl, Bool.and_true, Bool.true_and, Bool.and_self, Bool.not_true, Bool.not_false, Bool.false_eq_true, Bool.true_eq_false, if_true, if_false, if_pos, and_true, true_and, ite_true, ite_false, reduceIte, DM.ix_t0, DM.ix_t1, DM.ix_t2, DM.ix_t3, DM.len_t, DM.rev_t, DM.tup_t, DM.add_ii, DM.sub_ii, DM.tru_bl, DM.tru_t, DM.it_t, DM.chk_none, DM.sIt, DM.sIrev, MD.dLen, MD.xIxT, MD.xIxC, MD.xIxR, MD.xIxL, MD.dAppend, MD.dExtend, MD.dPop, MD.dTuple, MD.dList, MD.dRev, MD.itOf, MD.dTru, MD.isL, MD.dAdd, MD.dSub, MD.dMul, MD.dNeg, MD.dCmp, MD.dLt, MD.dLe, MD.dGt, MD.dGe, MD.dIsN, MD.dNotN, MD.Dt.isN, MD.dEq, MD.dNe, MD.dEqG, MD.eqSc, MD.dSl, MD.at0, MD.at1, MD.at2, MD.at3, MD.at4, MD.at5, MD.atN, MD.atM, DM.isi_int_int, DM.isi_str_int, DM.isi_int_str, DM.isi_str_str, DM.isi_t, DM.isi_kD, DM.isi_kS, DM.eq_ss, MD.str_eq, String.reduceEq, eq_self, decide_true, decide_false, decide_eq_true_eq, DM.eq_ii, *])
open DF (Fn drvL LK)
/-! ### sessions: how they stand, and what reads them -/
structure Nd where
  t : Tm
  kind : Str
  par : Option Nat
  kids : List Nat
  tgt : Option Nat
  unk : List Int
def onD : Option Nat → Dt
  | none => .non
  | some n => .int n
noncomputable def ndD (r : Nd) : Dt := .tup [tD r.t, .str r.kind, onD r.par, .tup (r.kids.map fun (n : Nat) => .int n), onD r.tgt, .tup (r.unk.map .int)]
def sesF (f n l : Nat) : List (Str × Dt) := [("_functions", .loc f), ("_nodes", .loc n), ("_lines", .loc l)]
structure SesAt (S : Sto) (s f n l : Nat) (fs : List Fn) (rows : List Nd) (ls : List Str) : Prop where
  wf : Wf S
  hs : S[s]? = some (.ins "Session" (sesF f n l))
  hf : DicAt S f fs
  hn : S[n]? = some (.lst (rows.map ndD))
  hl : S[l]? = some (.lst (ls.map .str))
  ne : n ≠ l
section
variable {S : Sto} {s f n l : Nat} {fs : List Fn} {rows : List Nd} {ls : List Str}
theorem SesAt.ins (h : SesAt S s f n l fs rows ls) : insOf "Session" (.loc s) S = some (s, sesF f n l) := by
  unfold insOf
  dsimp only
  rw [h.hs]
  dsimp only
  rw [if_pos rfl]
theorem SesAt.fld (h : SesAt S s f n l fs rows ls) {x : Str} {d : Dt} (e : List.lookup x (sesF f n l) = some d) {o : ME} {α : MD.Env} (ho : o α S = .ok (.loc s) S) : mFld "Session" x o α S = .ok d S := by
  unfold mFld
  rw [ho, bind_ok, h.ins]
  dsimp only
  rw [e]
theorem own1 {F : List Dt → Sto → Rs Dt} {a : Dt} : mOwn 1 F [a] S = F [a] S := rfl
theorem own2 {F : List Dt → Sto → Rs Dt} {a b : Dt} : mOwn 2 F [a, b] S = F [a, b] S := rfl
theorem own3 {F : List Dt → Sto → Rs Dt} {a b c : Dt} : mOwn 3 F [a, b, c] S = F [a, b, c] S := rfl
/-! the way up -/
def wayF (rows : List Nd) : Nat → Option Nat → List Nat
  | _, none => []
  | 0, some _ => []
  | n + 1, some p => p :: wayF rows n (match rows[p]? with | some r => r.par | none => none)
/-- parents stand before -/
def Par (rows : List Nd) : Prop := ∀ (j : Nat) (r : Nd), rows[j]? = some r → ∀ p, r.par = some p → p < j
theorem SesAt.app (h : SesAt S s f n l fs rows ls) {G : Sto} (w : Wf (S ++ G)) : SesAt (S ++ G) s f n l fs rows ls :=
  have g : ∀ {j : Nat} {c : Cell}, S[j]? = some c → (S ++ G)[j]? = some c := fun q => by
    rw [List.getElem?_append_left (List.getElem?_eq_some_iff.mp q).1, q]
  ⟨w, g h.hs, g h.hf, g h.hn, g h.hl, h.ne⟩
theorem natsB (n : Nat) (l : List Nat) : Dt.bddL n (l.map fun (n : Nat) => Dt.int n) = true := by
  induction l with
  | nil => exact bddNil
  | cons a l ih => rw [List.map_cons, bddCons, ih, bddInt]; rfl
theorem onD_bdd (n : Nat) (o : Option Nat) : (onD o).bdd n = true := by
  cases o with
  | none => exact bddNon
  | some p => exact bddInt
end
end DM

namespace DM
open PySem L2 MD
open DF (Tm)
open DF (Fn drvL LK FsD)
section
variable {S : Sto} {s f n l : Nat} {fs : List Fn} {rows : List Nd} {ls : List Str}
def kdEq (x : Str) : Dt → Bool
  | .str y => decide (x = y)
  | _ => false
/-- what the nodes on a way say: none: go on; some o: o is the answer -/
noncomputable def whR (rows : List Nd) (fs : List Fn) (t : Tm) : List Nat → Option (Option Nat)
  | [] => none
  | o :: r => match rows[o]? with
    | none => none
    | some q => if kdEq q.kind (drvKD fs t) = true ∧ LB (toAp q.t) (toAp t) = true then some (some o)
      else if kdEq "stepped" (drvKD fs t) = true ∧ q.kind = "branched" then some none else whR rows fs t r
noncomputable def whF (rows : List Nd) (fs : List Fn) (t : Tm) (l : List Nat) : Option Nat := match whR rows fs t l with
  | some o => o
  | none => none
/-- what sessions hold: small terms with small unknowns -/
def TmS (t : Tm) : Prop := t.size ≤ 6000 ∧ ∀ i : Int, (Sum.inl i : Key) ∈ t.heads → 0 ≤ i ∧ i < 100000
def RowsOk (rows : List Nd) : Prop := Par rows ∧ rows.length ≤ 90000 ∧ ∀ r ∈ rows, TmS r.t
end
end DM

namespace DM
open PySem L2 MD
open DF (Tm)
open DF (Fn drvL LK FsD)
/-! ### a node is closed -/
theorem wf_set {S : Sto} {c : Cell} {n : Nat} (h : Wf S) (hc : c.bdd S.length = true) : Wf (S.set n c) := by
  unfold Wf bddS at *
  rw [List.length_set, List.all_eq_true]
  intro x hx
  rcases List.mem_or_eq_of_mem_set hx with q | q
  · exact List.all_eq_true.mp h x q
  · rw [q]; exact hc
theorem ndD_bdd (n : Nat) (r : Nd) : (ndD r).bdd n = true := by
  have iB : ∀ l : List Int, Dt.bddL n (l.map Dt.int) = true := fun l => by
    induction l with
    | nil => exact bddNil
    | cons a l ih => rw [List.map_cons, bddCons, ih, bddInt]; rfl
  rw [ndD, bddTup, bddCons, bddCons, bddCons, bddCons, bddCons, bddCons, bddNil, tD_bdd, bddStr, onD_bdd, onD_bdd, bddTup, bddTup, natsB, iB]
  rfl
theorem rowsB (n : Nat) (l : List Nd) : Dt.bddL n (l.map ndD) = true := by
  induction l with
  | nil => exact bddNil
  | cons a l ih => rw [List.map_cons, bddCons, ih, ndD_bdd]; rfl
section
variable {S : Sto} {s f n l : Nat} {fs : List Fn} {rows : List Nd} {ls : List Str}
theorem SesAt.setN (h : SesAt S s f n l fs rows ls) (rows' : List Nd) : SesAt (S.set n (.lst (rows'.map ndD))) s f n l fs rows' ls := by
  have hn := (List.getElem?_eq_some_iff.mp h.hn).1
  have ns : n ≠ s := fun e => by have := h.hn; rw [e, h.hs] at this; cases this
  have nf : n ≠ f := fun e => by have := h.hn; rw [e, show S[f]? = _ from h.hf] at this; cases this
  exact ⟨wf_set h.wf (rowsB _ _), by rw [List.getElem?_set_ne ns, h.hs], by show (S.set n _)[f]? = _; rw [List.getElem?_set_ne nf]; exact h.hf, by rw [List.getElem?_set_self hn], by rw [List.getElem?_set_ne h.ne, h.hl], h.ne⟩
theorem SesAt.setL (h : SesAt S s f n l fs rows ls) (ls' : List Str) : SesAt (S.set l (.lst (ls'.map .str))) s f n l fs rows ls' := by
  have hl := (List.getElem?_eq_some_iff.mp h.hl).1
  have ns : l ≠ s := fun e => by have := h.hl; rw [e, h.hs] at this; cases this
  have nf : l ≠ f := fun e => by have := h.hl; rw [e, show S[f]? = _ from h.hf] at this; cases this
  exact ⟨wf_set h.wf (strsB _ _), by rw [List.getElem?_set_ne ns, h.hs], by show (S.set l _)[f]? = _; rw [List.getElem?_set_ne nf]; exact h.hf, by rw [List.getElem?_set_ne h.ne.symm, h.hn], by rw [List.getElem?_set_self hl], h.ne⟩
def newN (j : Nat) (t : Tm) : Nd := ⟨t, "open", some j, [], none, []⟩
def kidsN (a m : Nat) : List Nat := (List.range m).map fun (i : Nat) => a + i
/-- the rows when row r at j is closed -/
def clRows (rows : List Nd) (j : Nat) (r : Nd) (kind : Str) (ts : List Tm) (tgt : Option Nat) (unk : List Int) : List Nd :=
  rows.set j ⟨r.t, kind, r.par, kidsN rows.length ts.length, tgt, unk⟩ ++ ts.map (newN j)
def clo (rows : List Nd) (j : Nat) (r : Nd) (kind : Str) (ts : List Tm) (tgt : Option Nat) (unk : List Int) : Str ⊕ (List Nat × List Nd) :=
  if 40 < rows.length + ts.length then .inl "nodes"
  else if (ts.any fun t => decide (60 < t.size)) = true then .inl "size"
  else .inr (kidsN rows.length ts.length, clRows rows j r kind ts tgt unk)
noncomputable def clS (S : Sto) (n l : Nat) (rows : List Nd) (ls : List Str) : Sto := (S.set n (.lst (rows.map ndD))).set l (.lst (ls.map .str))
noncomputable def moveR (S : Sto) (n l : Nat) (ls : List Str) (line : Str) : Str ⊕ (List Nat × List Nd) → Rs Dt
  | .inl x => .ex "Refused" [("reason", .str x)] S
  | .inr (ks, rows') => .ok (.tup (ks.map fun (n : Nat) => .int n)) (clS S n l rows' (ls ++ [line]))
theorem SesAt.cl (h : SesAt S s f n l fs rows ls) (rows' : List Nd) (ls' : List Str) : SesAt (clS S n l rows' ls') s f n l fs rows' ls' := (h.setN rows').setL ls'
theorem bls_all (bs : List Bool) : mapO blO (bs.map Dt.bl) = some bs := by
  induction bs with
  | nil => rfl
  | cons b bs ih => rw [List.map_cons, mapO, blO, ih]
theorem dropX {c : Str} {xs : List (Str × Dt)} {G : Sto} (h : Wf S) (hb : Dt.bddL S.length (xs.map (·.2)) = true) : gcX S.length c xs (S ++ G) = .ex c xs S := by
  unfold gcX
  rw [List.take_left' rfl, if_pos ⟨h, hb⟩]
end
end DM

namespace DM
open PySem L2 MD
open DF (Tm)
open DF (Fn drvL LK FsD FsOk dem Dem)
section
variable {S : Sto} {s f n l : Nat} {fs : List Fn} {rows : List Nd} {ls : List Str}
noncomputable def lineN (pre : Str) (j : Nat) : Str := (Str.empty ++ pre) ++ Str.ofString (toString (j : Int))
/-! expose -/
def expOk (fs : List Fn) (t : Tm) : Bool := match t.hd with
  | .inl _ => true
  | .inr _ => match dem fs t with
    | .val => true
    | _ => false
/-- a move: what it says of the rows -/
def expM (rows : List Nd) (fs : List Fn) (j : Nat) (r : Nd) : Str ⊕ (List Nat × List Nd) :=
  if r.kind = "open" then (if expOk fs r.t = true then clo rows j r "exposed" r.t.args none [] else .inl "no value") else .inl "not open"
noncomputable def drvM (rows : List Nd) (fs : List Fn) (j : Nat) (r : Nd) : Str ⊕ (List Nat × List Nd) :=
  if r.kind = "open" then (match drvKD fs r.t with
    | .str kd => (match whF rows fs r.t (wayF rows j r.par) with
      | some _ => .inl "whistle"
      | none => clo rows j r kd (drvL fs r.t) none [])
    | _ => .inl "nothing to drive") else .inl "not open"
theorem gc_ex {m : ME} {α : MD.Env} {c : Str} {xs : List (Str × Dt)} (e : m α S = .ex c xs S) : mGc m α S = .ex c xs S := by
  unfold mGc; rw [e]
/-! drive -/
end
end DM

namespace DM
open PySem L2 MD
open DF (Tm)
open DF (Fn drvL LK FsD FsOk dem Dem)
section
variable {S : Sto} {fs : List Fn}
noncomputable def startL (t : Tm) : Str := (Str.empty ++ ("start " : Str)) ++ wtS t
def startN (t : Tm) : Nd := ⟨t, "open", none, [], none, []⟩
noncomputable def newS (S : Sto) (fs : List Fn) (t : Tm) : Sto := S ++ [Cell.ins "Session" (sesF (S.length + 1) (S.length + 2) (S.length + 3)), Cell.dic (kvF fs), Cell.lst ([startN t].map ndD), Cell.lst ([startL t].map .str)]
end
end DM

namespace DM
open PySem L2 MD
open DF (Tm)
local macro_rules | `(tactic| walk_at "x") => `(tactic| simp (disch := omega) only [MD.bind_ok, MD.bind_no, MD.bind_ex, MD.rthen_ok, MD.rthen_no, MD.rthen_ex, MD.fthen_nx, MD.fthen_rt, MD.fthen_bk, MD.fthen_ct, MD.fthen_ex, MD.fthen_no, MD.xVar, MD.xAug, MD.xFor, MD.xIr1, MD.xIr2, MD.rng1_at, MD.rng2_at, Int.toNat_natCast, Int.ofNat_eq_natCast, MD.sC, MD.sA0, MD.sA1, MD.sTup, MD.sLst, MD.sDic, MD.sDit, MD.sOp, MD.sUn, MD.sCall, MD.sOwn, MD.sSl, MD.sOn, MD.sOs, MD.sAnd, MD.sOr, MD.sNot, MD.sIf, MD.sTru, MD.sT, MD.sasB, MD.stAnd, MD.stOr, MD.stNot, MD.sYes, MD.sMt, MD.sMt0, MD.sNx, MD.sBk, MD.sCt, MD.sSq, MD.sSet, MD.sEx, MD.sRt, MD.sRtN, MD.sIfS, MD.sAsg, MD.sgN, DM.gT2, DM.gT3, MD.xGc, DM.mFn_eq, MD.xStart, MD.getR, MD.setR, MD.gc_same, MD.gcX_same, MD.gc_nf, MD.gcX_nf, MD.bddLocT, MD.bddLocF, MD.bddNon, MD.bddBl, MD.bddInt, MD.bddStr, MD.bddScr, MD.bddTup, MD.bddCon, MD.bddNil, MD.bddCons, MD.bddApp, MD.intsB, MD.bddLst, MD.bddDic, MD.bddDit, MD.bddIns, MD.bddSNil, MD.bddSCons, MD.bddSApp, DM.tDs_bdd, DM.tD_bdd, DM.kD_bdd, DM.kDs_bdd, DM.fnD_bdd, DM.fns_bdd, DM.fnL_bdd, DM.demD_bdd, List.map_cons, List.getLast?_concat, List.dropLast_concat, MD.isEmpty_app, List.isEmpty_cons, List.isEmpty_nil, List.isEmpty_map, List.isEmpty_reverse, Bool.and_false, List.map_nil, List.replicate_succ, List.replicate_zero, List.cons_append, List.nil_append, List.append_assoc, List.append_nil, List.length_cons, List.length_nil, List.length_append, List.length_map, List.length_reverse, MD.bddRev, List.getElem?_cons_succ, List.getElem?_cons_zero, MD.xset_s, MD.xset_0, List.take_succ_cons, List.take_zero, List.take_nil, Nat.sub_self, Nat.add_sub_cancel_left, Nat.add_zero, Nat.zero_add, Nat.add_assoc, Nat.reduceAdd, Nat.reduceSub, Nat.reduceLeDiff, Nat.reduceEqDiff, Nat.reduceLT, Nat.le_refl, Bool.and_true, Bool.true_and, Bool.and_self, Bool.not_true, Bool.not_false, Bool.false_eq_true, Bool.true_eq_false, if_true, if_false, if_pos, and_true, true_and, ite_true, ite_false, reduceIte, DM.ix_t0, DM.ix_t1, DM.ix_t2, DM.ix_t3, DM.len_t, DM.rev_t, DM.tup_t, DM.add_ii, DM.sub_ii, DM.tru_bl, DM.tru_t, DM.it_t, DM.chk_none, DM.sIt, DM.sIrev, MD.dLen, MD.xIxT, MD.xIxC, MD.xIxR, MD.xIxL, MD.dAppend, MD.dExtend, MD.dPop, MD.dTuple, MD.dList, MD.dRev, MD.itOf, MD.dTru, MD.isL, MD.dAdd, MD.dSub, MD.dMul, MD.dNeg, MD.dCmp, MD.dLt, MD.dLe, MD.dGt, MD.dGe, MD.dIsN, MD.dNotN, MD.Dt.isN, MD.dEq, MD.dNe, MD.dEqG, MD.eqSc, MD.dSl, MD.at0, MD.at1, MD.at2, MD.at3, MD.at4, MD.at5, MD.atN, MD.atM, DM.isi_int_int, DM.isi_str_int, DM.isi_int_str, DM.isi_str_str, DM.isi_t, DM.isi_kD, DM.isi_kS, DM.eq_ss, MD.str_eq, String.reduceEq, eq_self, decide_true, decide_false, decide_eq_true_eq, DM.eq_ii, *])
/-! ### the shapes of two terms compared -/
/-- the rows of two terms' meetings: the next first (the stack's last) -/
noncomputable def rowM (r : Tm × Tm × Nat) : Dt := .tup [tD r.1, tD r.2.1, .int (r.2.2 : Int)]
noncomputable def prD (p : Tm × Tm) : Dt := .tup [tD p.1, tD p.2]
def kidsM (p t : Tm) : List (Tm × Tm) := p.args.reverse.zip t.args.reverse
end DM

namespace DM
open PySem L2 MD
open DF (Tm)
end DM

namespace DM
open PySem L2 MD
open DF (Tm)
local macro_rules | `(tactic| walk_at "x") => `(tactic| simp (disch := omega) only [MD.bind_ok, MD.bind_no, MD.bind_ex, MD.rthen_ok, MD.rthen_no, MD.rthen_ex, MD.fthen_nx, MD.fthen_rt, MD.fthen_bk, MD.fthen_ct, MD.fthen_ex, MD.fthen_no, MD.xVar, MD.xAug, MD.xFor, MD.xIr1, MD.xIr2, MD.rng1_at, MD.rng2_at, Int.toNat_natCast, Int.ofNat_eq_natCast, MD.sC, MD.sA0, MD.sA1, MD.sTup, MD.sLst, MD.sDic, MD.sDit, MD.sOp, MD.sUn, MD.sCall, MD.sOwn, MD.sSl, MD.sOn, MD.sOs, MD.sAnd, MD.sOr, MD.sNot, MD.sIf, MD.sTru, MD.sT, MD.sasB, MD.stAnd, MD.stOr, MD.stNot, MD.sYes, MD.sMt, MD.sMt0, MD.sNx, MD.sBk, MD.sCt, MD.sSq, MD.sSet, MD.sEx, MD.sRt, MD.sRtN, MD.sIfS, MD.sAsg, MD.sgN, DM.gT2, DM.gT3, MD.xGc, DM.mFn_eq, MD.xStart, MD.getR, MD.setR, MD.gc_same, MD.gcX_same, MD.gc_nf, MD.gcX_nf, MD.bddLocT, MD.bddLocF, MD.bddNon, MD.bddBl, MD.bddInt, MD.bddStr, MD.bddScr, MD.bddTup, MD.bddCon, MD.bddNil, MD.bddCons, MD.bddApp, MD.intsB, MD.bddLst, MD.bddDic, MD.bddDit, MD.bddIns, MD.bddSNil, MD.bddSCons, MD.bddSApp, DM.tDs_bdd, DM.tD_bdd, DM.kD_bdd, DM.kDs_bdd, DM.fnD_bdd, DM.fns_bdd, DM.fnL_bdd, DM.demD_bdd, List.map_cons, List.getLast?_concat, List.dropLast_concat, MD.isEmpty_app, List.isEmpty_cons, List.isEmpty_nil, List.isEmpty_map, List.isEmpty_reverse, Bool.and_false, List.map_nil, List.replicate_succ, List.replicate_zero, List.cons_append, List.nil_append, List.append_assoc, List.append_nil, List.length_cons, List.length_nil, List.length_append, List.length_map, List.length_reverse, MD.bddRev, List.getElem?_cons_succ, List.getElem?_cons_zero, MD.xset_s, MD.xset_0, List.take_succ_cons, List.take_zero, List.take_nil, Nat.sub_self, Nat.add_sub_cancel_left, Nat.add_zero, Nat.zero_add, Nat.add_assoc, Nat.reduceAdd, Nat.reduceSub, Nat.reduceLeDiff, Nat.reduceEqDiff, Nat.reduceLT, Nat.le_refl, Bool.and_true, Bool.true_and, Bool.and_self, Bool.not_true, Bool.not_false, Bool.false_eq_true, Bool.true_eq_false, if_true, if_false, if_pos, and_true, true_and, ite_true, ite_false, reduceIte, DM.ix_t0, DM.ix_t1, DM.ix_t2, DM.ix_t3, DM.len_t, DM.rev_t, DM.tup_t, DM.add_ii, DM.sub_ii, DM.tru_bl, DM.tru_t, DM.it_t, DM.chk_none, DM.sIt, DM.sIrev, MD.dLen, MD.xIxT, MD.xIxC, MD.xIxR, MD.xIxL, MD.dAppend, MD.dExtend, MD.dPop, MD.dTuple, MD.dList, MD.dRev, MD.itOf, MD.dTru, MD.isL, MD.dAdd, MD.dSub, MD.dMul, MD.dNeg, MD.dCmp, MD.dLt, MD.dLe, MD.dGt, MD.dGe, MD.dIsN, MD.dNotN, MD.Dt.isN, MD.dEq, MD.dNe, MD.dEqG, MD.eqSc, MD.dSl, MD.at0, MD.at1, MD.at2, MD.at3, MD.at4, MD.at5, MD.atN, MD.atM, DM.isi_int_int, DM.isi_str_int, DM.isi_int_str, DM.isi_str_str, DM.isi_t, DM.isi_kD, DM.isi_kS, DM.eq_ss, MD.str_eq, String.reduceEq, eq_self, decide_true, decide_false, decide_eq_true_eq, DM.eq_ii, *])
/-- the rows of meetings, next first -/
def mtL : Nat → List (Tm × Tm) → List (Tm × Tm × Nat)
  | 0, _ => []
  | _ + 1, [] => []
  | n + 1, (p, t) :: rest => (p.front (DF.cnt p t), t.front (DF.cnt p t), DF.cnt p t) :: mtL n (DF.kids p t ++ rest)
def wtP (st : List (Tm × Tm)) : Nat := Tm.sizeL (st.map (·.1))
end DM

namespace DM
open PySem L2 MD
open DF (Tm)
noncomputable def meetL (p t : Tm) : List (Tm × Tm × Nat) := mtL (p.size + 1) [(p, t)]
end DM

namespace DM
open PySem L2 MD
open DF (Tm)
open DF (KOk)
end DM

namespace DM
open PySem L2 MD
open DF (Tm)
end DM

namespace DM
open PySem L2 MD
open DF (Tm)
open Classical in
noncomputable def pix (P : List (Tm × Tm)) (q : Tm × Tm) : Nat := P.findIdx fun x => decide (x = q)
def KeepP (a b : Tm) : Prop := (∃ x, a.hd = .inr x) ∧ a = b
open Classical in
/-- what generalize makes of the rows: rows for assembled, and the pairs -/
noncomputable def gnS : List (Tm × Tm × Nat) → List (Tm × Nat) → List (Tm × Tm) → List (Tm × Nat) × List (Tm × Tm)
  | [], R, P => (R, P)
  | (a, b, c) :: r, R, P => if KeepP a b then gnS r (R ++ [(a, c)]) P else
    if (a, b) ∈ P then gnS r (R ++ [(.mk (.inl (pix P (a, b) : Int)) [], c)]) P else gnS r (R ++ [(.mk (.inl (P.length : Int)) [], c)]) (P ++ [(a, b)])
def sw (x : Tm × Tm) : Tm × Tm := (x.2, x.1)
end DM

namespace DM
open PySem L2 MD
open DF (Tm)
end DM

namespace DM
open PySem L2 MD
open DF (Tm)
open DF (enumP)
/-! ### the term that generalize makes, by the final pairs -/
open Classical in
noncomputable def rwP (P : List (Tm × Tm)) (a b : Tm) : Tm := if KeepP a b then a else .mk (.inl (pix P (a, b) : Int)) []
noncomputable def genF (P : List (Tm × Tm)) : Nat → Tm → Tm → Tm
  | 0, p, _ => p
  | n + 1, p, t => (rwP P (p.front (DF.cnt p t)) (t.front (DF.cnt p t))).appl ((DF.kids p t).map fun x => genF P n x.1 x.2)
noncomputable def gen (P : List (Tm × Tm)) (p t : Tm) : Tm := genF P p.size p t
noncomputable def rowsP (P : List (Tm × Tm)) (r : List (Tm × Tm × Nat)) : List (Tm × Nat) := r.map fun x => (rwP P x.1 x.2.1, x.2.2)
/-! ### the rows that generalize makes -/
/-! ### each part makes its side -/
end DM

namespace DM
open PySem L2 MD
open DF (Tm)
def unkI : Key → Option Int
  | .inl i => some i
  | .inr _ => none
/-! ### what match makes of the rows -/
open Classical in
noncomputable def mtS : List (Tm × Tm) → List (Int × Tm) → Option (List (Int × Tm))
  | [], ps => some ps
  | (m, q) :: r, ps => match DF.lone m with
    | some i => match DF.look ps (.inl i) with
      | some w => if w = q then mtS r ps else none
      | none => mtS r (ps ++ [(i, q)])
    | none => if m = q then mtS r ps else none
/-- what match gives -/
noncomputable def mtch (p t : Tm) : Option (List (Int × Tm)) := mtS ((meetL p t).map fun r => (r.1, r.2.1)) []
end DM

namespace DM
open PySem L2 MD
open DF (Tm)
local macro_rules | `(tactic| walk_at "x") => `(tactic| simp (disch := omega) only [MD.bind_ok, MD.bind_no, MD.bind_ex, MD.rthen_ok, MD.rthen_no, MD.rthen_ex, MD.fthen_nx, MD.fthen_rt, MD.fthen_bk, MD.fthen_ct, MD.fthen_ex, MD.fthen_no, MD.xVar, MD.xAug, MD.xFor, MD.xIr1, MD.xIr2, MD.rng1_at, MD.rng2_at, Int.toNat_natCast, Int.ofNat_eq_natCast, MD.sC, MD.sA0, MD.sA1, MD.sTup, MD.sLst, MD.sDic, MD.sDit, MD.sOp, MD.sUn, MD.sCall, MD.sOwn, MD.sSl, MD.sOn, MD.sOs, MD.sAnd, MD.sOr, MD.sNot, MD.sIf, MD.sTru, MD.sT, MD.sasB, MD.stAnd, MD.stOr, MD.stNot, MD.sYes, MD.sMt, MD.sMt0, MD.sNx, MD.sBk, MD.sCt, MD.sSq, MD.sSet, MD.sEx, MD.sRt, MD.sRtN, MD.sIfS, MD.sAsg, MD.sgN, DM.gT2, DM.gT3, MD.xGc, DM.mFn_eq, MD.xStart, MD.getR, MD.setR, MD.gc_same, MD.gcX_same, MD.gc_nf, MD.gcX_nf, MD.bddLocT, MD.bddLocF, MD.bddNon, MD.bddBl, MD.bddInt, MD.bddStr, MD.bddScr, MD.bddTup, MD.bddCon, MD.bddNil, MD.bddCons, MD.bddApp, MD.intsB, MD.bddLst, MD.bddDic, MD.bddDit, MD.bddIns, MD.bddSNil, MD.bddSCons, MD.bddSApp, DM.tDs_bdd, DM.tD_bdd, DM.kD_bdd, DM.kDs_bdd, DM.fnD_bdd, DM.fns_bdd, DM.fnL_bdd, DM.demD_bdd, List.map_cons, List.getLast?_concat, List.dropLast_concat, MD.isEmpty_app, List.isEmpty_cons, List.isEmpty_nil, List.isEmpty_map, List.isEmpty_reverse, Bool.and_false, List.map_nil, List.replicate_succ, List.replicate_zero, List.cons_append, List.nil_append, List.append_assoc, List.append_nil, List.length_cons, List.length_nil, List.length_append, List.length_map, List.length_reverse, MD.bddRev, List.getElem?_cons_succ, List.getElem?_cons_zero, MD.xset_s, MD.xset_0, List.take_succ_cons, List.take_zero, List.take_nil, Nat.sub_self, Nat.add_sub_cancel_left, Nat.add_zero, Nat.zero_add, Nat.add_assoc, Nat.reduceAdd, Nat.reduceSub, Nat.reduceLeDiff, Nat.reduceEqDiff, Nat.reduceLT, Nat.le_refl, Bool.and_true, Bool.true_and, Bool.and_self, Bool.not_true, Bool.not_false, Bool.false_eq_true, Bool.true_eq_false, if_true, if_false, if_pos, and_true, true_and, ite_true, ite_false, reduceIte, DM.ix_t0, DM.ix_t1, DM.ix_t2, DM.ix_t3, DM.len_t, DM.rev_t, DM.tup_t, DM.add_ii, DM.sub_ii, DM.tru_bl, DM.tru_t, DM.it_t, DM.chk_none, DM.sIt, DM.sIrev, MD.dLen, MD.xIxT, MD.xIxC, MD.xIxR, MD.xIxL, MD.dAppend, MD.dExtend, MD.dPop, MD.dTuple, MD.dList, MD.dRev, MD.itOf, MD.dTru, MD.isL, MD.dAdd, MD.dSub, MD.dMul, MD.dNeg, MD.dCmp, MD.dLt, MD.dLe, MD.dGt, MD.dGe, MD.dIsN, MD.dNotN, MD.Dt.isN, MD.dEq, MD.dNe, MD.dEqG, MD.eqSc, MD.dSl, MD.at0, MD.at1, MD.at2, MD.at3, MD.at4, MD.at5, MD.atN, MD.atM, DM.isi_int_int, DM.isi_str_int, DM.isi_int_str, DM.isi_str_str, DM.isi_t, DM.isi_kD, DM.isi_kS, DM.eq_ss, MD.str_eq, String.reduceEq, eq_self, decide_true, decide_false, decide_eq_true_eq, DM.eq_ii, *])
open DF (KOk)
def kvT (ps : List (Int × Tm)) : List (Key × Dt) := ps.map fun p => ((Sum.inl p.1 : Key), tD p.2)
theorem getA {S G : Sto} {n : Nat} : (S ++ G)[S.length + n]? = G[n]? := by rw [List.getElem?_append_right (by omega), Nat.add_sub_cancel_left]
open Classical in
noncomputable def wantM (ps : List (Int × Tm)) (m q : Tm) : Tm := match DF.lone m with
  | some i => (DF.look ps (.inl i)).getD q
  | none => m
noncomputable def nextM (ps : List (Int × Tm)) (m q : Tm) : List (Int × Tm) := match DF.lone m with
  | some i => match DF.look ps (.inl i) with
    | some _ => ps
    | none => ps ++ [(i, q)]
  | none => ps
noncomputable def mtD : Option (List (Int × Tm)) → Dt
  | some ps => .tup (ps.map partT)
  | none => .non
end DM

namespace DM
open PySem L2 MD
open DF (Tm)
open DF (Fn drvL LK FsD FsOk dem Dem KOk)
section
variable {S : Sto} {s f n l : Nat} {fs : List Fn} {rows : List Nd} {ls : List Str}
/-! no node -/
/-! open nodes -/
def opnL (rows : List Nd) : List Nat := (List.range rows.length).filter fun j => match rows[j]? with
  | some r => decide (r.kind = "open")
  | none => false
/-! leave -/
def levM (rows : List Nd) (j : Nat) (r : Nd) : Str ⊕ (List Nat × List Nd) :=
  if r.kind = "open" then clo rows j r "left" [] none [] else .inl "not open"
/-! fold -/
noncomputable def fldL (p t : Tm) : Option (List Tm) := (mtch p t).map fun ps => (ps.filter fun q => !(DF.lone q.2).isSome).map (·.2)
end
end DM

namespace DM
open PySem L2 MD
open DF (Tm)
open DF (Fn drvL LK FsD FsOk dem Dem KOk)
section
variable {S : Sto} {s f n l : Nat} {fs : List Fn} {rows : List Nd} {ls : List Str}
/-! texts of pieces -/
noncomputable def foldLine (j o : Nat) : Str := (((Str.empty ++ ("fold " : Str)) ++ Str.ofString (toString (j : Int))) ++ (" " : Str)) ++ Str.ofString (toString (o : Int))
/-! fold -/
def drvnB (x : Str) : Bool := inD (.str x) [.str "stepped", .str "branched"]
noncomputable def fldM (rows : List Nd) (j : Nat) (r : Nd) (o : Nat) (q : Nd) : Str ⊕ (List Nat × List Nd) :=
  if r.kind = "open" then (if drvnB q.kind = true then (match fldL q.t r.t with
    | some ts => clo rows j r "folded" ts (some o) []
    | none => .inl "no instance") else .inl "not driven") else .inl "not open"
/-! split: its unknowns -/
end
end DM

namespace DM
open PySem L2 MD
open DF (Tm)
open DF (Fn drvL LK FsD FsOk dem Dem KOk)
section
variable {S : Sto} {s f n l : Nat} {fs : List Fn} {rows : List Nd} {ls : List Str}
noncomputable def unkD (t : Tm) : List Dt := (DF.dedup (t.heads.filter isUnkK)).map kD
noncomputable def newB (t b : Tm) (ns : List Int) : Bool := !ns.isEmpty && !decide (metN ns < ns.length) && ns.all fun i => inD (.int i) (unkD b) && !inD (.int i) (unkD t)
/-! the terms of a split -/
open Classical in
noncomputable def splT (t b : Tm) (ps : List (Int × Tm)) : Str ⊕ List Tm :=
  if newB t b (ps.map (·.1)) = true then (if b.put ps = t then
    (if ((b :: ps.map (·.2)).any fun u => decide (t.size ≤ u.size)) = true then .inl "not smaller" else .inr (b :: ps.map (·.2)))
    else .inl "not the term") else .inl "unknowns"
end
end DM

namespace DM
open PySem L2 MD
open DF (Tm)
open DF (Fn drvL LK FsD FsOk dem Dem KOk)
section
variable {S : Sto} {s f n l : Nat} {fs : List Fn} {rows : List Nd} {ls : List Str}
noncomputable def toldP (q : Int × Tm) : Str := (((Str.empty ++ (" | ?" : Str)) ++ Str.ofString (toString q.1)) ++ (" = " : Str)) ++ wtS q.2
noncomputable def splM (rows : List Nd) (j : Nat) (r : Nd) (b : Tm) (ps : List (Int × Tm)) : Str ⊕ (List Nat × List Nd) :=
  if r.kind = "open" then (match splT r.t b ps with
    | .inl x => .inl x
    | .inr ts => clo rows j r "split" ts none (ps.map (·.1))) else .inl "not open"
noncomputable def spLine (j : Nat) (b : Tm) (told : Str) : Str := ((((Str.empty ++ ("split " : Str)) ++ Str.ofString (toString (j : Int))) ++ (" " : Str)) ++ wtS b) ++ told
noncomputable def splitLine (j : Nat) (b : Tm) (ps : List (Int × Tm)) : Str := spLine j b (Txt.join ("" : Str) (ps.map toldP))
end
end DM

namespace DM
open PySem L2 MD
open DF (Tm)
open DF (Fn drvL LK FsD FsOk dem Dem KOk getF byCs unf PgOk learnP top stepOf enumP lones)
/-! ### what stays true of a session's rows -/
def GK (B : Int) : Key → Prop
  | .inl i => 0 ≤ i ∧ i < B
  | .inr x => x.length ≤ 20 ∧ PyData.strOk x = true
theorem GK.up {B C : Int} (h : B ≤ C) {k : Key} (g : GK B k) : GK C k := by
  cases k with
  | inl i => exact ⟨g.1, Int.lt_of_lt_of_le g.2 h⟩
  | inr x => exact g
theorem GK.hg {B : Int} (hB : B ≤ 100000000) {t : Tm} (g : t.All (GK B)) : t.All HG := fun k hk => by
  have := g k hk
  cases k with
  | inl i => exact ⟨this.1, Int.lt_of_lt_of_le this.2 hB⟩
  | inr x => exact this.1
theorem GK.int {B : Int} (hB : B ≤ 100000) {t : Tm} (g : t.All (GK B)) (i : Int) (hi : (Sum.inl i : Key) ∈ t.heads) : 0 ≤ i ∧ i < 100000 := by
  have := g _ hi
  exact ⟨this.1, Int.lt_of_lt_of_le this.2 hB⟩
theorem name_gk {B : Int} {x : Str} (h : x ∈ DF.progNames) : GK B (.inr x) := by
  have : ∀ x ∈ DF.progNames, x.length ≤ 20 ∧ PyData.strOk x = true := by decide +kernel
  exact this x h
theorem PK.gk {n : Nat} {B : Int} (h : (n : Int) ≤ B) : ∀ {k : Key}, DF.PK n k → GK B k
  | .inl i, g => ⟨g.1, Int.lt_of_lt_of_le g.2 h⟩
  | .inr x, g => name_gk g
theorem LK.gk {n B : Int} (h : n ≤ B) : ∀ {k : Key}, LK n k → GK B k
  | .inl i, g => ⟨g.1, Int.lt_of_lt_of_le g.2 h⟩
  | .inr x, g => name_gk (List.mem_append_left _ g)
def BodP (fs : List Fn) (P : Key → Prop) : Prop := (∀ x n b, Fn.plain x n b ∈ fs → b.All P) ∧ ∀ x n rs, Fn.cases x n rs ∈ fs → ∀ r ∈ rs, r.2.2.All P ∧ P (.inr r.1)
/-! the rows stay good -/
def bndR (m : Nat) : Int := 200 + 10 * (m : Int)
structure SesOk (rows : List Nd) : Prop where
  par : Par rows
  len : rows.length ≤ 40
  al : ∀ r ∈ rows, r.t.All (GK (bndR rows.length)) ∧ r.t.size ≤ 100
theorem SesOk.rows {rows : List Nd} (h : SesOk rows) : RowsOk rows := ⟨h.par, by have := h.len; omega, fun r hr => ⟨by have := (h.al r hr).2; omega, GK.int (by have := h.len; unfold bndR; omega) (h.al r hr).1⟩⟩
end DM

namespace DM
open PySem L2 MD
open DF (Tm)
open DF (Fn drvL LK FsD FsOk dem Dem KOk)
/-! ### _law_split: what it draws -/
section
variable {S0 : Sto} {tp nl : Nat} {zs : List Int} {sd a0 : Int}
structure SQ (S0 : Sto) (tp nl : Nat) (sd : Int) (Z : Sto) (a : Int) (A P : Nat) (as : List Tm) (ps : List (Int × Tm)) : Prop where
  e : ∃ G, Z = S0.set tp (tpc a nl sd) ++ G
  wf : Wf Z
  p : 0 ≤ a
  hA : S0.length ≤ A
  hP : S0.length ≤ P
  ne : A ≠ P
  gA : Z[A]? = some (Cell.lst (as.map tD))
  gP : Z[P]? = some (Cell.lst (ps.map partT))
variable {Z : Sto} {a : Int} {A P : Nat} {as : List Tm} {ps : List (Int × Tm)}
theorem tmsB (n : Nat) (l : List Tm) : Dt.bddL n (l.map tD) = true := by
  induction l with
  | nil => exact bddNil
  | cons a l ih => rw [List.map_cons, bddCons, ih, tD_bdd]; rfl
theorem SQ.tape (q : SQ S0 tp nl sd Z a A P as ps) (h : TpAt S0 tp nl zs sd a0) : TpAt Z tp nl zs sd a := by
  obtain ⟨G, rfl⟩ := q.e
  exact (h.set q.p).app G
/-- what a split of t is like -/
structure SpG (Pd : Key → Prop) (t b : Tm) (ps : List (Int × Tm)) : Prop where
  b1 : b.All Pd
  b2 : b.size ≤ t.size
  l : ps.length ≤ t.size
  g : ∀ p ∈ ps, (0 ≤ p.1 ∧ p.1 < 200) ∧ p.2.All Pd ∧ p.2.size ≤ t.size
def SpR (Pd : Key → Prop) (S0 : Sto) (tp nl : Nat) (sd : Int) (t : Tm) (r : Rs Dt) : Prop := ∃ (b : Tm) (ps : List (Int × Tm)) (a' : Int), r = .ok (.tup [tD b, .tup (ps.map partT)]) (S0.set tp (tpc a' nl sd)) ∧ 0 ≤ a' ∧ SpG Pd t b ps
theorem append_eq {Z : Sto} {A : Nat} {l : List Dt} {d : Dt} {α : MD.Env} {o m : ME} (ho : o α Z = .ok (.loc A) Z) (hm : m α Z = .ok d Z) (g : Z[A]? = some (Cell.lst l)) (hl : l.length < 1000000) : mEx (mGc (mMt dAppend o (mA1 m mA0))) α Z = .nx α (Z.set A (Cell.lst (l ++ [d]))) := by
  have isl : isL (.loc A) Z = true := by
    unfold isL
    dsimp only
    rw [g]
  rw [sEx, sGc (by
    rw [sMt, ho, bind_ok, if_pos isl, sA1, hm, bind_ok, sA0, bind_ok, bind_ok]
    unfold dAppend
    dsimp only
    rw [g]
    dsimp only
    rw [if_pos hl]), gc_set, rthen_ok]
noncomputable def spB (R : List Dt → Sto → Rs Dt) (k : Nat) : MS := mIfS (mtAnd (mT (mOp dGt (mCall dLen (mA1 (mOp dIx (mVar 5) (mC (.int 1))) mA0)) (mC (.int 0)))) (mtAnd (mT (mOp dEq (mCall dLen (mA1 (mVar 4) mA0)) (mC (.int 0)))) (mT (mOp dEq (mCall (mOwn 2 (M_g_next (k + 1))) (mA1 (mVar 0) (mA1 (mC (.int 2)) mA0))) (mC (.int 0)))))) (mSq (mSet 6 (mGc (mCall (mOwn 2 R) (mA1 (mVar 0) (mA1 (mVar 5) mA0)))))
      (mSq (mEx (mGc (mMt dAppend (mVar 3) (mA1 (mOp dIx (mVar 6) (mC (.int 0))) mA0))))
      (mSet 4 (mGc (mOp dAdd (mVar 4) (mCall dList (mA1 (mOp dIx (mVar 6) (mC (.int 1))) mA0))))))) (mIfS (mtAnd (mtOr (mT (mOp dGt (mCall dLen (mA1 (mOp dIx (mVar 5) (mC (.int 1))) mA0)) (mC (.int 0)))) (mTru (mCall dIsi (mA1 (mOp dIx (mVar 5) (mC (.int 0))) (mA1 (mC (.ty "str")) mA0))))) (mT (mOp dGt (mCall (mOwn 2 (M_g_next (k + 1))) (mA1 (mVar 0) (mA1 (mC (.int 3)) mA0))) (mC (.int 0))))) (mSq (mEx (mGc (mMt dAppend (mVar 3) (mA1 (mTup (mA1 (mOp dAdd (mOp dAdd (mVar 2) (mCall dLen (mA1 (mVar 4) mA0))) (mC (.int 5))) (mA1 (mTup mA0) mA0))) mA0))))
      (mEx (mGc (mMt dAppend (mVar 4) (mA1 (mTup (mA1 (mOp dAdd (mOp dAdd (mVar 2) (mCall dLen (mA1 (mVar 4) mA0))) (mC (.int 5))) (mA1 (mVar 5) mA0))) mA0))))) (mEx (mGc (mMt dAppend (mVar 3) (mA1 (mVar 5) mA0)))))
end
end DM

namespace DM
open PySem L2 MD
open DF (Tm)
open DF (LK KOk)
/-! ### the least numbers that a term has not -/
noncomputable def frL (t : Tm) (m : Nat) : List Nat := (List.range m).filter fun i => !inD (.int (i : Int)) (unkD t)
noncomputable def nthF (t : Tm) (c : Nat) : Nat := (frL t 1000).getD c 0
/-- what stands for the ends, and the parts -/
noncomputable def nmF (t : Tm) : List Tm → Nat → List Tm × List (Int × Tm)
  | [], _ => ([], [])
  | e :: es, c => if (DF.lone e).isSome = true then (e :: (nmF t es c).1, (nmF t es c).2) else (.mk (.inl (nthF t c : Int)) [] :: (nmF t es (c + 1)).1, ((nthF t c : Int), e) :: (nmF t es (c + 1)).2)
end DM

namespace DM
open PySem L2 MD
open DF (Tm)
open DF (LK KOk)
section
variable {S : Sto}
noncomputable def nmS (S : Sto) (F : List Nat) (as : List Tm) (ps : List (Int × Tm)) : Sto := S ++ [Cell.lst (F.map fun (n : Nat) => .int n), Cell.lst (as.map tD), Cell.lst (ps.map partT)]
variable {F : List Nat} {as : List Tm} {ps : List (Int × Tm)}
end
end DM

namespace DM
open PySem L2 MD
open DF (Tm)
open DF (LK lawNames progNames KOk Fn drvL FsD FsOk dem Dem PgOk)
/-! ### heads of sessions: unknowns below 10^8 and the names of drawn programs; their texts tell them apart -/
def GX : Key → Prop
  | .inl i => 0 ≤ i ∧ i < 100000000
  | .inr x => x ∈ progNames
def dgs (n : Nat) : List Nat := (Nat.toDigits 10 n).map Char.toNat
theorem char_inj {a b : Char} (h : a.toNat = b.toNat) : a = b := Char.toNat_inj.mp h
theorem dgs_dig {n c : Nat} (h : c ∈ dgs n) : 48 ≤ c ∧ c ≤ 57 := by
  obtain ⟨d, hd, rfl⟩ := List.mem_map.mp h
  have := Nat.isDigit_of_mem_toDigits (by decide) (by decide) hd
  unfold Char.isDigit at this
  rw [Bool.and_eq_true, decide_eq_true_eq, decide_eq_true_eq] at this
  exact ⟨this.1, this.2⟩
theorem int_cps {i : Int} (h : 0 ≤ i) : (Str.ofString (toString i)).cps.toList = dgs i.toNat := by
  obtain ⟨n, rfl⟩ : ∃ n : Nat, i = n := ⟨i.toNat, by omega⟩
  rw [Str.ofString_eq_byList]
  show (((toString (n : Int)).toList.map Char.toNat).toArray).toList = _
  rw [List.toList_toArray, show toString (n : Int) = n.repr from rfl, Nat.repr_eq_ofList_toDigits, String.toList_ofList, Int.toNat_natCast]
  rfl
theorem cps_app (a b : Str) : (a ++ b).cps.toList = a.cps.toList ++ b.cps.toList := by
  show (a.cps ++ b.cps).toList = _
  rw [Array.toList_append]
theorem hcs_inl {i : Int} (h : 0 ≤ i) : hcs (.inl i) = 63 :: dgs i.toNat := by
  show ((Str.empty ++ ("?" : Str)) ++ Str.ofString (toString i)).cps.toList = _
  rw [cps_app, int_cps h, show (Str.empty ++ ("?" : Str)).cps.toList = [63] by decide +kernel]
  rfl
theorem pnames_ok : ∀ x ∈ progNames, x.cps.toList ≠ [] ∧ (∀ c ∈ x.cps.toList, c ≠ 32 ∧ c ≠ 40 ∧ c ≠ 41 ∧ c ≠ 10) ∧ x.cps.toList.head? ≠ some 63 ∧ x.length ≤ 20 ∧ PyData.strOk x = true := by decide +kernel
theorem GX.hg {t : Tm} (h : t.All GX) : t.All HG := fun k hk => by
  have := h k hk
  cases k with
  | inl i => exact this
  | inr x => exact (pnames_ok x this).2.2.2.1
/-! no line's end -/
def NoNl (x : Str) : Prop := ∀ c ∈ x.cps.toList, c ≠ 10
theorem NoNl.app {a b : Str} (ha : NoNl a) (hb : NoNl b) : NoNl (a ++ b) := fun c hc => by
  rw [cps_app] at hc
  rcases List.mem_append.mp hc with hc | hc
  · exact ha c hc
  · exact hb c hc
end DM

namespace DM
open PySem L2 MD
open DF (Tm)
/-! ### how often a line's end stands in a text -/
def nlc (l : List Nat) : Nat := (l.filter fun c => c == 10).length
end DM

namespace DM
open PySem L2 MD
open DF (Tm)
open DF (Fn drvL LK FsD FsOk dem Dem KOk PgOk)
/-! ### journals -/
/-- lines as they stand in a journal -/
def LsOk (ls : List Str) : Prop := ∀ x ∈ ls, x.length ≤ 250000 ∧ NoNl x
noncomputable def addNl (x : Str) : Str := (Str.empty ++ x) ++ ("\n" : Str)
noncomputable def jnl (ls : List Str) : Str := Txt.join ("" : Str) (ls.map addNl)
section
variable {S : Sto} {s f n l : Nat} {fs : List Fn} {rows : List Nd} {ls : List Str}
end
end DM

namespace DM
open PySem L2 MD
open DF (Tm)
open DF (KOk LK)
noncomputable def keyP (q : Tm × Tm) : List Key := [.inr (wtS q.1), .inr (wtS q.2)]
noncomputable def keyD (q : Tm × Tm) : Dt := .tup [.str (wtS q.1), .str (wtS q.2)]
noncomputable def numsD : Nat → List (Tm × Tm) → List (List Key × Dt)
  | _, [] => []
  | n, q :: P => (keyP q, .int (n : Int)) :: numsD (n + 1) P
def PairOk (q : Tm × Tm) : Prop := q.1.All GX ∧ q.2.All GX
noncomputable abbrev gSt (S : Sto) (R : List (Tm × Nat)) (N P Q : List (Tm × Tm)) (M : List Dt) : Sto := S ++ [Cell.lst (R.map rowT), Cell.dit (numsD 0 N), Cell.lst (P.map fun q => tD q.1), Cell.lst (Q.map fun q => tD q.2), Cell.lst M]
theorem g0 {S : Sto} {R : List (Tm × Nat)} {N P Q : List (Tm × Tm)} {M : List Dt} : (gSt S R N P Q M)[S.length]? = some (Cell.lst (R.map rowT)) := get0
theorem g1 {S : Sto} {R : List (Tm × Nat)} {N P Q : List (Tm × Tm)} {M : List Dt} : (gSt S R N P Q M)[S.length + 1]? = some (Cell.dit (numsD 0 N)) := get1
theorem g2 {S : Sto} {R : List (Tm × Nat)} {N P Q : List (Tm × Tm)} {M : List Dt} : (gSt S R N P Q M)[S.length + 2]? = some (Cell.lst (P.map fun q => tD q.1)) := getA
theorem g3 {S : Sto} {R : List (Tm × Nat)} {N P Q : List (Tm × Tm)} {M : List Dt} : (gSt S R N P Q M)[S.length + 3]? = some (Cell.lst (Q.map fun q => tD q.2)) := getA
theorem g4 {S : Sto} {R : List (Tm × Nat)} {N P Q : List (Tm × Tm)} {M : List Dt} : (gSt S R N P Q M)[S.length + 4]? = some (Cell.lst M) := getA
abbrev gEnv (S : Sto) (x0 x1 z6 z7 z8 z9 : Option Dt) : MD.Env := [x0, x1, some (.loc S.length), some (.loc (S.length + 1)), some (.loc (S.length + 2)), some (.loc (S.length + 3)), z6, z7, z8, z9]
open Classical in
noncomputable def stepG (x : Tm × Tm × Nat) (R : List (Tm × Nat)) (P : List (Tm × Tm)) : List (Tm × Nat) × List (Tm × Tm) :=
  if KeepP x.1 x.2.1 then (R ++ [(x.1, x.2.2)], P) else
    if (x.1, x.2.1) ∈ P then (R ++ [(.mk (.inl (pix P (x.1, x.2.1) : Int)) [], x.2.2)], P) else (R ++ [(.mk (.inl (P.length : Int)) [], x.2.2)], P ++ [(x.1, x.2.1)])
noncomputable abbrev gB (k : Nat) : MS := mSq (mIfS (mtAnd (mTru (mCall dIsi (mA1 (mOp dIx (mVar 6) (mC (.int 0))) (mA1 (mC (.ty "str")) mA0)))) (mTru (mCall (mOwn 2 (M_same k)) (mA1 (mVar 6) (mA1 (mVar 7) mA0))))) (mSq (mEx (mGc (mMt dAppend (mVar 2) (mA1 (mTup (mA1 (mVar 6) (mA1 (mVar 8) mA0))) mA0))))
      (mCt)) mNx)
      (mSq (mSet 9 (mGc (mTup (mA1 (mCall (mOwn 1 (M_write_term k)) (mA1 (mVar 6) mA0)) (mA1 (mCall (mOwn 1 (M_write_term k)) (mA1 (mVar 7) mA0)) mA0)))))
      (mSq (mIfS (mT (mOp dNotIn (mVar 9) (mVar 3))) (mSq (mDPut (mVar 3) (mVar 9) (mCall dLen (mA1 (mVar 3) mA0)))
      (mSq (mEx (mGc (mMt dAppend (mVar 4) (mA1 (mVar 6) mA0))))
      (mEx (mGc (mMt dAppend (mVar 5) (mA1 (mVar 7) mA0)))))) mNx)
      (mEx (mGc (mMt dAppend (mVar 2) (mA1 (mTup (mA1 (mTup (mA1 (mOp dIx (mVar 3) (mVar 9)) (mA1 (mTup mA0) mA0))) (mA1 (mVar 8) mA0))) mA0))))))
/-- what generalize gives -/
noncomputable def gnP (p t : Tm) : List (Tm × Tm) := (gnS (meetL p t) [] []).2
end DM

namespace DM
open PySem L2 MD
open DF (Tm)
open DF (Fn drvL LK FsD FsOk dem Dem KOk)
section
variable {S0 : Sto} {tp nl : Nat} {zs : List Int} {sd a0 : Int}
end
end DM

namespace DM
open PySem L2 MD
open DF (Tm)
open DF (Fn drvL LK FsD FsOk dem Dem KOk PgOk)
/-- what is kept by every move, beside SesOk: Q of all heads of all terms, and I of the rows -/
structure MovI (fs : List Fn) (Q : Key → Prop) (I : List Nd → Prop) : Prop where
  q0 : ∀ i : Int, Q (.inl i)
  q : ∀ rows, I rows → ∀ r ∈ rows, r.t.All Q
  exp : ∀ rows, SesOk rows → I rows → ∀ (j : Nat) (r : Nd), rows[j]? = some r → ∀ ks rows', expM rows fs j r = .inr (ks, rows') → I rows'
  drv : ∀ rows, SesOk rows → I rows → ∀ (j : Nat) (r : Nd), rows[j]? = some r → ∀ ks rows', drvM rows fs j r = .inr (ks, rows') → I rows'
  lev : ∀ rows, SesOk rows → I rows → ∀ (j : Nat) (r : Nd), rows[j]? = some r → ∀ ks rows', levM rows j r = .inr (ks, rows') → I rows'
  fld : ∀ rows, SesOk rows → I rows → ∀ (j o : Nat) (r q : Nd), rows[j]? = some r → rows[o]? = some q → ∀ ks rows', fldM rows j r o q = .inr (ks, rows') → I rows'
  spl : ∀ rows, SesOk rows → I rows → ∀ (j : Nat) (r : Nd), rows[j]? = some r → ∀ (b : Tm) (ps : List (Int × Tm)), b.All Q → (∀ p ∈ ps, p.2.All Q) → ∀ ks rows', splM rows j r b ps = .inr (ks, rows') → I rows'
section
variable {S : Sto} {tp nl : Nat} {zs : List Int} {sd a : Int} {s f n l : Nat} {fs : List Fn} {rows : List Nd} {ls : List Str} {Q : Key → Prop} {I : List Nd → Prop}
/-- a session and a tape -/
structure WS (S : Sto) (tp nl : Nat) (zs : List Int) (sd a : Int) (s f n l : Nat) (fs : List Fn) (rows : List Nd) (ls : List Str) : Prop where
  t : TpAt S tp nl zs sd a
  h : SesAt S s f n l fs rows ls
  ok : SesOk rows
  d1 : tp ≠ s
  d2 : tp ≠ f
  d3 : tp ≠ n
  d4 : tp ≠ l
  d5 : nl ≠ n
  d6 : nl ≠ l
  pg : PgOk fs
  fd : FsD fs
theorem WS.move (w : WS S tp nl zs sd a s f n l fs rows ls) {rows' : List Nd} (ok : SesOk rows') (ls' : List Str) : WS (clS S n l rows' ls') tp nl zs sd a s f n l fs rows' ls' := by
  have t := w.t
  exact { w with
    t := ⟨by unfold clS; rw [List.getElem?_set_ne (Ne.symm w.d4), List.getElem?_set_ne (Ne.symm w.d3)]; exact t.t, by unfold clS; rw [List.getElem?_set_ne (Ne.symm w.d6), List.getElem?_set_ne (Ne.symm w.d5)]; exact t.n, t.p, t.l⟩
    h := w.h.cl rows' ls'
    ok := ok }
theorem WS.app (w : WS S tp nl zs sd a s f n l fs rows ls) {G : Sto} (wf : Wf (S ++ G)) : WS (S ++ G) tp nl zs sd a s f n l fs rows ls := { w with t := w.t.app G, h := w.h.app wf }
/-- what is left behind a drawn move -/
def WsO (S : Sto) (tp nl : Nat) (zs : List Int) (sd : Int) (s f n l : Nat) (fs : List Fn) (I : List Nd → Prop) (c : Nat) (S1 : Sto) : Prop := S1.length = S.length ∧ ∃ a' rows' ls', WS S1 tp nl zs sd a' s f n l fs rows' ls' ∧ I rows' ∧ ls'.length ≤ c
def MvO (S : Sto) (tp nl : Nat) (zs : List Int) (sd : Int) (s f n l : Nat) (fs : List Fn) (I : List Nd → Prop) (c : Nat) (F : Fl) : Prop := ∃ (S1 : Sto) (α : MD.Env), WsO S tp nl zs sd s f n l fs I c S1 ∧ (F = .nx α S1 ∨ ∃ x : Str, 7 < α.length ∧ F = .ex "Refused" [("reason", .str x)] α S1)
theorem own4 {F : List Dt → Sto → Rs Dt} {a b c d : Dt} : mOwn 4 F [a, b, c, d] S = F [a, b, c, d] S := rfl
end
end DM

namespace DM
open PySem L2 MD
open DF (Tm)
open DF (Fn drvL LK FsD FsOk dem Dem KOk PgOk)
/-! ### what a session's rows are like, as the document has it (k24) -/
def NK (N : Str → Prop) : Key → Prop
  | .inl _ => True
  | .inr x => N x
def isDrv (x : Str) : Prop := x = "stepped" ∨ x = "branched"
def isSm (x : Str) : Prop := x = "exposed" ∨ x = "split" ∨ x = "folded"
structure SesG (fs : List Fn) (N : Str → Prop) (rows : List Nd) : Prop where
  par : Par rows
  opn : ∀ r ∈ rows, r.kind = "open" → r.kids = []
  pc : ∀ (j : Nat) (r : Nd), rows[j]? = some r → ∀ p, r.par = some p → ∃ q, rows[p]? = some q ∧ ¬ q.kind = "open"
  kid : ∀ (j : Nat) (r : Nd), rows[j]? = some r → ∀ c ∈ r.kids, j < c ∧ ∃ q, rows[c]? = some q ∧ q.par = some j ∧ (isSm r.kind → q.t.size < r.t.size)
  way : ∀ (j : Nat) (r : Nd), rows[j]? = some r → isDrv r.kind → drvKD fs r.t = .str r.kind ∧ whF rows fs r.t (wayF rows j r.par) = none
  nm : ∀ r ∈ rows, r.t.All (NK N)
  chl : (rows.flatMap Nd.kids).Perm (kidsN 1 (rows.length - 1))
section
variable {fs : List Fn} {N : Str → Prop} {rows rows' : List Nd}
end
end DM

namespace DM
open PySem L2 MD
open DF (Tm)
open DF (Fn drvL LK FsD FsOk dem Dem KOk PgOk getF learnP top lones)
section
variable {fs : List Fn} {N : Str → Prop} {rows rows' : List Nd}
end
end DM

namespace DM
open PySem L2 MD
open DF (Tm)
open DF (Fn drvL LK FsD FsOk dem Dem KOk PgOk)
section
variable {fs : List Fn} {N : Str → Prop} {rows rows' : List Nd}
end
end DM

namespace DM
open PySem L2 MD
open DF (Tm)
open DF (Fn drvL LK FsD FsOk dem Dem KOk PgOk)
/-! ### the rule's moves: made, or refused -/
section
variable {S : Sto} {s f n l : Nat} {fs : List Fn} {rows : List Nd} {ls : List Str}
/-- a move that is tried -/
noncomputable def tryR (S : Sto) (n l : Nat) (ls : List Str) (line : Str) : Str ⊕ (List Nat × List Nd) → Rs Dt
  | .inl _ => .ok (.bl false) S
  | .inr (_, rows') => .ok (.bl true) (clS S n l rows' (ls ++ [line]))
end
section
variable {S : Sto} {s f n l : Nat} {fs : List Fn} {rows : List Nd} {ls : List Str}
/-- the nearest driven node of whose term t is an instance -/
noncomputable def nearF (rows : List Nd) (t : Tm) : List Nat → Option Nat
  | [] => none
  | o :: w => match rows[o]? with
    | none => none
    | some q => if drvnB q.kind = true ∧ (mtch q.t t).isSome = true then some o else nearF rows t w
end
section
variable {S : Sto} {s f n l : Nat} {fs : List Fn} {rows : List Nd} {ls : List Str}
end
end DM

namespace DM
open PySem L2 MD
open DF (Tm)
open DF (Fn drvL LK FsD FsOk dem Dem KOk PgOk progNames unkK enumP)
/-! ### what two terms have in common: its heads and sizes -/
/-! ### names of drawn programs -/
def PN (x : Str) : Prop := x ∈ progNames
def HP (m : Nat) (k : Key) : Prop := GK (bndR m) k ∧ NK PN k
theorem HP.gk {m : Nat} {t : Tm} (h : t.All (HP m)) : t.All (GK (bndR m)) := fun k hk => (h k hk).1
/-- what a split is made of -/
structure SpOk (m : Nat) (b : Tm) (ps : List (Int × Tm)) : Prop where
  b1 : b.All (HP m)
  b2 : b.size ≤ 100
  l : ps.length ≤ 100
  g : ∀ p ∈ ps, (0 ≤ p.1 ∧ p.1 < 200) ∧ p.2.All (HP m) ∧ p.2.size ≤ 100
noncomputable def hedB (t : Tm) : Tm := .mk t.hd (nmF t t.args 0).1
noncomputable def hedP (t : Tm) : List (Int × Tm) := (nmF t t.args 0).2
noncomputable def whB (q t : Tm) : Tm := (gen (gnP q t) q t).put (enumP (nmF t ((gnP q t).map (·.2)) 0).1)
noncomputable def whP (q t : Tm) : List (Int × Tm) := (nmF t ((gnP q t).map (·.2)) 0).2
end DM

namespace DM
open PySem L2 MD
open DF (Tm)
open DF (Fn drvL LK FsD FsOk dem Dem KOk PgOk enumP)
/-! ### the rule's attempts -/
abbrev Mv := Str ⊕ (List Nat × List Nd)
section
variable {S : Sto} {s f n l : Nat} {fs : List Fn} {rows : List Nd} {ls : List Str}
structure RS (S : Sto) (s f n l : Nat) (fs : List Fn) (rows : List Nd) (ls : List Str) : Prop where
  h : SesAt S s f n l fs rows ls
  ok : SesOk rows
  g : SesG fs PN rows
  pg : PgOk fs
  fd : FsD fs
  ll : ls.length ≤ 1000
theorem RS.hp (R : RS S s f n l fs rows ls) {r : Nd} (hr : r ∈ rows) : r.t.All (HP rows.length) ∧ r.t.size ≤ 100 := ⟨fun k hk => ⟨(R.ok.al r hr).1 k hk, R.g.nm r hr k hk⟩, (R.ok.al r hr).2⟩
/-- an attempt that is made, or not even begun -/
noncomputable def tryO (S : Sto) (n l : Nat) (ls : List Str) : Option (Str × Mv) → Rs Dt
  | none => .ok (.bl false) S
  | some (line, m) => tryR S n l ls line m
noncomputable def fldA (rows : List Nd) (j : Nat) (r : Nd) : Option (Str × Mv) := match nearF rows r.t (wayF rows j r.par) with
  | none => none
  | some o => match rows[o]? with
    | some q => some (foldLine j o, fldM rows j r o q)
    | none => none
noncomputable def whsA (rows : List Nd) (fs : List Fn) (j : Nat) (r : Nd) : Option (Str × Mv) := match whF rows fs r.t (wayF rows j r.par) with
  | none => none
  | some o => match rows[o]? with
    | some q => some (splitLine j (whB q.t r.t) (whP q.t r.t), splM rows j r (whB q.t r.t) (whP q.t r.t))
    | none => none
end
end DM

namespace DM
open PySem L2 MD
open DF (Tm)
open DF (Fn drvL LK FsD FsOk dem Dem KOk PgOk enumP)
/-! ### make_move -/
noncomputable def attF (rows : List Nd) (fs : List Fn) (j : Nat) (r : Nd) : List (Option (Str × Mv)) :=
  [some (lineN "expose " j, expM rows fs j r), fldA rows j r, some (lineN "drive " j, drvM rows fs j r), whsA rows fs j r, some (splitLine j (hedB r.t) (hedP r.t), splM rows j r (hedB r.t) (hedP r.t))]
/-- the first attempt that is made -/
def firF : List (Option (Str × Mv)) → Option (Str × List Nd)
  | [] => none
  | none :: r => firF r
  | some (_, .inl _) :: r => firF r
  | some (line, .inr (_, rows')) :: _ => some (line, rows')
noncomputable def outR (S : Sto) (n l : Nat) (ls : List Str) : Option (Str × List Nd) → Rs Dt
  | none => .ok (.bl false) S
  | some (line, rows') => .ok (.bl true) (clS S n l rows' (ls ++ [line]))
noncomputable def mrF (rows : List Nd) (fs : List Fn) (j : Nat) (r : Nd) : Str × List Nd := match firF (attF rows fs j r) with
  | some x => x
  | none => (lineN "leave " j, clRows rows j r "left" [] none [])
section
variable {S : Sto} {s f n l : Nat} {fs : List Fn} {rows : List Nd} {ls : List Str}
end
end DM

namespace DM
open PySem L2 MD
open DF (Tm)
open DF (Fn drvL LK FsD FsOk dem Dem KOk PgOk enumP)
/-! ### what a made move keeps -/
def cld (rows : List Nd) : Nat := (rows.filter fun r => !decide (r.kind = ("open" : Str))).length
structure MrG (fs : List Fn) (rows : List Nd) (line : Str) (rows' : List Nd) : Prop where
  ok : SesOk rows'
  g : SesG fs PN rows'
  c : cld rows' = cld rows + 1
  l : line.length ≤ 250000 ∧ NoNl line
def NoNlb (x : Str) : Bool := x.cps.toList.all fun c => !decide (c = 10)
section
variable {fs : List Fn} {rows : List Nd}
end
end DM

namespace DM
open PySem L2 MD
open DF (Tm)
open DF (Fn drvL LK FsD FsOk dem Dem KOk PgOk enumP)
/-! ### auto -/
noncomputable def autF (fs : List Fn) : Nat → List Nd → List Str → List Nd × List Str
  | 0, rows, ls => (rows, ls)
  | n + 1, rows, ls => match opnL rows with
    | [] => (rows, ls)
    | j :: _ => match rows[j]? with
      | some r => autF fs n (mrF rows fs j r).2 (ls ++ [(mrF rows fs j r).1])
      | none => (rows, ls)
section
variable {S : Sto} {s f n l : Nat} {fs : List Fn} {rows : List Nd} {ls : List Str}
theorem set_self {α : Type} : ∀ (l : List α) (i : Nat) (x : α), l[i]? = some x → l.set i x = l
  | [], i, x, h => by cases h
  | a :: l, 0, x, h => by cases h; rfl
  | a :: l, i + 1, x, h => by rw [List.set_cons_succ, set_self l i x h]
theorem RS.move (R : RS S s f n l fs rows ls) {line : Str} {rows' : List Nd} (m : MrG fs rows line rows') (hl : ls.length < 1000) : RS (clS S n l rows' (ls ++ [line])) s f n l fs rows' (ls ++ [line]) :=
  ⟨R.h.cl _ _, m.ok, m.g, R.pg, R.fd, by rw [List.length_append, List.length_singleton]; omega⟩
theorem LsOk.snoc (h : LsOk ls) {line : Str} (hl : line.length ≤ 250000 ∧ NoNl line) : LsOk (ls ++ [line]) := fun x hx => by
  rcases List.mem_append.mp hx with hx | hx
  · exact h x hx
  · rw [List.mem_singleton.mp hx]; exact hl
end
end DM

namespace DM
open PySem L2 MD
open DF (Tm)
open DF (KOk)
/-! ### drawing with _law_pick -/
def stc (a b c d : Int) : Cell := Cell.lst [.int a, .int b, .int c, .int d]
def Pk4 (a b c : Int) : Prop := 0 ≤ a ∧ 0 ≤ b ∧ 0 ≤ c ∧ c < 2147483648
def PkAt (S : Sto) (st : Nat) (d : Int) : Prop := ∃ a b c, S[st]? = some (stc a b c d) ∧ Pk4 a b c
def PkR (S : Sto) (st : Nat) (d : Int) (S' : Sto) : Prop := ∃ a b c, S' = S.set st (stc a b c d) ∧ Pk4 a b c
section
variable {S S1 S2 : Sto} {st : Nat} {d d' : Int}
theorem PkAt.lt (h : PkAt S st d) : st < S.length := by
  obtain ⟨a, b, c, e, _⟩ := h
  exact (List.getElem?_eq_some_iff.mp e).1
theorem PkR.len (h : PkR S st d S1) : S1.length = S.length := by
  obtain ⟨a, b, c, e, _⟩ := h
  rw [e, List.length_set]
theorem PkR.at (h : PkR S st d S1) (l : st < S.length) : PkAt S1 st d := by
  obtain ⟨a, b, c, e, p⟩ := h
  exact ⟨a, b, c, by rw [e, List.getElem?_set_self l], p⟩
theorem PkR.trans (h : PkR S st d S1) (g : PkR S1 st d' S2) : PkR S st d' S2 := by
  obtain ⟨a, b, c, e, p⟩ := h
  obtain ⟨a', b', c', e', p'⟩ := g
  exact ⟨a', b', c', by rw [e', e, List.set_set], p'⟩
theorem PkAt.self (h : PkAt S st d) : PkR S st d S := by
  obtain ⟨a, b, c, e, p⟩ := h
  exact ⟨a, b, c, (set_self S st _ e).symm, p⟩
theorem PkR.wf (h : PkR S st d S1) (w : Wf S) : Wf S1 := by
  obtain ⟨a, b, c, e, p⟩ := h
  rw [e]
  exact wf_set w rfl
theorem PkR.get (h : PkR S st d S1) {j : Nat} (hj : j ≠ st) : S1[j]? = S[j]? := by
  obtain ⟨a, b, c, e, p⟩ := h
  rw [e, List.getElem?_set_ne (Ne.symm hj)]
theorem PkAt.app (h : PkAt S st d) (G : Sto) : PkAt (S ++ G) st d := by
  have l := h.lt
  obtain ⟨a, b, c, e, p⟩ := h
  exact ⟨a, b, c, by rw [List.getElem?_append_left l, e], p⟩
/-- behind what is new -/
theorem PkR.cut {G : Sto} (h : PkR (S ++ G) st d S1) (l : st < S.length) : ∃ S2, S1 = S2 ++ G ∧ PkR S st d S2 := by
  obtain ⟨a, b, c, e, p⟩ := h
  rw [List.set_append_left _ _ l] at e
  exact ⟨_, e, a, b, c, rfl, p⟩
theorem PkR.fuel (h : PkAt S st d) (d' : Int) : ∃ a b c, S[st]? = some (stc a b c d) ∧ Pk4 a b c ∧ PkR S st d' (S.set st (stc a b c d')) := by
  obtain ⟨a, b, c, e, p⟩ := h
  exact ⟨a, b, c, e, p, a, b, c, rfl, p⟩
theorem ten18 : (10 : Int) ^ (18 : Int).toNat = 1000000000000000000 := by decide +kernel
theorem pick_eq (k : Nat) (ns : List Int) (h : PkAt S st d) (many : Int) (hm : 0 < many) (hm2 : many < 1073741824 := by decide) : ∃ r S', M_h_pick (k + 1) [.loc st, .scr ns, .int many] S = .ok (.int r) S' ∧ (0 ≤ r ∧ r < many) ∧ PkR S st d S' := by
  have hlt := h.lt
  obtain ⟨a, b, c, e, p0, p1, p2, p3⟩ := h
  have gl : ∀ (dd : Dt) {Z : Sto}, Z.length = S.length → gcR S.length dd Z = .ok dd Z := fun dd Z hz => gc_len hz
  have md : ∀ (i j : Int) (Z : Sto), 0 < j → dMod (.int i) (.int j) Z = .ok (.int (i % j)) Z := fun i j Z hj => by
    unfold dMod; dsimp only; rw [if_pos hj]
  have dv : ∀ (i j : Int) (Z : Sto), 0 < j ∧ j < 1073741824 → dDiv (.int i) (.int j) Z = .ok (.int (i / j)) Z := fun i j Z hj => by
    unfold dDiv; dsimp only; rw [if_pos hj]
  have ml : ∀ (i j : Int) (Z : Sto), (-(2 ^ 64) < j ∧ j < 2 ^ 64) → dMul (.int i) (.int j) Z = .ok (.int (i * j)) Z := fun i j Z hj => by
    unfold dMul; dsimp only; rw [if_pos (.inr hj)]
  have g0 : ∀ {a b c d : Int} {Z : Sto}, Z[st]? = some (stc a b c d) → dIx (.loc st) (.int 0) Z = .ok (.int a) Z := fun q => ix_loc (n := 0) q rfl
  have g1 : ∀ {a b c d : Int} {Z : Sto}, Z[st]? = some (stc a b c d) → dIx (.loc st) (.int 1) Z = .ok (.int b) Z := fun q => ix_loc (n := 1) q rfl
  have g2 : ∀ {a b c d : Int} {Z : Sto}, Z[st]? = some (stc a b c d) → dIx (.loc st) (.int 2) Z = .ok (.int c) Z := fun q => ix_loc (n := 2) q rfl
  have s0 : ∀ {a b c d x : Int} {Z : Sto}, Z[st]? = some (stc a b c d) → dSetI (.loc st) (.int 0) (.int x) Z = some (Z.set st (stc x b c d)) := fun q => by unfold dSetI; dsimp only; rw [q]; rfl
  have s1 : ∀ {a b c d x : Int} {Z : Sto}, Z[st]? = some (stc a b c d) → dSetI (.loc st) (.int 1) (.int x) Z = some (Z.set st (stc a x c d)) := fun q => by unfold dSetI; dsimp only; rw [q]; rfl
  have s2 : ∀ {a b c d x : Int} {Z : Sto}, Z[st]? = some (stc a b c d) → dSetI (.loc st) (.int 2) (.int x) Z = some (Z.set st (stc a b x d)) := fun q => by unfold dSetI; dsimp only; rw [q]; rfl
  have di : ∀ (i : Int) (Z : Sto), dInt [.int i] Z = .ok (.int i) Z := fun _ _ => rfl
  have at' : ∀ (x : Cell), (S.set st x)[st]? = some x := fun x => List.getElem?_set_self hlt
  have ls : ∀ (x : Cell), (S.set st x).length = S.length := fun x => List.length_set ..
  rw [M_h_pick, mFn_eq, show startE 6 [.loc st, .scr ns, .int many] = [some (.loc st), some (.scr ns), some (.int many), none, none, none] from rfl]
  rw [sSq, sIfS, sT, sOp, sOp, sVar0, bind_ok, sC, bind_ok, g1 e, bind_ok, sC, bind_ok, show dGt (.int b) (.int 0) S = .ok (.bl (decide (0 < b))) S from rfl, bind_ok, sasB, rthen_ok]
  by_cases hb : 0 < b
  · rw [decide_eq_true hb, if_pos rfl]
    rw [sSq, sSet, sGc (by rw [sOp, sCall, sA1, sOp, sVar0, bind_ok, sC, bind_ok, g1 e, bind_ok, sA0, bind_ok, bind_ok, di, bind_ok, sVar2, bind_ok, md _ _ _ hm]), gc_same, rthen_ok, fthen_nx]
    simp only [xset_s, xset_0]
    have st1 : mSub (mVar 0) (mC (.int 1)) (mOp dDiv (mOp dIx (mVar 0) (mC (.int 1))) (mVar 2)) [some (.loc st), some (.scr ns), some (.int many), some (.int (b % many)), none, none] S = .nx [some (.loc st), some (.scr ns), some (.int many), some (.int (b % many)), none, none] (S.set st (stc a (b / many) c d)) := by
      unfold mSub
      rw [sOp, sOp, sVar0, bind_ok, sC, bind_ok, g1 e, bind_ok, sVar2, bind_ok, dv _ _ _ ⟨hm, hm2⟩, rthen_ok, sVar0, rthen_ok, sC, rthen_ok, s1 e]
    rw [sSq, st1, fthen_nx, sRt, sVar3, rthen_ok, fthen_rt]
    exact ⟨_, _, gl _ (ls _), ⟨Int.emod_nonneg _ (by omega), Int.emod_lt_of_pos _ hm⟩, a, b / many, c, rfl, p0, Int.ediv_nonneg p1 (by omega), p2, p3⟩
  rw [decide_eq_false hb, if_neg Bool.false_ne_true, sNx, fthen_nx]
  rw [sSq, sSet, sGc (by rw [sOp, sVar0, bind_ok, sC, bind_ok, g0 e]), gc_same, rthen_ok, fthen_nx]
  simp only [xset_s, xset_0]
  have st2 : mSub (mVar 0) (mC (.int 0)) (mOp dAdd (mVar 4) (mC (.int 1))) [some (.loc st), some (.scr ns), some (.int many), none, some (.int a), none] S = .nx [some (.loc st), some (.scr ns), some (.int many), none, some (.int a), none] (S.set st (stc (a + 1) b c d)) := by
    unfold mSub
    rw [sOp, sVar4, bind_ok, sC, bind_ok, add_ii, rthen_ok, sVar0, rthen_ok, sC, rthen_ok, s0 e]
  rw [sSq, st2, fthen_nx]
  -- the seed's turn, from any seed
  have tail : ∀ (c' : Int) (z5 : Option Dt), 0 ≤ c' → c' < 2147483648 → ∃ r S', (match (mSq (mSub (mVar 0) (mC (.int 2)) (mOp dMod (mCall dInt (mA1 (mOp dAdd (mOp dAdd (mOp dMul (mOp dIx (mVar 0) (mC (.int 2))) (mC (.int 48271))) (mOp dMul (mC (.int 11)) (mVar 4))) (mC (.int 5))) mA0)) (mC (.int 2147483647))))
      (mRt (mOp dMod (mCall dInt (mA1 (mOp dDiv (mOp dMul (mOp dIx (mVar 0) (mC (.int 2))) (mOp dIx (mVar 0) (mC (.int 2)))) (mC (.int 8191))) mA0)) (mVar 2)))) [some (.loc st), some (.scr ns), some (.int many), none, some (.int a), z5] (S.set st (stc (a + 1) b c' d)) with
      | .nx _ S' => gcR S.length .non S'
      | .rt d S' => gcR S.length d S'
      | .ex c fs _ S' => gcX S.length c fs S'
      | _ => .no) = .ok (.int r) S' ∧ (0 ≤ r ∧ r < many) ∧ PkR S st d S' := fun c' z5 h1 h2 => by
    have q1 := at' (stc (a + 1) b c' d)
    have c2 : 0 ≤ (c' * 48271 + 11 * a + 5) % 2147483647 ∧ (c' * 48271 + 11 * a + 5) % 2147483647 < 2147483647 := ⟨Int.emod_nonneg _ (by decide), Int.emod_lt_of_pos _ (by decide)⟩
    have st3 : mSub (mVar 0) (mC (.int 2)) (mOp dMod (mCall dInt (mA1 (mOp dAdd (mOp dAdd (mOp dMul (mOp dIx (mVar 0) (mC (.int 2))) (mC (.int 48271))) (mOp dMul (mC (.int 11)) (mVar 4))) (mC (.int 5))) mA0)) (mC (.int 2147483647))) [some (.loc st), some (.scr ns), some (.int many), none, some (.int a), z5] (S.set st (stc (a + 1) b c' d)) = .nx [some (.loc st), some (.scr ns), some (.int many), none, some (.int a), z5] (S.set st (stc (a + 1) b ((c' * 48271 + 11 * a + 5) % 2147483647) d)) := by
      unfold mSub
      rw [sOp, sCall, sA1, sOp, sOp, sOp, sOp, sVar0, bind_ok, sC, bind_ok, g2 q1, bind_ok, sC, bind_ok, ml _ _ _ (by decide), bind_ok, sOp, sC, bind_ok, sVar4, bind_ok]
      rw [show dMul (.int 11) (.int a) (S.set st (stc (a + 1) b c' d)) = .ok (.int (11 * a)) (S.set st (stc (a + 1) b c' d)) by unfold dMul; dsimp only; rw [if_pos (.inl (by decide))]]
      rw [bind_ok, add_ii, bind_ok, sC, bind_ok, add_ii, bind_ok, sA0, bind_ok, bind_ok, di, bind_ok, sC, bind_ok, md _ _ _ (by decide), rthen_ok, sVar0, rthen_ok, sC, rthen_ok, s2 q1, List.set_set]
    rw [sSq, st3, fthen_nx]
    generalize (c' * 48271 + 11 * a + 5) % 2147483647 = c3 at c2
    have q2 := at' (stc (a + 1) b c3 d)
    rw [sRt, sOp, sCall, sA1, sOp, sOp, sOp, sVar0, bind_ok, sC, bind_ok, g2 q2, bind_ok, sOp, sVar0, bind_ok, sC, bind_ok, g2 q2, bind_ok, ml _ _ _ ⟨by omega, by omega⟩, bind_ok, sC, bind_ok, dv _ _ _ (by decide), bind_ok, sA0, bind_ok, bind_ok, di, bind_ok, sVar2, bind_ok, md _ _ _ hm, rthen_ok]
    exact ⟨_, _, gl _ (ls _), ⟨Int.emod_nonneg _ (by omega), Int.emod_lt_of_pos _ hm⟩, a + 1, b, c3, rfl, by omega, p1, c2.1, by omega⟩
  have ln : mT (mOp dLt (mVar 4) (mCall dLen (mA1 (mVar 1) mA0))) [some (.loc st), some (.scr ns), some (.int many), none, some (.int a), none] (S.set st (stc (a + 1) b c d)) = .ok (decide (a < (ns.length : Int))) (S.set st (stc (a + 1) b c d)) := by
    rw [sT, sOp, sVar4, bind_ok, sCall, sA1, sVar1, bind_ok, sA0, bind_ok, bind_ok, show ∀ Z : Sto, dLen [.scr ns] Z = .ok (.int ns.length) Z from fun _ => rfl, bind_ok]
    rfl
  rw [sSq, sIfS, ln, rthen_ok]
  by_cases hl : a < (ns.length : Int)
  case neg =>
    rw [decide_eq_false hl, if_neg Bool.false_ne_true, sNx, fthen_nx]
    exact tail c none p2 p3
  rw [decide_eq_true hl, if_pos rfl]
  obtain ⟨an, rfl⟩ : ∃ an : Nat, a = an := ⟨a.toNat, by omega⟩
  have ha : an < ns.length := by omega
  have q0 := at' (stc ((an : Int) + 1) b c d)
  have ab : ∃ y : Int, 0 ≤ y ∧ mCall dAbs (mA1 (mCall dInt (mA1 (mOp dIx (mVar 1) (mVar 4)) mA0)) mA0) [some (.loc st), some (.scr ns), some (.int many), none, some (.int an), none] (S.set st (stc ((an : Int) + 1) b c d)) = .ok (.int y) (S.set st (stc ((an : Int) + 1) b c d)) := by
    refine ⟨if ns[an] < 0 then -ns[an] else ns[an], by split <;> omega, ?_⟩
    rw [sCall, sA1, sCall, sA1, sOp, sVar1, bind_ok, sVar4, bind_ok, show ∀ Z : Sto, dIx (.scr ns) (.int (an : Int)) Z = .ok (.int ns[an]) Z from fun Z => by
      unfold dIx
      dsimp only
      rw [show atI ns (an : Int) = some ns[an] by
        unfold atI ixN
        rw [if_pos (by omega), if_pos (by omega), Int.toNat_natCast]
        exact List.getElem?_eq_getElem ha], bind_ok, sA0, bind_ok, bind_ok, di, bind_ok, sA0, bind_ok, bind_ok]
    rfl
  obtain ⟨y, hy, ab⟩ := ab
  rw [sSq, sSet, sGc ab, gc_same, rthen_ok, fthen_nx]
  simp only [xset_s, xset_0]
  have pw : mT (mOp dGe (mVar 5) (mOp dPow (mC (.int 10)) (mC (.int 18)))) [some (.loc st), some (.scr ns), some (.int many), none, some (.int an), some (.int y)] (S.set st (stc ((an : Int) + 1) b c d)) = .ok (decide (1000000000000000000 ≤ y)) (S.set st (stc ((an : Int) + 1) b c d)) := by
    rw [sT, sOp, sVar5, bind_ok, sOp, sC, bind_ok, sC, bind_ok, show ∀ Z : Sto, dPow (.int 10) (.int 18) Z = .ok (.int 1000000000000000000) Z from fun Z => by
      unfold dPow
      dsimp only
      rw [if_pos (by decide), ten18], bind_ok]
    rfl
  rw [sSq, sIfS, pw, rthen_ok]
  by_cases hp : (1000000000000000000 : Int) ≤ y
  · rw [decide_eq_true hp, if_pos rfl]
    have st4 : mSub (mVar 0) (mC (.int 1)) (mOp dDiv (mVar 5) (mVar 2)) [some (.loc st), some (.scr ns), some (.int many), none, some (.int an), some (.int y)] (S.set st (stc ((an : Int) + 1) b c d)) = .nx [some (.loc st), some (.scr ns), some (.int many), none, some (.int an), some (.int y)] (S.set st (stc ((an : Int) + 1) (y / many) c d)) := by
      unfold mSub
      rw [sOp, sVar5, bind_ok, sVar2, bind_ok, dv _ _ _ ⟨hm, hm2⟩, rthen_ok, sVar0, rthen_ok, sC, rthen_ok, s1 q0, List.set_set]
    rw [sSq, st4, fthen_nx, sRt, sOp, sCall, sA1, sVar5, bind_ok, sA0, bind_ok, bind_ok, di, bind_ok, sVar2, bind_ok, md _ _ _ hm, rthen_ok, fthen_rt, fthen_rt]
    exact ⟨_, _, gl _ (ls _), ⟨Int.emod_nonneg _ (by omega), Int.emod_lt_of_pos _ hm⟩, (an : Int) + 1, y / many, c, rfl, by omega, Int.ediv_nonneg hy (by omega), p2, p3⟩
  · rw [decide_eq_false hp, if_neg Bool.false_ne_true, sNx, fthen_nx]
    have st5 : mSub (mVar 0) (mC (.int 2)) (mOp dMod (mCall dInt (mA1 (mOp dAdd (mOp dAdd (mOp dMul (mOp dIx (mVar 0) (mC (.int 2))) (mC (.int 40014))) (mOp dMul (mVar 5) (mC (.int 69621)))) (mC (.int 17))) mA0)) (mC (.int 2147483563))) [some (.loc st), some (.scr ns), some (.int many), none, some (.int an), some (.int y)] (S.set st (stc ((an : Int) + 1) b c d)) = .nx [some (.loc st), some (.scr ns), some (.int many), none, some (.int an), some (.int y)] (S.set st (stc ((an : Int) + 1) b ((c * 40014 + y * 69621 + 17) % 2147483563) d)) := by
      unfold mSub
      rw [sOp, sCall, sA1, sOp, sOp, sOp, sOp, sVar0, bind_ok, sC, bind_ok, g2 q0, bind_ok, sC, bind_ok, ml _ _ _ (by decide), bind_ok, sOp, sVar5, bind_ok, sC, bind_ok, ml _ _ _ (by decide), bind_ok, add_ii, bind_ok, sC, bind_ok, add_ii, bind_ok, sA0, bind_ok, bind_ok, di, bind_ok, sC, bind_ok, md _ _ _ (by decide), rthen_ok, sVar0, rthen_ok, sC, rthen_ok, s2 q0, List.set_set]
    rw [st5, fthen_nx]
    exact tail _ _ (Int.emod_nonneg _ (by decide)) (Int.lt_of_lt_of_le (Int.emod_lt_of_pos _ (by decide)) (by decide))
end
end DM

namespace DM
open PySem L2 MD
noncomputable def M_words : Nat → List Dt → Sto → Rs Dt
  | 0 => fun _ _ => .no
  | k + 1 => mFn 3 (mSq (mSet 1 (mGc (mRep ")" " ) " (mRep "(" " ( " (mVar 0)))))
      (mRt (mLc [2] (mIt (mM1 dSplit (mVar 1) (mC (.str " ")))) (gN 2) (mTru (mVar 2)) (mVar 2))))
noncomputable def M_joined : Nat → List Dt → Sto → Rs Dt
  | 0 => fun _ _ => .no
  | k + 1 => mFn 1 (mSq (mIfS (mtNot (mTru (mVar 0))) (mRaise0 "BadTerm" (mC (.str "there is no head"))) mNx)
      (mRt (mCall (mOwn 2 (M_applied k)) (mA1 (mOp dIx (mVar 0) (mC (.int 0))) (mA1 (mCall dTuple (mA1 (mSl dSl (mVar 0) (mOs (mC (.int 1))) mOn) mA0)) mA0)))))
noncomputable def M_consists_of : Nat → List Dt → Sto → Rs Dt
  | 0 => fun _ _ => .no
  | k + 1 => mFn 3 (mRt (mCall dAll (mA1 (mLc [2] (mIts (mVar 0)) (gN 2) mYes (mOp dIn (mVar 2) (mVar 1))) mA0)))
noncomputable def M_is_name : Nat → List Dt → Sto → Rs Dt
  | 0 => fun _ _ => .no
  | k + 1 => mFn 1 (mRt (mAnd (mChain dLe dLe (mC (.int 1)) (mCall dLen (mA1 (mVar 0) mA0)) (mC (.int 12))) (mAnd (mOp dIn (mOp dIx (mVar 0) (mC (.int 0))) (mC (.str "abcdefghijklmnopqrstuvwxyzABCDEFGHIJKLMNOPQRSTUVWXYZ"))) (mCall (mOwn 2 (M_consists_of k)) (mA1 (mVar 0) (mA1 (mOp dAdd (mC (.str "abcdefghijklmnopqrstuvwxyzABCDEFGHIJKLMNOPQRSTUVWXYZ")) (mC (.str "0123456789"))) mA0))))))
noncomputable def M_is_number : Nat → List Dt → Sto → Rs Dt
  | 0 => fun _ _ => .no
  | k + 1 => mFn 1 (mRt (mAnd (mChain dLe dLe (mC (.int 1)) (mCall dLen (mA1 (mVar 0) mA0)) (mC (.int 4))) (mAnd (mCall (mOwn 2 (M_consists_of k)) (mA1 (mVar 0) (mA1 (mC (.str "0123456789")) mA0))) (mOr (mOp dEq (mVar 0) (mC (.str "0"))) (mOp dNe (mOp dIx (mVar 0) (mC (.int 0))) (mC (.str "0")))))))
noncomputable def M_read_head : Nat → List Dt → Sto → Rs Dt
  | 0 => fun _ _ => .no
  | k + 1 => mFn 1 (mSq (mIfS (mTru (mCall (mOwn 1 (M_is_name k)) (mA1 (mVar 0) mA0))) (mRt (mVar 0)) mNx)
      (mSq (mIfS (mtAnd (mTru (mM1 dStarts (mVar 0) (mC (.str "?")))) (mTru (mCall (mOwn 1 (M_is_number k)) (mA1 (mSl dSl (mVar 0) (mOs (mC (.int 1))) mOn) mA0)))) (mRt (mCall dInt3 (mA1 (mSl dSl (mVar 0) (mOs (mC (.int 1))) mOn) mA0))) mNx)
      (mRaise0 "BadTerm" (mJs [(mFmtR (mVar 0)), (mC (.str " is no head"))]))))
noncomputable def M_read_term : Nat → List Dt → Sto → Rs Dt
  | 0 => fun _ _ => .no
  | k + 1 => mFn 6 (mSq (mSet 1 (mGc (mLst mA0)))
      (mSq (mSet 2 (mGc (mLst mA0)))
      (mSq (mFor (mIt (mCall (mOwn 1 (M_words k)) (mA1 (mVar 0) mA0))) (gN 3) (mIfS (mT (mOp dEq (mVar 3) (mC (.str "(")))) (mSq (mEx (mGc (mMt dAppend (mVar 1) (mA1 (mVar 2) mA0))))
      (mSet 2 (mGc (mLst mA0)))) (mIfS (mT (mOp dEq (mVar 3) (mC (.str ")")))) (mSq (mIfS (mtNot (mTru (mVar 1))) (mRaise0 "BadTerm" (mC (.str "a parenthesis is closed that was not begun"))) mNx)
      (mSq (mSet 4 (mGc (mCall (mOwn 1 (M_joined k)) (mA1 (mVar 2) mA0))))
      (mSq (mSet 2 (mGc (mMt0 dPop (mVar 1))))
      (mEx (mGc (mMt dAppend (mVar 2) (mA1 (mVar 4) mA0))))))) (mEx (mGc (mMt dAppend (mVar 2) (mA1 (mTup (mA1 (mCall (mOwn 1 (M_read_head k)) (mA1 (mVar 3) mA0)) (mA1 (mTup mA0) mA0))) mA0)))))))
      (mSq (mIfS (mTru (mVar 1)) (mRaise0 "BadTerm" (mC (.str "a parenthesis is not closed"))) mNx)
      (mSq (mSet 5 (mGc (mCall (mOwn 1 (M_joined k)) (mA1 (mVar 2) mA0))))
      (mSq (mIfS (mT (mOp dNe (mCall (mOwn 1 (M_write_term k)) (mA1 (mVar 5) mA0)) (mVar 0))) (mRaise0 "BadTerm" (mC (.str "a blank or a parenthesis is missing or needless"))) mNx)
      (mRt (mVar 5))))))))
end DM

namespace DM
open PySem L2 MD
open DF (Tm)
open DF (KOk)
/-! ### the words of a text -/
/-- cut at blanks -/
def spL : List Nat → List (List Nat)
  | [] => [[]]
  | c :: r => if c = 32 then [] :: spL r else match spL r with
    | [] => [[c]]
    | w :: ws => (c :: w) :: ws
theorem spL_ne : ∀ l, spL l ≠ []
  | [] => by rw [spL]; exact List.cons_ne_nil _ _
  | c :: r => by
    rw [spL]
    split
    · exact List.cons_ne_nil _ _
    · split <;> exact List.cons_ne_nil _ _
def jnL : List (List Nat) → List Nat
  | [] => []
  | [w] => w
  | w :: x :: r => w ++ 32 :: jnL (x :: r)
theorem jnL_cons (c : Nat) (w : List Nat) : ∀ ws : List (List Nat), jnL ((c :: w) :: ws) = c :: jnL (w :: ws)
  | [] => rfl
  | x :: r => rfl
theorem jn_sp : ∀ l, jnL (spL l) = l
  | [] => rfl
  | c :: r => by
    rw [spL]
    have ih := jn_sp r
    by_cases h : c = 32
    · rw [if_pos h, h]
      cases e : spL r with
      | nil => exact absurd e (spL_ne r)
      | cons w ws => rw [e] at ih; show [] ++ 32 :: jnL (w :: ws) = _; rw [ih]; rfl
    · rw [if_neg h]
      cases e : spL r with
      | nil => exact absurd e (spL_ne r)
      | cons w ws => rw [e] at ih; dsimp only; rw [jnL_cons, ih]
theorem sp_free : ∀ l, ∀ w ∈ spL l, 32 ∉ w
  | [], w, h => by rw [spL] at h; rw [List.mem_singleton.mp h]; exact List.not_mem_nil
  | c :: r, w, h => by
    rw [spL] at h
    by_cases hc : c = 32
    · rw [if_pos hc] at h
      rcases List.mem_cons.mp h with rfl | h
      · exact List.not_mem_nil
      · exact sp_free r w h
    · rw [if_neg hc] at h
      cases e : spL r with
      | nil => exact absurd e (spL_ne r)
      | cons x ws =>
        rw [e] at h
        dsimp only at h
        have ih := sp_free r
        rw [e] at ih
        rcases List.mem_cons.mp h with rfl | h
        · intro q
          rcases List.mem_cons.mp q with q | q
          · exact hc q.symm
          · exact ih x (List.mem_cons_self ..) q
        · exact ih w (List.mem_cons_of_mem _ h)
theorem free_inj : ∀ {a b r q : List Nat}, 32 ∉ a → 32 ∉ b → a ++ 32 :: r = b ++ 32 :: q → a = b ∧ r = q
  | [], [], r, q, _, _, h => ⟨rfl, by injection h⟩
  | [], c :: b, r, q, _, hb, h => by injection h with h1; exact absurd (h1 ▸ List.mem_cons_self ..) hb
  | c :: a, [], r, q, ha, _, h => by injection h with h1; exact absurd (h1 ▸ List.mem_cons_self ..) ha
  | c :: a, d :: b, r, q, ha, hb, h => by
    injection h with h1 h2
    obtain ⟨e1, e2⟩ := free_inj (fun x => ha (List.mem_cons_of_mem _ x)) (fun x => hb (List.mem_cons_of_mem _ x)) h2
    exact ⟨by rw [h1, e1], e2⟩
theorem jn_inj : ∀ {ps qs : List (List Nat)}, ps ≠ [] → qs ≠ [] → (∀ p ∈ ps, 32 ∉ p) → (∀ q ∈ qs, 32 ∉ q) → jnL ps = jnL qs → ps = qs
  | [], _, h, _, _, _, _ => absurd rfl h
  | _, [], _, h, _, _, _ => absurd rfl h
  | [p], [q], _, _, _, _, h => by rw [show p = q from h]
  | [p], q :: x :: r, _, _, hp, _, h => by
    exfalso
    have h : p = q ++ 32 :: jnL (x :: r) := h
    exact hp p (List.mem_cons_self ..) (by rw [h]; exact List.mem_append_right _ (List.mem_cons_self ..))
  | p :: x :: r, [q], _, _, _, hq, h => by
    exfalso
    have h : p ++ 32 :: jnL (x :: r) = q := h
    exact hq q (List.mem_cons_self ..) (by rw [← h]; exact List.mem_append_right _ (List.mem_cons_self ..))
  | p :: x :: r, q :: y :: s, _, _, hp, hq, h => by
    obtain ⟨e1, e2⟩ := free_inj (hp p (List.mem_cons_self ..)) (hq q (List.mem_cons_self ..)) (show p ++ 32 :: jnL (x :: r) = q ++ 32 :: jnL (y :: s) from h)
    rw [e1, jn_inj (List.cons_ne_nil _ _) (List.cons_ne_nil _ _) (fun a ha => hp a (List.mem_cons_of_mem _ ha)) (fun a ha => hq a (List.mem_cons_of_mem _ ha)) e2]
theorem join_blank : ∀ ps : List Str, (Str.join ⟨#[32]⟩ ps).cps.toList = jnL (ps.map fun p => p.cps.toList)
  | [] => rfl
  | [p] => rfl
  | p :: q :: r => by
    have ih := join_blank (q :: r)
    rw [List.map_cons] at ih
    rw [Str.join, List.map_cons, List.map_cons, jnL, ← ih, cps_app, cps_app, List.append_assoc]
    · rfl
    · intro h; cases h
theorem blank_str : (Str.ofString " ") = ⟨#[32]⟩ := by decide +kernel
theorem split_blank (x : Str) : (Txt.split x " ").map (fun p => p.cps.toList) = spL x.cps.toList := by
  rw [blank_str]
  have h1 := PySem.StrLaws.join_split x ⟨#[32]⟩
  have h2 := PySem.StrLaws.split_free x 32
  have h3 : jnL ((Txt.split x ⟨#[32]⟩).map fun p => p.cps.toList) = jnL (spL x.cps.toList) := by
    rw [← join_blank, h1, jn_sp]
  refine jn_inj ?_ (spL_ne _) (fun p hp => ?_) (sp_free _) h3
  · intro e
    have e : Txt.split x ⟨#[32]⟩ = [] := List.map_eq_nil_iff.mp e
    rw [e] at h1 h3
    have h4 : x.cps.toList = [] := by
      have := jn_sp x.cps.toList
      rw [← h3] at this
      exact this.symm
    revert e
    have hx : x = ⟨#[]⟩ := PySem.Str.ext' (Array.toList_inj.mp (by rw [h4]))
    rw [hx]
    decide +kernel
  · obtain ⟨q, hq, rfl⟩ := List.mem_map.mp hp
    exact h2 q hq
/-! replace -/
def sprC (c : Nat) : List Nat := if c = 40 then [32, 40, 32] else if c = 41 then [32, 41, 32] else [c]
theorem repl_one (y : Nat) (z : List Nat) : ∀ l : List Nat, PySem.StrLaws.replL [y] z l = l.flatMap fun c => if c = y then z else [c]
  | [] => PySem.StrLaws.replL_nil
  | c :: r => by
    rw [List.flatMap_cons]
    by_cases h : c = y
    · rw [PySem.StrLaws.replL_hit (List.cons_ne_nil _ _) (by rw [h]; rfl), if_pos h]
      show z ++ PySem.StrLaws.replL [y] z r = _
      rw [repl_one y z r]
    · rw [PySem.StrLaws.replL_miss (by intro e; injection e with e; exact h e), if_neg h, repl_one y z r]
      rfl
theorem spread_cps (x : Str) : (Txt.replace (Txt.replace x "(" " ( ") ")" " ) ").cps.toList = x.cps.toList.flatMap sprC := by
  have l1 : 1 ≤ (Str.ofString "(").length := by decide +kernel
  have l2 : 1 ≤ (Str.ofString ")").length := by decide +kernel
  rw [PySem.StrLaws.replace_list l2, PySem.StrLaws.replace_list l1, show (Str.ofString "(").cps.toList = [40] by decide +kernel, show (Str.ofString ")").cps.toList = [41] by decide +kernel, show (Str.ofString " ( ").cps.toList = [32, 40, 32] by decide +kernel, show (Str.ofString " ) ").cps.toList = [32, 41, 32] by decide +kernel]
  rw [repl_one, repl_one, List.flatMap_assoc]
  refine congrArg (fun f => List.flatMap f x.cps.toList) (funext fun c => ?_)
  unfold sprC
  by_cases h : c = 40
  · rw [if_pos h, if_pos h]; rfl
  · rw [if_neg h, if_neg h, List.flatMap_cons, List.flatMap_nil, List.append_nil]
/-! words -/
def wdL (l : List Nat) : List (List Nat) := (spL l).filter fun w => !w.isEmpty
theorem sp_app : ∀ a b : List Nat, spL (a ++ 32 :: b) = spL a ++ spL b
  | [], b => by
    show spL (32 :: b) = [[]] ++ spL b
    rw [spL.eq_2, if_pos rfl]
    rfl
  | c :: a, b => by
    rw [List.cons_append, spL, spL, sp_app a b]
    by_cases h : c = 32
    · rw [if_pos h, if_pos h]; rfl
    · rw [if_neg h, if_neg h]
      cases e : spL a with
      | nil => exact absurd e (spL_ne a)
      | cons w ws => rfl
theorem wd_app (a b : List Nat) : wdL (a ++ 32 :: b) = wdL a ++ wdL b := by
  unfold wdL
  rw [sp_app, List.filter_append]
theorem wd_nil : wdL [] = [] := rfl
theorem wd_bl (b : List Nat) : wdL (32 :: b) = wdL b := by
  have := wd_app [] b
  rw [wd_nil] at this
  exact this
theorem sp_word : ∀ {w : List Nat}, 32 ∉ w → spL w = [w]
  | [], _ => rfl
  | c :: w, h => by
    rw [spL.eq_2, if_neg (fun e : c = 32 => h (e ▸ List.mem_cons_self ..)), sp_word fun x => h (List.mem_cons_of_mem _ x)]
theorem wd_one {w : List Nat} (h0 : w ≠ []) (h : 32 ∉ w) : wdL w = [w] := by
  unfold wdL
  rw [sp_word h]
  cases w with
  | nil => exact absurd rfl h0
  | cons c w => rfl
/-- what may follow a word -/
def SpO (q : List Nat) : Prop := q = [] ∨ ∃ r, q = 32 :: r
theorem wd_word {w q : List Nat} (h0 : w ≠ []) (h : 32 ∉ w) (hq : SpO q) : wdL (w ++ q) = w :: wdL q := by
  rcases hq with rfl | ⟨r, rfl⟩
  · rw [List.append_nil, wd_one h0 h, wd_nil]
  · rw [wd_app, wd_one h0 h, wd_bl]
    rfl
/-! the words of a term's text -/
mutual
noncomputable def tok : Tm → List (List Nat)
  | .mk h ts => hcs h :: tokL ts
noncomputable def tokL : List Tm → List (List Nat)
  | [] => []
  | t :: ts => (if t.args = [] then tok t else [40] :: (tok t ++ [[41]])) ++ tokL ts
end
theorem spr_plain : ∀ {w : List Nat}, (∀ c ∈ w, Plain c) → w.flatMap sprC = w
  | [], _ => rfl
  | c :: w, h => by
    have p := h c (List.mem_cons_self ..)
    rw [List.flatMap_cons, spr_plain fun x hx => h x (List.mem_cons_of_mem _ hx)]
    unfold sprC
    rw [if_neg p.2.1, if_neg p.2.2]
    rfl
theorem spr_wtL (ts : List Tm) {q : List Nat} (hq : SpO q) : SpO ((wtL ts).flatMap sprC ++ q) := by
  cases ts with
  | nil => rw [wtL]; exact hq
  | cons t ts =>
    rw [wtL]
    split
    · exact .inr ⟨_, rfl⟩
    · exact .inr ⟨_, rfl⟩
section
variable {P : Key → Prop} (hP : ∀ k, P k → HOk k)
include hP
theorem words_n : ∀ n : Nat, (∀ t : Tm, t.size ≤ n → t.All P → ∀ q, SpO q → wdL ((wt t).flatMap sprC ++ q) = tok t ++ wdL q) ∧ (∀ ts : List Tm, Tm.sizeL ts ≤ n → (∀ t ∈ ts, t.All P) → ∀ q, SpO q → wdL ((wtL ts).flatMap sprC ++ q) = tokL ts ++ wdL q) := by
  intro n
  induction n with
  | zero =>
    refine ⟨fun t h => absurd t.size_pos (by omega), fun ts h ha q hq => ?_⟩
    cases ts with
    | cons t ts => rw [Tm.sizeL] at h; exact absurd t.size_pos (by omega)
    | nil => rw [wtL, tokL]; rfl
  | succ n ih =>
    have A : ∀ t : Tm, t.size ≤ n + 1 → t.All P → ∀ q, SpO q → wdL ((wt t).flatMap sprC ++ q) = tok t ++ wdL q := by
      intro t hs ha q hq
      cases t with
      | mk h ts =>
        have ok := hP _ (all_hd ha)
        rw [Tm.size] at hs
        rw [wt, tok, List.flatMap_append, spr_plain ok.pl, List.append_assoc, wd_word ok.ne (fun x => (ok.pl 32 x).1 rfl) (spr_wtL ts hq), ih.2 ts (by omega) (fun t ht => all_sub' ha ht) q hq]
        rfl
    refine ⟨A, fun ts => ?_⟩
    induction ts with
    | nil => intro _ _ q hq; rw [wtL, tokL]; rfl
    | cons t ts ihl =>
      intro hs ha q hq
      rw [Tm.sizeL] at hs
      have hat := ha t (List.mem_cons_self ..)
      have r1 := ihl (by omega) (fun t ht => ha t (List.mem_cons_of_mem _ ht)) q hq
      have sq := spr_wtL ts hq
      rw [wtL, tokL]
      by_cases l : t.args = []
      · rw [if_pos l, if_pos l, List.cons_append, List.flatMap_cons, List.flatMap_append, show sprC 32 = [32] from rfl, List.append_assoc, List.append_assoc, List.singleton_append, wd_bl, A t (by omega) hat _ sq, r1, List.append_assoc]
      · rw [if_neg l, if_neg l]
        rw [List.cons_append, List.cons_append, List.flatMap_cons, List.flatMap_cons, List.flatMap_append, List.flatMap_append, show sprC 32 = [32] from rfl, show sprC 40 = [32, 40, 32] from rfl, show [41].flatMap sprC = [32, 41, 32] from rfl]
        simp only [List.append_assoc, List.cons_append, List.nil_append]
        rw [wd_bl, wd_bl, show (40 :: 32 :: ((wt t).flatMap sprC ++ 32 :: 41 :: 32 :: ((wtL ts).flatMap sprC ++ q)) : List Nat) = [40] ++ 32 :: ((wt t).flatMap sprC ++ 32 :: 41 :: 32 :: ((wtL ts).flatMap sprC ++ q)) from rfl, wd_app, wd_one (w := [40]) (List.cons_ne_nil _ _) (by decide), A t (by omega) hat _ (.inr ⟨_, rfl⟩), wd_bl]
        rw [show (41 :: 32 :: ((wtL ts).flatMap sprC ++ q) : List Nat) = [41] ++ 32 :: ((wtL ts).flatMap sprC ++ q) from rfl, wd_app, wd_one (w := [41]) (List.cons_ne_nil _ _) (by decide), r1]
        rfl
theorem words_wt {t : Tm} (ha : t.All P) : wdL ((wt t).flatMap sprC) = tok t := by
  have := (words_n hP t.size).1 t (Nat.le_refl _) ha [] (.inl rfl)
  rw [List.append_nil, wd_nil, List.append_nil] at this
  exact this
end
end DM

namespace DM
open PySem L2 MD
open DF (Tm)
open DF (KOk)
/-! ### heads that read_term reads -/
def LET : Str := "abcdefghijklmnopqrstuvwxyzABCDEFGHIJKLMNOPQRSTUVWXYZ"
def DIG : Str := "0123456789"
def isLet (c : Nat) : Prop := c ∈ LET.cps.toList
def isAln (c : Nat) : Prop := c ∈ (LET ++ DIG).cps.toList
instance (c : Nat) : Decidable (isLet c) := inferInstanceAs (Decidable (_ ∈ _))
instance (c : Nat) : Decidable (isAln c) := inferInstanceAs (Decidable (_ ∈ _))
/-- names of one to twelve letters and digits, a letter first; unknowns below 10000 -/
def RK : Key → Prop
  | .inl i => 0 ≤ i ∧ i < 10000
  | .inr x => x.length ≤ 12 ∧ (∃ c r, x.cps.toList = c :: r ∧ isLet c) ∧ ∀ c ∈ x.cps.toList, isAln c
theorem aln_rng : ∀ c ∈ (LET ++ DIG).cps.toList, c ≠ 32 ∧ c ≠ 40 ∧ c ≠ 41 ∧ c ≠ 10 ∧ c ≠ 63 ∧ c < 128 := by decide +kernel
theorem in_let : ∀ c ∈ LET.cps.toList, (!(Builtin.Str.occurrences LET ⟨#[c]⟩ 0 LET.length 1).isEmpty) = true := by decide +kernel
theorem in_aln : ∀ c ∈ (LET ++ DIG).cps.toList, (!(Builtin.Str.occurrences (LET ++ DIG) ⟨#[c]⟩ 0 (LET ++ DIG).length 1).isEmpty) = true := by decide +kernel
theorem in_dig : ∀ c ∈ DIG.cps.toList, (!(Builtin.Str.occurrences DIG ⟨#[c]⟩ 0 DIG.length 1).isEmpty) = true := by decide +kernel
theorem q_let : (!(Builtin.Str.occurrences LET ⟨#[63]⟩ 0 LET.length 1).isEmpty) = false := by decide +kernel
theorem dig_mem : ∀ c : Nat, 48 ≤ c → c ≤ 57 → c ∈ DIG.cps.toList := by
  intro c h1 h2
  have : c = 48 ∨ c = 49 ∨ c = 50 ∨ c = 51 ∨ c = 52 ∨ c = 53 ∨ c = 54 ∨ c = 55 ∨ c = 56 ∨ c = 57 := by omega
  rcases this with rfl | rfl | rfl | rfl | rfl | rfl | rfl | rfl | rfl | rfl <;> decide +kernel
theorem rk_hok (k : Key) (h : RK k) : HOk k := by
  cases k with
  | inl i =>
    have hi := hcs_inl (i := i) h.1
    refine ⟨by rw [hi]; exact List.cons_ne_nil _ _, fun c hc => ?_⟩
    rw [hi] at hc
    rcases List.mem_cons.mp hc with rfl | hc
    · exact ⟨by decide, by decide, by decide⟩
    · have := dgs_dig hc
      exact ⟨by omega, by omega, by omega⟩
  | inr x =>
    obtain ⟨_, ⟨c, r, e, _⟩, h3⟩ := h
    refine ⟨by show x.cps.toList ≠ []; rw [e]; exact List.cons_ne_nil _ _, fun c hc => ?_⟩
    have := aln_rng c (h3 c hc)
    exact ⟨this.1, this.2.1, this.2.2.1⟩
theorem RK.hg {t : Tm} (h : t.All RK) : t.All HG := fun k hk => by
  have := h k hk
  cases k with
  | inl i => exact ⟨this.1, Int.lt_of_lt_of_le this.2 (by decide)⟩
  | inr x => exact Nat.le_trans this.1 (by decide)
/-! digits -/
theorem dgs_len {n : Nat} (h : n < 10000) : (dgs n).length ≤ 4 := by
  unfold dgs
  rw [List.length_map]
  exact (Nat.length_toDigits_le_iff (by decide) (by decide)).mpr h
theorem dgs_pos (n : Nat) : dgs n ≠ [] := by
  unfold dgs
  intro h
  exact Nat.toDigits_ne_nil (List.map_eq_nil_iff.mp h)
theorem dgs_hd : ∀ (N n : Nat), n ≤ N → 0 < n → (dgs n).head? ≠ some 48
  | 0, n, h, h0 => by omega
  | N + 1, n, h, h0 => by
    by_cases hn : n < 10
    · have : n = 1 ∨ n = 2 ∨ n = 3 ∨ n = 4 ∨ n = 5 ∨ n = 6 ∨ n = 7 ∨ n = 8 ∨ n = 9 := by omega
      rcases this with rfl | rfl | rfl | rfl | rfl | rfl | rfl | rfl | rfl <;> decide +kernel
    · have ih := dgs_hd N (n / 10) (by omega) (by omega)
      have e := Nat.toDigits_append_toDigits (b := 10) (n := n / 10) (d := n % 10) (by decide) (by omega) (by omega)
      rw [show 10 * (n / 10) + n % 10 = n by omega] at e
      unfold dgs at ih ⊢
      rw [← e, List.map_append]
      cases q : (Nat.toDigits 10 (n / 10)).map Char.toNat with
      | nil => exact absurd q (dgs_pos (n / 10))
      | cons c r => rw [q] at ih; exact ih
theorem dgs_val (n : Nat) : PySem.NumText.digitsVal (dgs n) = n := by
  have := Nat.ofDigitChars_ten_toDigits (n := n)
  rw [Nat.ofDigitChars_eq_foldl] at this
  unfold PySem.NumText.digitsVal dgs
  rw [List.foldl_map]
  refine Eq.trans ?_ this
  refine congrArg (fun f => List.foldl f 0 (Nat.toDigits 10 n)) (funext fun a => funext fun c => ?_)
  rw [Nat.mul_comm a 10]
  rfl
theorem int_read {x : Str} {n : Nat} (h : n < 10000) (e : x.cps.toList = dgs n) : intText? x = some (n : Int) := by
  have l : x.length ≤ 4 := by
    show x.cps.size ≤ 4
    rw [← Array.length_toList, e]
    exact dgs_len h
  rw [PySem.intText_digits (x := x) (by rw [e]; exact fun c hc => dgs_dig hc) (by rw [e]; exact dgs_pos n) (by omega), e, dgs_val]
/-! the defs -/
section
variable {S : Sto}
theorem consists_eq (k : Nat) (hS : Wf S) (x A : Str) (hx : x.length ≤ 1000) (h : ∀ c ∈ x.cps.toList, (!(Builtin.Str.occurrences A ⟨#[c]⟩ 0 A.length 1).isEmpty) = true) : M_consists_of (k + 1) [.str x, .str A] S = .ok (.bl true) S := by
  rw [M_consists_of, mFn_eq, show startE 3 [.str x, .str A] = [some (.str x), some (.str A), none] from rfl]
  have lc := lcGo_all (S := S) (c := none) (g := gN 2) (m := mOp dIn (mVar 2) (mVar 1)) (α := [some (.str x), some (.str A), none]) True.intro chrD (fun c => Dt.bl true) x.cps.toList [] (fun c hc => ⟨[some (.str x), some (.str A), some (chrD c)], rfl, by
    rw [sOp, sVar2, bind_ok, sVar1, bind_ok, show dIn (chrD c) (.str A) S = .ok (.bl (!(Builtin.Str.occurrences A ⟨#[c]⟩ 0 A.length 1).isEmpty)) S from rfl, h c hc]⟩) (by
    rw [List.length_nil, Nat.zero_add, Array.length_toList]
    have : x.cps.size = x.length := rfl
    omega)
  have a1 : mCall dAll (mA1 (mLc [2] (mIts (mVar 0)) (gN 2) mYes (mOp dIn (mVar 2) (mVar 1))) mA0) [some (.str x), some (.str A), none] S = .ok (.bl true) (S ++ [Cell.lst ((x.cps.toList.map fun _ => true).map .bl)]) := by
    have a2 : mLc [2] (mIts (mVar 0)) (gN 2) mYes (mOp dIn (mVar 2) (mVar 1)) [some (.str x), some (.str A), none] S = .ok (.loc S.length) (S ++ [Cell.lst ((x.cps.toList.map fun _ => true).map .bl)]) := by
      unfold mLc mIts
      rw [sVar0, bind_ok, show itOfS (.str x) S = .ok (x.cps.toList.map chrD, none) S from rfl, bind_ok]
      show Rs.bind (lcGo none _ _ _ [some (.str x), some (.str A), none] _ _ _) _ = _
      rw [lc, bind_ok, List.nil_append, List.map_map]
      rfl
    rw [sCall, sA1, a2, bind_ok, sA0, bind_ok, bind_ok]
    unfold dAll
    dsimp only
    rw [get0]
    dsimp only
    rw [bls_all]
    dsimp only
    rw [List.all_map]
    rw [show x.cps.toList.all (id ∘ fun _ => true) = true from List.all_eq_true.mpr fun _ _ => rfl]
  rw [sRt, a1, rthen_ok]
  exact gc_drop hS bddBl
theorem len_s {x : Str} (h : x.length ≤ 1000000) : dLen [.str x] S = .ok (.int x.length) S := by
  unfold dLen
  dsimp only
  rw [if_pos h]
theorem ix_s0 {x : Str} {c : Nat} {r : List Nat} (h : x.length ≤ 1000000) (e : x.cps.toList = c :: r) : dIx (.str x) (.int 0) S = .ok (.str ⟨#[c]⟩) S := by
  unfold dIx
  dsimp only
  rw [if_pos h, e, show atI (c :: r) (0 : Int) = some c by
    unfold atI ixN
    rw [if_pos (by omega), if_pos (by rw [List.length_cons]; omega)]
    rfl]
theorem one_len {x : Str} {c : Nat} {r : List Nat} (e : x.cps.toList = c :: r) : 1 ≤ x.length := by
  show 1 ≤ x.cps.size
  rw [← Array.length_toList, e, List.length_cons]
  omega
theorem chain_len {a c : Int} {x : Str} {α : MD.Env} (h : x.length ≤ 1000000) (hx : ∀ Z, mVar 0 α Z = .ok (.str x) Z) : mChain dLe dLe (mC (.int a)) (mCall dLen (mA1 (mVar 0) mA0)) (mC (.int c)) α S = .ok (.bl (decide (a ≤ (x.length : Int) ∧ (x.length : Int) ≤ c))) S := by
  unfold mChain
  rw [sC, bind_ok, sCall, sA1, hx, bind_ok, sA0, bind_ok, bind_ok, len_s h, bind_ok, show ∀ i j : Int, dLe (.int i) (.int j) S = .ok (.bl (decide (i ≤ j))) S from fun _ _ => rfl, bind_ok]
  by_cases h1 : a ≤ (x.length : Int)
  · rw [decide_eq_true h1]
    dsimp only
    rw [sC, bind_ok, show ∀ i j : Int, dLe (.int i) (.int j) S = .ok (.bl (decide (i ≤ j))) S from fun _ _ => rfl]
    rw [decide_eq_decide.mpr (show (x.length : Int) ≤ c ↔ a ≤ (x.length : Int) ∧ (x.length : Int) ≤ c from ⟨fun q => ⟨h1, q⟩, fun q => q.2⟩)]
  · rw [decide_eq_false h1]
    dsimp only
    rw [decide_eq_false fun q => h1 q.1]
theorem is_name_yes (k : Nat) (hS : Wf S) {x : Str} (h : RK (.inr x)) : M_is_name (k + 2) [.str x] S = .ok (.bl true) S := by
  obtain ⟨h1, ⟨c, r, e, h2⟩, h3⟩ := h
  have l1 := one_len e
  rw [M_is_name, mFn_eq, show startE 1 [.str x] = [some (.str x)] from rfl]
  rw [sRt, sAnd, chain_len (x := x) (by omega) (fun Z => rfl), bind_ok, decide_eq_true ⟨by omega, by omega⟩]
  dsimp only
  rw [sAnd, sOp, sOp, sVar0, bind_ok, sC, bind_ok, ix_s0 (by omega) e, bind_ok, sC, bind_ok, show dIn (.str ⟨#[c]⟩) (.str (Str.ofString "abcdefghijklmnopqrstuvwxyzABCDEFGHIJKLMNOPQRSTUVWXYZ")) S = .ok (.bl (!(Builtin.Str.occurrences LET ⟨#[c]⟩ 0 LET.length 1).isEmpty)) S from rfl, bind_ok, in_let c h2]
  dsimp only
  rw [sCall, sA1, sVar0, bind_ok, sA1, sOp, sC, bind_ok, sC, bind_ok, show dAdd (.str (Str.ofString "abcdefghijklmnopqrstuvwxyzABCDEFGHIJKLMNOPQRSTUVWXYZ")) (.str (Str.ofString "0123456789")) S = .ok (.str (LET ++ DIG)) S by
    unfold dAdd
    dsimp only
    rw [if_pos (by decide +kernel)]
    rfl, bind_ok, sA0, bind_ok, bind_ok, bind_ok, own2, consists_eq k hS x (LET ++ DIG) (by omega) fun c hc => in_aln c (h3 c hc), rthen_ok]
  exact gc_same
/-- the text of an unknown's number -/
theorem is_number_yes (k : Nat) (hS : Wf S) {x : Str} {n : Nat} (hn : n < 10000) (e : x.cps.toList = dgs n) : M_is_number (k + 2) [.str x] S = .ok (.bl true) S := by
  have l4 : x.length ≤ 4 := by
    show x.cps.size ≤ 4
    rw [← Array.length_toList, e]
    exact dgs_len hn
  obtain ⟨c, r, er⟩ : ∃ c r, x.cps.toList = c :: r := by
    cases q : x.cps.toList with
    | nil => rw [q] at e; exact absurd e.symm (dgs_pos n)
    | cons c r => exact ⟨c, r, rfl⟩
  have l1 := one_len er
  rw [M_is_number, mFn_eq, show startE 1 [.str x] = [some (.str x)] from rfl]
  rw [sRt, sAnd, chain_len (x := x) (by omega) (fun Z => rfl), bind_ok, decide_eq_true ⟨by omega, by omega⟩]
  dsimp only
  rw [sAnd, sCall, sA1, sVar0, bind_ok, sA1, sC, bind_ok, sA0, bind_ok, bind_ok, bind_ok, own2, show (Str.ofString "0123456789" : Str) = DIG from rfl, consists_eq k hS x DIG (by omega) (fun c hc => by
    rw [e] at hc
    have := dgs_dig hc
    exact in_dig c (dig_mem c this.1 this.2)), bind_ok]
  dsimp only
  rw [sOr, sOp, sVar0, bind_ok, sC, bind_ok, eq_ss, bind_ok]
  by_cases h0 : x = Str.ofString "0"
  · rw [decide_eq_true h0]
    exact gc_same
  · rw [decide_eq_false h0]
    dsimp only
    rw [sOp, sOp, sVar0, bind_ok, sC, bind_ok, ix_s0 (by omega) er, bind_ok, sC, bind_ok, show dNe (.str ⟨#[c]⟩) (.str (Str.ofString "0")) S = .ok (.bl (!decide ((⟨#[c]⟩ : Str) = Str.ofString "0"))) S from rfl, rthen_ok]
    have : ¬ (⟨#[c]⟩ : Str) = Str.ofString "0" := by
      intro q
      have hc : c = 48 := by
        have := congrArg (fun s : Str => s.cps.toList) q
        rw [show (Str.ofString "0").cps.toList = [48] by decide +kernel] at this
        injection this
      by_cases hn0 : n = 0
      · refine h0 (PySem.Str.ext' (Array.toList_inj.mp ?_))
        rw [e, hn0]
        decide +kernel
      · have := dgs_hd n n (Nat.le_refl _) (by omega)
        rw [← e, er, hc] at this
        exact this rfl
    rw [decide_eq_false this]
    exact gc_same
theorem is_name_not (k : Nat) {x : Str} {r : List Nat} (hx : x.length ≤ 12) (e : x.cps.toList = 63 :: r) : M_is_name (k + 1) [.str x] S = .ok (.bl false) S := by
  have l1 := one_len e
  rw [M_is_name, mFn_eq, show startE 1 [.str x] = [some (.str x)] from rfl]
  rw [sRt, sAnd, chain_len (x := x) (by omega) (fun Z => rfl), bind_ok, decide_eq_true ⟨by omega, by omega⟩]
  dsimp only
  rw [sAnd, sOp, sOp, sVar0, bind_ok, sC, bind_ok, ix_s0 (by omega) e, bind_ok, sC, bind_ok, show dIn (.str ⟨#[63]⟩) (.str (Str.ofString "abcdefghijklmnopqrstuvwxyzABCDEFGHIJKLMNOPQRSTUVWXYZ")) S = .ok (.bl (!(Builtin.Str.occurrences LET ⟨#[63]⟩ 0 LET.length 1).isEmpty)) S from rfl, bind_ok, q_let]
  exact gc_same
theorem read_head_eq (k : Nat) (hS : Wf S) {g : Key} (h : RK g) {x : Str} (e : x.cps.toList = hcs g) : M_read_head (k + 3) [.str x] S = .ok (kD g) S := by
  rw [M_read_head, mFn_eq, show startE 1 [.str x] = [some (.str x)] from rfl]
  cases g with
  | inr y =>
    have hy : x = y := PySem.Str.ext' (Array.toList_inj.mp e)
    subst hy
    rw [sSq, sIfS, sTru, sCall, sA1, sVar0, bind_ok, sA0, bind_ok, bind_ok, own1, is_name_yes k hS h, bind_ok, tru_bl, rthen_ok, if_pos rfl, sRt, sVar0, rthen_ok, fthen_rt]
    exact gc_same
  | inl i =>
    obtain ⟨n, rfl⟩ : ∃ n : Nat, i = n := ⟨i.toNat, by have := h.1; omega⟩
    have hn : n < 10000 := by have := h.2; omega
    rw [hcs_inl (by omega), Int.toNat_natCast] at e
    have xl : x.length = (dgs n).length + 1 := by
      show x.cps.size = _
      rw [← Array.length_toList, e, List.length_cons]
    have dl := dgs_len hn
    rw [sSq, sIfS, sTru, sCall, sA1, sVar0, bind_ok, sA0, bind_ok, bind_ok, own1, is_name_not (k + 1) (by omega) e, bind_ok, tru_bl, rthen_ok, if_neg Bool.false_ne_true, sNx, fthen_nx]
    have cut : cutS x (some 1) none = ⟨(dgs n).toArray⟩ := by
      unfold cutS
      rw [show HT.sIx x.length 0 (some (1 : Int)) = 1 by rw [show (1 : Int) = ((1 : Nat) : Int) from rfl, HT.sIx_nat]; omega, HT.sIx_none, e, List.drop_one, List.tail_cons, List.take_of_length_le (by omega)]
    have sl : ∀ α : MD.Env, (∀ Z, mVar 0 α Z = .ok (.str x) Z) → mSl dSl (mVar 0) (mOs (mC (.int 1))) mOn α S = .ok (.str ⟨(dgs n).toArray⟩) S := fun α hα => by
      rw [sSl, hα, bind_ok, sOs, sC, bind_ok]
      dsimp only
      rw [bind_ok, sOn, bind_ok]
      unfold dSl
      dsimp only
      rw [if_pos (by omega), cut]
    have dc : (⟨(dgs n).toArray⟩ : Str).cps.toList = dgs n := List.toList_toArray ..
    have sw : mTru (mM1 dStarts (mVar 0) (mC (.str "?"))) [some (.str x)] S = .ok true S := by
      rw [sTru, show ∀ (m1 m2 : ME) (α : MD.Env) S1, mM1 dStarts m1 m2 α S1 = (m1 α S1).bind fun x S1 => if isStr x = true then (m2 α S1).bind fun y S2 => dStarts x [y] S2 else .no from fun _ _ _ _ => rfl, sVar0, bind_ok, if_pos (show isStr (Dt.str x) = true from rfl), sC, bind_ok, show dStarts (.str x) [.str (Str.ofString "?")] S = .ok (.bl (Txt.startswith x (Str.ofString "?"))) S from rfl, bind_ok, tru_bl]
      have ql : (Str.ofString "?").length = 1 := by decide +kernel
      have : Txt.startswith x (Str.ofString "?") = true := by
        unfold Txt.startswith Builtin.Str.subAt
        rw [Bool.and_eq_true, decide_eq_true_eq, beq_iff_eq, ← Array.toList_inj, Array.toList_extract, ql, e, show (Str.ofString "?").cps.toList = [63] by decide +kernel]
        exact ⟨by omega, rfl⟩
      rw [this]
    rw [sSq, sIfS, stAnd, sw, bind_ok, if_pos rfl, sTru, sCall, sA1, sl _ (fun _ => rfl), bind_ok, sA0, bind_ok, bind_ok, own1, is_number_yes k hS hn dc, bind_ok, tru_bl, rthen_ok, if_pos rfl]
    have ir := int_read (x := ⟨(dgs n).toArray⟩) hn dc
    rw [sRt, sCall, sA1, sl _ (fun _ => rfl), bind_ok, sA0, bind_ok, bind_ok, show dInt3 [.str ⟨(dgs n).toArray⟩] S = .ok (.int (n : Int)) S by
      unfold dInt3
      dsimp only
      rw [ir]
      dsimp only
      rw [if_pos]
      show (dgs n).toArray.size ≤ 640
      rw [List.size_toArray]
      omega, rthen_ok, fthen_rt]
    exact gc_same
theorem sp_len : ∀ (l : List Nat), ∀ w ∈ spL l, w.length ≤ l.length
  | [], w, h => by rw [spL] at h; rw [List.mem_singleton.mp h]; exact Nat.le_refl _
  | c :: r, w, h => by
    rw [spL.eq_2] at h
    rw [List.length_cons]
    by_cases hc : c = 32
    · rw [if_pos hc] at h
      rcases List.mem_cons.mp h with rfl | h
      · exact Nat.zero_le _
      · have := sp_len r w h; omega
    · rw [if_neg hc] at h
      have ih := sp_len r
      cases e : spL r with
      | nil => exact absurd e (spL_ne r)
      | cons x ws =>
        rw [e] at h ih
        dsimp only at h
        rcases List.mem_cons.mp h with rfl | h
        · have := ih x (List.mem_cons_self ..); rw [List.length_cons]; omega
        · have := ih w (List.mem_cons_of_mem _ h); omega
theorem str_bld (p : Str) : (⟨p.cps.toList.toArray⟩ : Str) = p := PySem.Str.ext' (by rw [Array.toArray_toList])
theorem words_eq (k : Nat) (hS : Wf S) (x : Str) (hx : x.length ≤ 3000) {ws : List (List Nat)} (hw : wdL (x.cps.toList.flatMap sprC) = ws) : M_words (k + 1) [.str x] S = .ok (.loc S.length) (S ++ [Cell.lst (ws.map fun w => .str ⟨w.toArray⟩)]) := by
  have l1 : (Str.ofString " ( ").length = 3 := by decide +kernel
  have l2 : (Str.ofString " ) ").length = 3 := by decide +kernel
  have b1 := TK.replace_len x (Str.ofString "(") (Str.ofString " ( ")
  have b2 := TK.replace_len (Txt.replace x "(" " ( ") (Str.ofString ")") (Str.ofString " ) ")
  have sc := spread_cps x
  rw [l1] at b1
  rw [l2] at b2
  rw [M_words, mFn_eq, show startE 3 [.str x] = [some (.str x), none, none] from rfl]
  have c1 : mGc (mRep ")" " ) " (mRep "(" " ( " (mVar 0))) [some (.str x), none, none] S = .ok (.str (Txt.replace (Txt.replace x "(" " ( ") ")" " ) ")) S := by
    rw [sGc (d := .str (Txt.replace (Txt.replace x "(" " ( ") ")" " ) ")) (S' := S) (by
      unfold mRep
      rw [sVar0, bind_ok]
      dsimp only
      rw [if_pos (by rw [l1]; omega), bind_ok]
      dsimp only
      rw [if_pos (by rw [l2]; omega)]), gc_same]
  rw [sSq, sSet, c1, rthen_ok, fthen_nx]
  simp only [xset_s, xset_0]
  generalize hy : Txt.replace (Txt.replace x "(" " ( ") ")" " ) " = y at sc b2
  have yl : y.length ≤ 60000 := by omega
  have sb := split_blank y
  rw [sc] at sb
  have fl : (((Txt.split y " ").filter fun p => !p.cps.toList.isEmpty).map fun p => p.cps.toList) = ws := by
    rw [← hw]
    unfold wdL
    rw [← sb, List.filter_map]
    rfl
  have spl : dSplit (.str y) [.str (Str.ofString " ")] S = .ok (.loc S.length) (S ++ [.lst ((Txt.split y " ").map .str)]) := by
    unfold dSplit
    dsimp only
    rw [if_pos ⟨by decide +kernel, by omega⟩]
  have w1 : Wf (S ++ [Cell.lst ((Txt.split y " ").map .str)]) := wf_app hS (by
    show (Dt.bddL _ _ && true) = true
    rw [strsB]; rfl)
  have sl : (Txt.split y " ").length ≤ 100000 := by
    have h1 : (spL (x.cps.toList.flatMap sprC)).length ≤ (x.cps.toList.flatMap sprC).length + 1 := by
      generalize x.cps.toList.flatMap sprC = l
      induction l with
      | nil => exact Nat.le_refl _
      | cons c r ih =>
        rw [spL.eq_2]
        split
        · rw [List.length_cons, List.length_cons]; omega
        · split
          · rw [List.length_singleton]; omega
          · rename_i e; rw [e] at ih; rw [List.length_cons] at ih ⊢; rw [List.length_cons]; exact Nat.le_trans ih (Nat.le_succ _)
    have e1 : (Txt.split y " ").length = (spL (x.cps.toList.flatMap sprC)).length := by rw [← sb, List.length_map]
    have e2 : (x.cps.toList.flatMap sprC).length = y.length := by rw [← sc]; exact Array.length_toList
    omega
  have pl : ∀ p ∈ Txt.split y " ", p.length ≤ 60000 := fun p hp => by
    have h1 : p.cps.toList ∈ spL (x.cps.toList.flatMap sprC) := by rw [← sb]; exact List.mem_map_of_mem hp
    have h2 := sp_len _ _ h1
    have e2 : (x.cps.toList.flatMap sprC).length = y.length := by rw [← sc]; exact Array.length_toList
    have e3 : p.cps.toList.length = p.length := Array.length_toList
    omega
  have lc := lcGo_pure (S := S ++ [Cell.lst ((Txt.split y " ").map .str)]) (c := some (S.length, (Txt.split y " ").map .str)) (g := gN 2) (t := mTru (mVar 2)) (m := mVar 2) (α := [some (.str x), some (.str y), none]) (show chk (some (S.length, (Txt.split y " ").map .str)) _ from get0) (fun p : Str => Dt.str p) (fun p => !p.cps.toList.isEmpty) (fun p => Dt.str p) (Txt.split y " ") [] (fun p hp => ⟨[some (.str x), some (.str y), some (.str p)], rfl, by
    rw [sTru, sVar2, bind_ok]
    unfold dTru
    dsimp only
    rw [if_pos (by have := pl p hp; omega)]
    congr 1
    have e3 : p.cps.toList.length = p.length := Array.length_toList
    cases q : p.cps.toList with
    | nil => rw [q] at e3; rw [show p.length = 0 from e3.symm]; rfl
    | cons c r =>
      rw [q, List.length_cons] at e3
      rw [bne_iff_ne.mpr (show ((p.length : Nat) : Int) ≠ 0 by omega)]
      rfl, fun _ => rfl⟩) (by rw [List.length_nil]; omega)
  have a1 : mLc [2] (mIt (mM1 dSplit (mVar 1) (mC (.str " ")))) (gN 2) (mTru (mVar 2)) (mVar 2) [some (.str x), some (.str y), none] S = .ok (.loc (S.length + 1)) (S ++ [Cell.lst ((Txt.split y " ").map .str), Cell.lst (ws.map fun w => .str ⟨w.toArray⟩)]) := by
    unfold mLc
    rw [sIt, show ∀ (m1 m2 : ME) (α : MD.Env) S1, mM1 dSplit m1 m2 α S1 = (m1 α S1).bind fun x S1 => if isStr x = true then (m2 α S1).bind fun y S2 => dSplit x [y] S2 else .no from fun _ _ _ _ => rfl, sVar1, bind_ok, if_pos (show isStr (Dt.str y) = true from rfl), sC, bind_ok, spl, bind_ok, it_loc get0, bind_ok]
    show Rs.bind (lcGo (some (S.length, (Txt.split y " ").map .str)) _ _ _ [some (.str x), some (.str y), none] _ _ _) _ = _
    rw [lc, bind_ok, List.nil_append, List.length_append, List.append_assoc, ← fl, List.map_map]
    rw [show ((fun w : List Nat => Dt.str ⟨w.toArray⟩) ∘ fun p : Str => p.cps.toList) = fun p : Str => Dt.str p from funext fun p => congrArg Dt.str (str_bld p)]
    rfl
  rw [sRt, a1, rthen_ok]
  dsimp only
  refine gc_at hS (by omega) get1 ?_
  show Dt.bddL _ _ = true
  generalize ws = l
  induction l with
  | nil => exact bddNil
  | cons w l ih => rw [List.map_cons, bddCons, ih, bddStr]; rfl
theorem joined_eq (k : Nat) (hS : Wf S) {I : Nat} {t : Tm} {as : List Tm} (h : S[I]? = some (Cell.lst ((t :: as).map tD))) (hl : as.length + t.args.length ≤ 100000) : M_joined (k + 2) [.loc I] S = .ok (tD (t.appl as)) S := by
  rw [M_joined, mFn_eq, show startE 1 [.loc I] = [some (.loc I)] from rfl]
  have tr : mtNot (mTru (mVar 0)) [some (.loc I)] S = .ok false S := by
    rw [stNot, sTru, sVar0, bind_ok]
    unfold dTru
    dsimp only
    rw [h]
    rfl
  rw [sSq, sIfS, tr, rthen_ok, if_neg Bool.false_ne_true, sNx, fthen_nx]
  have i0 : dIx (.loc I) (.int 0) S = .ok (tD t) S := ix_loc (n := 0) h rfl
  have sl : dSl (.loc I) (some 1) none S = .ok (.loc S.length) (S ++ [Cell.lst (as.map tD)]) := by
    rw [sl_loc h, show cutD ((t :: as).map tD) (some (1 : Int)) none = as.map tD by
      have := cutD_from ((t :: as).map tD) 1 (by rw [List.length_map, List.length_cons]; omega)
      rw [show ((1 : Nat) : Int) = 1 from rfl] at this
      rw [this]
      rfl]
  have ap := applied_eq k (S ++ [Cell.lst (as.map tD)]) t as (by omega)
  rw [sRt, sCall, sA1, sOp, sVar0, bind_ok, sC, bind_ok, i0, bind_ok, sA1, sCall, sA1, sSl, sVar0, bind_ok, sOs, sC, bind_ok]
  dsimp only
  rw [bind_ok, sOn, bind_ok, sl, bind_ok, sA0, bind_ok, bind_ok, tup_loc get0, bind_ok, sA0, bind_ok, bind_ok, bind_ok, own2, ap, rthen_ok]
  exact gc_drop hS (tD_bdd _ _)
end
end DM

namespace DM
open PySem L2 MD
open DF (Tm)
open DF (KOk)
section
variable {S Z : Sto} {st : Nat} {d : Int}
theorem pkc (k : Nat) (ns : List Int) (h : PkAt Z st d) {α : MD.Env} {m : ME} {many : Int} (v0 : ∀ Z, mVar 0 α Z = .ok (.loc st) Z) (v1 : ∀ Z, mVar 1 α Z = .ok (.scr ns) Z) (hm : m α Z = .ok (.int many) Z) (h0 : 0 < many) (h1 : many < 1073741824 := by decide) :
    ∃ r S', mCall (mOwn 3 (M_h_pick (k + 1))) (mA1 (mVar 0) (mA1 (mVar 1) (mA1 m mA0))) α Z = .ok (.int r) S' ∧ (0 ≤ r ∧ r < many) ∧ PkR Z st d S' := by
  obtain ⟨r, S', e, b, p⟩ := pick_eq k ns h many h0 h1
  exact ⟨r, S', by rw [sCall, sA1, v0, bind_ok, sA1, v1, bind_ok, sA1, hm, bind_ok, sA0, bind_ok, bind_ok, bind_ok, bind_ok, own3, e], b, p⟩
def SML : Str := "abcdefghijklmnopqrstuvwxyz"
theorem chars_eq : (SML ++ Txt.upper SML) ++ Str.ofString "0123456789" = LET ++ DIG := by decide +kernel
theorem sml_let : ∀ c ∈ SML.cps.toList, isLet c := by decide +kernel
theorem upp_let : ∀ c ∈ (Txt.upper SML).cps.toList, isLet c := by decide +kernel
theorem let_aln : ∀ c ∈ LET.cps.toList, isAln c := by decide +kernel
theorem sml_len : SML.length = 26 ∧ (Txt.upper SML).length = 26 ∧ (LET ++ DIG).length = 62 := by decide +kernel
theorem ix_sn {x : Str} {n : Nat} (h : x.length ≤ 1000000) (hn : n < x.length) : ∃ c ∈ x.cps.toList, dIx (.str x) (.int (n : Int)) S = .ok (.str ⟨#[c]⟩) S := by
  have hn' : n < x.cps.toList.length := by rw [Array.length_toList]; exact hn
  refine ⟨x.cps.toList[n], List.getElem_mem hn', ?_⟩
  unfold dIx
  dsimp only
  rw [if_pos h, atI_nat' (List.getElem?_eq_getElem hn')]
/-- the letters that a name begins with -/
def capL (large : Bool) : List Nat := if large then (Txt.upper SML).cps.toList else SML.cps.toList
def Cap (large : Bool) (x : Str) : Prop := ∃ c r, x.cps.toList = c :: r ∧ c ∈ capL large
def NmP (L : List Nat) (n : Nat) (x : Str) : Prop := x.length ≤ n ∧ (∃ c r, x.cps.toList = c :: r ∧ isLet c ∧ c ∈ L) ∧ ∀ c ∈ x.cps.toList, isAln c
theorem name_loop {L : List Nat} (k : Nat) (ns : List Int) (B : MS) (hB : B = mSet 6 (mGc (mOp dAdd (mVar 6) (mOp dIx (mVar 4) (mCall (mOwn 3 (M_h_pick (k + 1))) (mA1 (mVar 0) (mA1 (mVar 1) (mA1 (mC (.int 62)) mA0)))))))) (x2 x3 x5 : Option Dt) : ∀ (its : List Dt) (Z : Sto) (n : Nat) (w : Str) (z7 : Option Dt), PkAt Z st d → NmP L n w → n + its.length ≤ 1000 →
    ∃ y7 w' Z', forGo none (gN 7) B its [some (.loc st), some (.scr ns), x2, x3, some (.str (LET ++ DIG)), x5, some (.str w), z7] Z = .nx [some (.loc st), some (.scr ns), x2, x3, some (.str (LET ++ DIG)), x5, some (.str w'), y7] Z' ∧ NmP L (n + its.length) w' ∧ PkR Z st d Z'
  | [], Z, n, w, z7, h, hw, _ => ⟨z7, w, Z, rfl, hw, h.self⟩
  | e :: its, Z, n, w, z7, h, hw, hn => by
    rw [List.length_cons] at hn
    obtain ⟨r, Z1, pk, b, p⟩ := pkc k ns h (α := [some (.loc st), some (.scr ns), x2, x3, some (.str (LET ++ DIG)), x5, some (.str w), some e]) (m := mC (.int 62)) (many := 62) (fun _ => rfl) (fun _ => rfl) rfl (by decide)
    obtain ⟨rn, rfl⟩ : ∃ rn : Nat, r = rn := ⟨r.toNat, by omega⟩
    obtain ⟨c, hc, ix⟩ := ix_sn (S := Z1) (x := LET ++ DIG) (n := rn) (by rw [sml_len.2.2]; omega) (by rw [sml_len.2.2]; omega)
    have c1 : (⟨#[c]⟩ : Str).length = 1 := rfl
    have hw' : NmP L (n + 1) (w ++ ⟨#[c]⟩) := by
      obtain ⟨h1, ⟨c0, r0, e0, l0⟩, h3⟩ := hw
      refine ⟨by rw [app_len, c1]; omega, ⟨c0, r0 ++ [c], by rw [cps_app, e0]; rfl, l0⟩, fun y hy => ?_⟩
      rw [cps_app] at hy
      rcases List.mem_append.mp hy with hy | hy
      · exact h3 y hy
      · rw [List.mem_singleton.mp hy]; exact hc
    obtain ⟨y7, w', Z', ih, hw2, p2⟩ := name_loop k ns B hB x2 x3 x5 its Z1 (n + 1) (w ++ ⟨#[c]⟩) (some e) (p.at h.lt) hw' (by omega)
    refine ⟨y7, w', Z', ?_, by rw [List.length_cons, show n + (its.length + 1) = n + 1 + its.length by omega]; exact hw2, p.trans p2⟩
    rw [forGo, sgN]
    simp only [xset_s, xset_0]
    have st : B [some (.loc st), some (.scr ns), x2, x3, some (.str (LET ++ DIG)), x5, some (.str w), some e] Z = .nx [some (.loc st), some (.scr ns), x2, x3, some (.str (LET ++ DIG)), x5, some (.str (w ++ ⟨#[c]⟩)), some e] Z1 := by
      rw [hB, sSet, sGc (d := .str (w ++ ⟨#[c]⟩)) (S' := Z1) (by
        rw [sOp, sVar6, bind_ok, sOp, sVar4, bind_ok, pk, bind_ok, ix, bind_ok]
        unfold dAdd
        dsimp only
        rw [if_pos (by rw [c1]; have := hw.1; omega)]), gc_len p.len, rthen_ok]
      rfl
    rw [st]
    dsimp only
    rw [if_pos (show chk none _ from True.intro), ih]
theorem name_eq (k : Nat) (ns : List Int) (hS : Wf S) (h : PkAt S st d) (large : Bool) : ∃ x S', M_h_name (k + 2) [.loc st, .scr ns, .bl large] S = .ok (.str x) S' ∧ RK (.inr x) ∧ PkR S st d S' ∧ Cap large x := by
  rw [M_h_name, mFn_eq, show startE 8 [.loc st, .scr ns, .bl large] = [some (.loc st), some (.scr ns), some (.bl large), none, none, none, none, none] from rfl]
  rw [sSq, sSet, sGc sC, gc_same, rthen_ok, fthen_nx]
  simp only [xset_s, xset_0]
  rw [show (Str.ofString "abcdefghijklmnopqrstuvwxyz") = SML from rfl]
  obtain ⟨l1, l2, l3⟩ := sml_len
  have up : ∀ (α : MD.Env) (Z : Sto), mVar 3 α Z = .ok (.str SML) Z → mM0 dUpper (mVar 3) α Z = .ok (.str (Txt.upper SML)) Z := fun α Z hα => by
    rw [show ∀ (m1 : ME) (α : MD.Env) S1, mM0 dUpper m1 α S1 = (m1 α S1).bind fun x S1 => if isStr x = true then dUpper x [] S1 else .no from fun _ _ _ => rfl, hα, bind_ok, if_pos (show isStr (Dt.str SML) = true from rfl)]
    rfl
  have c4 : mOp dAdd (mOp dAdd (mVar 3) (mM0 dUpper (mVar 3))) (mC (.str "0123456789")) [some (.loc st), some (.scr ns), some (.bl large), some (.str SML), none, none, none, none] S = .ok (.str (LET ++ DIG)) S := by
    rw [sOp, sOp, sVar3, bind_ok, up _ _ rfl, bind_ok, show dAdd (.str SML) (.str (Txt.upper SML)) S = .ok (.str (SML ++ Txt.upper SML)) S by
      unfold dAdd
      dsimp only
      rw [if_pos (by omega)], bind_ok, sC, bind_ok]
    unfold dAdd
    dsimp only
    rw [if_pos (by rw [app_len, l1, l2, show (Str.ofString "0123456789").length = 10 by decide +kernel]; omega), chars_eq]
  rw [sSq, sSet, sGc c4, gc_same, rthen_ok, fthen_nx]
  simp only [xset_s, xset_0]
  obtain ⟨r5, Z5, pk5, b5, p5⟩ := pkc k ns h (α := [some (.loc st), some (.scr ns), some (.bl large), some (.str SML), some (.str (LET ++ DIG)), none, none, none]) (m := mC (.int 3)) (many := 3) (fun _ => rfl) (fun _ => rfl) rfl (by decide)
  rw [sSq, sSet, sGc (d := .int (1 + r5)) (S' := Z5) (by rw [sOp, sC, bind_ok, pk5, bind_ok, add_ii]), gc_len p5.len, rthen_ok, fthen_nx]
  simp only [xset_s, xset_0]
  have h5 := p5.at h.lt
  -- its size
  have sz : ∃ (r6 : Int) (Z6 : Sto), mIfS (mT (mOp dEq (mVar 5) (mC (.int 3)))) (mSet 5 (mGc (mOp dAdd (mC (.int 1)) (mCall (mOwn 3 (M_h_pick (k + 1))) (mA1 (mVar 0) (mA1 (mVar 1) (mA1 (mC (.int 12)) mA0))))))) mNx [some (.loc st), some (.scr ns), some (.bl large), some (.str SML), some (.str (LET ++ DIG)), some (.int (1 + r5)), none, none] Z5 = .nx [some (.loc st), some (.scr ns), some (.bl large), some (.str SML), some (.str (LET ++ DIG)), some (.int r6), none, none] Z6 ∧ (1 ≤ r6 ∧ r6 ≤ 12) ∧ PkR S st d Z6 := by
    rw [sIfS, sT, sOp, sVar5, bind_ok, sC, bind_ok, eq_ii, bind_ok, sasB, rthen_ok]
    by_cases e3 : 1 + r5 = 3
    · rw [decide_eq_true e3, if_pos rfl]
      obtain ⟨r6, Z6, pk6, b6, p6⟩ := pkc k ns h5 (α := [some (.loc st), some (.scr ns), some (.bl large), some (.str SML), some (.str (LET ++ DIG)), some (.int (1 + r5)), none, none]) (m := mC (.int 12)) (many := 12) (fun _ => rfl) (fun _ => rfl) rfl (by decide)
      exact ⟨1 + r6, Z6, by rw [sSet, sGc (d := .int (1 + r6)) (S' := Z6) (by rw [sOp, sC, bind_ok, pk6, bind_ok, add_ii]), gc_len p6.len, rthen_ok]; rfl, ⟨by omega, by omega⟩, p5.trans p6⟩
    · rw [decide_eq_false e3, if_neg Bool.false_ne_true, sNx]
      exact ⟨1 + r5, Z5, rfl, ⟨by omega, by omega⟩, p5⟩
  obtain ⟨r6, Z6, e6, b6, p6⟩ := sz
  rw [sSq, e6, fthen_nx]
  have h6 := p6.at h.lt
  -- its first letter
  have fst : ∃ (w : Str) (Z7 : Sto), mGc (mOp dIx (mOp dIx (mLst (mA1 (mVar 3) (mA1 (mM0 dUpper (mVar 3)) mA0))) (mCall dInt (mA1 (mVar 2) mA0))) (mCall (mOwn 3 (M_h_pick (k + 1))) (mA1 (mVar 0) (mA1 (mVar 1) (mA1 (mC (.int 26)) mA0))))) [some (.loc st), some (.scr ns), some (.bl large), some (.str SML), some (.str (LET ++ DIG)), some (.int r6), none, none] Z6 = .ok (.str w) Z7 ∧ NmP (capL large) 1 w ∧ PkR Z6 st d Z7 := by
    have h7 := h6.app [Cell.lst [.str SML, .str (Txt.upper SML)]]
    obtain ⟨r7, Z7, pk7, b7, p7⟩ := pkc k ns h7 (α := [some (.loc st), some (.scr ns), some (.bl large), some (.str SML), some (.str (LET ++ DIG)), some (.int r6), none, none]) (m := mC (.int 26)) (many := 26) (fun _ => rfl) (fun _ => rfl) rfl (by decide)
    obtain ⟨Z8, e8, p8⟩ := p7.cut h6.lt
    obtain ⟨rn, rfl⟩ : ∃ rn : Nat, r7 = rn := ⟨r7.toNat, by omega⟩
    have w6 := p6.wf hS
    have two : ∀ (X : Str), X.length = 26 → (∀ c ∈ X.cps.toList, isLet c) → (∀ c ∈ X.cps.toList, c ∈ capL large) → dIx (.loc Z6.length) (.int (if large then 1 else 0)) (Z6 ++ [Cell.lst [.str SML, .str (Txt.upper SML)]]) = .ok (.str X) (Z6 ++ [Cell.lst [.str SML, .str (Txt.upper SML)]]) → ∃ (w : Str) (Z7 : Sto), mGc (mOp dIx (mOp dIx (mLst (mA1 (mVar 3) (mA1 (mM0 dUpper (mVar 3)) mA0))) (mCall dInt (mA1 (mVar 2) mA0))) (mCall (mOwn 3 (M_h_pick (k + 1))) (mA1 (mVar 0) (mA1 (mVar 1) (mA1 (mC (.int 26)) mA0))))) [some (.loc st), some (.scr ns), some (.bl large), some (.str SML), some (.str (LET ++ DIG)), some (.int r6), none, none] Z6 = .ok (.str w) Z7 ∧ NmP (capL large) 1 w ∧ PkR Z6 st d Z7 := fun X lX hX hL ix => by
      obtain ⟨c, hc, ixc⟩ := ix_sn (S := Z8 ++ [Cell.lst [.str SML, .str (Txt.upper SML)]]) (x := X) (n := rn) (by omega) (by omega)
      refine ⟨⟨#[c]⟩, Z8, ?_, ⟨Nat.le_refl _, ⟨c, [], rfl, hX c hc, hL c hc⟩, fun y hy => by rw [List.mem_singleton.mp hy]; exact let_aln c (hX c hc)⟩, p8⟩
      rw [sGc (d := .str ⟨#[c]⟩) (S' := Z8 ++ [Cell.lst [.str SML, .str (Txt.upper SML)]]) (by
        rw [sOp, sOp, sLst, sA1, sVar3, bind_ok, sA1, up _ _ rfl, bind_ok, sA0, bind_ok, bind_ok, bind_ok, if_pos (l2le _ _), bind_ok, sCall, sA1, sVar2, bind_ok, sA0, bind_ok, bind_ok, show ∀ Z : Sto, dInt [.bl large] Z = .ok (.int (if large then 1 else 0)) Z from fun _ => rfl, bind_ok, ix, bind_ok, pk7, bind_ok, e8, ixc])]
      exact gc_dropW p8.len (p8.wf w6) bddStr
    cases large with
    | false => exact two SML l1 sml_let (fun c h => h) (ix_loc (n := 0) get0 rfl)
    | true => exact two (Txt.upper SML) l2 upp_let (fun c h => h) (ix_loc (n := 1) get0 rfl)
  obtain ⟨w, Z7, e7, hw, p7⟩ := fst
  rw [sSq, sSet, e7, rthen_ok, fthen_nx]
  simp only [xset_s, xset_0]
  obtain ⟨rm, hrm⟩ : ∃ rm : Nat, r6 - 1 = rm := ⟨(r6 - 1).toNat, by omega⟩
  have rl : (rngD 0 rm).length = rm := by unfold rngD; rw [List.length_map, List.length_range]
  obtain ⟨y7, w', Z8, lp, hw', p8⟩ := name_loop k ns _ rfl (some (.bl large)) (some (.str SML)) (some (.int r6)) (rngD 0 rm) Z7 1 w none (p7.at h6.lt) hw (by rw [rl]; omega)
  have ir : mIr1 (mA1 (mOp dSub (mVar 5) (mC (.int 1))) mA0) [some (.loc st), some (.scr ns), some (.bl large), some (.str SML), some (.str (LET ++ DIG)), some (.int r6), some (.str w), none] Z7 = .ok (rngD 0 rm, none) Z7 := by
    unfold mIr1
    rw [sA1, sOp, sVar5, bind_ok, sC, bind_ok, sub_ii, bind_ok, sA0, bind_ok, bind_ok]
    dsimp only
    rw [if_pos (by omega), show (r6 - 1).toNat = rm by omega]
  rw [sSq, xFor, ir, rthen_ok]
  dsimp only
  rw [lp, fthen_nx, sRt, sVar6, rthen_ok]
  rw [rl] at hw'
  obtain ⟨c0, r0, e0, l0, i0⟩ := hw'.2.1
  exact ⟨w', Z8, gc_len ((p6.trans p7).trans p8).len, ⟨by have := hw'.1; omega, ⟨c0, r0, e0, l0⟩, hw'.2.2⟩, (p6.trans p7).trans p8, c0, r0, e0, i0⟩
end
end DM

namespace DM
open PySem L2 MD
open DF (Tm)
open DF (KOk)
section
variable {S Z Z1 : Sto} {st : Nat} {d d' : Int}
/-! ### _law_new: a name that is not taken -/
def sD (l : List Str) : List Dt := l.map Dt.str
def nS (n : Nat) : Str := ((toString (n : Int) : String) : Str)
def cand (w : Str) (j : Nat) : Str := ⟨(w.cps.toList.take 10).toArray⟩ ++ nS j
end
end DM

namespace DM
open PySem L2 MD
open DF (Tm)
open DF (KOk)
section
variable {S Z Z1 : Sto} {st : Nat} {d d' : Int}
/-- the same, and garbage behind it -/
def PkX (S : Sto) (st : Nat) (d : Int) (Z : Sto) : Prop := ∃ Z2 G, Z = Z2 ++ G ∧ PkR S st d Z2
theorem PkR.x (h : PkR S st d Z) : PkX S st d Z := ⟨Z, [], (List.append_nil _).symm, h⟩
theorem PkX.step (l : st < S.length) (h : PkX S st d Z) (p : PkR Z st d' Z1) : PkX S st d' Z1 := by
  obtain ⟨Z2, G, rfl, p2⟩ := h
  obtain ⟨Z3, e, p3⟩ := p.cut (by rw [p2.len]; exact l)
  exact ⟨Z3, G, e, p2.trans p3⟩
theorem PkX.app (h : PkX S st d Z) (G : Sto) : PkX S st d (Z ++ G) := by
  obtain ⟨Z2, G2, rfl, p2⟩ := h
  exact ⟨Z2, G2 ++ G, List.append_assoc .., p2⟩
theorem PkX.setG (h : PkX S st d Z) {j : Nat} (hj : S.length ≤ j) (c : Cell) : PkX S st d (Z.set j c) := by
  obtain ⟨Z2, G2, rfl, p2⟩ := h
  exact ⟨Z2, G2.set (j - Z2.length) c, List.set_append_right _ _ (by rw [p2.len]; exact hj), p2⟩
theorem PkX.at (l : st < S.length) (h : PkX S st d Z) : PkAt Z st d := by
  obtain ⟨Z2, G, rfl, p⟩ := h
  exact (p.at l).app G
theorem PkX.len (h : PkX S st d Z) : S.length ≤ Z.length := by
  obtain ⟨Z2, G, rfl, p⟩ := h
  rw [List.length_append, p.len]
  omega
/-- what the def gives, without the garbage -/
theorem PkX.drop (h : PkX S st d Z) (w : Wf S) {x : Dt} (hx : x.bdd S.length = true) : ∃ S', gcR S.length x Z = .ok x S' ∧ PkR S st d S' := by
  obtain ⟨Z2, G, rfl, p⟩ := h
  exact ⟨Z2, gc_dropW p.len (p.wf w) hx, p⟩
theorem append_st {A : Nat} {l l1 : List Dt} {x : Dt} {α : MD.Env} {o m : ME} (ho : o α Z = .ok (.loc A) Z) (g0 : Z[A]? = some (Cell.lst l1)) (hm : m α Z = .ok x Z1) (g : Z1[A]? = some (Cell.lst l)) (hl : l.length < 1000000) (len : Z1.length = Z.length) : mEx (mGc (mMt dAppend o (mA1 m mA0))) α Z = .nx α (Z1.set A (Cell.lst (l ++ [x]))) := by
  have isl : isL (.loc A) Z = true := by
    unfold isL
    dsimp only
    rw [g0]
  rw [sEx, sGc (d := .non) (S' := Z1.set A (Cell.lst (l ++ [x]))) (by
    rw [sMt, ho, bind_ok, if_pos isl, sA1, hm, bind_ok, sA0, bind_ok, bind_ok]
    exact app_loc g hl), gc_len (by rw [List.length_set, len]), rthen_ok]
theorem PkX.get (ls : st < S.length) (p : PkR Z st d Z1) {j : Nat} (hj : S.length ≤ j) : Z1[j]? = Z[j]? := p.get (by omega)
theorem PkX.refl (h : PkAt S st d) : PkX S st d S := h.self.x
/-! ### a world: functions and constructors with numbers -/
def fcD (x : Str × Nat) : Dt := .tup [.str x.1, .int (x.2 : Int)]
def fcL (l : List (Str × Nat)) : List Dt := l.map fcD
/-- names that are free of each other, their numbers below m -/
structure FcOk (cp : Bool) (m : Nat) (l : List (Str × Nat)) : Prop where
  cp : ∀ x ∈ l, Cap cp x.1
  rk : ∀ x ∈ l, RK (.inr x.1)
  nd : (l.map (·.1)).Nodup
  b : ∀ x ∈ l, x.2 < m
theorem FcOk.snoc {cp : Bool} {m : Nat} {l : List (Str × Nat)} (h : FcOk cp m l) {x : Str} {n : Nat} (hx : RK (.inr x)) (hcp : Cap cp x) (hn : x ∉ l.map (·.1)) (hm : n < m) : FcOk cp m (l ++ [(x, n)]) := ⟨fun y hy => by
    rcases List.mem_append.mp hy with hy | hy
    · exact h.cp y hy
    · rw [List.mem_singleton.mp hy]; exact hcp, fun y hy => by
    rcases List.mem_append.mp hy with hy | hy
    · exact h.rk y hy
    · rw [List.mem_singleton.mp hy]; exact hx, by
    rw [List.map_append]
    refine List.nodup_append.mpr ⟨h.nd, by simp, fun a ha b hb => ?_⟩
    rw [List.mem_singleton.mp hb]
    intro e
    exact hn (show x ∈ l.map (·.1) from (show a = x from e) ▸ ha), fun y hy => by
    rcases List.mem_append.mp hy with hy | hy
    · exact h.b y hy
    · rw [List.mem_singleton.mp hy]; exact hm⟩
theorem FcOk.nil (cp : Bool) (m : Nat) : FcOk cp m [] := ⟨fun x h => absurd h List.not_mem_nil, fun x h => absurd h List.not_mem_nil, List.nodup_nil, fun x h => absurd h List.not_mem_nil⟩
end
end DM

namespace MD
open PySem PySem.Spec PyProof.Rows L2
/-! ### what a caught error is, asked by isinstance in the suite -/
def Ext (H H' : Hp) : Prop := ∀ b o, H b = some o → H' b = some o
theorem Ext.refl {H : Hp} : Ext H H := fun _ _ h => h
theorem Ext.trans {H H1 H2 : Hp} (x : Ext H H1) (y : Ext H1 H2) : Ext H H2 := fun b o h => y b o (x b o h)
theorem ext_new {H : Hp} {p : Addr} {o : HO} (h : H p = none) : Ext H (upd H p o) := fun b u e => by
  rw [upd_ne (ne_of_none e h)]
  exact e
section
variable {Z : KZ} {ρ : List Addr} {H H' : Hp} {S : Sto}
theorem go_ext (x : Ext H H') : Go Z.K ρ H ρ H' where
  pre := ⟨[], by simp⟩
  tup := fun a xs h => x a _ h
  scr := fun a l h => by
    rcases h with ⟨o, h⟩ | h
    · exact .inl ⟨o, x a _ h⟩
    · exact .inr h
  keep := fun b o h _ => x b o h
  fresh := fun b h => .inl h
theorem RelS.ext (r : RelS Z ρ H S) (x : Ext H H') : RelS Z ρ H' S := ⟨r.len, r.nd, fun n a c h e => by
  have q := r.cell n a c h e
  obtain ⟨o, ho, _⟩ := q.there
  exact q.st (go_ext x).toSt (by rw [x a o ho, ho])⟩
end
/-- what isinstance asks of the class C of an error -/
structure EisC (K : PySem.W.Frag) (C : Addr) : Prop where
  cl : (PySem.W.clsIn K C).isSome = true
  ga : PySem.W.findIn K (.ref C) "__getattribute__" = some (some (.builtin "BaseException.__getattribute__"))
  gg : PySem.W.findIn K (.ref C) "__getattr__" = some none
  sb : PySem.W.subIn K (.ref C) (.type "BaseException") = some true
  ha : PySem.W.findIn K (.ref C) "__class__" = some (some (.builtin "object.__class__"))
  hn : PySem.W.specialIn K (.builtin "object.__class__") "__get__" = some (some (.builtin "getset_descriptor.__get__"))
  ht : PySem.W.takesIn K (.builtin "object.__class__") = some true
  hm : PySem.W.mroIn K C (.type "object") = some true
/-- slot i holds the error at a, whose fields stand at d -/
def Ph (i : Nat) (a : Addr) (d : Option Addr) (σ : L2.St) (H : Hp) : Prop := σ[i]? = some (some (.ref a)) ∧ (d = none ∨ ∃ dd ws, d = some dd ∧ H dd = some (.xd ws))
theorem Ph.ext {i : Nat} {a : Addr} {d : Option Addr} {σ : L2.St} {H H' : Hp} (p : Ph i a d σ H) (x : Ext H H') : Ph i a d σ H' := ⟨p.1, p.2.imp id fun ⟨dd, ws, e, h⟩ => ⟨dd, ws, e, x _ _ h⟩⟩
def tG (i : Nat) (a : Addr) (d : Option Addr) (v : V) : TE := fun σ H Q => Ph i a d σ H ∧ ∀ H', Ext H H' → Q v H'
def tGT (i : Nat) (a : Addr) (d : Option Addr) (b : Bool) : TT := fun σ H Q => Ph i a d σ H ∧ ∀ H', Ext H H' → Q b H'
theorem kit_same {K : PySem.W.Frag} {t : Value} : PySem.W.kitOne K t t = some true := by
  unfold PySem.W.kitOne
  rw [if_pos (beq_self_eq_true _)]
/-- names of classes, in a row -/
def tCl (vs : List V) : TA := fun _ H Q => Q vs H
section
variable {X : Cx} {x : Str} {p pos : Pos} {es : List Expr} {vs : List V} {C : Addr}
theorem pac0 : PA X [] (tCl []) := pa_nil
theorem pac1 (hg : Gl X x) (hm : X.mg x = some (.ref C)) (hr : PA X es (tCl vs)) (hd : (x == ("__debug__" : Str)) = false := by decide) (hs : starEach (.Name x p :: es) X.env = (false, eval (.Name x p) X.env) :: starEach es X.env := by rfl) : PA X (.Name x p :: es) (tCl (.ref C :: vs)) :=
  imA (pa_cons (pe_glob (v := .ref C) hg hm rfl hd) hr hs) fun σ H Q h => h
end
section
variable {X : Cx} {a C : Addr} {oe : Obj} {d : Option Addr} {cls : Value} {pn : List (Addr × Obj)} {b : Bool} {i j k : Nat} {n x f : Str} {es : List Expr} {cs : List V} {us : List Value} {p0 p1 p2 p3 pos : Pos}
theorem inst_e {pins : List (Addr × Obj)} {σ : L2.St} {H : Hp} {s : Shared} (I : Inv (X.suite a ((a, oe) :: pn)) pins σ H s) (hz : Zc (.ref C) d oe) (hf : ∃ vs, oe.data = .fields vs) (hd : d = none ∨ ∃ dd ws, d = some dd ∧ H dd = some (.xd ws)) : ∃ od, PySem.W.InstAt s.heap a oe C od := by
  obtain ⟨ha, _⟩ := I.pin (a, oe) (List.mem_append_left _ List.mem_cons_self)
  obtain ⟨vs, hv⟩ := hf
  rcases hd with rfl | ⟨dd, ws, rfl, ea⟩
  · refine ⟨none, ?_⟩
    obtain ⟨oc, od, oda, osl⟩ := oe
    obtain ⟨h1, h2⟩ := hz
    dsimp only at h1 h2 hv
    subst h1 h2 hv
    exact ⟨ha, rfl, rfl, trivial⟩
  · have hx : ObjOk X.prog X.w H s.heap dd (.xd ws) := I.hok dd _ ea
    obtain ⟨mA, hns, hr⟩ := hx
    obtain ⟨od, ho, hl⟩ := lookIn_ns hns
    exact ⟨some od, ha, hz.1, by unfold PySem.W.notCls; rw [hv] <;> rfl, by rw [hz.2]; exact ho⟩
theorem cr_is1 (E : EisC X.K C) (hz : Zc (.ref C) d oe) (hf : ∃ vs, oe.data = .fields vs) : CallR (X.suite a ((a, oe) :: pn)) (.builtin "isinstance") (fun xs H Q => ∃ c cv b, xs = [.ref a, c] ∧ ClsV c cv ∧ PySem.W.kitOne X.K (.ref C) cv = some b ∧ (d = none ∨ ∃ dd ws, d = some dd ∧ H dd = some (.xd ws)) ∧ Q (.bl b) H) := by
  intro pins s σ H xs us Q I r h
  obtain ⟨c, cv, b, rfl, hcv, e, hd, q⟩ := h
  obtain ⟨u1, u2, rfl, r1, r2⟩ := vals2 r
  cases (show u1 = Value.ref a from r1)
  have ec := hcv.eq r2
  subst ec
  obtain ⟨od, J⟩ := inst_e I hz hf hd
  exact PySem.W.kia_one (PySem.W.kitx_exc E.cl E.ga E.gg E.sb E.ha E.hn E.ht E.hm) I.kIn J e (fun z => nomatch z) fun tk => ⟨.bl b, H, I.tok tk, rfl, q⟩
theorem cr_isT (E : EisC X.K C) (hz : Zc (.ref C) d oe) (hf : ∃ vs, oe.data = .fields vs) : CallR (X.suite a ((a, oe) :: pn)) (.builtin "isinstance") (fun xs H Q => ∃ tp cs us b, xs = [.ref a, .ref tp] ∧ H tp = some (.tup cs) ∧ Paired ClsV cs us ∧ PySem.W.kitAny X.K (.ref C) us = some b ∧ (d = none ∨ ∃ dd ws, d = some dd ∧ H dd = some (.xd ws)) ∧ Q (.bl b) H) := by
  intro pins s σ H xs us0 Q I r h
  obtain ⟨tp, cs, us, b, rfl, hT, k, e, hd, q⟩ := h
  obtain ⟨u1, u2, rfl, r1, r2⟩ := vals2 r
  cases (show u1 = Value.ref a from r1)
  cases (show u2 = Value.ref tp from r2)
  obtain ⟨od, J⟩ := inst_e I hz hf hd
  obtain ⟨_, its, rv, o, h1, h2, n, h3⟩ := (show ObjOk X.prog X.w H s.heap tp (.tup cs) from I.hok tp _ hT)
  have e3 := ClsV.all k rv
  subst e3
  obtain ⟨oc, od', dt, sl⟩ := o
  simp only at h2 h3
  subst h2 h3
  exact PySem.W.kia_tup (PySem.W.kitx_exc E.cl E.ga E.gg E.sb E.ha E.hn E.ht E.hm) I.kIn J h1 e (fun z => nomatch z) fun tk => ⟨.bl b, H, I.tok tk, rfl, q⟩
/-- isinstance(e, c) -/
theorem pe_is1 (E : EisC X.K C) (hz : Zc (.ref C) d oe) (hf : ∃ vs, oe.data = .fields vs) (hg : Gl X "isinstance") (hm : X.mg "isinstance" = none) (hN : X.N[i]? = some n) (hln : X.env.kindOf n = some .local) {c : V} {cv : Value} {y : Expr}
    (hy : PE (X.suite a ((a, oe) :: pn)) y (tC c)) (hcv : ClsV c cv) (hk : PySem.W.kitOne X.K (.ref C) cv = some b) (hdb : (n == ("__debug__" : Str)) = false := by decide) (hcd : (n == ("__classdict__" : Str)) = false := by decide)
    (hs : starEach [y] X.env = (false, eval y X.env) :: starEach [] X.env := by rfl) (hpl : (backTo pos (starEach [.Name n p1, y] X.env)).any (·.1) = false := by rfl) :
    PE (X.suite a ((a, oe) :: pn)) (.Call (.Name "isinstance" p0) [.Name n p1, y] [] pos) (tG i a d (.bl b)) :=
  imE (pe_callB (X := X.suite a ((a, oe) :: pn)) (cr_is1 E hz hf) hg hm (by rfl) (pa_cons (pe_var hN (.inl hln) hdb hcd) (pa_cons hy pa_nil hs)) (by decide) (by decide) (by rfl) hpl) fun σ H Q ⟨ph, h⟩ => ⟨.ref a, ph.1, c, cv, b, rfl, hcv, hk, ph.2, h H Ext.refl⟩
/-- isinstance(e, (c1, c2, ..)) -/
theorem pe_isT (E : EisC X.K C) (hz : Zc (.ref C) d oe) (hf : ∃ vs, oe.data = .fields vs) (hg : Gl X "isinstance") (hm : X.mg "isinstance" = none) (hN : X.N[i]? = some n) (hln : X.env.kindOf n = some .local)
    (hy : PA (X.suite a ((a, oe) :: pn)) es (tCl cs)) (hcv : Paired ClsV cs us) (hk : PySem.W.kitAny X.K (.ref C) us = some b) (hl : cs.length ≤ 1000) (hdb : (n == ("__debug__" : Str)) = false := by decide) (hcd : (n == ("__classdict__" : Str)) = false := by decide)
    (hs : starEach [.Tuple es k p2] X.env = (false, eval (.Tuple es k p2) X.env) :: starEach [] X.env := by rfl) (hpl : (backTo pos (starEach [.Name n p1, .Tuple es k p2] X.env)).any (·.1) = false := by rfl) :
    PE (X.suite a ((a, oe) :: pn)) (.Call (.Name "isinstance" p0) [.Name n p1, .Tuple es k p2] [] pos) (tG i a d (.bl b)) :=
  imE (pe_callB (X := X.suite a ((a, oe) :: pn)) (cr_isT E hz hf) hg hm (by rfl) (pa_cons (pe_var hN (.inl hln) hdb hcd) (pa_cons (pe_tup hy) pa_nil hs)) (by decide) (by decide) (by rfl) hpl) fun σ H Q ⟨ph, h⟩ => ⟨.ref a, ph.1, by rw [sizeLine_eq]; omega, fun p hp =>
    ⟨p, cs, us, b, rfl, upd_same, hcv, hk, (ph.ext (ext_new hp)).2, h _ (ext_new hp)⟩⟩
/-! the suite: others = isinstance(e, (..)); if others or not isinstance(e, C) or not isinstance(e, ValueError): ..; return (s, e.f) -/
/-- slot j holds False -/
def tGo (i j : Nat) (a : Addr) (d : Option Addr) : TT := fun σ H Q => σ[j]? = some (some (.bl false)) ∧ Ph i a d σ H ∧ ∀ H', Ext H H' → Q false H'
/-- what the suite tells: (s, the field) -/
def tTold (i j : Nat) (a C : Addr) (f s : Str) (cls : Value) (d : Option Addr) : TS := fun D σ H => cls = .ref C ∧ σ[i]? = some (some (.ref a)) ∧ j < σ.length ∧ i ≠ j ∧ ∃ dd ws v, d = some dd ∧ H dd = some (.xd ws) ∧ ws.lookup f = some v ∧ ∀ H' p, Ext H H' → H' p = none → D.rt (.ref p) (upd H' p (.tup [.str s, v]))
/-- .. the suite: others = isinstance(e, (..)); return (s, isinstance(e, C) and isinstance(e, ValueError) and not others) -/
def tTold0 (i j : Nat) (a C : Addr) (s : Str) (cls : Value) (d : Option Addr) : TS := fun D σ H => cls = .ref C ∧ Ph i a d σ H ∧ j < σ.length ∧ i ≠ j ∧ ∀ H' p, Ext H H' → H' p = none → D.rt (.ref p) (upd H' p (.tup [.str s, .bl true]))
theorem pss_told0 {e1 y1 y2 : Expr} {q1 q2 q3 q4 q5 q6 : Pos} {kk m : Nat} {xo s : Str} (hN : X.N.Nodup) (hj : X.N[j]? = some xo) (hx : Loc X.env.scope xo) (hln : X.env.kindOf xo = some .local)
    (h1 : cls = .ref C → PE (X.suite a ((a, oe) :: pn)) e1 (tG i a d (.bl false))) (h2 : cls = .ref C → PE (X.suite a ((a, oe) :: pn)) y1 (tG i a d (.bl true))) (h3 : cls = .ref C → PE (X.suite a ((a, oe) :: pn)) y2 (tG i a d (.bl true)))
    (hs : swapsWith e1 (some (.Name xo q1)) q2.line X.env = pure false := by rfl) (hfn : X.fn xo = true ∨ X.env.scope.names.lookup xo = some .local := by first | exact .inl rfl | exact .inr rfl | assumption)
    (hdb : (xo == ("__debug__" : Str)) = false := by decide) (hcd : (xo == ("__classdict__" : Str)) = false := by decide) :
    PSs (X.suite a ((a, oe) :: pn)) [.Assign [.Name xo q1] e1 q2, .Return (some (.Tuple [.Constant (.str s) m q4, .BoolOp .And [y1, y2, .UnaryOp .Not (.Name xo q3) q6] q5] kk p1)) p2] (tTold0 i j a C s cls d) := by
  refine ⟨fun pins s0 σ H D I h => ?_⟩
  obtain ⟨hC, ph, lj, ij, q⟩ := h
  have P : PSs (X.suite a ((a, oe) :: pn)) [.Assign [.Name xo q1] e1 q2, .Return (some (.Tuple [.Constant (.str s) m q4, .BoolOp .And [y1, y2, .UnaryOp .Not (.Name xo q3) q6] q5] kk p1)) p2] _ := pss_cons (ps_set (X := X.suite a ((a, oe) :: pn)) hN hj hx (h1 hC) hs hfn) (pss_one (ps_ret (pos := p2) (pe_tup (x1 := kk) (pos := p1) (pa_cons (pe_str (x := s) (j := m) (pos := q4)) (pa_cons (pe_and (pos := q5) (h2 hC) (pe_and (h3 hC) (pe_one (pe_not (pe_var (i := j) hj (.inl hln) hdb hcd))))) pa_nil (by rfl)) (by rfl)))))
  refine P.run pins s0 σ H D I ?_
  refine ⟨ph, fun H1 x1 => ?_⟩
  have ph' : Ph i a d (σ.set j (some (.bl false))) H := ⟨by rw [List.getElem?_set_ne (Ne.symm ij)]; exact ph.1, ph.2⟩
  refine ⟨ph'.ext x1, fun H2 x2 => ⟨true, rfl, iteT ⟨(ph'.ext x1).ext x2, fun H3 x3 => ⟨true, rfl, iteT ⟨.bl false, List.getElem?_set_self lj, false, rfl, by rw [sizeLine_eq]; show 2 ≤ 16777216; decide, fun p hp => q H3 p ((x1.trans x2).trans x3) hp⟩⟩⟩⟩⟩
end
/-! ### the statement -/
/-- try: ..; except B as e: (the suite above): the error is of the class cn -/
def mTryA (mt : Str → Option Bool) (cn : Str) (i j : Nat) (f s : Str) (mb : MS) : MS := fun α S => match mb α S with
  | .ex c fs α' S' => match mt c with
    | some true => if c = cn ∧ i < α'.length ∧ j < α'.length ∧ i ≠ j then (match fs.lookup f with
      | some d => .rt (.tup [.str s, d]) S'
      | none => .no) else .no
    | some false => .ex c fs α' S'
    | none => .no
  | r => r
def mTryB (mt : Str → Option Bool) (cn : Str) (i j : Nat) (s : Str) (mb : MS) : MS := fun α S => match mb α S with
  | .ex c fs α' S' => match mt c with
    | some true => if c = cn ∧ i < α'.length ∧ j < α'.length ∧ i ≠ j then .rt (.tup [.str s, .bl true]) S' else .no
    | some false => .ex c fs α' S'
    | none => .no
  | r => r
section
variable {X : Cx} {Z : KZ} {W : WX} {x n f s : Str} {c : Value} {i j : Nat} {C : Addr} {body suite : List Stmt} {b₀ : Stmt} {np pos pos' : Pos} {mb : MS} {mt : Str → Option Bool} {cn : Str}
theorem rt_tup {ρ : List Addr} {H H' : Hp} {S : Sto} {D : Ends} {v : V} {d : Dt} {p : Addr} (o : OutS Z W ρ H D (.rt (.tup [.str s, d]) S)) (r : RelS Z ρ H S) (dv : DAt Z.K ρ H v d) (x : Ext H H') (hp : H' p = none) : D.rt (.ref p) (upd H' p (.tup [.str s, v])) :=
  o ρ _ _ ((go_ext x).trans (go_new hp _)) ((r.ext x).new hp _) (.tup upd_same (.cons .str (.cons ((dv.go (go_ext x)).go (go_new hp _)) .nil)))
theorem ms_tryB (hs : X.stack = X.env :: X.outer) (hf : X.env.frame = some X.env.locals) (hN : X.N.Nodup) (hi : X.N[i]? = some n) (hln : X.env.kindOf n = some .local) (hc : Names X x c) (tk : Takes X W) (hmt : ∀ cn b, mt cn = some b → PySem.W.exmOne X.K (.ref (Z.cl cn)) c = some b)
    (hb : ∀ (W : WX) (pn : List (Addr × Obj)) (xe : Value → Shared → Prop), Takes (X.tr pn xe) W → PassesOwn (model X.prog X.w) X.A X.env xe → PSs (X.tr pn xe) body (tS Z W mb))
    (hsu : ∀ (a : Addr) (oe : Obj) (cls : Value) (d : Option Addr) (pn : List (Addr × Obj)), Zc cls d oe → (∃ vs, oe.data = .fields vs) → PSs (X.suite a ((a, oe) :: pn)) (b₀ :: suite) (tTold0 i j a (Z.cl cn) s cls d)) :
    PS X (.Try body [.ExceptHandler (some (.Name x np)) (some n) (b₀ :: suite) pos'] [] [] pos) (tS Z W (mTryB mt cn i j s mb)) :=
  imS (ps_try_as (tb := fun W => tS Z W mb) hs hf hN hi hln hc tk hb hsu) fun D σ H ⟨ρ, S, α, rel, sl, oo⟩ => ⟨ρ, S, α, rel, sl, by
    unfold mTryB at oo
    cases em : mb α S with
    | ex cc fs α' S' =>
      rw [em] at oo
      dsimp only at oo
      intro ρ' H' σ' dx g r s x
      cases hm : mt cc with
      | none => rw [hm] at oo; exact oo.elim
      | some b =>
        refine ⟨b, hmt _ _ hm, fun hb a na => ?_, fun hb => ?_⟩
        · subst hb
          rw [hm] at oo
          dsimp only at oo
          by_cases hh : cc = cn ∧ i < α'.length ∧ j < α'.length ∧ i ≠ j
          · rw [if_pos hh] at oo
            have hd : dx = none ∨ ∃ dd ws, dx = some dd ∧ H' dd = some (.xd ws) := by
              rcases x with ⟨x, _⟩ | ⟨a', ws, e1, e2, e3, e4⟩
              · exact .inl x
              · exact .inr ⟨a', ws, e1, e2⟩
            exact ⟨by rw [hh.1], ⟨List.getElem?_set_self (by rw [s.1]; exact hh.2.1), hd⟩, by rw [List.length_set, s.1]; exact hh.2.2.1, hh.2.2.2, fun H2 p x2 hp => rt_tup (W := W) (OutS.shift oo g) r .bl x2 hp⟩
          · rw [if_neg hh] at oo; exact oo.elim
        · subst hb
          rw [hm] at oo
          exact oo ρ' H' σ' dx g r s x
    | nx α S => rw [em] at oo; exact oo
    | rt d S => rw [em] at oo; exact oo
    | bk α S => rw [em] at oo; exact oo
    | ct α S => rw [em] at oo; exact oo
    | no => rw [em] at oo; exact oo⟩
end
end MD

namespace MD
open PySem PySem.Spec PyProof.Rows L2
/-! ### a text times a number, a list times a number -/
def repS (a : Str) (n : Nat) : Str := ⟨(List.replicate n a.cps).foldl (· ++ ·) #[]⟩
def dMulS (x y : Dt) (S : Sto) : Rs Dt := match x, y with
  | .str a, .int j => if 2 ≤ j ∧ j ≤ 1000 ∧ 1 ≤ a.length ∧ a.length ≤ 1000 then .ok (.str (repS a j.toNat)) S else .no
  | _, _ => .no
def dMulL (x y : Dt) (S : Sto) : Rs Dt := match x, y with
  | .loc n, .int j => match S[n]? with
    | some (.lst l) => if 0 ≤ j ∧ j ≤ 1000 ∧ l.length ≤ 1000 then .ok (.loc S.length) (S ++ [.lst (List.replicate j.toNat l).flatten]) else .no
    | _ => .no
  | _, _ => .no
section
variable {X : Cx} {Z : KZ}
end
/-! ### is True, is not True -/
def dIsB (x y : Dt) (S : Sto) : Rs Dt := match x, y with
  | .bl c, .bl b => .ok (.bl (decide (c = b))) S
  | _, _ => .no
def dNotB (x y : Dt) (S : Sto) : Rs Dt := match x, y with
  | .bl c, .bl b => .ok (.bl (!decide (c = b))) S
  | _, _ => .no
section
variable {X : Cx} {Z : KZ}
theorem op_notB : OpR X (compareOp .IsNot) (fun x y H Q => ∃ c b, x = .bl c ∧ y = .bl b ∧ Q (.bl (!decide (c = b))) H) := by
  intro pins s σ H x y v u Q I rx ry h
  obtain ⟨m, n, rfl, rfl, q⟩ := h
  cases (show v = Value.bool m from rx)
  cases (show u = Value.bool n from ry)
  by_cases e : m = n
  · subst e
    exact wpAny_isNot_self rfl ⟨.bl false, H, I, rfl, by simpa using q⟩
  · exact wpAny_isNot_other rfl (fun z => e (Value.bool.inj z)) ⟨.bl true, H, I, rfl, by simpa [e] using q⟩
theorem omNotB : OpM Z dNotB (fun x y H Q => ∃ c b, x = .bl c ∧ y = .bl b ∧ Q (.bl (!decide (c = b))) H) := by
  intro E ρ H S x y v u Q rel dx dy o
  unfold dNotB at o
  split at o
  · cases dx
    cases dy
    exact ⟨_, _, rfl, rfl, o.here rel _ .bl⟩
  · exact o.elim
end
end MD

namespace DM
open PySem L2 MD
noncomputable def M_h_head : Nat → List Dt → Sto → Rs Dt
  | 0 => fun _ _ => .no
  | k + 1 => mFn 4 (mSq (mSet 3 (mGc (mCall (mOwn 3 (M_h_pick k)) (mA1 (mVar 0) (mA1 (mVar 1) (mA1 (mC (.int 8)) mA0))))))
      (mSq (mIfS (mT (mOp dLt (mVar 3) (mC (.int 3)))) (mRt (mCall (mOwn 3 (M_h_pick k)) (mA1 (mVar 0) (mA1 (mVar 1) (mA1 (mOp dIx (mLst (mA1 (mC (.int 4)) (mA1 (mC (.int 30)) (mA1 (mC (.int 10000)) mA0)))) (mVar 3)) mA0))))) mNx)
      (mSq (mIfS (mT (mOp dEq (mVar 3) (mC (.int 3)))) (mRt (mCall (mOwn 3 (M_h_name k)) (mA1 (mVar 0) (mA1 (mVar 1) (mA1 (mOp dEq (mCall (mOwn 3 (M_h_pick k)) (mA1 (mVar 0) (mA1 (mVar 1) (mA1 (mC (.int 2)) mA0)))) (mC (.int 0))) mA0))))) mNx)
      (mRt (mOp dIx (mVar 2) (mCall (mOwn 3 (M_h_pick k)) (mA1 (mVar 0) (mA1 (mVar 1) (mA1 (mCall dLen (mA1 (mVar 2) mA0)) mA0)))))))))
noncomputable def M_h_pool : Nat → List Dt → Sto → Rs Dt
  | 0 => fun _ _ => .no
  | k + 1 => mFn 3 (mRt (mOp dAdd (mLc [2] (mIr1 (mA1 (mC (.int 5)) mA0)) (gN 2) mYes (mCall (mOwn 3 (M_h_name k)) (mA1 (mVar 0) (mA1 (mVar 1) (mA1 (mOp dLt (mVar 2) (mC (.int 3))) mA0))))) (mLst (mA1 (mC (.int 0)) (mA1 (mC (.int 1)) (mA1 (mC (.int 9999)) mA0))))))
noncomputable def M_h_any : Nat → List Dt → Sto → Rs Dt
  | 0 => fun _ _ => .no
  | k + 1 => mFn 8 (mSq (mSub (mVar 0) (mC (.int 3)) (mOp dSub (mOp dIx (mVar 0) (mC (.int 3))) (mC (.int 1))))
      (mSq (mSet 4 (mGc (mCall (mOwn 3 (M_h_head k)) (mA1 (mVar 0) (mA1 (mVar 1) (mA1 (mVar 2) mA0))))))
      (mSq (mSet 5 (mGc (mLst mA0)))
      (mSq (mSet 6 (mGc (mCall (mOwn 3 (M_h_pick k)) (mA1 (mVar 0) (mA1 (mVar 1) (mA1 (mOp dIx (mLst (mA1 (mC (.int 4)) (mA1 (mC (.int 2)) mA0))) (mCall dInt (mA1 (mOp dGt (mVar 3) (mC (.int 5))) mA0))) mA0))))))
      (mSq (mFor (mIr1 (mA1 (mVar 6) mA0)) (gN 7) (mIfS (mtAnd (mT (mOp dGt (mOp dIx (mVar 0) (mC (.int 3))) (mC (.int 0)))) (mT (mOp dLt (mVar 3) (mC (.int 90))))) (mEx (mGc (mMt dAppend (mVar 5) (mA1 (mCall (mOwn 4 (M_h_any k)) (mA1 (mVar 0) (mA1 (mVar 1) (mA1 (mVar 2) (mA1 (mOp dAdd (mVar 3) (mC (.int 1))) mA0))))) mA0)))) mNx))
      (mRt (mTup (mA1 (mVar 4) (mA1 (mCall dTuple (mA1 (mVar 5) mA0)) mA0)))))))))
noncomputable def M_h_deep : Nat → List Dt → Sto → Rs Dt
  | 0 => fun _ _ => .no
  | k + 1 => mFn 7 (mSq (mSet 4 (mGc (mTup (mA1 (mCall (mOwn 3 (M_h_head k)) (mA1 (mVar 0) (mA1 (mVar 1) (mA1 (mVar 2) mA0)))) (mA1 (mTup mA0) mA0)))))
      (mSq (mFor (mIr1 (mA1 (mVar 3) mA0)) (gN 5) (mSq (mSet 6 (mGc (mLst (mA1 (mVar 4) mA0))))
      (mSq (mIfS (mT (mOp dEq (mCall (mOwn 3 (M_h_pick k)) (mA1 (mVar 0) (mA1 (mVar 1) (mA1 (mC (.int 4)) mA0)))) (mC (.int 0)))) (mEx (mGc (mMt dAppend (mVar 6) (mA1 (mTup (mA1 (mCall (mOwn 3 (M_h_head k)) (mA1 (mVar 0) (mA1 (mVar 1) (mA1 (mVar 2) mA0)))) (mA1 (mTup mA0) mA0))) mA0)))) mNx)
      (mSq (mIfS (mT (mOp dEq (mCall (mOwn 3 (M_h_pick k)) (mA1 (mVar 0) (mA1 (mVar 1) (mA1 (mC (.int 8)) mA0)))) (mC (.int 0)))) (mSet 6 (mGc (mOp dAdd (mLst (mA1 (mTup (mA1 (mCall (mOwn 3 (M_h_head k)) (mA1 (mVar 0) (mA1 (mVar 1) (mA1 (mVar 2) mA0)))) (mA1 (mTup mA0) mA0))) mA0)) (mVar 6)))) mNx)
      (mSet 4 (mGc (mTup (mA1 (mCall (mOwn 3 (M_h_head k)) (mA1 (mVar 0) (mA1 (mVar 1) (mA1 (mVar 2) mA0)))) (mA1 (mCall dTuple (mA1 (mSl dSl (mVar 6) mOn (mOs (mC (.int 2)))) mA0)) mA0)))))))))
      (mRt (mVar 4))))
noncomputable def M_h_term : Nat → List Dt → Sto → Rs Dt
  | 0 => fun _ _ => .no
  | k + 1 => mFn 4 (mSq (mIfS (mT (mOp dEq (mCall (mOwn 3 (M_h_pick k)) (mA1 (mVar 0) (mA1 (mVar 1) (mA1 (mC (.int 6)) mA0)))) (mC (.int 0)))) (mRt (mCall (mOwn 4 (M_h_deep k)) (mA1 (mVar 0) (mA1 (mVar 1) (mA1 (mVar 2) (mA1 (mCall (mOwn 3 (M_h_pick k)) (mA1 (mVar 0) (mA1 (mVar 1) (mA1 (mOp dAdd (mOp dDiv (mCall dInt (mA1 (mVar 3) mA0)) (mC (.int 3))) (mC (.int 1))) mA0)))) mA0)))))) mNx)
      (mSq (mSub (mVar 0) (mC (.int 3)) (mCall (mOwn 3 (M_h_pick k)) (mA1 (mVar 0) (mA1 (mVar 1) (mA1 (mVar 3) mA0)))))
      (mRt (mCall (mOwn 4 (M_h_any k)) (mA1 (mVar 0) (mA1 (mVar 1) (mA1 (mVar 2) (mA1 (mC (.int 0)) mA0))))))))
end DM

namespace DM
open PySem L2 MD
open DF (Tm)
open DF (KOk)
section
variable {S Z : Sto} {st : Nat} {d : Int}
structure PoolAt (S : Sto) (st pl : Nat) (pool : List Key) : Prop where
  g : S[pl]? = some (Cell.lst (pool.map kD))
  ok : ∀ k ∈ pool, RK k
  ne : 0 < pool.length
  l : pool.length ≤ 100
  d : pl ≠ st
variable {pl : Nat} {pool : List Key}
theorem PoolAt.pk (h : PoolAt S st pl pool) (p : PkR S st d Z) : PoolAt Z st pl pool := ⟨by rw [p.get h.d]; exact h.g, h.ok, h.ne, h.l, h.d⟩
theorem PoolAt.app (h : PoolAt S st pl pool) (G : Sto) : PoolAt (S ++ G) st pl pool := ⟨by rw [List.getElem?_append_left (List.getElem?_eq_some_iff.mp h.g).1]; exact h.g, h.ok, h.ne, h.l, h.d⟩
theorem head_eq (k : Nat) (ns : List Int) (hS : Wf S) (h : PkAt S st d) (hp : PoolAt S st pl pool) : ∃ g S', M_h_head (k + 3) [.loc st, .scr ns, .loc pl] S = .ok (kD g) S' ∧ RK g ∧ PkR S st d S' := by
  rw [M_h_head, mFn_eq, show startE 4 [.loc st, .scr ns, .loc pl] = [some (.loc st), some (.scr ns), some (.loc pl), none] from rfl]
  obtain ⟨r1, Z1, pk1, b1, p1⟩ := pkc (k + 1) ns h (α := [some (.loc st), some (.scr ns), some (.loc pl), none]) (m := mC (.int 8)) (many := 8) (fun _ => rfl) (fun _ => rfl) rfl (by decide)
  have h1 := p1.at h.lt
  have w1 := p1.wf hS
  have hp1 := hp.pk p1
  rw [sSq, sSet, sGc pk1, gc_len p1.len, rthen_ok, fthen_nx]
  simp only [xset_s, xset_0]
  have kB : ∀ g : Key, (kD g).bdd S.length = true := fun g => kD_bdd _ g
  rw [sSq, sIfS, sT, sOp, sVar3, bind_ok, sC, bind_ok, show dLt (.int r1) (.int 3) Z1 = .ok (.bl (decide (r1 < 3))) Z1 from rfl, bind_ok, sasB, rthen_ok]
  by_cases c3 : r1 < 3
  · rw [decide_eq_true c3, if_pos rfl]
    have h2 := h1.app [Cell.lst [.int 4, .int 30, .int 10000]]
    have num : ∀ n : Int, 0 < n → n ≤ 10000 → dIx (.loc Z1.length) (.int r1) (Z1 ++ [Cell.lst [.int 4, .int 30, .int 10000]]) = .ok (.int n) (Z1 ++ [Cell.lst [.int 4, .int 30, .int 10000]]) → ∃ g S', (match (Fl.then (mRt (mCall (mOwn 3 (M_h_pick (k + 2))) (mA1 (mVar 0) (mA1 (mVar 1) (mA1 (mOp dIx (mLst (mA1 (mC (.int 4)) (mA1 (mC (.int 30)) (mA1 (mC (.int 10000)) mA0)))) (mVar 3)) mA0)))) [some (.loc st), some (.scr ns), some (.loc pl), some (.int r1)] Z1) (mSq (mIfS (mT (mOp dEq (mVar 3) (mC (.int 3)))) (mRt (mCall (mOwn 3 (M_h_name (k + 2))) (mA1 (mVar 0) (mA1 (mVar 1) (mA1 (mOp dEq (mCall (mOwn 3 (M_h_pick (k + 2))) (mA1 (mVar 0) (mA1 (mVar 1) (mA1 (mC (.int 2)) mA0)))) (mC (.int 0))) mA0))))) mNx)
      (mRt (mOp dIx (mVar 2) (mCall (mOwn 3 (M_h_pick (k + 2))) (mA1 (mVar 0) (mA1 (mVar 1) (mA1 (mCall dLen (mA1 (mVar 2) mA0)) mA0))))))) : Fl) with
      | .nx _ S' => gcR S.length .non S'
      | .rt d S' => gcR S.length d S'
      | .ex c fs _ S' => gcX S.length c fs S'
      | _ => Rs.no) = .ok (kD g) S' ∧ RK g ∧ PkR S st d S' := fun n n0 n1 ix => by
      obtain ⟨r2, Z2, e2, b2, p2⟩ := pick_eq (k + 1) ns h2 n n0 (by omega)
      obtain ⟨Z3, e3, p3⟩ := p2.cut h1.lt
      rw [sRt, sCall, sA1, sVar0, bind_ok, sA1, sVar1, bind_ok, sA1, sOp, sLst, sA1, sC, bind_ok, sA1, sC, bind_ok, sA1, sC, bind_ok, sA0, bind_ok, bind_ok, bind_ok, bind_ok, if_pos (l3le _ _ _), bind_ok, sVar3, bind_ok, ix, bind_ok, sA0, bind_ok, bind_ok, bind_ok, bind_ok, own3, e2, rthen_ok, fthen_rt, e3]
      exact ⟨.inl r2, Z3, gc_dropW ((p1.trans p3).len) ((p1.trans p3).wf hS) (kB (.inl r2)), ⟨b2.1, by omega⟩, p1.trans p3⟩
    have : r1 = 0 ∨ r1 = 1 ∨ r1 = 2 := by omega
    rcases this with q | q | q
    · exact num 4 (by decide) (by decide) (by rw [q]; exact ix_loc (n := 0) get0 rfl)
    · exact num 30 (by decide) (by decide) (by rw [q]; exact ix_loc (n := 1) get0 rfl)
    · exact num 10000 (by decide) (by decide) (by rw [q]; exact ix_loc (n := 2) get0 rfl)
  rw [decide_eq_false c3, if_neg Bool.false_ne_true, sNx, fthen_nx, sSq, sIfS, sT, sOp, sVar3, bind_ok, sC, bind_ok, eq_ii, bind_ok, sasB, rthen_ok]
  by_cases c4 : r1 = 3
  · rw [decide_eq_true c4, if_pos rfl]
    obtain ⟨r2, Z2, pk2, b2, p2⟩ := pkc (k + 1) ns h1 (α := [some (.loc st), some (.scr ns), some (.loc pl), some (.int r1)]) (m := mC (.int 2)) (many := 2) (fun _ => rfl) (fun _ => rfl) rfl (by decide)
    obtain ⟨x, Z3, e3, hx, p3, _⟩ := name_eq k ns (p2.wf w1) (p2.at h1.lt) (decide (r2 = 0))
    rw [sRt, sCall, sA1, sVar0, bind_ok, sA1, sVar1, bind_ok, sA1, sOp, pk2, bind_ok, sC, bind_ok, eq_ii, bind_ok, sA0, bind_ok, bind_ok, bind_ok, bind_ok, own3, e3, rthen_ok, fthen_rt]
    exact ⟨.inr x, Z3, gc_len ((p1.trans p2).trans p3).len, hx, (p1.trans p2).trans p3⟩
  · rw [decide_eq_false c4, if_neg Bool.false_ne_true, sNx, fthen_nx]
    have ln : mCall dLen (mA1 (mVar 2) mA0) [some (.loc st), some (.scr ns), some (.loc pl), some (.int r1)] Z1 = .ok (.int (pool.length : Nat)) Z1 := by
      rw [sCall, sA1, sVar2, bind_ok, sA0, bind_ok, bind_ok, len_loc hp1.g, List.length_map]
    obtain ⟨r2, Z2, pk2, b2, p2⟩ := pkc (k + 1) ns h1 (α := [some (.loc st), some (.scr ns), some (.loc pl), some (.int r1)]) (m := mCall dLen (mA1 (mVar 2) mA0)) (many := ((pool.length : Nat) : Int)) (fun _ => rfl) (fun _ => rfl) ln (by have := hp.ne; omega) (by have := hp.l; omega)
    obtain ⟨rn, rfl⟩ : ∃ rn : Nat, r2 = rn := ⟨r2.toNat, by omega⟩
    have hr : rn < pool.length := by omega
    have hp2 := hp1.pk p2
    rw [sRt, sOp, sVar2, bind_ok, pk2, bind_ok, ix_loc (n := rn) (d := kD pool[rn]) hp2.g (by rw [List.getElem?_map, List.getElem?_eq_getElem hr]; rfl), rthen_ok]
    exact ⟨pool[rn], Z2, gc_len (p1.trans p2).len, hp.ok _ (List.getElem_mem hr), p1.trans p2⟩
theorem names_lc (k : Nat) (ns : List Int) (z2 : Option Dt) : ∀ (js : List Nat) (acc : List Dt) (Z : Sto), PkAt Z st d → Wf Z → acc.length + js.length ≤ 1000 →
    ∃ (xs : List Str) (Z' : Sto), lcGo none (gN 2) mYes (mCall (mOwn 3 (M_h_name (k + 2))) (mA1 (mVar 0) (mA1 (mVar 1) (mA1 (mOp dLt (mVar 2) (mC (.int 3))) mA0)))) [some (.loc st), some (.scr ns), z2] (js.map fun (j : Nat) => .int (0 + (j : Int))) acc Z = .ok (acc ++ xs.map .str) Z' ∧ (∀ x ∈ xs, RK (.inr x)) ∧ xs.length = js.length ∧ PkR Z st d Z'
  | [], acc, Z, h, w, _ => ⟨[], Z, by rw [List.map_nil, List.map_nil, List.append_nil, lcGo], fun x hx => absurd hx List.not_mem_nil, rfl, h.self⟩
  | j :: js, acc, Z, h, w, hl => by
    rw [List.length_cons] at hl
    obtain ⟨x, Z1, e1, hx, p1, _⟩ := name_eq k ns w h (decide ((0 : Int) + (j : Int) < 3))
    obtain ⟨xs, Z', e2, hxs, l2, p2⟩ := names_lc k ns z2 js (acc ++ [.str x]) Z1 (p1.at h.lt) (p1.wf w) (by rw [List.length_append, List.length_singleton]; omega)
    refine ⟨x :: xs, Z', ?_, ?_, by rw [List.length_cons, List.length_cons, l2], p1.trans p2⟩
    · rw [List.map_cons, lcGo, sgN]
      simp only [xset_s, xset_0]
      have el : mCall (mOwn 3 (M_h_name (k + 2))) (mA1 (mVar 0) (mA1 (mVar 1) (mA1 (mOp dLt (mVar 2) (mC (.int 3))) mA0))) [some (.loc st), some (.scr ns), some (.int (0 + (j : Int)))] Z = .ok (.str x) Z1 := by
        rw [sCall, sA1, sVar0, bind_ok, sA1, sVar1, bind_ok, sA1, sOp, sVar2, bind_ok, sC, bind_ok, show dLt (.int (0 + (j : Int))) (.int 3) Z = .ok (.bl (decide ((0 : Int) + (j : Int) < 3))) Z from rfl, bind_ok, sA0, bind_ok, bind_ok, bind_ok, bind_ok, own3, e1]
      rw [sYes]
      dsimp only
      rw [el]
      dsimp only
      rw [if_pos ⟨by omega, True.intro⟩, e2, List.append_assoc]
      rfl
    · intro y hy
      rcases List.mem_cons.mp hy with rfl | hy
      · exact hx
      · exact hxs y hy
theorem pool_eq (k : Nat) (ns : List Int) (hS : Wf S) (h : PkAt S st d) : ∃ (pool : List Key) (S' : Sto), M_h_pool (k + 3) [.loc st, .scr ns] S = .ok (.loc S.length) (S' ++ [Cell.lst (pool.map kD)]) ∧ (∀ g ∈ pool, RK g) ∧ pool.length = 8 ∧ PkR S st d S' := by
  obtain ⟨xs, Z, e1, hx, l1, p1⟩ := names_lc k ns none (List.range 5) [] S h hS (by rw [List.length_nil, List.length_range]; omega)
  rw [List.nil_append] at e1
  rw [List.length_range] at l1
  refine ⟨xs.map .inr ++ [.inl 0, .inl 1, .inl 9999], Z, ?_, ?_, by rw [List.length_append, List.length_map, l1]; rfl, p1⟩
  · rw [M_h_pool, mFn_eq, show startE 3 [.loc st, .scr ns] = [some (.loc st), some (.scr ns), none] from rfl]
    have a1 : mLc [2] (mIr1 (mA1 (mC (.int 5)) mA0)) (gN 2) mYes (mCall (mOwn 3 (M_h_name (k + 2))) (mA1 (mVar 0) (mA1 (mVar 1) (mA1 (mOp dLt (mVar 2) (mC (.int 3))) mA0)))) [some (.loc st), some (.scr ns), none] S = .ok (.loc Z.length) (Z ++ [Cell.lst (xs.map .str)]) := by
      unfold mLc
      rw [show mIr1 (mA1 (mC (.int 5)) mA0) [some (.loc st), some (.scr ns), none] S = .ok ((List.range 5).map fun (j : Nat) => .int (0 + (j : Int)), none) S from rfl, bind_ok]
      show Rs.bind (lcGo none _ _ _ [some (.loc st), some (.scr ns), none] _ _ _) _ = _
      rw [e1, bind_ok]
    have a2 : mLst (mA1 (mC (.int 0)) (mA1 (mC (.int 1)) (mA1 (mC (.int 9999)) mA0))) [some (.loc st), some (.scr ns), none] (Z ++ [Cell.lst (xs.map .str)]) = .ok (.loc (Z.length + 1)) (Z ++ [Cell.lst (xs.map .str), Cell.lst [.int 0, .int 1, .int 9999]]) := by
      rw [sLst, sA1, sC, bind_ok, sA1, sC, bind_ok, sA1, sC, bind_ok, sA0, bind_ok, bind_ok, bind_ok, bind_ok, if_pos (l3le _ _ _), List.length_append, List.append_assoc]
      rfl
    have a3 : dAdd (.loc Z.length) (.loc (Z.length + 1)) (Z ++ [Cell.lst (xs.map .str), Cell.lst [.int 0, .int 1, .int 9999]]) = .ok (.loc (Z.length + 2)) (Z ++ [Cell.lst (xs.map .str), Cell.lst [.int 0, .int 1, .int 9999], Cell.lst ((xs.map .inr ++ [.inl 0, .inl 1, .inl 9999] : List Key).map kD)]) := by
      unfold dAdd
      dsimp only
      rw [get0, get1]
      dsimp only
      rw [if_pos (by rw [List.length_map, l1]; decide), List.length_append, List.append_assoc, List.map_append, List.map_map]
      rfl
    rw [sRt, sOp, a1, bind_ok, a2, bind_ok, a3, rthen_ok]
    dsimp only
    rw [← p1.len]
    exact gc_at (p1.wf hS) (by omega) getA (by
      show Dt.bddL _ _ = true
      exact kDs_bdd _ _)
  · intro g hg
    rcases List.mem_append.mp hg with hg | hg
    · obtain ⟨x, hxm, rfl⟩ := List.mem_map.mp hg
      exact hx x hxm
    · simp only [List.mem_cons, List.not_mem_nil, or_false] at hg
      rcases hg with rfl | rfl | rfl
      · exact ⟨by decide, by decide⟩
      · exact ⟨by decide, by decide⟩
      · exact ⟨by decide, by decide⟩
end
end DM

namespace DM
open PySem L2 MD
open DF (Tm)
open DF (KOk)
section
variable {S Z Z1 : Sto} {st : Nat} {d d' : Int} {pl : Nat} {pool : List Key}
/-- the same, and garbage behind it -/
theorem PkX.plA (l : pl < S.length) (h : PkX S st d Z) (hp : PoolAt S st pl pool) : PoolAt Z st pl pool := by
  obtain ⟨Z2, G, rfl, p⟩ := h
  exact (hp.pk p).app G
theorem PoolAt.lt (h : PoolAt S st pl pool) : pl < S.length := (List.getElem?_eq_some_iff.mp h.g).1
/-- a leaf is drawn -/
theorem leaf_dr (k : Nat) (ns : List Int) (w : Wf Z) (h : PkAt Z st d) (hp : PoolAt Z st pl pool) {α : MD.Env} (v0 : ∀ Z, mVar 0 α Z = .ok (.loc st) Z) (v1 : ∀ Z, mVar 1 α Z = .ok (.scr ns) Z) (v2 : ∀ Z, mVar 2 α Z = .ok (.loc pl) Z) :
    ∃ g Z', mTup (mA1 (mCall (mOwn 3 (M_h_head (k + 3))) (mA1 (mVar 0) (mA1 (mVar 1) (mA1 (mVar 2) mA0)))) (mA1 (mTup mA0) mA0)) α Z = .ok (tD (.mk g [])) Z' ∧ RK g ∧ PkR Z st d Z' := by
  obtain ⟨g, Z', e, hg, p⟩ := head_eq k ns w h hp
  refine ⟨g, Z', ?_, hg, p⟩
  rw [sTup, sA1, sCall, sA1, v0, bind_ok, sA1, v1, bind_ok, sA1, v2, bind_ok, sA0, bind_ok, bind_ok, bind_ok, bind_ok, own3, e, bind_ok, sA1, tup0, bind_ok, sA0, bind_ok, bind_ok, bind_ok, if_pos (l2le _ _), tD_mk]
  rfl
structure TmR (n m : Nat) (t : Tm) : Prop where
  al : t.All RK
  sz : t.size ≤ n
  hi : t.high ≤ m
theorem leafR {g : Key} (h : RK g) : TmR 1 1 (.mk g []) := ⟨Tm.All.mk h fun u hu => absurd hu List.not_mem_nil, by rw [Tm.size, Tm.sizeL]; exact Nat.le_refl _, by rw [Tm.high, Tm.highL]; exact Nat.le_refl _⟩
end
end DM

namespace DM
open PySem L2 MD
open DF (Tm)
open DF (KOk)
section
variable {S Z Z1 : Sto} {st : Nat} {d d' : Int} {pl : Nat} {pool : List Key}
theorem cut_any {α : Type} (xs : List α) (n : Nat) : cutD xs none (some (n : Int)) = xs.take n := by
  unfold cutD
  rw [HT.sIx_none, show HT.sIx xs.length xs.length (some (n : Int)) = min n xs.length from HT.sIx_nat xs.length xs.length n, List.drop_zero, Nat.sub_zero]
  by_cases h : n ≤ xs.length
  · rw [Nat.min_eq_left h]
  · rw [Nat.min_eq_right (by omega), List.take_of_length_le (Nat.le_refl _), List.take_of_length_le (by omega)]
/-- the arguments that are being gathered -/
structure LsP (n m : Nat) (l : List Tm) : Prop where
  al : ∀ u ∈ l.take 2, u.All RK
  sz : Tm.sizeL (l.take 2) ≤ n + 1
  hi : Tm.highL (l.take 2) ≤ m
  l : l.length ≤ 3
theorem take2_size {t : Tm} {u : Tm} : Tm.sizeL [t, u] = t.size + u.size := by rw [Tm.sizeL, Tm.sizeL, Tm.sizeL]; omega
theorem deep_step (k : Nat) (ns : List Int) (hp : PoolAt S st pl pool) (ls : st < S.length) (B : MS) (hB : B = mSq (mSet 6 (mGc (mLst (mA1 (mVar 4) mA0))))
      (mSq (mIfS (mT (mOp dEq (mCall (mOwn 3 (M_h_pick (k + 3))) (mA1 (mVar 0) (mA1 (mVar 1) (mA1 (mC (.int 4)) mA0)))) (mC (.int 0)))) (mEx (mGc (mMt dAppend (mVar 6) (mA1 (mTup (mA1 (mCall (mOwn 3 (M_h_head (k + 3))) (mA1 (mVar 0) (mA1 (mVar 1) (mA1 (mVar 2) mA0)))) (mA1 (mTup mA0) mA0))) mA0)))) mNx)
      (mSq (mIfS (mT (mOp dEq (mCall (mOwn 3 (M_h_pick (k + 3))) (mA1 (mVar 0) (mA1 (mVar 1) (mA1 (mC (.int 8)) mA0)))) (mC (.int 0)))) (mSet 6 (mGc (mOp dAdd (mLst (mA1 (mTup (mA1 (mCall (mOwn 3 (M_h_head (k + 3))) (mA1 (mVar 0) (mA1 (mVar 1) (mA1 (mVar 2) mA0)))) (mA1 (mTup mA0) mA0))) mA0)) (mVar 6)))) mNx)
      (mSet 4 (mGc (mTup (mA1 (mCall (mOwn 3 (M_h_head (k + 3))) (mA1 (mVar 0) (mA1 (mVar 1) (mA1 (mVar 2) mA0)))) (mA1 (mCall dTuple (mA1 (mSl dSl (mVar 6) mOn (mOs (mC (.int 2)))) mA0)) mA0)))))))) (x3 : Option Dt) {t : Tm} {n m : Nat} (ht : TmR n m t) (m1 : 1 ≤ m) (z5 z6 : Option Dt) (w : Wf Z) (p : PkX S st d Z) :
    ∃ t' Z' y6, B [some (.loc st), some (.scr ns), some (.loc pl), x3, some (tD t), z5, z6] Z = .nx [some (.loc st), some (.scr ns), some (.loc pl), x3, some (tD t'), z5, y6] Z' ∧ TmR (n + 2) (m + 1) t' ∧ PkX S st d Z' ∧ Wf Z' := by
  have lp := hp.lt
  have lz := p.len
  -- a turn's list
  have w1 : Wf (Z ++ [Cell.lst [tD t]]) := wf_app w (by
    show (Dt.bddL _ [tD t] && true) = true
    rw [bddCons, bddNil, tD_bdd]; rfl)
  have p1 := p.app [Cell.lst [tD t]]
  have s1 : mSet 6 (mGc (mLst (mA1 (mVar 4) mA0))) [some (.loc st), some (.scr ns), some (.loc pl), x3, some (tD t), z5, z6] Z = .nx [some (.loc st), some (.scr ns), some (.loc pl), x3, some (tD t), z5, some (.loc Z.length)] (Z ++ [Cell.lst [tD t]]) := by
    rw [sSet, sGc (d := .loc Z.length) (S' := Z ++ [Cell.lst [tD t]]) (by rw [sLst, sA1, sVar4, bind_ok, sA0, bind_ok, bind_ok, if_pos (by show 1 ≤ 1000000; decide)]), gc_one, rthen_ok]
    rfl
  -- perhaps one behind
  have s2 : ∃ (Y : Sto) (l : List Tm), mIfS (mT (mOp dEq (mCall (mOwn 3 (M_h_pick (k + 3))) (mA1 (mVar 0) (mA1 (mVar 1) (mA1 (mC (.int 4)) mA0)))) (mC (.int 0)))) (mEx (mGc (mMt dAppend (mVar 6) (mA1 (mTup (mA1 (mCall (mOwn 3 (M_h_head (k + 3))) (mA1 (mVar 0) (mA1 (mVar 1) (mA1 (mVar 2) mA0)))) (mA1 (mTup mA0) mA0))) mA0)))) mNx [some (.loc st), some (.scr ns), some (.loc pl), x3, some (tD t), z5, some (.loc Z.length)] (Z ++ [Cell.lst [tD t]]) = .nx [some (.loc st), some (.scr ns), some (.loc pl), x3, some (tD t), z5, some (.loc Z.length)] Y ∧ Y[Z.length]? = some (Cell.lst (l.map tD)) ∧ (l = [t] ∨ ∃ g, RK g ∧ l = [t, .mk g []]) ∧ PkX S st d Y ∧ Wf Y := by
    obtain ⟨r, Z2, pk, b, p2⟩ := pkc (k + 2) ns (p1.at ls) (α := [some (.loc st), some (.scr ns), some (.loc pl), x3, some (tD t), z5, some (.loc Z.length)]) (m := mC (.int 4)) (many := 4) (fun _ => rfl) (fun _ => rfl) rfl (by decide)
    have g2 : Z2[Z.length]? = some (Cell.lst [tD t]) := by rw [p2.get (by omega)]; exact get0
    have x2 := p1.step ls p2
    rw [sIfS, sT, sOp, pk, bind_ok, sC, bind_ok, eq_ii, bind_ok, sasB, rthen_ok]
    by_cases hr : r = 0
    · rw [decide_eq_true hr, if_pos rfl]
      obtain ⟨g, Z3, e3, hg, p3⟩ := leaf_dr k ns (p2.wf w1) (x2.at ls) (x2.plA lp hp) (α := [some (.loc st), some (.scr ns), some (.loc pl), x3, some (tD t), z5, some (.loc Z.length)]) (fun _ => rfl) (fun _ => rfl) (fun _ => rfl)
      have g3 : Z3[Z.length]? = some (Cell.lst [tD t]) := by rw [p3.get (by omega)]; exact g2
      refine ⟨_, [t, .mk g []], append_st (A := Z.length) rfl g2 e3 g3 (by show 1 < 1000000; decide) p3.len, List.getElem?_set_self (List.getElem?_eq_some_iff.mp g3).1, .inr ⟨g, hg, rfl⟩, (x2.step ls p3).setG lz _, wf_set (p3.wf (p2.wf w1)) (tmsB _ [t, .mk g []])⟩
    · rw [decide_eq_false hr, if_neg Bool.false_ne_true, sNx]
      exact ⟨Z2, [t], rfl, g2, .inl rfl, x2, p2.wf w1⟩
  obtain ⟨Y, l, e2, gY, hl, pY, wY⟩ := s2
  -- perhaps one in front
  have s3 : ∃ (Y2 : Sto) (A : Nat) (l2 : List Tm), mIfS (mT (mOp dEq (mCall (mOwn 3 (M_h_pick (k + 3))) (mA1 (mVar 0) (mA1 (mVar 1) (mA1 (mC (.int 8)) mA0)))) (mC (.int 0)))) (mSet 6 (mGc (mOp dAdd (mLst (mA1 (mTup (mA1 (mCall (mOwn 3 (M_h_head (k + 3))) (mA1 (mVar 0) (mA1 (mVar 1) (mA1 (mVar 2) mA0)))) (mA1 (mTup mA0) mA0))) mA0)) (mVar 6)))) mNx [some (.loc st), some (.scr ns), some (.loc pl), x3, some (tD t), z5, some (.loc Z.length)] Y = .nx [some (.loc st), some (.scr ns), some (.loc pl), x3, some (tD t), z5, some (.loc A)] Y2 ∧ Y2[A]? = some (Cell.lst (l2.map tD)) ∧ LsP n m l2 ∧ S.length ≤ A ∧ PkX S st d Y2 ∧ Wf Y2 := by
    obtain ⟨r, Y1, pk, b, p2⟩ := pkc (k + 2) ns (pY.at ls) (α := [some (.loc st), some (.scr ns), some (.loc pl), x3, some (tD t), z5, some (.loc Z.length)]) (m := mC (.int 8)) (many := 8) (fun _ => rfl) (fun _ => rfl) rfl (by decide)
    have g1 : Y1[Z.length]? = some (Cell.lst (l.map tD)) := by rw [p2.get (by omega)]; exact gY
    have x2 := pY.step ls p2
    rw [sIfS, sT, sOp, pk, bind_ok, sC, bind_ok, eq_ii, bind_ok, sasB, rthen_ok]
    have tal := ht.al
    have tsz := ht.sz
    have thi := ht.hi
    by_cases hr : r = 0
    · rw [decide_eq_true hr, if_pos rfl]
      obtain ⟨g, Y3, e3, hg, p3⟩ := leaf_dr k ns (p2.wf wY) (x2.at ls) (x2.plA lp hp) (α := [some (.loc st), some (.scr ns), some (.loc pl), x3, some (tD t), z5, some (.loc Z.length)]) (fun _ => rfl) (fun _ => rfl) (fun _ => rfl)
      have g3 : Y3[Z.length]? = some (Cell.lst (l.map tD)) := by rw [p3.get (by omega)]; exact g1
      have w3 := p3.wf (p2.wf wY)
      have l3 := (List.getElem?_eq_some_iff.mp g3).1
      have ll : l.length ≤ 2 := by rcases hl with rfl | ⟨g, _, rfl⟩ <;> simp
      have lf := leafR hg
      refine ⟨Y3 ++ [Cell.lst ((.mk g [] :: l).map tD)], Y3.length, .mk g [] :: l, ?_, get0, ?_, by have := (x2.step ls p3).len; omega, (x2.step ls p3).app _, wf_app w3 (by
        show (Dt.bddL _ ((Tm.mk g [] :: l).map tD) && true) = true
        rw [tmsB]; rfl)⟩
      · rw [sSet, sGc (d := .loc (Y3.length + 1)) (S' := Y3 ++ [Cell.lst [tD (.mk g [])], Cell.lst ((.mk g [] :: l).map tD)]) (by
          rw [sOp, sLst, sA1, e3, bind_ok, sA0, bind_ok, bind_ok, if_pos (by show 1 ≤ 1000000; decide), bind_ok, show ∀ Z' : Sto, mVar 6 [some (.loc st), some (.scr ns), some (.loc pl), x3, some (tD t), z5, some (.loc Z.length)] Z' = .ok (.loc Z.length) Z' from fun _ => rfl, bind_ok]
          unfold dAdd
          dsimp only
          rw [get0, List.getElem?_append_left l3, g3]
          dsimp only
          rw [if_pos (by rw [List.length_map, List.length_singleton]; omega), List.length_append, List.append_assoc]
          rfl)]
        rw [← p3.len]
        rw [gc_at w3 (by omega) get1 (by
          show Dt.bddL _ _ = true
          exact tmsB _ (.mk g [] :: l)), rthen_ok]
        rfl
      · have h2 : (Tm.mk g [] :: l).take 2 = [.mk g [], t] := by rcases hl with rfl | ⟨g, _, rfl⟩ <;> rfl
        refine ⟨fun u hu => ?_, ?_, ?_, by rw [List.length_cons]; omega⟩
        · rw [h2] at hu
          simp only [List.mem_cons, List.not_mem_nil, or_false] at hu
          rcases hu with rfl | rfl
          · exact lf.al
          · exact tal
        · have := lf.sz; rw [h2, take2_size]; omega
        · have := lf.hi; rw [h2, Tm.highL, Tm.highL, Tm.highL]; omega
    · rw [decide_eq_false hr, if_neg Bool.false_ne_true, sNx]
      refine ⟨Y1, Z.length, l, rfl, g1, ?_, lz, x2, p2.wf wY⟩
      rcases hl with rfl | ⟨g, hg, rfl⟩
      · refine ⟨fun u hu => ?_, ?_, ?_, by simp⟩
        · rw [List.mem_singleton.mp hu]; exact tal
        · show Tm.sizeL [t] ≤ _; rw [Tm.sizeL, Tm.sizeL]; omega
        · show Tm.highL [t] ≤ _; rw [Tm.highL, Tm.highL]; omega
      · have lf := leafR hg
        refine ⟨fun u hu => ?_, ?_, ?_, by simp⟩
        · have hu : u ∈ [t, Tm.mk g []] := hu
          simp only [List.mem_cons, List.not_mem_nil, or_false] at hu
          rcases hu with rfl | rfl
          · exact tal
          · exact lf.al
        · show Tm.sizeL [t, .mk g []] ≤ _; have := lf.sz; rw [take2_size]; omega
        · show Tm.highL [t, .mk g []] ≤ _; have := lf.hi; rw [Tm.highL, Tm.highL, Tm.highL]; omega
  obtain ⟨Y2, A, l2, e3, gA, lP, hA, p3, w3⟩ := s3
  obtain ⟨g, Y3, e4, hg, p4⟩ := head_eq k ns w3 (p3.at ls) (p3.plA lp hp)
  have gA' : Y3[A]? = some (Cell.lst (l2.map tD)) := by rw [p4.get (by omega)]; exact gA
  have w4 := p4.wf w3
  refine ⟨.mk g (l2.take 2), Y3, some (.loc A), ?_, ⟨Tm.All.mk hg lP.al, by have := lP.sz; rw [Tm.size]; omega, by have := lP.hi; rw [Tm.high]; omega⟩, p3.step ls p4, w4⟩
  rw [hB, sSq, s1, fthen_nx, sSq, e2, fthen_nx, sSq, e3, fthen_nx]
  rw [sSet, sGc (d := tD (.mk g (l2.take 2))) (S' := Y3 ++ [Cell.lst ((l2.take 2).map tD)]) (by
    rw [sTup, sA1, sCall, sA1, sVar0, bind_ok, sA1, sVar1, bind_ok, sA1, sVar2, bind_ok, sA0, bind_ok, bind_ok, bind_ok, bind_ok, own3, e4, bind_ok, sA1, sCall, sA1, sSl, sVar6, bind_ok, sOn, bind_ok, sOs, sC, bind_ok]
    dsimp only
    rw [bind_ok, sl_loc gA', show cutD (l2.map tD) none (some (2 : Int)) = (l2.take 2).map tD by
      have := cut_any (l2.map tD) 2
      rw [show ((2 : Nat) : Int) = 2 from rfl] at this
      rw [this, List.map_take], bind_ok, sA0, bind_ok, bind_ok, tup_loc get0, bind_ok, sA0, bind_ok, bind_ok, bind_ok, if_pos (l2le _ _), tD_mk]), gc_dropW p4.len w4 (tD_bdd _ _), rthen_ok]
  rfl
theorem deep_loop (k : Nat) (ns : List Int) (hp : PoolAt S st pl pool) (ls : st < S.length) (B : MS) (hB : B = mSq (mSet 6 (mGc (mLst (mA1 (mVar 4) mA0))))
      (mSq (mIfS (mT (mOp dEq (mCall (mOwn 3 (M_h_pick (k + 3))) (mA1 (mVar 0) (mA1 (mVar 1) (mA1 (mC (.int 4)) mA0)))) (mC (.int 0)))) (mEx (mGc (mMt dAppend (mVar 6) (mA1 (mTup (mA1 (mCall (mOwn 3 (M_h_head (k + 3))) (mA1 (mVar 0) (mA1 (mVar 1) (mA1 (mVar 2) mA0)))) (mA1 (mTup mA0) mA0))) mA0)))) mNx)
      (mSq (mIfS (mT (mOp dEq (mCall (mOwn 3 (M_h_pick (k + 3))) (mA1 (mVar 0) (mA1 (mVar 1) (mA1 (mC (.int 8)) mA0)))) (mC (.int 0)))) (mSet 6 (mGc (mOp dAdd (mLst (mA1 (mTup (mA1 (mCall (mOwn 3 (M_h_head (k + 3))) (mA1 (mVar 0) (mA1 (mVar 1) (mA1 (mVar 2) mA0)))) (mA1 (mTup mA0) mA0))) mA0)) (mVar 6)))) mNx)
      (mSet 4 (mGc (mTup (mA1 (mCall (mOwn 3 (M_h_head (k + 3))) (mA1 (mVar 0) (mA1 (mVar 1) (mA1 (mVar 2) mA0)))) (mA1 (mCall dTuple (mA1 (mSl dSl (mVar 6) mOn (mOs (mC (.int 2)))) mA0)) mA0)))))))) (x3 : Option Dt) : ∀ (its : List Dt) (Z : Sto) (t : Tm) (n m : Nat) (z5 z6 : Option Dt), PkX S st d Z → Wf Z → TmR n m t → 1 ≤ m →
    ∃ y5 y6 t' Z', forGo none (gN 5) B its [some (.loc st), some (.scr ns), some (.loc pl), x3, some (tD t), z5, z6] Z = .nx [some (.loc st), some (.scr ns), some (.loc pl), x3, some (tD t'), y5, y6] Z' ∧ TmR (n + 2 * its.length) (m + its.length) t' ∧ PkX S st d Z'
  | [], Z, t, n, m, z5, z6, p, w, h, m1 => ⟨z5, z6, t, Z, rfl, h, p⟩
  | e :: its, Z, t, n, m, z5, z6, p, w, h, m1 => by
    obtain ⟨t1, Z1, y6, e1, h1, p1, w1⟩ := deep_step k ns hp ls B hB x3 h m1 (some e) z6 w p
    obtain ⟨y5, y6', t', Z', e2, h2, p2⟩ := deep_loop k ns hp ls B hB x3 its Z1 t1 (n + 2) (m + 1) (some e) y6 p1 w1 h1 (by omega)
    refine ⟨y5, y6', t', Z', ?_, by rw [List.length_cons, show n + 2 * (its.length + 1) = n + 2 + 2 * its.length by omega, show m + (its.length + 1) = m + 1 + its.length by omega]; exact h2, p2⟩
    rw [forGo, sgN]
    simp only [xset_s, xset_0]
    rw [e1]
    dsimp only
    rw [if_pos (show chk none _ from True.intro), e2]
theorem deep_eq (k : Nat) (ns : List Int) (hS : Wf S) (h : PkAt S st d) (hp : PoolAt S st pl pool) {many : Int} (m1 : 0 ≤ many) (m2 : many ≤ 30) : ∃ t S', M_h_deep (k + 4) [.loc st, .scr ns, .loc pl, .int many] S = .ok (tD t) S' ∧ TmR (2 * many.toNat + 1) 91 t ∧ PkR S st d S' := by
  rw [M_h_deep, mFn_eq, show startE 7 [.loc st, .scr ns, .loc pl, .int many] = [some (.loc st), some (.scr ns), some (.loc pl), some (.int many), none, none, none] from rfl]
  obtain ⟨g, Z1, e1, hg, p1⟩ := leaf_dr k ns hS h hp (α := [some (.loc st), some (.scr ns), some (.loc pl), some (.int many), none, none, none]) (fun _ => rfl) (fun _ => rfl) (fun _ => rfl)
  rw [sSq, sSet, sGc e1, gc_len p1.len, rthen_ok, fthen_nx]
  simp only [xset_s, xset_0]
  obtain ⟨mn, rfl⟩ : ∃ mn : Nat, many = mn := ⟨many.toNat, by omega⟩
  have rl : (rngD 0 mn).length = mn := by unfold rngD; rw [List.length_map, List.length_range]
  have ir : ∀ α : MD.Env, mIr1 (mA1 (mVar 3) mA0) (some (.loc st) :: some (.scr ns) :: some (.loc pl) :: some (.int (mn : Int)) :: α) Z1 = .ok (rngD 0 mn, none) Z1 := fun α => by
    unfold mIr1
    rw [sA1, sVar3, bind_ok, sA0, bind_ok, bind_ok]
    dsimp only
    rw [if_pos (by omega), Int.toNat_natCast]
  obtain ⟨y5, y6, t, Z2, lp, ht, p2⟩ := deep_loop k ns hp h.lt _ rfl (some (.int (mn : Int))) (rngD 0 mn) Z1 (.mk g []) 1 1 none none p1.x (p1.wf hS) (leafR hg) (Nat.le_refl _)
  rw [rl] at ht
  obtain ⟨S', gd, p3⟩ := p2.drop hS (tD_bdd S.length t)
  rw [sSq, xFor, ir, rthen_ok]
  dsimp only
  rw [lp, fthen_nx, sRt, sVar4, rthen_ok]
  exact ⟨t, S', gd, ⟨ht.al, by have := ht.sz; rw [Int.toNat_natCast]; omega, by have := ht.hi; omega⟩, p3⟩
end
end DM

namespace DM
open PySem L2 MD
open DF (Tm)
open DF (KOk)
section
variable {S Z Z1 : Sto} {st : Nat} {d d' : Int} {pl : Nat} {pool : List Key}
/-- what a drawn term is like that spends d -/
structure AnR (N : Nat) (d : Int) (t : Tm) : Prop where
  al : t.All RK
  hi : t.high ≤ N
  p : 1 ≤ d → (t.size : Int) ≤ d
  z : d < 1 → t.size = 1
def AnyOk (R : List Dt → Sto → Rs Dt) (ns : List Int) (st pl : Nat) (pool : List Key) (N : Nat) (dep : Int) : Prop := ∀ (Z : Sto) (d : Int), PkAt Z st d → Wf Z → PoolAt Z st pl pool → ∃ t Z', R [.loc st, .scr ns, .loc pl, .int dep] Z = .ok (tD t) Z' ∧ AnR N d t ∧ PkR Z st (d - t.size) Z'
theorem any_loop (ns : List Int) (hS : Wf S) (hp : PoolAt S st pl pool) (ls : st < S.length) {N : Nat} {dep : Nat} {R : List Dt → Sto → Rs Dt} (hR : dep < 90 → AnyOk R ns st pl pool N ((dep : Int) + 1)) (B : MS) (hB : B = mIfS (mtAnd (mT (mOp dGt (mOp dIx (mVar 0) (mC (.int 3))) (mC (.int 0)))) (mT (mOp dLt (mVar 3) (mC (.int 90))))) (mEx (mGc (mMt dAppend (mVar 5) (mA1 (mCall (mOwn 4 R) (mA1 (mVar 0) (mA1 (mVar 1) (mA1 (mVar 2) (mA1 (mOp dAdd (mVar 3) (mC (.int 1))) mA0))))) mA0)))) mNx) (x4 x6 : Option Dt) :
    ∀ (its : List Dt) (Z : Sto) (d : Int) (as : List Tm) (z7 : Option Dt), PkR S st d Z → as.length + its.length ≤ 1000 →
    ∃ y7 Z' as2, forGo none (gN 7) B its [some (.loc st), some (.scr ns), some (.loc pl), some (.int (dep : Int)), x4, some (.loc S.length), x6, z7] (Z ++ [Cell.lst (as.map tD)]) = .nx [some (.loc st), some (.scr ns), some (.loc pl), some (.int (dep : Int)), x4, some (.loc S.length), x6, y7] (Z' ++ [Cell.lst ((as ++ as2).map tD)]) ∧ PkR S st (d - Tm.sizeL as2) Z' ∧ (∀ u ∈ as2, u.All RK ∧ u.high ≤ N) ∧ (0 ≤ d → (Tm.sizeL as2 : Int) ≤ d) ∧ (d ≤ 0 → as2 = [])
  | [], Z, d, as, z7, p, _ => ⟨z7, Z, [], by rw [List.append_nil]; rfl, by rw [Tm.sizeL]; simpa using p, fun u hu => absurd hu List.not_mem_nil, fun h => by rw [Tm.sizeL]; exact h, fun _ => rfl⟩
  | e :: its, Z, d, as, z7, p, hl => by
    rw [List.length_cons] at hl
    have pz := p.at ls
    rw [forGo, sgN]
    simp only [xset_s, xset_0]
    have w1 : Wf (Z ++ [Cell.lst (as.map tD)]) := wf_app (p.wf hS) (by
      show (Dt.bddL _ _ && true) = true
      rw [tmsB]; rfl)
    have pa := pz.app [Cell.lst (as.map tD)]
    have i3 : dIx (.loc st) (.int 3) (Z ++ [Cell.lst (as.map tD)]) = .ok (.int d) (Z ++ [Cell.lst (as.map tD)]) := by
      obtain ⟨a, b, c, q, _⟩ := pa
      exact ix_loc (n := 3) q rfl
    have cnd : mtAnd (mT (mOp dGt (mOp dIx (mVar 0) (mC (.int 3))) (mC (.int 0)))) (mT (mOp dLt (mVar 3) (mC (.int 90)))) [some (.loc st), some (.scr ns), some (.loc pl), some (.int (dep : Int)), x4, some (.loc S.length), x6, some e] (Z ++ [Cell.lst (as.map tD)]) = .ok (decide (0 < d ∧ dep < 90)) (Z ++ [Cell.lst (as.map tD)]) := by
      rw [stAnd, sT, sOp, sOp, sVar0, bind_ok, sC, bind_ok, i3, bind_ok, sC, bind_ok, show dGt (.int d) (.int 0) (Z ++ [Cell.lst (as.map tD)]) = .ok (.bl (decide (0 < d))) (Z ++ [Cell.lst (as.map tD)]) from rfl, bind_ok, sasB, bind_ok]
      by_cases h0 : 0 < d
      · rw [decide_eq_true h0, if_pos rfl, sT, sOp, sVar3, bind_ok, sC, bind_ok, show dLt (.int (dep : Int)) (.int 90) (Z ++ [Cell.lst (as.map tD)]) = .ok (.bl (decide ((dep : Int) < 90))) (Z ++ [Cell.lst (as.map tD)]) from rfl, bind_ok, sasB]
        rw [decide_eq_decide.mpr (show (dep : Int) < 90 ↔ 0 < d ∧ dep < 90 from ⟨fun q => ⟨h0, by omega⟩, fun q => by omega⟩)]
      · rw [decide_eq_false h0, if_neg Bool.false_ne_true, decide_eq_false fun q => h0 q.1]
    by_cases hc : 0 < d ∧ dep < 90
    · obtain ⟨t, Y1, e1, an, p1⟩ := hR hc.2 _ d pa w1 (by
        have := hp.pk p
        exact this.app _)
      obtain ⟨Z2, rfl, p2⟩ := p1.cut pz.lt
      have l2 : Z2.length = S.length := by rw [p2.len, p.len]
      obtain ⟨y7, Z', as2, e3, p3, g3, s3, n3⟩ := any_loop ns hS hp ls hR B hB x4 x6 its Z2 (d - t.size) (as ++ [t]) (some e) (p.trans p2) (by rw [List.length_append, List.length_singleton]; omega)
      have pz2 := an.p (by omega)
      have tp := t.size_pos
      refine ⟨y7, Z', t :: as2, ?_, ?_, ?_, ?_, fun h => by omega⟩
      · have st1 : B [some (.loc st), some (.scr ns), some (.loc pl), some (.int (dep : Int)), x4, some (.loc S.length), x6, some e] (Z ++ [Cell.lst (as.map tD)]) = .nx [some (.loc st), some (.scr ns), some (.loc pl), some (.int (dep : Int)), x4, some (.loc S.length), x6, some e] (Z2 ++ [Cell.lst ((as ++ [t]).map tD)]) := by
          rw [hB, sIfS, cnd, rthen_ok, decide_eq_true hc, if_pos rfl]
          rw [append_st (A := S.length) (l := as.map tD) (l1 := as.map tD) (x := tD t) (Z1 := Z2 ++ [Cell.lst (as.map tD)]) rfl (by rw [← p.len]; exact get0) (by
            rw [sCall, sA1, sVar0, bind_ok, sA1, sVar1, bind_ok, sA1, sVar2, bind_ok, sA1, sOp, sVar3, bind_ok, sC, bind_ok, add_ii, bind_ok, sA0, bind_ok, bind_ok, bind_ok, bind_ok, bind_ok, own4]
            exact e1) (by rw [← l2]; exact get0) (by rw [List.length_map]; omega) (by rw [List.length_append, List.length_append, l2, p.len])]
          rw [← l2, set0, List.map_append]
          rfl
        rw [st1]
        dsimp only
        rw [if_pos (show chk none _ from True.intro), e3, List.append_assoc]
        rfl
      · rw [Tm.sizeL]
        have : d - ((t.size + Tm.sizeL as2 : Nat) : Int) = d - (t.size : Int) - (Tm.sizeL as2 : Int) := by omega
        rw [this]
        exact p3
      · intro u hu
        rcases List.mem_cons.mp hu with rfl | hu
        · exact ⟨an.al, an.hi⟩
        · exact g3 u hu
      · intro h0
        have := s3 (by omega)
        rw [Tm.sizeL]
        omega
    · obtain ⟨y7, Z', as2, e3, p3, g3, s3, n3⟩ := any_loop ns hS hp ls hR B hB x4 x6 its Z d as (some e) p (by omega)
      refine ⟨y7, Z', as2, ?_, p3, g3, s3, n3⟩
      rw [hB, sIfS, cnd, rthen_ok, decide_eq_false hc, if_neg Bool.false_ne_true, sNx]
      dsimp only
      rw [if_pos (show chk none _ from True.intro), ← hB, e3]
theorem any_step (kk : Nat) (ns : List Int) (N dep : Nat) (hR : dep < 90 → AnyOk (M_h_any (kk + 3)) ns st pl pool N ((dep : Int) + 1)) : AnyOk (M_h_any (kk + 4)) ns st pl pool (N + 1) (dep : Int) := by
  intro S d h hS hp
  have ls := h.lt
  rw [M_h_any, mFn_eq, show startE 8 [.loc st, .scr ns, .loc pl, .int (dep : Int)] = [some (.loc st), some (.scr ns), some (.loc pl), some (.int dep), none, none, none, none] from rfl]
  obtain ⟨a, b, c, q0, pk4, p1⟩ := PkR.fuel h (d - 1)
  have s1 : mSub (mVar 0) (mC (.int 3)) (mOp dSub (mOp dIx (mVar 0) (mC (.int 3))) (mC (.int 1))) [some (.loc st), some (.scr ns), some (.loc pl), some (.int (dep : Int)), none, none, none, none] S = .nx [some (.loc st), some (.scr ns), some (.loc pl), some (.int (dep : Int)), none, none, none, none] (S.set st (stc a b c (d - 1))) := by
    unfold mSub
    rw [sOp, sOp, sVar0, bind_ok, sC, bind_ok, show dIx (.loc st) (.int 3) S = .ok (.int d) S from ix_loc (n := 3) q0 rfl, bind_ok, sC, bind_ok, sub_ii, rthen_ok, sVar0, rthen_ok, sC, rthen_ok]
    unfold dSetI
    dsimp only
    rw [q0]
    rfl
  rw [sSq, s1, fthen_nx]
  generalize S.set st (stc a b c (d - 1)) = S1 at p1
  obtain ⟨g, S2, e2, hg, p2⟩ := head_eq kk ns (p1.wf hS) (p1.at ls) (hp.pk p1)
  rw [sSq, sSet, sGc (by rw [sCall, sA1, sVar0, bind_ok, sA1, sVar1, bind_ok, sA1, sVar2, bind_ok, sA0, bind_ok, bind_ok, bind_ok, bind_ok, own3, e2]), gc_len p2.len, rthen_ok, fthen_nx]
  simp only [xset_s, xset_0]
  have p12 := p1.trans p2
  rw [sSq, sSet, sGc (d := .loc S2.length) (S' := S2 ++ [Cell.lst []]) rfl, gc_one, rthen_ok, fthen_nx]
  simp only [xset_s, xset_0]
  have w2 : Wf (S2 ++ [Cell.lst []]) := wf_app (p12.wf hS) rfl
  have h2 := (p12.at ls).app [Cell.lst []]
  -- how many
  have mny : ∃ (r : Int) (S3 : Sto), mGc (mCall (mOwn 3 (M_h_pick (kk + 3))) (mA1 (mVar 0) (mA1 (mVar 1) (mA1 (mOp dIx (mLst (mA1 (mC (.int 4)) (mA1 (mC (.int 2)) mA0))) (mCall dInt (mA1 (mOp dGt (mVar 3) (mC (.int 5))) mA0))) mA0)))) [some (.loc st), some (.scr ns), some (.loc pl), some (.int (dep : Int)), some (kD g), some (.loc S2.length), none, none] (S2 ++ [Cell.lst []]) = .ok (.int r) (S3 ++ [Cell.lst []]) ∧ (0 ≤ r ∧ r < 4) ∧ PkR S st (d - 1) S3 := by
    have h3 := h2.app [Cell.lst [.int 4, .int 2]]
    have num : ∀ n : Int, 0 < n → n ≤ 4 → dIx (.loc (S2 ++ [Cell.lst []]).length) (.int (if decide ((5 : Int) < (dep : Int)) then 1 else 0)) (S2 ++ [Cell.lst []] ++ [Cell.lst [.int 4, .int 2]]) = .ok (.int n) (S2 ++ [Cell.lst []] ++ [Cell.lst [.int 4, .int 2]]) → ∃ (r : Int) (S3 : Sto), mGc (mCall (mOwn 3 (M_h_pick (kk + 3))) (mA1 (mVar 0) (mA1 (mVar 1) (mA1 (mOp dIx (mLst (mA1 (mC (.int 4)) (mA1 (mC (.int 2)) mA0))) (mCall dInt (mA1 (mOp dGt (mVar 3) (mC (.int 5))) mA0))) mA0)))) [some (.loc st), some (.scr ns), some (.loc pl), some (.int (dep : Int)), some (kD g), some (.loc S2.length), none, none] (S2 ++ [Cell.lst []]) = .ok (.int r) (S3 ++ [Cell.lst []]) ∧ (0 ≤ r ∧ r < 4) ∧ PkR S st (d - 1) S3 := fun n n0 n4 ix => by
      obtain ⟨r, Y, e3, b3, p3⟩ := pick_eq (kk + 2) ns h3 n n0 (by omega)
      obtain ⟨Y1, rfl, p4⟩ := p3.cut (by rw [List.length_append, p12.len]; omega)
      obtain ⟨S3, rfl, p5⟩ := p4.cut (by rw [p12.len]; exact ls)
      refine ⟨r, S3, ?_, ⟨b3.1, by omega⟩, p12.trans p5⟩
      rw [sGc (d := .int r) (S' := S3 ++ [Cell.lst []] ++ [Cell.lst [.int 4, .int 2]]) (by
        rw [sCall, sA1, sVar0, bind_ok, sA1, sVar1, bind_ok, sA1, sOp, sLst, sA1, sC, bind_ok, sA1, sC, bind_ok, sA0, bind_ok, bind_ok, bind_ok, if_pos (l2le _ _), bind_ok, sCall, sA1, sOp, sVar3, bind_ok, sC, bind_ok, show ∀ Z : Sto, dGt (.int (dep : Int)) (.int 5) Z = .ok (.bl (decide ((5 : Int) < (dep : Int)))) Z from fun _ => rfl, bind_ok, sA0, bind_ok, bind_ok, show ∀ (b : Bool) (Z : Sto), dInt [.bl b] Z = .ok (.int (if b then 1 else 0)) Z from fun _ _ => rfl, bind_ok, ix, bind_ok, sA0, bind_ok, bind_ok, bind_ok, bind_ok, own3, e3])]
      exact gc_dropW (by rw [List.length_append, List.length_append, p5.len]) (p4.wf w2) bddInt
    by_cases h5 : (5 : Int) < (dep : Int)
    · exact num 2 (by decide) (by decide) (by rw [decide_eq_true h5]; exact ix_loc (n := 1) get0 rfl)
    · exact num 4 (by decide) (by decide) (by rw [decide_eq_false h5]; exact ix_loc (n := 0) get0 rfl)
  obtain ⟨r, S3, e3, b3, p3⟩ := mny
  rw [sSq, sSet, e3, rthen_ok, fthen_nx]
  simp only [xset_s, xset_0]
  obtain ⟨rn, rfl⟩ : ∃ rn : Nat, r = rn := ⟨r.toNat, by omega⟩
  have rl : (rngD 0 rn).length = rn := by unfold rngD; rw [List.length_map, List.length_range]
  obtain ⟨y7, Z', as2, lp, p4, g4, s4, n4⟩ := any_loop ns hS hp ls hR _ rfl (some (kD g)) (some (.int (rn : Int))) (rngD 0 rn) S3 (d - 1) [] none p3 (by rw [List.length_nil, rl]; omega)
  have ir : ∀ (α : MD.Env) (Z : Sto), mIr1 (mA1 (mVar 6) mA0) (some (.loc st) :: some (.scr ns) :: some (.loc pl) :: some (.int (dep : Int)) :: some (kD g) :: some (.loc S2.length) :: some (.int (rn : Int)) :: α) Z = .ok (rngD 0 rn, none) Z := fun α Z => by
    unfold mIr1
    rw [sA1, sVar6, bind_ok, sA0, bind_ok, bind_ok]
    dsimp only
    rw [if_pos (by omega), Int.toNat_natCast]
  rw [p12.len]
  rw [p12.len] at ir
  rw [List.nil_append, List.map_nil] at lp
  rw [sSq, xFor, ir, rthen_ok]
  dsimp only
  rw [lp, fthen_nx]
  rw [sRt, sTup, sA1, sVar4, bind_ok, sA1, sCall, sA1, sVar5, bind_ok, sA0, bind_ok, bind_ok, tup_loc (l := as2.map tD) (by rw [← p4.len]; exact get0), bind_ok, sA0, bind_ok, bind_ok, bind_ok, if_pos (l2le _ _), rthen_ok]
  dsimp only
  rw [← tD_mk]
  refine ⟨.mk g as2, Z', gc_dropW p4.len (p4.wf hS) (tD_bdd _ _), ⟨Tm.All.mk hg fun u hu => (g4 u hu).1, ?_, fun h1 => ?_, fun h1 => ?_⟩, ?_⟩
  · rw [Tm.high]
    have : Tm.highL as2 ≤ N := by
      clear lp p4 s4 n4
      induction as2 with
      | nil => rw [Tm.highL]; exact Nat.zero_le _
      | cons u us ih =>
        rw [Tm.highL]
        have := (g4 u (List.mem_cons_self ..)).2
        have := ih fun v hv => g4 v (List.mem_cons_of_mem _ hv)
        omega
    omega
  · have := s4 (by omega)
    rw [Tm.size]
    omega
  · rw [n4 (by omega), Tm.size, Tm.sizeL]
  · rw [Tm.size, show d - ((Tm.sizeL as2 + 1 : Nat) : Int) = d - 1 - (Tm.sizeL as2 : Int) by omega]
    exact p4
theorem any_eq (k : Nat) (ns : List Int) : ∀ (N dep : Nat), dep + N = 90 → AnyOk (M_h_any (k + N + 4)) ns st pl pool (N + 1) (dep : Int) := by
  intro N
  induction N with
  | zero =>
    intro dep hd
    exact any_step k ns 0 dep (fun h => by omega)
  | succ N ih =>
    intro dep hd
    have := ih (dep + 1) (by omega)
    exact any_step (k + N + 1) ns (N + 1) dep (fun h => by
      rw [show ((dep : Int) + 1) = ((dep + 1 : Nat) : Int) by omega]
      exact this)
theorem term_hq (k : Nat) (ns : List Int) (hS : Wf S) (h : PkAt S st d) (hp : PoolAt S st pl pool) {most : Nat} (b0 : 3 ≤ most) (b1 : most ≤ 60) : ∃ t S' d', M_h_term (k + 95) [.loc st, .scr ns, .loc pl, .int (most : Int)] S = .ok (tD t) S' ∧ TmR most 91 t ∧ PkR S st d' S' := by
  have ls := h.lt
  rw [M_h_term, mFn_eq, show startE 4 [.loc st, .scr ns, .loc pl, .int (most : Int)] = [some (.loc st), some (.scr ns), some (.loc pl), some (.int (most : Int))] from rfl]
  have p1 := h.self
  obtain ⟨r2, S2, pk2, b2, p2⟩ := pkc (k + 93) ns (p1.at ls) (α := [some (.loc st), some (.scr ns), some (.loc pl), some (.int (most : Int))]) (m := mC (.int 6)) (many := 6) (fun _ => rfl) (fun _ => rfl) rfl (by decide)
  have p12 := p1.trans p2
  rw [sSq, sIfS, sT, sOp, pk2, bind_ok, sC, bind_ok, eq_ii, bind_ok, sasB, rthen_ok]
  by_cases c2 : r2 = 0
  · rw [decide_eq_true c2, if_pos rfl]
    have m5 : mOp dAdd (mOp dDiv (mCall dInt (mA1 (mVar 3) mA0)) (mC (.int 3))) (mC (.int 1)) [some (.loc st), some (.scr ns), some (.loc pl), some (.int (most : Int))] S2 = .ok (.int ((most : Int) / 3 + 1)) S2 := by
      rw [sOp, sOp, sCall, sA1, sVar3, bind_ok, sA0, bind_ok, bind_ok, show dInt [.int (most : Int)] S2 = .ok (.int (most : Int)) S2 from rfl, bind_ok, sC, bind_ok, show dDiv (.int (most : Int)) (.int 3) S2 = .ok (.int ((most : Int) / 3)) S2 by
        unfold dDiv
        dsimp only
        rw [if_pos (by decide)], bind_ok, sC, bind_ok, add_ii]
    obtain ⟨r3, S3, pk3, b3, p3⟩ := pkc (k + 93) ns (p12.at ls) (α := [some (.loc st), some (.scr ns), some (.loc pl), some (.int (most : Int))]) (m := mOp dAdd (mOp dDiv (mCall dInt (mA1 (mVar 3) mA0)) (mC (.int 3))) (mC (.int 1))) (many := (most : Int) / 3 + 1) (fun _ => rfl) (fun _ => rfl) m5 (by omega) (by omega)
    have p13 := p12.trans p3
    obtain ⟨t, S4, e4, ht, p4⟩ := deep_eq (k + 90) ns (p13.wf hS) (p13.at ls) (hp.pk p13) (many := r3) b3.1 (by omega)
    rw [sRt, sCall, sA1, sVar0, bind_ok, sA1, sVar1, bind_ok, sA1, sVar2, bind_ok, sA1, pk3, bind_ok, sA0, bind_ok, bind_ok, bind_ok, bind_ok, bind_ok, own4, e4, rthen_ok, fthen_rt]
    exact ⟨t, S4, d, gc_len (p13.trans p4).len, ⟨ht.al, by have := ht.sz; omega, ht.hi⟩, p13.trans p4⟩
  rw [decide_eq_false c2, if_neg Bool.false_ne_true, sNx, fthen_nx]
  obtain ⟨r3, S3, pk3, b3, p3⟩ := pkc (k + 93) ns (p12.at ls) (α := [some (.loc st), some (.scr ns), some (.loc pl), some (.int (most : Int))]) (m := mVar 3) (many := (most : Int)) (fun _ => rfl) (fun _ => rfl) rfl (by omega) (by omega)
  have p13 := p12.trans p3
  obtain ⟨a, b, c, q0, pk4, p4⟩ := PkR.fuel (p13.at ls) r3
  have s1 : mSub (mVar 0) (mC (.int 3)) (mCall (mOwn 3 (M_h_pick (k + 94))) (mA1 (mVar 0) (mA1 (mVar 1) (mA1 (mVar 3) mA0)))) [some (.loc st), some (.scr ns), some (.loc pl), some (.int (most : Int))] S2 = .nx [some (.loc st), some (.scr ns), some (.loc pl), some (.int (most : Int))] (S3.set st (stc a b c r3)) := by
    unfold mSub
    rw [pk3, rthen_ok, sVar0, rthen_ok, sC, rthen_ok]
    unfold dSetI
    dsimp only
    rw [q0]
    rfl
  have p14 := p13.trans p4
  rw [sSq, s1, fthen_nx]
  generalize S3.set st (stc a b c r3) = S4 at p4 p14
  obtain ⟨t, S5, e5, an, p5⟩ := any_eq (pl := pl) (pool := pool) k ns 90 0 rfl S4 r3 (p14.at ls) (p14.wf hS) (hp.pk p14)
  rw [sRt, sCall, sA1, sVar0, bind_ok, sA1, sVar1, bind_ok, sA1, sVar2, bind_ok, sA1, sC, bind_ok, sA0, bind_ok, bind_ok, bind_ok, bind_ok, bind_ok, own4]
  rw [show M_h_any (k + 94) [.loc st, .scr ns, .loc pl, .int 0] S4 = .ok (tD t) S5 from e5, rthen_ok]
  refine ⟨t, S5, _, gc_len (p14.trans p5).len, ⟨an.al, ?_, Nat.le_trans an.hi (by decide)⟩, p14.trans p5⟩
  by_cases h1 : 1 ≤ r3
  · have := an.p h1; omega
  · rw [an.z (by omega)]; omega
end
end DM

namespace DM
open PySem L2 MD
open DF (Tm)
open DF (KOk)
/-! ### read_term of a text that write_term gives -/
def wordD (w : List Nat) : Dt := .str ⟨w.toArray⟩
section
variable {Z : Sto}
structure RdI (Z : Sto) (A I W : Nat) (ar : List Dt) (as : List Tm) (ws : List Dt) : Prop where
  wf : Wf Z
  gA : Z[A]? = some (Cell.lst ar)
  gI : Z[I]? = some (Cell.lst (as.map tD))
  gW : Z[W]? = some (Cell.lst ws)
  AI : A ≠ I
  AW : A ≠ W
  IW : I ≠ W
noncomputable def rdB (k : Nat) : MS := mIfS (mT (mOp dEq (mVar 3) (mC (.str "(")))) (mSq (mEx (mGc (mMt dAppend (mVar 1) (mA1 (mVar 2) mA0))))
      (mSet 2 (mGc (mLst mA0)))) (mIfS (mT (mOp dEq (mVar 3) (mC (.str ")")))) (mSq (mIfS (mtNot (mTru (mVar 1))) (mRaise0 "BadTerm" (mC (.str "a parenthesis is closed that was not begun"))) mNx)
      (mSq (mSet 4 (mGc (mCall (mOwn 1 (M_joined k)) (mA1 (mVar 2) mA0))))
      (mSq (mSet 2 (mGc (mMt0 dPop (mVar 1))))
      (mEx (mGc (mMt dAppend (mVar 2) (mA1 (mVar 4) mA0))))))) (mEx (mGc (mMt dAppend (mVar 2) (mA1 (mTup (mA1 (mCall (mOwn 1 (M_read_head k)) (mA1 (mVar 3) mA0)) (mA1 (mTup mA0) mA0))) mA0)))))
abbrev rdE (x : Dt) (A I : Nat) (z3 z4 z5 : Option Dt) : MD.Env := [some x, some (.loc A), some (.loc I), z3, z4, z5]
variable {A I W : Nat} {ar : List Dt} {as : List Tm} {ws : List Dt}
theorem not_par {g : Key} (h : RK g) {p : Str} {c : Nat} (hp : p.cps.toList = [c]) (hc : ¬ Plain c) : ¬ (⟨(hcs g).toArray⟩ : Str) = p := fun e => by
  have ok := rk_hok g h
  have : hcs g = [c] := by rw [← hp, ← e, List.toList_toArray]
  exact hc (ok.pl c (by rw [this]; exact List.mem_singleton.mpr rfl))
theorem p40 : (Str.ofString "(").cps.toList = [40] := by decide +kernel
theorem p41 : (Str.ofString ")").cps.toList = [41] := by decide +kernel
theorem s40 : (⟨[40].toArray⟩ : Str) = Str.ofString "(" := PySem.Str.ext' (Array.toList_inj.mp (by rw [p40]))
theorem s41 : (⟨[41].toArray⟩ : Str) = Str.ofString ")" := PySem.Str.ext' (Array.toList_inj.mp (by rw [p41]))
theorem s4140 : ¬ (Str.ofString ")") = (Str.ofString "(") := by decide +kernel
theorem cmp3 (x : Dt) (w : List Nat) (p : Str) (z4 z5 : Option Dt) (Z : Sto) : mT (mOp dEq (mVar 3) (mC (.str p))) (rdE x A I (some (wordD w)) z4 z5) Z = .ok (decide ((⟨w.toArray⟩ : Str) = p)) Z := by
  rw [sT, sOp, sVar3, bind_ok, sC, bind_ok]
  show (dEq (.str ⟨w.toArray⟩) (.str p) Z).bind asB = _
  rw [eq_ss, bind_ok]
  rfl
theorem hd_step (k : Nat) (h : RdI Z A I W ar as ws) {g : Key} (hg : RK g) (hl : as.length ≤ 100000) (x : Dt) (z3 z4 z5 : Option Dt) (rest : List Dt) :
    forGo (some (W, ws)) (gN 3) (rdB (k + 3)) (wordD (hcs g) :: rest) (rdE x A I z3 z4 z5) Z = forGo (some (W, ws)) (gN 3) (rdB (k + 3)) rest (rdE x A I (some (wordD (hcs g))) z4 z5) (Z.set I (Cell.lst ((as ++ [Tm.mk g []]).map tD))) ∧ RdI (Z.set I (Cell.lst ((as ++ [Tm.mk g []]).map tD))) A I W ar (as ++ [Tm.mk g []]) ws := by
  have lI := (List.getElem?_eq_some_iff.mp h.gI).1
  have h2 : RdI (Z.set I (Cell.lst ((as ++ [Tm.mk g []]).map tD))) A I W ar (as ++ [Tm.mk g []]) ws := ⟨wf_set h.wf (tmsB _ _), by rw [List.getElem?_set_ne (Ne.symm h.AI)]; exact h.gA, by rw [List.getElem?_set_self lI], by rw [List.getElem?_set_ne h.IW]; exact h.gW, h.AI, h.AW, h.IW⟩
  refine ⟨?_, h2⟩
  rw [forGo, sgN]
  rw [show (rdE x A I z3 z4 z5).set 3 (some (wordD (hcs g))) = rdE x A I (some (wordD (hcs g))) z4 z5 from rfl]
  dsimp only
  have rh := read_head_eq k h.wf hg (x := ⟨(hcs g).toArray⟩) (List.toList_toArray ..)
  have e1 : mTup (mA1 (mCall (mOwn 1 (M_read_head (k + 3))) (mA1 (mVar 3) mA0)) (mA1 (mTup mA0) mA0)) (rdE x A I (some (wordD (hcs g))) z4 z5) Z = .ok (tD (.mk g [])) Z := by
    rw [sTup, sA1, sCall, sA1, sVar3, bind_ok, sA0, bind_ok, bind_ok, own1, show wordD (hcs g) = .str ⟨(hcs g).toArray⟩ from rfl, rh, bind_ok, sA1, tup0, bind_ok, sA0, bind_ok, bind_ok, bind_ok, if_pos (by show 2 ≤ 1000000; decide), tD_mk]
    rfl
  have st : rdB (k + 3) (rdE x A I (some (wordD (hcs g))) z4 z5) Z = .nx (rdE x A I (some (wordD (hcs g))) z4 z5) (Z.set I (Cell.lst ((as ++ [Tm.mk g []]).map tD))) := by
    unfold rdB
    rw [sIfS, cmp3, decide_eq_false (not_par hg p40 fun q => q.2.1 rfl), rthen_ok, if_neg Bool.false_ne_true, sIfS, cmp3, decide_eq_false (not_par hg p41 fun q => q.2.2 rfl), rthen_ok, if_neg Bool.false_ne_true]
    rw [append_eq (A := I) (o := mVar 2) rfl e1 h.gI (by rw [List.length_map]; omega), List.map_append]
    rfl
  rw [st]
  dsimp only
  rw [if_pos (show chk (some (W, ws)) _ from h2.gW)]
theorem rd_n (k : Nat) (x : Dt) : ∀ n : Nat, ∀ ts : List Tm, Tm.sizeL ts ≤ n → (∀ t ∈ ts, t.All RK) → ∀ (Z : Sto) (A I W : Nat) (ar : List Dt) (as : List Tm) (ws : List Dt) (z3 z4 z5 : Option Dt) (rest : List Dt), RdI Z A I W ar as ws → as.length + n ≤ 50000 → ar.length + n ≤ 50000 →
    ∃ (G : Sto) (y3 y4 : Option Dt), forGo (some (W, ws)) (gN 3) (rdB (k + 3)) ((tokL ts).map wordD ++ rest) (rdE x A I z3 z4 z5) Z = forGo (some (W, ws)) (gN 3) (rdB (k + 3)) rest (rdE x A I y3 y4 z5) (Z.set I (Cell.lst ((as ++ ts).map tD)) ++ G) ∧ RdI (Z.set I (Cell.lst ((as ++ ts).map tD)) ++ G) A I W ar (as ++ ts) ws := by
  intro n
  induction n with
  | zero =>
    intro ts hs ha Z A I W ar as ws z3 z4 z5 rest h _ _
    cases ts with
    | cons t ts => rw [Tm.sizeL] at hs; exact absurd t.size_pos (by omega)
    | nil =>
      refine ⟨[], z3, z4, ?_⟩
      rw [List.append_nil, List.append_nil, set_self Z I _ h.gI, tokL]
      exact ⟨rfl, h⟩
  | succ n ih =>
    intro ts
    induction ts with
    | nil =>
      intro hs ha Z A I W ar as ws z3 z4 z5 rest h _ _
      refine ⟨[], z3, z4, ?_⟩
      rw [List.append_nil, List.append_nil, set_self Z I _ h.gI, tokL]
      exact ⟨rfl, h⟩
    | cons t ts ihl =>
      intro hs ha Z A I W ar as ws z3 z4 z5 rest h la lr
      rw [Tm.sizeL] at hs
      have hat := ha t (List.mem_cons_self ..)
      have hts : ∀ u ∈ ts, u.All RK := fun u hu => ha u (List.mem_cons_of_mem _ hu)
      have lI := (List.getElem?_eq_some_iff.mp h.gI).1
      have lA := (List.getElem?_eq_some_iff.mp h.gA).1
      have lW := (List.getElem?_eq_some_iff.mp h.gW).1
      have tp := t.size_pos
      -- what is left, once t stands behind as
      have fin : ∀ (Z1 : Sto) (y3 y4 : Option Dt), (∃ G, Z1 = Z.set I (Cell.lst ((as ++ [t]).map tD)) ++ G) → RdI Z1 A I W ar (as ++ [t]) ws → ∃ (G : Sto) (y3' y4' : Option Dt), forGo (some (W, ws)) (gN 3) (rdB (k + 3)) ((tokL ts).map wordD ++ rest) (rdE x A I y3 y4 z5) Z1 = forGo (some (W, ws)) (gN 3) (rdB (k + 3)) rest (rdE x A I y3' y4' z5) (Z.set I (Cell.lst ((as ++ t :: ts).map tD)) ++ G) ∧ RdI (Z.set I (Cell.lst ((as ++ t :: ts).map tD)) ++ G) A I W ar (as ++ t :: ts) ws := fun Z1 y3 y4 ⟨G1, e1⟩ h1 => by
        obtain ⟨G2, y3', y4', e2, h2⟩ := ih ts (by omega) hts Z1 A I W ar (as ++ [t]) ws y3 y4 z5 rest h1 (by rw [List.length_append, List.length_singleton]; omega) (by omega)
        have lz : (Z.set I (Cell.lst ((as ++ [t]).map tD))).length = Z.length := List.length_set ..
        rw [e1, List.set_append_left _ _ (by rw [lz]; exact lI), List.set_set, List.append_assoc, List.append_assoc] at e2 h2
        rw [← e1] at e2
        exact ⟨G1 ++ G2, y3', y4', e2, h2⟩
      obtain ⟨g, bs⟩ := t
      have hg := all_hd hat
      rw [Tm.size] at hs
      rw [tokL]
      cases bs with
      | nil =>
        rw [show (Tm.mk g []).args = [] from rfl, if_pos rfl, tok, tokL, List.singleton_append, List.map_cons, List.cons_append]
        obtain ⟨e1, h1⟩ := hd_step k h hg (by omega) x z3 z4 z5 ((tokL ts).map wordD ++ rest)
        rw [e1]
        exact fin _ _ _ ⟨[], (List.append_nil _).symm⟩ h1
      | cons b bs =>
        rw [show (Tm.mk g (b :: bs)).args = b :: bs from rfl, if_neg (List.cons_ne_nil _ _), tok]
        -- (
        have hbs : ∀ u ∈ b :: bs, u.All RK := fun u hu => all_sub' hat hu
        have lset : (Z.set A (Cell.lst (ar ++ [.loc I]))).length = Z.length := List.length_set ..
        have bar : Dt.bddL Z.length ar = true := bddS_at h.wf h.gA
        have wA : Wf (Z.set A (Cell.lst (ar ++ [.loc I]))) := wf_set h.wf (by
          show Dt.bddL _ _ = true
          rw [bddApp, bar, bddCons, bddNil, show (Dt.loc I).bdd Z.length = true by rw [Dt.bdd]; exact decide_eq_true lI]
          rfl)
        have w1 : Wf (Z.set A (Cell.lst (ar ++ [.loc I])) ++ [Cell.lst []]) := wf_app wA rfl
        have h1 : RdI (Z.set A (Cell.lst (ar ++ [.loc I])) ++ [Cell.lst []]) A Z.length W (ar ++ [.loc I]) [] ws := ⟨w1, by rw [List.getElem?_append_left (by rw [lset]; exact lA), List.getElem?_set_self lA], by rw [← lset]; exact get0, by rw [List.getElem?_append_left (by rw [lset]; exact lW), List.getElem?_set_ne h.AW]; exact h.gW, by omega, h.AW, by omega⟩
        have op : ∀ (more : List Dt), forGo (some (W, ws)) (gN 3) (rdB (k + 3)) (wordD [40] :: more) (rdE x A I z3 z4 z5) Z = forGo (some (W, ws)) (gN 3) (rdB (k + 3)) more (rdE x A Z.length (some (wordD [40])) z4 z5) (Z.set A (Cell.lst (ar ++ [.loc I])) ++ [Cell.lst []]) := fun more => by
          rw [forGo, sgN, show (rdE x A I z3 z4 z5).set 3 (some (wordD [40])) = rdE x A I (some (wordD [40])) z4 z5 from rfl]
          dsimp only
          have st : rdB (k + 3) (rdE x A I (some (wordD [40])) z4 z5) Z = .nx (rdE x A Z.length (some (wordD [40])) z4 z5) (Z.set A (Cell.lst (ar ++ [.loc I])) ++ [Cell.lst []]) := by
            unfold rdB
            rw [sIfS, cmp3, decide_eq_true s40, rthen_ok, if_pos rfl, sSq, append_eq (A := A) (o := mVar 1) (m := mVar 2) (d := .loc I) rfl rfl h.gA (by omega), fthen_nx]
            rw [sSet, sGc (d := .loc (Z.set A (Cell.lst (ar ++ [.loc I]))).length) (S' := Z.set A (Cell.lst (ar ++ [.loc I])) ++ [Cell.lst []]) rfl, gc_one, rthen_ok, lset]
            rfl
          rw [st]
          dsimp only
          rw [if_pos (show chk (some (W, ws)) _ from h1.gW)]
        obtain ⟨e2, h2⟩ := hd_step k h1 hg (by show 0 ≤ 100000; decide) x (some (wordD [40])) z4 z5 ((tokL (b :: bs)).map wordD ++ (wordD [41] :: ((tokL ts).map wordD ++ rest)))
        rw [List.nil_append] at e2 h2
        obtain ⟨G3, y3, y4, e3, h3⟩ := ih (b :: bs) (by omega) hbs _ A Z.length W (ar ++ [.loc I]) [Tm.mk g []] ws (some (wordD (hcs g))) z4 z5 (wordD [41] :: ((tokL ts).map wordD ++ rest)) h2 (by show 1 + n ≤ 50000; omega) (by rw [List.length_append, List.length_singleton]; omega)
        rw [List.set_set] at e3 h3
        rw [show (Z.set A (Cell.lst (ar ++ [.loc I])) ++ [Cell.lst []]).set Z.length (Cell.lst (([Tm.mk g []] ++ b :: bs).map tD)) = Z.set A (Cell.lst (ar ++ [.loc I])) ++ [Cell.lst (([Tm.mk g []] ++ b :: bs).map tD)] by rw [← lset]; exact set0, List.append_assoc] at e3 h3
        generalize hG : ([Cell.lst (([Tm.mk g []] ++ b :: bs).map tD)] ++ G3 : Sto) = G at e3 h3
        -- )
        have jn := joined_eq (k + 1) h3.wf (I := Z.length) (t := .mk g []) (as := b :: bs) h3.gI (by
          show (b :: bs).length + 0 ≤ 100000
          have := Tm.len_sizeL (b :: bs)
          omega)
        rw [show (Tm.mk g []).appl (b :: bs) = .mk g (b :: bs) from rfl] at jn
        have zA : (Z.set A (Cell.lst (ar ++ [.loc I])) ++ G).set A (Cell.lst ar) = Z ++ G := by
          rw [List.set_append_left _ _ (by rw [lset]; exact lA), List.set_set, set_self Z A _ h.gA]
        have pp : dPop (.loc A) [] (Z.set A (Cell.lst (ar ++ [.loc I])) ++ G) = .ok (.loc I) (Z ++ G) := by
          rw [pop_loc h3.gA, zA]
        have gI' : (Z ++ G)[I]? = some (Cell.lst (as.map tD)) := by rw [List.getElem?_append_left lI]; exact h.gI
        have w5 : Wf (Z ++ G) := by
          have : Wf ((Z.set A (Cell.lst (ar ++ [.loc I])) ++ G).set A (Cell.lst ar)) := wf_set h3.wf (by
            show Dt.bddL _ _ = true
            exact bddL_up (by rw [List.length_append, lset]; omega) bar)
          rw [zA] at this
          exact this
        have h5 : RdI (Z.set I (Cell.lst ((as ++ [Tm.mk g (b :: bs)]).map tD)) ++ G) A I W ar (as ++ [Tm.mk g (b :: bs)]) ws := by
          have w6 : Wf ((Z ++ G).set I (Cell.lst ((as ++ [Tm.mk g (b :: bs)]).map tD))) := wf_set w5 (tmsB _ _)
          rw [List.set_append_left _ _ lI] at w6
          have lz : (Z.set I (Cell.lst ((as ++ [Tm.mk g (b :: bs)]).map tD))).length = Z.length := List.length_set ..
          exact ⟨w6, by rw [List.getElem?_append_left (by omega), List.getElem?_set_ne (Ne.symm h.AI)]; exact h.gA, by rw [List.getElem?_append_left (by omega), List.getElem?_set_self lI], by rw [List.getElem?_append_left (by omega), List.getElem?_set_ne h.IW]; exact h.gW, h.AI, h.AW, h.IW⟩
        have cl : forGo (some (W, ws)) (gN 3) (rdB (k + 3)) (wordD [41] :: ((tokL ts).map wordD ++ rest)) (rdE x A Z.length y3 y4 z5) (Z.set A (Cell.lst (ar ++ [.loc I])) ++ G) = forGo (some (W, ws)) (gN 3) (rdB (k + 3)) ((tokL ts).map wordD ++ rest) (rdE x A I (some (wordD [41])) (some (tD (.mk g (b :: bs)))) z5) (Z.set I (Cell.lst ((as ++ [Tm.mk g (b :: bs)]).map tD)) ++ G) := by
          rw [forGo, sgN, show (rdE x A Z.length y3 y4 z5).set 3 (some (wordD [41])) = rdE x A Z.length (some (wordD [41])) y4 z5 from rfl]
          dsimp only
          have st : rdB (k + 3) (rdE x A Z.length (some (wordD [41])) y4 z5) (Z.set A (Cell.lst (ar ++ [.loc I])) ++ G) = .nx (rdE x A I (some (wordD [41])) (some (tD (.mk g (b :: bs)))) z5) (Z.set I (Cell.lst ((as ++ [Tm.mk g (b :: bs)]).map tD)) ++ G) := by
            unfold rdB
            rw [sIfS, cmp3, s41, decide_eq_false s4140, rthen_ok, if_neg Bool.false_ne_true, sIfS, cmp3, decide_eq_true s41, rthen_ok, if_pos rfl]
            have tr : mtNot (mTru (mVar 1)) (rdE x A Z.length (some (wordD [41])) y4 z5) (Z.set A (Cell.lst (ar ++ [.loc I])) ++ G) = .ok false (Z.set A (Cell.lst (ar ++ [.loc I])) ++ G) := by
              rw [stNot, sTru, sVar1, bind_ok]
              unfold dTru
              dsimp only
              rw [h3.gA]
              dsimp only
              rw [bind_ok]
              congr 1
              cases ar <;> rfl
            rw [sSq, sIfS, tr, rthen_ok, if_neg Bool.false_ne_true, sNx, fthen_nx]
            rw [sSq, sSet, sGc (by rw [sCall, sA1, sVar2, bind_ok, sA0, bind_ok, bind_ok, own1, jn]), gc_same, rthen_ok, fthen_nx]
            rw [show (rdE x A Z.length (some (wordD [41])) y4 z5).set 4 (some (tD (.mk g (b :: bs)))) = rdE x A Z.length (some (wordD [41])) (some (tD (.mk g (b :: bs)))) z5 from rfl]
            have isA : isL (.loc A) (Z.set A (Cell.lst (ar ++ [.loc I])) ++ G) = true := by
              unfold isL
              dsimp only
              rw [h3.gA]
            rw [sSq, sSet, sGc (by rw [sMt0, sVar1, bind_ok, if_pos isA, pp]), gc_len (by rw [List.length_append, List.length_append, lset]), rthen_ok, fthen_nx]
            rw [show (rdE x A Z.length (some (wordD [41])) (some (tD (.mk g (b :: bs)))) z5).set 2 (some (.loc I)) = rdE x A I (some (wordD [41])) (some (tD (.mk g (b :: bs)))) z5 from rfl]
            rw [append_eq (A := I) (o := mVar 2) (m := mVar 4) (d := tD (.mk g (b :: bs))) rfl rfl gI' (by rw [List.length_map]; omega), List.set_append_left _ _ lI, List.map_append]
            rfl
          rw [st]
          dsimp only
          rw [if_pos (show chk (some (W, ws)) _ from h5.gW)]
        obtain ⟨G', y3', y4', e7, h7⟩ := fin _ (some (wordD [41])) (some (tD (.mk g (b :: bs)))) ⟨G, rfl⟩ h5
        refine ⟨G', y3', y4', ?_, h7⟩
        rw [← e7, ← cl, ← e3, ← e2, ← op]
        congr 1
        simp only [List.map_append, List.map_cons, List.map_nil, List.cons_append, List.append_assoc, List.nil_append]
end
end DM

namespace DM
open PySem L2 MD
open DF (Tm)
open DF (KOk)
section
variable {S : Sto}
theorem read_term_eq (k : Nat) (hS : Wf S) (t : Tm) (ht : t.All RK) (zt : t.size ≤ 3000) (zl : (wtS t).length ≤ 3000) : M_read_term (k + 4) [.str (wtS t)] S = .ok (tD t) S := by
  have wt' := words_wt rk_hok ht
  have cps := wtS_cps t
  have hr := rd_n k (.str (wtS t)) t.size t.args (by
    obtain ⟨h, ts⟩ := t
    rw [Tm.size]
    show Tm.sizeL ts ≤ _
    omega) (fun u hu => args_all ht u hu)
  have hg : RK t.hd := hd_all ht
  have tm : t = (Tm.mk t.hd []).appl t.args := by obtain ⟨h, ts⟩ := t; rfl
  rw [M_read_term, mFn_eq, show startE 6 [.str (wtS t)] = [some (.str (wtS t)), none, none, none, none, none] from rfl]
  have c1 : ∀ α : MD.Env, mGc (mLst mA0) α S = .ok (.loc S.length) (S ++ [Cell.lst []]) := fun α => by
    rw [sGc (d := .loc S.length) (S' := S ++ [Cell.lst []]) rfl, gc_one]
  have c2 : ∀ α : MD.Env, mGc (mLst mA0) α (S ++ [Cell.lst []]) = .ok (.loc (S.length + 1)) (S ++ [Cell.lst [], Cell.lst []]) := fun α => by
    rw [sGc (d := .loc (S ++ [Cell.lst []]).length) (S' := (S ++ [Cell.lst []]) ++ [Cell.lst []]) rfl, gc_one, List.length_append, List.append_assoc]
    rfl
  rw [sSq, sSet, c1, rthen_ok, fthen_nx]
  simp only [xset_s, xset_0]
  rw [sSq, sSet, c2, rthen_ok, fthen_nx]
  simp only [xset_s, xset_0]
  have w2 : Wf (S ++ [Cell.lst [], Cell.lst []]) := wf_app hS rfl
  have we := words_eq (k + 2) w2 (wtS t) zl (ws := tok t) (by rw [cps]; exact wt')
  rw [List.length_append, List.append_assoc] at we
  have it : mIt (mCall (mOwn 1 (M_words (k + 3))) (mA1 (mVar 0) mA0)) [some (.str (wtS t)), some (.loc S.length), some (.loc (S.length + 1)), none, none, none] (S ++ [Cell.lst [], Cell.lst []]) = .ok ((tok t).map wordD, some (S.length + 2, (tok t).map wordD)) (S ++ ([Cell.lst [], Cell.lst []] ++ [Cell.lst ((tok t).map wordD)])) := by
    unfold mIt
    rw [sCall, sA1, sVar0, bind_ok, sA0, bind_ok, bind_ok, own1, we, bind_ok]
    exact it_loc getA
  have w3 : Wf (S ++ ([Cell.lst [], Cell.lst []] ++ [Cell.lst ((tok t).map wordD)])) := wf_app hS (by
    generalize (S.length + ([Cell.lst [], Cell.lst []] ++ [Cell.lst ((tok t).map wordD)]).length) = q
    show (Dt.bddL q [] && (Dt.bddL q [] && (Dt.bddL q ((tok t).map wordD) && true))) = true
    rw [bddNil]
    generalize tok t = l
    have : Dt.bddL q (l.map wordD) = true := by
      induction l with
      | nil => exact bddNil
      | cons w l ih => rw [List.map_cons, bddCons, ih, show (wordD w).bdd q = true from bddStr]; rfl
    rw [this]
    rfl)
  have r0 : RdI (S ++ ([Cell.lst [], Cell.lst []] ++ [Cell.lst ((tok t).map wordD)])) S.length (S.length + 1) (S.length + 2) [] [] ((tok t).map wordD) := ⟨w3, get0, get1, getA, by omega, by omega, by omega⟩
  obtain ⟨e1, h1⟩ := hd_step k r0 hg (by show 0 ≤ 100000; decide) (.str (wtS t)) none none none ((tokL t.args).map wordD ++ [])
  rw [List.nil_append] at e1 h1
  obtain ⟨G, y3, y4, e2, h2⟩ := hr _ _ _ _ _ _ _ (some (wordD (hcs t.hd))) none none [] h1 (by show 1 + _ ≤ 50000; omega) (by show 0 + _ ≤ 50000; omega)
  rw [List.set_set] at e2 h2
  have tk : (tok t).map wordD = wordD (hcs t.hd) :: ((tokL t.args).map wordD ++ []) := by
    obtain ⟨h, ts⟩ := t
    rw [tok, List.map_cons, List.append_nil]
    rfl
  have lp : forGo (some (S.length + 2, (tok t).map wordD)) (gN 3) (rdB (k + 3)) ((tok t).map wordD) (rdE (.str (wtS t)) S.length (S.length + 1) none none none) (S ++ ([Cell.lst [], Cell.lst []] ++ [Cell.lst ((tok t).map wordD)])) = .nx (rdE (.str (wtS t)) S.length (S.length + 1) y3 y4 none) (S ++ ([Cell.lst [], Cell.lst (([Tm.mk t.hd []] ++ t.args).map tD), Cell.lst ((tok t).map wordD)] ++ G)) := by
    have e3 := e1.trans e2
    rw [← tk] at e3
    rw [e3, show (S ++ ([Cell.lst [], Cell.lst []] ++ [Cell.lst ((tok t).map wordD)])).set (S.length + 1) (Cell.lst (([Tm.mk t.hd []] ++ t.args).map tD)) = S ++ [Cell.lst [], Cell.lst (([Tm.mk t.hd []] ++ t.args).map tD), Cell.lst ((tok t).map wordD)] from set1, List.append_assoc]
    rfl
  rw [show (S ++ ([Cell.lst [], Cell.lst []] ++ [Cell.lst ((tok t).map wordD)])).set (S.length + 1) (Cell.lst (([Tm.mk t.hd []] ++ t.args).map tD)) = S ++ [Cell.lst [], Cell.lst (([Tm.mk t.hd []] ++ t.args).map tD), Cell.lst ((tok t).map wordD)] from set1, List.append_assoc] at h2
  unfold rdB at lp
  rw [sSq, xFor, it, rthen_ok]
  dsimp only
  rw [lp, fthen_nx]
  clear lp e1 e2 it we
  generalize hZ : S ++ ([Cell.lst [], Cell.lst (([Tm.mk t.hd []] ++ t.args).map tD), Cell.lst ((tok t).map wordD)] ++ G) = Z at h2
  have tr : mTru (mVar 1) [some (.str (wtS t)), some (.loc S.length), some (.loc (S.length + 1)), y3, y4, none] Z = .ok false Z := by
    rw [sTru, sVar1, bind_ok]
    unfold dTru
    dsimp only
    rw [h2.gA]
    rfl
  rw [sSq, sIfS, tr, rthen_ok, if_neg Bool.false_ne_true, sNx, fthen_nx]
  have jn := joined_eq (k + 1) h2.wf (I := S.length + 1) (t := .mk t.hd []) (as := t.args) h2.gI (by
    show t.args.length + 0 ≤ 100000
    have := args_size t
    omega)
  rw [← tm] at jn
  rw [sSq, sSet, sGc (by rw [sCall, sA1, sVar2, bind_ok, sA0, bind_ok, bind_ok, own1, jn]), gc_same, rthen_ok, fthen_nx]
  simp only [xset_s, xset_0]
  have wr := write_term_eq (k + 1) Z h2.wf t (RK.hg ht) (by omega)
  rw [sSq, sIfS, show mT (mOp dNe (mCall (mOwn 1 (M_write_term (k + 3))) (mA1 (mVar 5) mA0)) (mVar 0)) [some (.str (wtS t)), some (.loc S.length), some (.loc (S.length + 1)), y3, y4, some (tD t)] Z = .ok false Z by
    rw [sT, sOp, sCall, sA1, sVar5, bind_ok, sA0, bind_ok, bind_ok, own1, wr, bind_ok, sVar0, bind_ok, show dNe (.str (wtS t)) (.str (wtS t)) Z = .ok (.bl (!decide (wtS t = wtS t))) Z from rfl, decide_eq_true rfl]
    rfl, rthen_ok, if_neg Bool.false_ne_true, sNx, fthen_nx, sRt, sVar5, rthen_ok]
  dsimp only
  rw [← hZ]
  exact gc_drop hS (tD_bdd _ _)
end
end DM

namespace DM
open PySem L2 MD
open DF (Tm)
open DF (KOk)
section
variable {S Z : Sto}
/-! ### h_written -/
theorem add_sS {a b : Str} (h : a.length + b.length ≤ 1000000) : dAdd (.str a) (.str b) S = .ok (.str (a ++ b)) S := if_pos h
theorem ix_tD0 (t : Tm) : dIx (tD t) (.int 0) S = .ok (kD t.hd) S := by rw [tD_eq]; exact ix_t0
theorem ix_tD1 (t : Tm) : dIx (tD t) (.int 1) S = .ok (.tup (t.args.map tD)) S := by rw [tD_eq]; exact ix_t1
theorem cpO : ("(" : Str).cps.toList = [40] := by decide +kernel
theorem cpC : (")" : Str).cps.toList = [41] := by decide +kernel
theorem cpB : (" " : Str).cps.toList = [32] := by decide +kernel
theorem cpQ : ("?" : Str).cps.toList = [63] := by decide +kernel
theorem lnO : ("(" : Str).length = 1 := by decide +kernel
theorem lnC : (")" : Str).length = 1 := by decide +kernel
theorem lnB : (" " : Str).length = 1 := by decide +kernel
theorem lnQ : ("?" : Str).length = 1 := by decide +kernel
theorem slenH (x : Str) : x.length = x.cps.toList.length := (Array.length_toList ..).symm
theorem len_app (a b : Str) : (a ++ b).length = a.length + b.length := by
  rw [slenH, cps_app, List.length_append, ← slenH, ← slenH]
theorem written_loop (F : List Dt → Sto → Rs Dt) (B : MS) (hB : B = mSq (mSet 3 (mGc (mCall (mOwn 1 F) (mA1 (mVar 2) mA0))))
      (mSq (mIfS (mT (mOp dGt (mCall dLen (mA1 (mOp dIx (mVar 2) (mC (.int 1))) mA0)) (mC (.int 0)))) (mSet 3 (mGc (mOp dAdd (mOp dAdd (mC (.str "(")) (mVar 3)) (mC (.str ")"))))) mNx)
      (mSet 1 (mGc (mOp dAdd (mOp dAdd (mVar 1) (mC (.str " "))) (mVar 3)))))) (x0 : Option Dt) : ∀ (ts : List Tm) (hts : ∀ u ∈ ts, F [tD u] S = .ok (.str (wtS u)) S) (x : Str) (z2 z3 : Option Dt), x.length + (wtL ts).length ≤ 900000 →
    ∃ x' y2 y3, forGo none (gN 2) B (ts.map tD) [x0, some (.str x), z2, z3] S = .nx [x0, some (.str x'), y2, y3] S ∧ x'.cps.toList = x.cps.toList ++ wtL ts
  | [], _, x, z2, z3, _ => ⟨x, z2, z3, rfl, by rw [wtL, List.append_nil]⟩
  | u :: ts, hts, x, z2, z3, hl => by
    have hu := hts u (List.mem_cons_self ..)
    have wl : (wtS u).length = (wt u).length := by rw [slenH, wtS_cps]
    have lp : (if u.args = [] then 32 :: wt u else 32 :: 40 :: (wt u ++ [41])).length + (wtL ts).length = (wtL (u :: ts)).length := by rw [wtL, List.length_append]
    -- the part
    have s2 : ∃ p : Str, mIfS (mT (mOp dGt (mCall dLen (mA1 (mOp dIx (mVar 2) (mC (.int 1))) mA0)) (mC (.int 0)))) (mSet 3 (mGc (mOp dAdd (mOp dAdd (mC (.str "(")) (mVar 3)) (mC (.str ")"))))) mNx [x0, some (.str x), some (tD u), some (.str (wtS u))] S = .nx [x0, some (.str x), some (tD u), some (.str p)] S ∧ 32 :: p.cps.toList = (if u.args = [] then 32 :: wt u else 32 :: 40 :: (wt u ++ [41])) := by
      rw [sIfS, sT, sOp, sCall, sA1, sOp, sVar2, bind_ok, sC, bind_ok, ix_tD1, bind_ok, sA0, bind_ok, bind_ok, len_t, bind_ok, sC, bind_ok, show ∀ i : Int, dGt (.int i) (.int 0) S = .ok (.bl (decide (0 < i))) S from fun _ => rfl, bind_ok, sasB, rthen_ok, List.length_map]
      by_cases h : u.args = []
      · rw [h, decide_eq_false (by decide), if_neg Bool.false_ne_true, sNx, if_pos rfl]
        exact ⟨wtS u, rfl, by rw [wtS_cps]⟩
      · rw [decide_eq_true (by have := List.length_pos_iff.mpr h; omega), if_pos rfl, if_neg h]
        rw [if_neg h, List.length_cons, List.length_cons, List.length_append] at lp
        refine ⟨"(" ++ wtS u ++ ")", ?_, ?_⟩
        · rw [sSet, sGc (d := .str ("(" ++ wtS u ++ ")")) (S' := S) (by
            rw [sOp, sOp, sC, bind_ok, sVar3, bind_ok, add_sS (by rw [lnO]; omega), bind_ok, sC, bind_ok, add_sS (by rw [len_app, lnO, lnC]; omega)]), gc_same, rthen_ok]
          rfl
        · rw [cps_app, cps_app, cpO, cpC, wtS_cps]
          rfl
    obtain ⟨p, e2, hp⟩ := s2
    have pl : p.length + 1 = (if u.args = [] then 32 :: wt u else 32 :: 40 :: (wt u ++ [41])).length := by rw [← hp, slenH]; rfl
    obtain ⟨x', y2, y3, e, hx⟩ := written_loop F B hB x0 ts (fun v hv => hts v (List.mem_cons_of_mem _ hv)) (x ++ " " ++ p) (some (tD u)) (some (.str p)) (by rw [len_app, len_app, lnB]; omega)
    refine ⟨x', y2, y3, ?_, ?_⟩
    · rw [List.map_cons, forGo, sgN]
      simp only [xset_s, xset_0]
      have sx : B [x0, some (.str x), some (tD u), z3] S = .nx [x0, some (.str (x ++ " " ++ p)), some (tD u), some (.str p)] S := by
        rw [hB, sSq, sSet, sGc (d := .str (wtS u)) (S' := S) (by rw [sCall, sA1, sVar2, bind_ok, sA0, bind_ok, bind_ok, own1, hu]), gc_same, rthen_ok, fthen_nx]
        simp only [xset_s, xset_0]
        rw [sSq, e2, fthen_nx, sSet, sGc (d := .str (x ++ " " ++ p)) (S' := S) (by
          rw [sOp, sOp, sVar1, bind_ok, sC, bind_ok, add_sS (by rw [lnB]; omega), bind_ok, sVar3, bind_ok, add_sS (by rw [len_app, lnB]; omega)]), gc_same, rthen_ok]
        rfl
      rw [sx]
      dsimp only
      rw [if_pos (show chk none _ from True.intro), e]
    · rw [hx, cps_app, cps_app, cpB, wtL, ← hp, List.append_assoc, List.append_assoc]
      rfl
theorem wt_sub : ∀ {ts : List Tm} {u : Tm}, u ∈ ts → (wt u).length ≤ (wtL ts).length
  | v :: ts, u, h => by
    rw [wtL, List.length_append]
    rcases List.mem_cons.mp h with rfl | h
    · split
      · rw [List.length_cons]; omega
      · rw [List.length_cons, List.length_cons, List.length_append]; omega
    · have := wt_sub h
      omega
theorem high_sub : ∀ {ts : List Tm} {u : Tm}, u ∈ ts → u.high ≤ Tm.highL ts
  | v :: ts, u, h => by
    rw [Tm.highL]
    rcases List.mem_cons.mp h with rfl | h
    · omega
    · have := high_sub h
      omega
theorem all_args {P : Key → Prop} {h : Key} {ts : List Tm} (a : (Tm.mk h ts).All P) {u : Tm} (hu : u ∈ ts) : u.All P := fun k hk => a k (by rw [Tm.heads]; exact List.mem_cons_of_mem _ (mem_headsL hu hk))
theorem written_eq (k : Nat) : ∀ (N : Nat) (t : Tm), t.high ≤ N → t.All RK → (wt t).length ≤ 900000 → ∀ S : Sto, M_h_written (k + N + 1) [tD t] S = .ok (.str (wtS t)) S
  | 0, .mk h ts, hn, _, _, S => by rw [Tm.high] at hn; omega
  | N + 1, .mk h ts, hn, ha, hl, S => by
    rw [Tm.high] at hn
    rw [wt, List.length_append] at hl
    have hd := all_hd ha
    rw [M_h_written, mFn_eq, show startE 4 [tD (.mk h ts)] = [some (tD (.mk h ts)), none, none, none] from rfl]
    have ih : ∀ u ∈ ts, M_h_written (k + (N + 1)) [tD u] S = .ok (.str (wtS u)) S := fun u hu => by
      have h1 := high_sub hu
      have h2 := wt_sub hu
      exact written_eq k N u (by omega) (all_args ha hu) (by omega) S
    -- its head
    have s1 : ∃ x : Str, x.cps.toList = hcs h ∧ ∀ (K : MD.Env → Sto → Fl), ((mSet 1 (mGc (mCall dStr (mA1 (mOp dIx (mVar 0) (mC (.int 0))) mA0))) [some (tD (.mk h ts)), none, none, none] S).then fun α S1 => (mIfS (mTru (mCall dIsi (mA1 (mOp dIx (mVar 0) (mC (.int 0))) (mA1 (mC (.ty "int")) mA0)))) (mSet 1 (mGc (mOp dAdd (mC (.str "?")) (mVar 1)))) mNx α S1).then K) = K [some (tD (.mk h ts)), some (.str x), none, none] S := by
      cases h with
      | inl i =>
        have hi : dStr [kD (.inl i)] S = .ok (.str (toString i)) S := if_pos (by have := hd.1; have := hd.2; omega)
        have e := hcs_inl (i := i) hd.1
        have h0 : hcs (.inl i) = 63 :: ((toString i : String) : Str).cps.toList := by
          show ((Str.empty ++ ("?" : Str)) ++ ((toString i : String) : Str)).cps.toList = _
          rw [cps_app, cps_app, cpQ]
          rfl
        have hl2 : ((toString i : String) : Str).length + 1 ≤ 900000 := by
          rw [h0, List.length_cons, ← slenH] at hl
          omega
        refine ⟨"?" ++ ((toString i : String) : Str), by rw [cps_app, cpQ, h0]; rfl, fun K => ?_⟩
        rw [sSet, sGc (d := .str (toString i)) (S' := S) (by rw [sCall, sA1, sOp, sVar0, bind_ok, sC, bind_ok, ix_tD0, bind_ok, sA0, bind_ok, bind_ok]; exact hi), gc_same, rthen_ok, fthen_nx]
        simp only [xset_s, xset_0]
        rw [sIfS, sTru, sCall, sA1, sOp, sVar0, bind_ok, sC, bind_ok, ix_tD0, bind_ok, sA1, sC, bind_ok, sA0, bind_ok, bind_ok, bind_ok, isi_kD, bind_ok, tru_bl, rthen_ok, show isUnkK (Tm.mk (.inl i) ts).hd = true from rfl, if_pos rfl]
        rw [sSet, sGc (d := .str ("?" ++ ((toString i : String) : Str))) (S' := S) (by rw [sOp, sC, bind_ok, sVar1, bind_ok, add_sS (by rw [lnQ]; omega)]), gc_same, rthen_ok, fthen_nx]
        rfl
      | inr x =>
        refine ⟨x, rfl, fun K => ?_⟩
        rw [sSet, sGc (d := .str x) (S' := S) (by rw [sCall, sA1, sOp, sVar0, bind_ok, sC, bind_ok, ix_tD0, bind_ok, sA0, bind_ok, bind_ok]; rfl), gc_same, rthen_ok, fthen_nx]
        simp only [xset_s, xset_0]
        rw [sIfS, sTru, sCall, sA1, sOp, sVar0, bind_ok, sC, bind_ok, ix_tD0, bind_ok, sA1, sC, bind_ok, sA0, bind_ok, bind_ok, bind_ok, isi_kD, bind_ok, tru_bl, rthen_ok, show isUnkK (Tm.mk (.inr x) ts).hd = false from rfl, if_neg Bool.false_ne_true, sNx, fthen_nx]
    obtain ⟨x, hx, s1⟩ := s1
    have xl : x.length = (hcs h).length := by rw [slenH, hx]
    obtain ⟨x', y2, y3, lp, hx'⟩ := written_loop (S := S) (M_h_written (k + (N + 1))) _ rfl (some (tD (.mk h ts))) ts ih x none none (by rw [xl]; omega)
    rw [sSq, show ∀ (a b c : MS) (α : MD.Env) (S : Sto), (a α S).then (mSq b c) = (a α S).then fun α S1 => (b α S1).then c from fun _ _ _ _ _ => rfl, s1]
    have it : mIt (mOp dIx (mVar 0) (mC (.int 1))) [some (tD (.mk h ts)), some (.str x), none, none] S = .ok (ts.map tD, none) S := by
      unfold mIt
      rw [sOp, sVar0, bind_ok, sC, bind_ok, ix_tD1, bind_ok]
      rfl
    rw [sSq, xFor, it, rthen_ok]
    dsimp only
    rw [lp, fthen_nx, sRt, sVar1, rthen_ok]
    dsimp only
    rw [gc_same, show x' = wtS (.mk h ts) from PySem.Str.ext' (Array.toList_inj.mp (by rw [hx', hx, wtS_cps, wt]))]
/-! ### h_same, of the same -/
theorem isi_s_t {x : Str} : dIsi [.str x, .ty "tuple"] S = .ok (.bl false) S := by
  have : kitB "str" "tuple" = some false := by decide +kernel
  unfold dIsi tyN
  dsimp only
  rw [this]
theorem same_str (k : Nat) (x : Str) : M_h_same (k + 1) [.str x, .str x] S = .ok (.bl true) S := by
  rw [M_h_same, mFn_eq, show startE 3 [.str x, .str x] = [some (.str x), some (.str x), none] from rfl]
  rw [sSq, sIfS, sT, sOp, sVar1, bind_ok, sC, bind_ok, show dIsN (.str x) .non S = .ok (.bl false) S from rfl, bind_ok, sasB, rthen_ok, if_neg Bool.false_ne_true, sNx, fthen_nx]
  rw [sSq, sIfS, sTru, sCall, sA1, sVar1, bind_ok, sA1, sC, bind_ok, sA0, bind_ok, bind_ok, bind_ok, isi_s_t, bind_ok, tru_bl, rthen_ok, if_neg Bool.false_ne_true, sNx, fthen_nx]
  rw [sSq, sIfS, sTru, sCall, sA1, sVar1, bind_ok, sA1, sC, bind_ok, sA0, bind_ok, bind_ok, bind_ok, isi_str_int, bind_ok, tru_bl, rthen_ok, if_neg Bool.false_ne_true, sNx, fthen_nx]
  rw [sRt, sAnd, sCall, sA1, sVar0, bind_ok, sA1, sC, bind_ok, sA0, bind_ok, bind_ok, bind_ok, isi_str_str, bind_ok]
  dsimp only
  rw [sOp, sVar0, bind_ok, sVar1, bind_ok, eq_ss, decide_eq_true rfl, rthen_ok]
  exact gc_same
theorem same_loop (F : List Dt → Sto → Rs Dt) (l : List Dt) (hF : ∀ x ∈ l, F [x, x] S = .ok (.bl true) S) (B : MS) (hB : B = mIfS (mtNot (mTru (mCall (mOwn 2 F) (mA1 (mOp dIx (mVar 0) (mVar 2)) (mA1 (mOp dIx (mVar 1) (mVar 2)) mA0))))) (mRt (mC (.bl false))) mNx) : ∀ (js : List Nat) (z : Option Dt), (∀ j ∈ js, j < l.length) →
    ∃ y, forGo none (gN 2) B (js.map fun (j : Nat) => .int (0 + (j : Int))) [some (.tup l), some (.tup l), z] S = .nx [some (.tup l), some (.tup l), y] S
  | [], z, _ => ⟨z, rfl⟩
  | j :: js, z, h => by
    obtain ⟨y, e⟩ := same_loop F l hF B hB js (some (.int (0 + (j : Int)))) fun i hi => h i (List.mem_cons_of_mem _ hi)
    have hj := h j (List.mem_cons_self ..)
    refine ⟨y, ?_⟩
    have ix : dIx (.tup l) (.int (0 + (j : Int))) S = .ok l[j] S := by rw [Int.zero_add]; exact ix_at (List.getElem?_eq_getElem hj)
    rw [List.map_cons, forGo, sgN]
    simp only [xset_s, xset_0]
    have sx : B [some (.tup l), some (.tup l), some (.int (0 + (j : Int)))] S = .nx [some (.tup l), some (.tup l), some (.int (0 + (j : Int)))] S := by
      rw [hB, sIfS, stNot, sTru, sCall, sA1, sOp, sVar0, bind_ok, sVar2, bind_ok, ix, bind_ok, sA1, sOp, sVar1, bind_ok, sVar2, bind_ok, ix, bind_ok, sA0, bind_ok, bind_ok, bind_ok, own2, hF _ (List.getElem_mem hj), bind_ok, tru_bl, bind_ok, Bool.not_true, rthen_ok, if_neg Bool.false_ne_true, sNx]
    rw [sx]
    dsimp only
    rw [if_pos (show chk none _ from True.intro), e]
theorem same_tup (k : Nat) (l : List Dt) (hl : l.length ≤ 1000000) (hF : ∀ x ∈ l, M_h_same k [x, x] S = .ok (.bl true) S) : M_h_same (k + 1) [.tup l, .tup l] S = .ok (.bl true) S := by
  rw [M_h_same, mFn_eq, show startE 3 [.tup l, .tup l] = [some (.tup l), some (.tup l), none] from rfl]
  rw [sSq, sIfS, sT, sOp, sVar1, bind_ok, sC, bind_ok, show dIsN (.tup l) .non S = .ok (.bl false) S from rfl, bind_ok, sasB, rthen_ok, if_neg Bool.false_ne_true, sNx, fthen_nx]
  obtain ⟨y, lp⟩ := same_loop (M_h_same k) l hF _ rfl (List.range l.length) none fun j hj => List.mem_range.mp hj
  have ir : mIr1 (mA1 (mCall dLen (mA1 (mVar 1) mA0)) mA0) [some (.tup l), some (.tup l), none] S = .ok ((List.range l.length).map fun (j : Nat) => .int (0 + (j : Int)), none) S := by
    unfold mIr1
    rw [sA1, sCall, sA1, sVar1, bind_ok, sA0, bind_ok, bind_ok, len_t, bind_ok, sA0, bind_ok, bind_ok]
    dsimp only
    rw [if_pos (by omega), Int.toNat_natCast]
    rfl
  rw [sSq, sIfS, sTru, sCall, sA1, sVar1, bind_ok, sA1, sC, bind_ok, sA0, bind_ok, bind_ok, bind_ok, isi_t, bind_ok, tru_bl, rthen_ok, if_pos rfl]
  rw [sSq, sIfS, stOr, stNot, sTru, sCall, sA1, sVar0, bind_ok, sA1, sC, bind_ok, sA0, bind_ok, bind_ok, bind_ok, isi_t, bind_ok, tru_bl, bind_ok, Bool.not_true, bind_ok, if_neg Bool.false_ne_true, sT, sOp, sCall, sA1, sVar0, bind_ok, sA0, bind_ok, bind_ok, len_t, bind_ok, sCall, sA1, sVar1, bind_ok, sA0, bind_ok, bind_ok, len_t, bind_ok, show ∀ i : Int, dNe (.int i) (.int i) S = .ok (.bl (!decide (i = i))) S from fun _ => rfl, decide_eq_true rfl, bind_ok, Bool.not_true, sasB, rthen_ok, if_neg Bool.false_ne_true, sNx, fthen_nx]
  rw [sSq, xFor, ir, rthen_ok]
  dsimp only
  rw [lp, fthen_nx, sRt, sC, rthen_ok]
  rw [fthen_rt]
  exact gc_same
end
end DM

namespace DM
open PySem L2 MD
open DF (Tm)
open DF (KOk)
section
theorem slenT (x : Str) : x.length = x.cps.toList.length := (Array.length_toList ..).symm
/-! ### cutting at a sign -/
def jnC (c : Nat) : List (List Nat) → List Nat
  | [] => []
  | [w] => w
  | w :: x :: r => w ++ c :: jnC c (x :: r)
variable {c : Nat}
/-! ### partition -/
/-! ### partition at a text of which a sign d does not stand before -/
/-! ### the signs of a term's text -/
def Chr (c : Nat) : Prop := c = 32 ∨ c = 40 ∨ c = 41 ∨ c = 63 ∨ isAln c
theorem dig_aln : ∀ c ∈ DIG.cps.toList, isAln c := by decide +kernel
theorem chr_hcs {k : Key} (h : RK k) : ∀ c ∈ hcs k, Chr c := fun c hc => by
  cases k with
  | inl i =>
    rw [hcs_inl (i := i) h.1] at hc
    rcases List.mem_cons.mp hc with rfl | hc
    · exact .inr (.inr (.inr (.inl rfl)))
    · have := dgs_dig hc
      exact .inr (.inr (.inr (.inr (dig_aln c (dig_mem c this.1 this.2)))))
  | inr x => exact .inr (.inr (.inr (.inr (h.2.2 c hc))))
theorem hcs_len {k : Key} (h : RK k) : (hcs k).length ≤ 12 := by
  cases k with
  | inl i =>
    rw [hcs_inl (i := i) h.1, List.length_cons]
    have := dgs_len (n := i.toNat) (by have := h.2; have := h.1; omega)
    omega
  | inr x =>
    have := h.1
    show x.cps.toList.length ≤ 12
    rw [Array.length_toList]
    exact this
theorem all_argT {P : Key → Prop} {h : Key} {ts : List Tm} (a : (Tm.mk h ts).All P) {u : Tm} (hu : u ∈ ts) : u.All P := all_sub' a hu
theorem wt_chr : ∀ n : Nat, (∀ t : Tm, t.size ≤ n → t.All RK → (∀ c ∈ wt t, Chr c) ∧ (wt t).length + 3 ≤ 15 * t.size) ∧ (∀ ts : List Tm, Tm.sizeL ts ≤ n → (∀ t ∈ ts, t.All RK) → (∀ c ∈ wtL ts, Chr c) ∧ (wtL ts).length ≤ 15 * Tm.sizeL ts) := by
  intro n
  induction n with
  | zero =>
    refine ⟨fun t h => absurd t.size_pos (by omega), fun ts h _ => ?_⟩
    cases ts with
    | nil => rw [wtL]; exact ⟨fun c hc => absurd hc List.not_mem_nil, Nat.zero_le _⟩
    | cons t ts => rw [Tm.sizeL] at h; exact absurd t.size_pos (by omega)
  | succ n ih =>
    have A : ∀ t : Tm, t.size ≤ n + 1 → t.All RK → (∀ c ∈ wt t, Chr c) ∧ (wt t).length + 3 ≤ 15 * t.size := by
      intro t hs ha
      cases t with
      | mk h ts =>
        rw [Tm.size] at hs
        obtain ⟨i1, i2⟩ := ih.2 ts (by omega) (fun t ht => all_argT ha ht)
        have hl := hcs_len (all_hd ha)
        rw [wt, Tm.size, List.length_append]
        refine ⟨fun c hc => ?_, by omega⟩
        rcases List.mem_append.mp hc with hc | hc
        · exact chr_hcs (all_hd ha) c hc
        · exact i1 c hc
    refine ⟨A, fun ts => ?_⟩
    induction ts with
    | nil => intro _ _; rw [wtL]; exact ⟨fun c hc => absurd hc List.not_mem_nil, Nat.zero_le _⟩
    | cons t ts ihl =>
      intro hs ha
      rw [Tm.sizeL] at hs
      obtain ⟨h1, h2⟩ := A t (by omega) (ha t (List.mem_cons_self ..))
      obtain ⟨h3, h4⟩ := ihl (by omega) (fun t ht => ha t (List.mem_cons_of_mem _ ht))
      rw [wtL, Tm.sizeL]
      by_cases q : t.args = []
      · rw [if_pos q]
        refine ⟨fun c hc => ?_, by rw [List.length_append, List.length_cons]; omega⟩
        rcases List.mem_append.mp hc with hc | hc
        · rcases List.mem_cons.mp hc with rfl | hc
          · exact .inl rfl
          · exact h1 c hc
        · exact h3 c hc
      · rw [if_neg q]
        refine ⟨fun c hc => ?_, by simp only [List.length_append, List.length_cons, List.length_nil]; omega⟩
        rcases List.mem_append.mp hc with hc | hc
        · rcases List.mem_cons.mp hc with rfl | hc
          · exact .inl rfl
          rcases List.mem_cons.mp hc with rfl | hc
          · exact .inr (.inl rfl)
          rcases List.mem_append.mp hc with hc | hc
          · exact h1 c hc
          · rw [List.mem_singleton.mp hc]; exact .inr (.inr (.inl rfl))
        · exact h3 c hc
theorem wtS_chr {t : Tm} (h : t.All RK) : ∀ c ∈ (wtS t).cps.toList, Chr c := fun c hc => by
  rw [wtS_cps] at hc
  exact ((wt_chr t.size).1 t (Nat.le_refl _) h).1 c hc
theorem wtS_lenR {t : Tm} (h : t.All RK) : (wtS t).length ≤ 15 * t.size := by
  have := ((wt_chr t.size).1 t (Nat.le_refl _) h).2
  rw [slenT, wtS_cps]
  omega
end
end DM

namespace DM
open PySem L2 MD
open DF (Tm)
open DF (KOk)
section
variable {S : Sto}
/-! ### one sign in a text, whatever it is -/
noncomputable def inS (A : Str) (c : Nat) : Bool := !(Builtin.Str.occurrences A ⟨#[c]⟩ 0 A.length 1).isEmpty
theorem inS_iff (A : Str) (c : Nat) : inS A c = true ↔ c ∈ A.cps.toList := by
  have l1 : (⟨#[c]⟩ : Str).length = 1 := rfl
  have cc : (⟨#[c]⟩ : Str).cps.toList = [c] := rfl
  unfold inS
  rcases PySem.StrLaws.occ_head A ⟨#[c]⟩ 1 (Nat.le_refl 1) with ⟨h0, hn⟩ | ⟨i, r, h0, hi, hn⟩
  · rw [h0]
    refine ⟨fun h => absurd h Bool.false_ne_true, fun h => ?_⟩
    exfalso
    obtain ⟨i, hi, e⟩ := List.getElem_of_mem h
    have hi2 : i < A.length := by rw [slenT]; exact hi
    refine hn i ⟨by rw [l1]; omega, ?_⟩
    rw [PySem.StrLaws.subAt_eq, l1, cc, List.drop_eq_getElem_cons hi, e]
    exact beq_iff_eq.mpr rfl
  · rw [h0]
    refine ⟨fun _ => ?_, fun _ => rfl⟩
    obtain ⟨h1, h2⟩ := hi
    rw [PySem.StrLaws.subAt_eq, l1, cc] at h2
    have h2 := eq_of_beq h2
    have : c ∈ (A.cps.toList.drop i).take 1 := by rw [h2]; exact List.mem_singleton.mpr rfl
    exact List.mem_of_mem_drop (List.mem_of_mem_take this)
theorem consists_all (k : Nat) (hS : Wf S) (x A : Str) (hx : x.length ≤ 100000) : M_consists_of (k + 1) [.str x, .str A] S = .ok (.bl (x.cps.toList.all fun c => inS A c)) S := by
  rw [M_consists_of, mFn_eq, show startE 3 [.str x, .str A] = [some (.str x), some (.str A), none] from rfl]
  have lc := lcGo_all (S := S) (c := none) (g := gN 2) (m := mOp dIn (mVar 2) (mVar 1)) (α := [some (.str x), some (.str A), none]) True.intro chrD (fun c => Dt.bl (inS A c)) x.cps.toList [] (fun c hc => ⟨[some (.str x), some (.str A), some (chrD c)], rfl, by
    rw [sOp, sVar2, bind_ok, sVar1, bind_ok]
    rfl⟩) (by
    rw [List.length_nil, Nat.zero_add, Array.length_toList]
    have : x.cps.size = x.length := rfl
    omega)
  have a1 : mCall dAll (mA1 (mLc [2] (mIts (mVar 0)) (gN 2) mYes (mOp dIn (mVar 2) (mVar 1))) mA0) [some (.str x), some (.str A), none] S = .ok (.bl (x.cps.toList.all fun c => inS A c)) (S ++ [Cell.lst ((x.cps.toList.map fun c => inS A c).map .bl)]) := by
    have a2 : mLc [2] (mIts (mVar 0)) (gN 2) mYes (mOp dIn (mVar 2) (mVar 1)) [some (.str x), some (.str A), none] S = .ok (.loc S.length) (S ++ [Cell.lst ((x.cps.toList.map fun c => inS A c).map .bl)]) := by
      unfold mLc mIts
      rw [sVar0, bind_ok, show itOfS (.str x) S = .ok (x.cps.toList.map chrD, none) S from rfl, bind_ok]
      show Rs.bind (lcGo none _ _ _ [some (.str x), some (.str A), none] _ _ _) _ = _
      rw [lc, bind_ok, List.nil_append, List.map_map]
      rfl
    rw [sCall, sA1, a2, bind_ok, sA0, bind_ok, bind_ok]
    unfold dAll
    dsimp only
    rw [get0]
    dsimp only
    rw [bls_all]
    dsimp only
    rw [List.all_map]
    rfl
  rw [sRt, a1, rthen_ok]
  exact gc_drop hS bddBl
/-- whether a word is a name -/
noncomputable def nameB (x : Str) : Bool := decide (1 ≤ x.length ∧ x.length ≤ 12) && (match x.cps.toList with
  | [] => false
  | c :: _ => inS LET c) && x.cps.toList.all fun c => inS (LET ++ DIG) c
theorem nameB_iff (x : Str) : nameB x = true ↔ RK (.inr x) := by
  unfold nameB
  rw [Bool.and_eq_true, Bool.and_eq_true, decide_eq_true_eq, List.all_eq_true]
  constructor
  · rintro ⟨⟨⟨h1, h2⟩, h3⟩, h4⟩
    refine ⟨h2, ?_, fun c hc => (inS_iff _ c).mp (h4 c hc)⟩
    cases e : x.cps.toList with
    | nil => rw [e] at h3; exact absurd h3 Bool.false_ne_true
    | cons c r => rw [e] at h3; exact ⟨c, r, rfl, (inS_iff _ c).mp h3⟩
  · rintro ⟨h1, ⟨c, r, e, h2⟩, h3⟩
    refine ⟨⟨⟨one_len e, h1⟩, ?_⟩, fun c hc => (inS_iff _ c).mpr (h3 c hc)⟩
    rw [e]
    exact (inS_iff _ c).mpr h2
theorem is_name_all (k : Nat) (hS : Wf S) (x : Str) (hx : x.length ≤ 100000) : M_is_name (k + 2) [.str x] S = .ok (.bl (nameB x)) S := by
  rw [M_is_name, mFn_eq, show startE 1 [.str x] = [some (.str x)] from rfl]
  rw [sRt, sAnd, chain_len (x := x) (by omega) (fun Z => rfl), bind_ok]
  unfold nameB
  by_cases h : 1 ≤ x.length ∧ x.length ≤ 12
  · rw [show decide ((1 : Int) ≤ (x.length : Int) ∧ (x.length : Int) ≤ 12) = true from decide_eq_true ⟨by omega, by omega⟩, decide_eq_true h]
    dsimp only
    obtain ⟨c, r, e⟩ : ∃ c r, x.cps.toList = c :: r := by
      cases q : x.cps.toList with
      | nil => have := slenT x; rw [q] at this; rw [this] at h; exact absurd h.1 (by decide)
      | cons c r => exact ⟨c, r, rfl⟩
    rw [sAnd, sOp, sOp, sVar0, bind_ok, sC, bind_ok, ix_s0 (by omega) e, bind_ok, sC, bind_ok, show dIn (.str ⟨#[c]⟩) (.str (Str.ofString "abcdefghijklmnopqrstuvwxyzABCDEFGHIJKLMNOPQRSTUVWXYZ")) S = .ok (.bl (inS LET c)) S from rfl, bind_ok]
    cases h2 : inS LET c with
    | false =>
      dsimp only
      rw [e]
      dsimp only
      rw [h2, Bool.and_false, Bool.false_and]
      exact gc_same
    | true =>
      dsimp only
      rw [sCall, sA1, sVar0, bind_ok, sA1, sOp, sC, bind_ok, sC, bind_ok, show dAdd (.str (Str.ofString "abcdefghijklmnopqrstuvwxyzABCDEFGHIJKLMNOPQRSTUVWXYZ")) (.str (Str.ofString "0123456789")) S = .ok (.str (LET ++ DIG)) S by
        unfold dAdd
        dsimp only
        rw [if_pos (by decide +kernel)]
        rfl, bind_ok, sA0, bind_ok, bind_ok, bind_ok, own2, consists_all k hS x (LET ++ DIG) hx, rthen_ok]
      rw [show (match x.cps.toList with
        | [] => false
        | c :: _ => inS LET c) = true by rw [e]; exact h2, Bool.and_true, Bool.true_and]
      exact gc_same
  · rw [show decide ((1 : Int) ≤ (x.length : Int) ∧ (x.length : Int) ≤ 12) = false from decide_eq_false (by omega), decide_eq_false h]
    dsimp only
    rw [Bool.false_and, Bool.false_and]
    exact gc_same
/-! numbers -/
noncomputable def numB (x : Str) : Bool := decide (1 ≤ x.length ∧ x.length ≤ 4) && x.cps.toList.all (fun c => inS DIG c) && (decide (x = Str.ofString "0") || (match x.cps.toList with
  | [] => false
  | c :: _ => !decide (c = 48)))
theorem dig_rng : ∀ c ∈ DIG.cps.toList, 48 ≤ c ∧ c ≤ 57 := by decide +kernel
theorem dgs_app {m d : Nat} (hm : 0 < m) (hd : d < 10) : dgs (10 * m + d) = dgs m ++ [48 + d] := by
  have e := Nat.toDigits_append_toDigits (b := 10) (n := m) (d := d) (by decide) (by omega) (by omega)
  unfold dgs
  rw [← e, List.map_append]
  congr 1
  have : d = 0 ∨ d = 1 ∨ d = 2 ∨ d = 3 ∨ d = 4 ∨ d = 5 ∨ d = 6 ∨ d = 7 ∨ d = 8 ∨ d = 9 := by omega
  rcases this with rfl | rfl | rfl | rfl | rfl | rfl | rfl | rfl | rfl | rfl <;> decide +kernel
theorem dgs_one {d : Nat} (hd : d < 10) : dgs d = [48 + d] := by
  have : d = 0 ∨ d = 1 ∨ d = 2 ∨ d = 3 ∨ d = 4 ∨ d = 5 ∨ d = 6 ∨ d = 7 ∨ d = 8 ∨ d = 9 := by omega
  rcases this with rfl | rfl | rfl | rfl | rfl | rfl | rfl | rfl | rfl | rfl <;> decide +kernel
/-- digits without a zero in front are those of a number -/
theorem dgs_of : ∀ (n : Nat) (l : List Nat), l.length = n + 1 → (∀ c ∈ l, 48 ≤ c ∧ c ≤ 57) → (∀ c r, l = c :: r → c ≠ 48) → ∃ m, 0 < m ∧ m < 10 ^ (n + 1) ∧ dgs m = l
  | 0, l, hl, hd, h0 => by
    obtain ⟨c, rfl⟩ := List.length_eq_one_iff.mp hl
    have h := hd c (List.mem_singleton.mpr rfl)
    have := h0 c [] rfl
    exact ⟨c - 48, by omega, by omega, by rw [dgs_one (by omega)]; congr 1; omega⟩
  | n + 1, l, hl, hd, h0 => by
    have hne : l ≠ [] := fun e => by rw [e] at hl; cases hl
    obtain ⟨l', d, rfl⟩ : ∃ l' d, l = l' ++ [d] := ⟨l.dropLast, l.getLast hne, (List.dropLast_concat_getLast hne).symm⟩
    have h := hd d (List.mem_append_right _ (List.mem_singleton.mpr rfl))
    rw [List.length_append, List.length_singleton] at hl
    obtain ⟨m, m0, m1, em⟩ := dgs_of n l' (by omega) (fun c hc => hd c (List.mem_append_left _ hc)) (fun c r q => h0 c (r ++ [d]) (by rw [q]; rfl))
    refine ⟨10 * m + (d - 48), by omega, ?_, ?_⟩
    · rw [Nat.pow_succ]
      omega
    · rw [dgs_app m0 (by omega), em]
      congr 2
      omega
theorem numB_iff (x : Str) : numB x = true ↔ ∃ n, n < 10000 ∧ x.cps.toList = dgs n := by
  unfold numB
  rw [Bool.and_eq_true, Bool.and_eq_true, decide_eq_true_eq, List.all_eq_true, Bool.or_eq_true, decide_eq_true_eq]
  constructor
  · rintro ⟨⟨⟨h1, h2⟩, h3⟩, h4⟩
    have h3 : ∀ c ∈ x.cps.toList, 48 ≤ c ∧ c ≤ 57 := fun c hc => dig_rng c ((inS_iff _ c).mp (h3 c hc))
    rcases h4 with rfl | h4
    · exact ⟨0, by decide, by decide +kernel⟩
    · have hl := slenT x
      obtain ⟨m, _, m1, em⟩ := dgs_of (x.length - 1) x.cps.toList (by omega) h3 (fun c r e => by
        rw [e] at h4
        dsimp only at h4
        intro q
        rw [decide_eq_true q] at h4
        exact absurd h4 Bool.false_ne_true)
      refine ⟨m, Nat.lt_of_lt_of_le m1 ?_, em.symm⟩
      exact Nat.pow_le_pow_right (by decide) (by omega : x.length - 1 + 1 ≤ 4)
  · rintro ⟨n, hn, e⟩
    have dl := dgs_len hn
    have dp : 0 < (dgs n).length := List.length_pos_iff.mpr (dgs_pos n)
    have xl := slenT x
    rw [e] at xl
    refine ⟨⟨⟨by omega, by omega⟩, fun c hc => ?_⟩, ?_⟩
    · rw [e] at hc
      have := dgs_dig hc
      exact (inS_iff _ c).mpr (dig_mem c this.1 this.2)
    · by_cases h0 : n = 0
      · left
        refine PySem.Str.ext' (Array.toList_inj.mp ?_)
        rw [e, h0]
        decide +kernel
      · right
        have := dgs_hd n n (Nat.le_refl _) (by omega)
        rw [e]
        cases q : dgs n with
        | nil => exact absurd q (dgs_pos n)
        | cons c r =>
          rw [q] at this
          dsimp only
          rw [decide_eq_false (fun z => this (by rw [z]; rfl))]
          rfl
theorem is_number_all (k : Nat) (hS : Wf S) (x : Str) (hx : x.length ≤ 100000) : M_is_number (k + 2) [.str x] S = .ok (.bl (numB x)) S := by
  rw [M_is_number, mFn_eq, show startE 1 [.str x] = [some (.str x)] from rfl]
  rw [sRt, sAnd, chain_len (x := x) (by omega) (fun Z => rfl), bind_ok]
  unfold numB
  by_cases h : 1 ≤ x.length ∧ x.length ≤ 4
  · rw [show decide ((1 : Int) ≤ (x.length : Int) ∧ (x.length : Int) ≤ 4) = true from decide_eq_true ⟨by omega, by omega⟩, decide_eq_true h]
    dsimp only
    obtain ⟨c, r, e⟩ : ∃ c r, x.cps.toList = c :: r := by
      cases q : x.cps.toList with
      | nil => have := slenT x; rw [q] at this; rw [this] at h; exact absurd h.1 (by decide)
      | cons c r => exact ⟨c, r, rfl⟩
    rw [sAnd, sCall, sA1, sVar0, bind_ok, sA1, sC, bind_ok, sA0, bind_ok, bind_ok, bind_ok, own2, show (Str.ofString "0123456789" : Str) = DIG from rfl, consists_all k hS x DIG hx, bind_ok]
    rw [Bool.true_and]
    cases h2 : x.cps.toList.all (fun c => inS DIG c) with
    | false =>
      dsimp only
      rw [Bool.false_and]
      exact gc_same
    | true =>
      dsimp only
      rw [Bool.true_and, sOr, sOp, sVar0, bind_ok, sC, bind_ok, eq_ss, bind_ok]
      by_cases h0 : x = Str.ofString "0"
      · rw [decide_eq_true h0]
        exact gc_same
      · rw [decide_eq_false h0]
        dsimp only
        rw [sOp, sOp, sVar0, bind_ok, sC, bind_ok, ix_s0 (by omega) e, bind_ok, sC, bind_ok, show dNe (.str ⟨#[c]⟩) (.str (Str.ofString "0")) S = .ok (.bl (!decide ((⟨#[c]⟩ : Str) = Str.ofString "0"))) S from rfl, rthen_ok, e]
        dsimp only
        rw [Bool.false_or, show decide ((⟨#[c]⟩ : Str) = Str.ofString "0") = decide (c = 48) from decide_eq_decide.mpr ⟨fun q => by
          have := congrArg (fun s : Str => s.cps.toList) q
          rw [show (Str.ofString "0").cps.toList = [48] by decide +kernel] at this
          injection this, fun q => by rw [q]; exact PySem.Str.ext' (Array.toList_inj.mp (by decide +kernel))⟩]
        exact gc_same
  · rw [show decide ((1 : Int) ≤ (x.length : Int) ∧ (x.length : Int) ≤ 4) = false from decide_eq_false (by omega), decide_eq_false h]
    dsimp only
    rw [Bool.false_and, Bool.false_and]
    exact gc_same
end
end DM

namespace DM
open PySem L2 MD
open DF (Tm)
open DF (KOk)
section
variable {S : Sto}
/-! ### read_head of any word -/
def isQ : List Nat → Bool
  | 63 :: _ => true
  | _ => false
noncomputable def unkF : List Nat → Option Key
  | 63 :: r => if numB ⟨r.toArray⟩ = true then some (.inl ((PySem.NumText.digitsVal r : Nat) : Int)) else none
  | _ => none
theorem isQ_no {l : List Nat} (h : ∀ r, l ≠ 63 :: r) : isQ l = false := by
  unfold isQ
  split
  · exact absurd rfl (h _)
  · rfl
theorem unkF_no {l : List Nat} (h : ∀ r, l ≠ 63 :: r) : unkF l = none := by
  unfold unkF
  split
  · exact absurd rfl (h _)
  · rfl
noncomputable def keyF (x : Str) : Option Key := if nameB x = true then some (.inr x) else unkF x.cps.toList
theorem keyF_some {x : Str} {g : Key} (h : keyF x = some g) : RK g ∧ hcs g = x.cps.toList := by
  unfold keyF at h
  split at h
  · rename_i hn
    cases h
    exact ⟨(nameB_iff x).mp hn, rfl⟩
  · by_cases hq : ∃ r, x.cps.toList = 63 :: r
    · obtain ⟨r, e⟩ := hq
      rw [e, unkF] at h
      split at h
      · rename_i hn
        cases h
        obtain ⟨n, hn, q⟩ := (numB_iff _).mp hn
        have q : r = dgs n := by rw [← q]
        rw [e, q, dgs_val]
        exact ⟨⟨by omega, by omega⟩, by rw [hcs_inl (by omega), Int.toNat_natCast]⟩
      · cases h
    · rw [unkF_no fun r q => hq ⟨r, q⟩] at h
      cases h
theorem keyF_of {g : Key} (h : RK g) {x : Str} (e : x.cps.toList = hcs g) : keyF x = some g := by
  unfold keyF
  cases g with
  | inr y =>
    have hy : x = y := PySem.Str.ext' (Array.toList_inj.mp e)
    subst hy
    rw [if_pos ((nameB_iff x).mpr h)]
  | inl i =>
    obtain ⟨n, rfl⟩ : ∃ n : Nat, i = n := ⟨i.toNat, by have := h.1; omega⟩
    have hn : n < 10000 := by have := h.2; omega
    rw [hcs_inl (by omega), Int.toNat_natCast] at e
    rw [if_neg (fun q => by
      obtain ⟨_, ⟨c, r, e2, hl⟩, _⟩ := (nameB_iff x).mp q
      rw [e] at e2
      injection e2 with e2 _
      rw [← e2] at hl
      exact absurd hl (by decide +kernel)), e]
    rw [unkF, if_pos ((numB_iff _).mpr ⟨n, hn, rfl⟩), dgs_val]
theorem startsQ (x : Str) : Txt.startswith x (Str.ofString "?") = isQ x.cps.toList := by
  have ql : (Str.ofString "?").length = 1 := by decide +kernel
  have qc : (Str.ofString "?").cps.toList = [63] := by decide +kernel
  have hl := slenT x
  unfold Txt.startswith
  rw [ql, PySem.StrLaws.subAt_eq, ql, qc, List.drop_zero]
  cases e : x.cps.toList with
  | nil =>
    rw [e] at hl
    rw [show decide (1 ≤ x.length) = false from decide_eq_false (by rw [hl]; show ¬ 1 ≤ 0; decide)]
    rfl
  | cons c r =>
    rw [e] at hl
    rw [show decide (1 ≤ x.length) = true from decide_eq_true (by rw [hl, List.length_cons]; omega), Bool.true_and, show List.take 1 (c :: r) = [c] from rfl]
    by_cases h : c = 63
    · subst h
      exact beq_iff_eq.mpr rfl
    · rw [show ([c] == [63]) = false from beq_eq_false_iff_ne.mpr fun q => h (by injection q), isQ_no fun r q => h (by injection q)]
theorem read_head_all (k : Nat) (hS : Wf S) (x : Str) (hx : x.length ≤ 60000) (hc : ∀ c ∈ x.cps.toList, c < 16 ^ 8) : M_read_head (k + 3) [.str x] S = match keyF x with
    | some g => .ok (kD g) S
    | none => .ex "BadTerm" [] S := by
  rw [M_read_head, mFn_eq, show startE 1 [.str x] = [some (.str x)] from rfl]
  rw [sSq, sIfS, sTru, sCall, sA1, sVar0, bind_ok, sA0, bind_ok, bind_ok, own1, is_name_all k hS x (by omega), bind_ok, tru_bl, rthen_ok]
  unfold keyF
  by_cases hn : nameB x = true
  · rw [if_pos hn, if_pos hn, sRt, sVar0, rthen_ok, fthen_rt]
    exact gc_same
  rw [if_neg hn, if_neg hn, sNx, fthen_nx]
  have rl := PySem.StrLaws.reprText_len x hc
  have bl : (Str.ofString " is no head").length = 11 := by decide +kernel
  have l0 : Str.empty.length = 0 := by decide +kernel
  have js : mJs [(mFmtR (mVar 0)), (mC (.str " is no head"))] [some (.str x)] S = .ok (.str ((Str.empty ++ reprText x) ++ (" is no head" : Str))) S := by
    unfold mJs
    rw [mJsA]
    unfold mFmtR
    rw [sVar0, bind_ok]
    dsimp only
    rw [if_pos (by omega), bind_ok]
    dsimp only
    rw [if_pos (by omega), mJsA, sC, bind_ok]
    dsimp only
    rw [if_pos (by rw [app_len]; omega), mJsA, bind_ok]
  have ra : ∀ α : MD.Env, α = [some (.str x)] → mRaise0 "BadTerm" (mJs [(mFmtR (mVar 0)), (mC (.str " is no head"))]) α S = .ex "BadTerm" [] α S := fun α q => by
    rw [q]
    unfold mRaise0
    rw [js, rthen_ok]
  have sw : mTru (mM1 dStarts (mVar 0) (mC (.str "?"))) [some (.str x)] S = .ok (Txt.startswith x (Str.ofString "?")) S := by
    rw [sTru, show ∀ (m1 m2 : ME) (α : MD.Env) S1, mM1 dStarts m1 m2 α S1 = (m1 α S1).bind fun x S1 => if isStr x = true then (m2 α S1).bind fun y S2 => dStarts x [y] S2 else .no from fun _ _ _ _ => rfl, sVar0, bind_ok, if_pos (show isStr (Dt.str x) = true from rfl), sC, bind_ok, show dStarts (.str x) [.str (Str.ofString "?")] S = .ok (.bl (Txt.startswith x (Str.ofString "?"))) S from rfl, bind_ok, tru_bl]
  rw [sSq, sIfS, stAnd, sw, bind_ok, startsQ]
  by_cases hq : ∃ r, x.cps.toList = 63 :: r
  · obtain ⟨r, e⟩ := hq
    have xl : x.length = r.length + 1 := by rw [slenT, e, List.length_cons]
    have cut : cutS x (some 1) none = ⟨r.toArray⟩ := by
      unfold cutS
      rw [show HT.sIx x.length 0 (some (1 : Int)) = 1 by rw [show (1 : Int) = ((1 : Nat) : Int) from rfl, HT.sIx_nat]; omega, HT.sIx_none, e, List.drop_one, List.tail_cons, List.take_of_length_le (by omega)]
    have sl : mSl dSl (mVar 0) (mOs (mC (.int 1))) mOn [some (.str x)] S = .ok (.str ⟨r.toArray⟩) S := by
      rw [sSl, sVar0, bind_ok, sOs, sC, bind_ok]
      dsimp only
      rw [bind_ok, sOn, bind_ok]
      unfold dSl
      dsimp only
      rw [if_pos (by omega), cut]
    have rl : (⟨r.toArray⟩ : Str).length = r.length := by show r.toArray.size = _; rw [List.size_toArray]
    rw [e, isQ, unkF]
    rw [if_pos rfl, sTru, sCall, sA1, sl, bind_ok, sA0, bind_ok, bind_ok, own1, is_number_all k hS _ (by rw [rl]; omega), bind_ok, tru_bl, rthen_ok]
    by_cases h2 : numB ⟨r.toArray⟩ = true
    · rw [if_pos h2, if_pos h2]
      obtain ⟨n, hn, q⟩ := (numB_iff _).mp h2
      have q' : r = dgs n := by rw [← q]
      have ir := int_read (x := ⟨r.toArray⟩) hn q
      have dl := dgs_len hn
      rw [sRt, sCall, sA1, sl, bind_ok, sA0, bind_ok, bind_ok, show dInt3 [.str ⟨r.toArray⟩] S = .ok (.int (n : Int)) S by
        unfold dInt3
        dsimp only
        rw [ir]
        dsimp only
        rw [if_pos (by rw [rl, q']; omega)], rthen_ok, fthen_rt, q', dgs_val]
      exact gc_same
    · rw [if_neg h2, if_neg h2, sNx, fthen_nx, ra _ rfl]
      exact gcX_same
  · have hq : ∀ r, x.cps.toList ≠ 63 :: r := fun r q => hq ⟨r, q⟩
    rw [isQ_no hq, unkF_no hq]
    rw [if_neg Bool.false_ne_true, rthen_ok, if_neg Bool.false_ne_true, sNx, fthen_nx, ra _ rfl]
    exact gcX_same
end
end DM

namespace DM
open PySem L2 MD
open DF (Tm)
open DF (KOk)
/-! ### read_term of any text -/
/-- what the words make of the stack and the items; none: BadTerm -/
def popF : Option (List Tm) → List Tm → Option (List Tm)
  | some top, t :: us => some (top ++ [t.appl us])
  | _, _ => none
noncomputable def rdF : List (List Nat) → List (List Tm) → List Tm → Option (List (List Tm) × List Tm)
  | [], stk, as => some (stk, as)
  | w :: ws, stk, as => if w = [40] then rdF ws (stk ++ [as]) [] else if w = [41] then (popF stk.getLast? as).bind fun as' => rdF ws stk.dropLast as' else (keyF ⟨w.toArray⟩).bind fun g => rdF ws stk (as ++ [.mk g []])
section
variable {S Z : Sto}
def stkL (stk : List (Nat × List Tm)) : List Dt := stk.map fun p => Dt.loc p.1
def sumS (stk : List (List Tm)) : Nat := (stk.map Tm.sizeL).sum
structure RdG (S Z : Sto) (A I W : Nat) (stk : List (Nat × List Tm)) (as : List Tm) (ws : List Dt) : Prop where
  wf : Wf Z
  pre : ∃ G, Z = S ++ G
  gA : Z[A]? = some (Cell.lst (stkL stk))
  gS : ∀ p ∈ stk, Z[p.1]? = some (Cell.lst (p.2.map tD))
  gI : Z[I]? = some (Cell.lst (as.map tD))
  gW : Z[W]? = some (Cell.lst ws)
  nd : (stk.map (·.1)).Nodup
  ne : ∀ p ∈ stk, p.1 ≠ I ∧ p.1 ≠ A ∧ p.1 ≠ W ∧ S.length ≤ p.1
  AI : A ≠ I
  AW : A ≠ W
  IW : I ≠ W
  lA : S.length ≤ A
  lI : S.length ≤ I
  rk : (∀ t ∈ as, t.All RK) ∧ ∀ p ∈ stk, ∀ t ∈ p.2, t.All RK
variable {A I W : Nat} {stk : List (Nat × List Tm)} {as : List Tm} {ws : List Dt}
theorem pre_set {i : Nat} {c : Cell} (h : ∃ G, Z = S ++ G) (hi : S.length ≤ i) : ∃ G, Z.set i c = S ++ G := by
  obtain ⟨G, rfl⟩ := h
  exact ⟨_, List.set_append_right _ _ hi⟩
theorem RdG.item (h : RdG S Z A I W stk as ws) {t : Tm} (ht : t.All RK) : RdG S (Z.set I (Cell.lst ((as ++ [t]).map tD))) A I W stk (as ++ [t]) ws := by
  have lI := (List.getElem?_eq_some_iff.mp h.gI).1
  exact { h with
    wf := wf_set h.wf (tmsB _ _)
    pre := pre_set h.pre h.lI
    gA := by rw [List.getElem?_set_ne (Ne.symm h.AI)]; exact h.gA
    gS := fun p hp => by rw [List.getElem?_set_ne (Ne.symm (h.ne p hp).1)]; exact h.gS p hp
    gI := by rw [List.getElem?_set_self lI]
    gW := by rw [List.getElem?_set_ne h.IW]; exact h.gW
    rk := ⟨fun u hu => by
      rcases List.mem_append.mp hu with hu | hu
      · exact h.rk.1 u hu
      · rw [List.mem_singleton.mp hu]; exact ht, h.rk.2⟩ }
theorem RdG.push (h : RdG S Z A I W stk as ws) : RdG S (Z.set A (Cell.lst (stkL (stk ++ [(I, as)]))) ++ [Cell.lst []]) A Z.length W (stk ++ [(I, as)]) [] ws := by
  have lA := (List.getElem?_eq_some_iff.mp h.gA).1
  have lI := (List.getElem?_eq_some_iff.mp h.gI).1
  have lW := (List.getElem?_eq_some_iff.mp h.gW).1
  have lset : (Z.set A (Cell.lst (stkL (stk ++ [(I, as)])))).length = Z.length := List.length_set ..
  have lS : ∀ p ∈ stk, p.1 < Z.length := fun p hp => (List.getElem?_eq_some_iff.mp (h.gS p hp)).1
  have bar : Dt.bddL Z.length (stkL stk) = true := bddS_at h.wf h.gA
  have wA : Wf (Z.set A (Cell.lst (stkL (stk ++ [(I, as)])))) := wf_set h.wf (by
    show Dt.bddL _ (stkL (stk ++ [(I, as)])) = true
    unfold stkL
    rw [List.map_append, List.map_singleton, bddApp, show Dt.bddL Z.length (stk.map fun p => Dt.loc p.1) = true from bar, bddCons, bddNil, show (Dt.loc I).bdd Z.length = true by rw [Dt.bdd]; exact decide_eq_true lI]
    rfl)
  obtain ⟨G, eG⟩ := pre_set (c := Cell.lst (stkL (stk ++ [(I, as)]))) h.pre h.lA
  have hlS : S.length ≤ Z.length := by
    obtain ⟨G, e⟩ := h.pre
    rw [e, List.length_append]; omega
  refine ⟨wf_app wA rfl, ⟨G ++ [Cell.lst []], by rw [eG, List.append_assoc]⟩, by rw [List.getElem?_append_left (by rw [lset]; exact lA), List.getElem?_set_self lA], fun p hp => ?_, by rw [← lset]; exact get0, by rw [List.getElem?_append_left (by rw [lset]; exact lW), List.getElem?_set_ne h.AW]; exact h.gW, ?_, fun p hp => ?_, by omega, h.AW, by omega, h.lA, hlS, fun t ht => absurd ht List.not_mem_nil, fun p hp => ?_⟩
  · rcases List.mem_append.mp hp with hp | hp
    · rw [List.getElem?_append_left (by rw [lset]; exact lS p hp), List.getElem?_set_ne (Ne.symm (h.ne p hp).2.1)]
      exact h.gS p hp
    · rw [List.mem_singleton.mp hp]
      rw [List.getElem?_append_left (by rw [lset]; exact lI), List.getElem?_set_ne h.AI]
      exact h.gI
  · rw [List.map_append]
    refine List.nodup_append.mpr ⟨h.nd, List.nodup_cons.mpr ⟨List.not_mem_nil, List.nodup_nil⟩, fun a ha b hb => ?_⟩
    obtain ⟨p, hp, rfl⟩ := List.mem_map.mp ha
    rw [List.mem_singleton.mp hb]
    exact (h.ne p hp).1
  · rcases List.mem_append.mp hp with hp | hp
    · have := h.ne p hp
      have := lS p hp
      exact ⟨by omega, (h.ne p hp).2.1, (h.ne p hp).2.2.1, (h.ne p hp).2.2.2⟩
    · rw [List.mem_singleton.mp hp]
      exact ⟨Nat.ne_of_lt lI, Ne.symm h.AI, h.IW, h.lI⟩
  · rcases List.mem_append.mp hp with hp | hp
    · exact h.rk.2 p hp
    · rw [List.mem_singleton.mp hp]; exact h.rk.1
theorem RdG.pop {J : Nat} {bs : List Tm} (h : RdG S Z A I W (stk ++ [(J, bs)]) as ws) {t : Tm} (ht : t.All RK) : RdG S ((Z.set A (Cell.lst (stkL stk))).set J (Cell.lst ((bs ++ [t]).map tD))) A J W stk (bs ++ [t]) ws := by
  have lA := (List.getElem?_eq_some_iff.mp h.gA).1
  have hJ := h.ne (J, bs) (List.mem_append_right _ (List.mem_singleton.mpr rfl))
  have gJ := h.gS (J, bs) (List.mem_append_right _ (List.mem_singleton.mpr rfl))
  have lJ := (List.getElem?_eq_some_iff.mp gJ).1
  have nd := h.nd
  rw [List.map_append] at nd
  have nd := List.nodup_append.mp nd
  have bar : Dt.bddL Z.length (stkL (stk ++ [(J, bs)])) = true := bddS_at h.wf h.gA
  have wA : Wf (Z.set A (Cell.lst (stkL stk))) := wf_set h.wf (by
    show Dt.bddL _ (stkL stk) = true
    unfold stkL at bar ⊢
    rw [List.map_append, bddApp, Bool.and_eq_true] at bar
    exact bar.1)
  refine ⟨wf_set wA (tmsB _ _), pre_set (pre_set h.pre h.lA) hJ.2.2.2, by rw [List.getElem?_set_ne hJ.2.1, List.getElem?_set_self lA], fun p hp => ?_, by rw [List.getElem?_set_self (by rw [List.length_set]; exact lJ)], by rw [List.getElem?_set_ne hJ.2.2.1, List.getElem?_set_ne h.AW]; exact h.gW, nd.1, fun p hp => ?_, Ne.symm hJ.2.1, h.AW, hJ.2.2.1, h.lA, hJ.2.2.2, fun u hu => ?_, fun p hp => h.rk.2 p (List.mem_append_left _ hp)⟩
  · have hp' := List.mem_append_left [(J, bs)] hp
    have : p.1 ≠ J := nd.2.2 p.1 (List.mem_map_of_mem hp) J (List.mem_singleton.mpr rfl)
    rw [List.getElem?_set_ne (Ne.symm this), List.getElem?_set_ne (Ne.symm (h.ne p hp').2.1)]
    exact h.gS p hp'
  · have hp' := List.mem_append_left [(J, bs)] hp
    have : p.1 ≠ J := nd.2.2 p.1 (List.mem_map_of_mem hp) J (List.mem_singleton.mpr rfl)
    have q := h.ne p hp'
    exact ⟨this, q.2.1, q.2.2.1, q.2.2.2⟩
  · rcases List.mem_append.mp hu with hu | hu
    · exact h.rk.2 (J, bs) (List.mem_append_right _ (List.mem_singleton.mpr rfl)) u hu
    · rw [List.mem_singleton.mp hu]; exact ht
theorem joined_no (k : Nat) {I : Nat} (h : Z[I]? = some (Cell.lst [])) : M_joined (k + 2) [.loc I] Z = .ex "BadTerm" [] Z := by
  rw [M_joined, mFn_eq, show startE 1 [.loc I] = [some (.loc I)] from rfl]
  have tr : mtNot (mTru (mVar 0)) [some (.loc I)] Z = .ok true Z := by
    rw [stNot, sTru, sVar0, bind_ok]
    unfold dTru
    dsimp only
    rw [h]
    rfl
  rw [sSq, sIfS, tr, rthen_ok, if_pos rfl, show mRaise0 "BadTerm" (mC (.str "there is no head")) [some (.loc I)] Z = .ex "BadTerm" [] [some (.loc I)] Z from rfl, fthen_ex]
  exact gcX_same
theorem sum_snoc (l : List (List Tm)) (b : List Tm) : sumS (l ++ [b]) = sumS l + Tm.sizeL b := by
  unfold sumS
  rw [List.map_append, List.sum_append, List.map_singleton, List.sum_singleton]
theorem sizeL_snoc (l : List Tm) (t : Tm) : Tm.sizeL (l ++ [t]) = Tm.sizeL l + t.size := by
  induction l with
  | nil => rw [List.nil_append, Tm.sizeL, Tm.sizeL, Tm.sizeL]; omega
  | cons a l ih => rw [List.cons_append, Tm.sizeL, Tm.sizeL, ih]; omega
def Out (S : Sto) (A W : Nat) (ws : List Dt) (x : Dt) (z5 : Option Dt) (m : Nat) (F : Fl) : Option (List (List Tm) × List Tm) → Prop
  | none => ∃ (α : MD.Env) (G : Sto), F = .ex "BadTerm" [] α (S ++ G)
  | some (st, as) => ∃ (stk : List (Nat × List Tm)) (I : Nat) (y3 y4 : Option Dt) (Z : Sto), F = .nx (rdE x A I y3 y4 z5) Z ∧ RdG S Z A I W stk as ws ∧ stk.map (·.2) = st ∧ sumS st + Tm.sizeL as ≤ m
theorem rd_all (k : Nat) (x : Dt) (z5 : Option Dt) {m : Nat} (hm : m ≤ 9900) : ∀ (wl : List (List Nat)) (Z : Sto) (I : Nat) (stk : List (Nat × List Tm)) (as : List Tm) (z3 z4 : Option Dt), (∀ w ∈ wl, w.length ≤ 60000 ∧ ∀ c ∈ w, c < 16 ^ 8) → RdG S Z A I W stk as ws → sumS (stk.map (·.2)) + Tm.sizeL as + wl.length ≤ m → stk.length + wl.length ≤ 100000 →
    Out S A W ws x z5 m (forGo (some (W, ws)) (gN 3) (rdB (k + 3)) (wl.map wordD) (rdE x A I z3 z4 z5) Z) (rdF wl (stk.map (·.2)) as)
  | [], Z, I, stk, as, z3, z4, _, h, hs, _ => ⟨stk, I, z3, z4, Z, rfl, h, rfl, by rw [List.length_nil] at hs; omega⟩
  | w :: wl, Z, I, stk, as, z3, z4, hw, h, hs, hl => by
    rw [List.length_cons] at hs hl
    obtain ⟨w1, w2⟩ := hw w (List.mem_cons_self ..)
    have hw' : ∀ w ∈ wl, w.length ≤ 60000 ∧ ∀ c ∈ w, c < 16 ^ 8 := fun v hv => hw v (List.mem_cons_of_mem _ hv)
    have asl := Tm.len_sizeL as
    rw [List.map_cons, forGo, sgN, show (rdE x A I z3 z4 z5).set 3 (some (wordD w)) = rdE x A I (some (wordD w)) z4 z5 from rfl, rdF]
    dsimp only
    have d40 : decide ((⟨w.toArray⟩ : Str) = "(") = decide (w = [40]) := decide_eq_decide.mpr ⟨fun q => by
      have := congrArg (fun s : Str => s.cps.toList) q
      rw [p40] at this
      exact this, fun q => by rw [q]; exact s40⟩
    have d41 : decide ((⟨w.toArray⟩ : Str) = ")") = decide (w = [41]) := decide_eq_decide.mpr ⟨fun q => by
      have := congrArg (fun s : Str => s.cps.toList) q
      rw [p41] at this
      exact this, fun q => by rw [q]; exact s41⟩
    have lA := (List.getElem?_eq_some_iff.mp h.gA).1
    by_cases h40 : w = [40]
    · -- (
      rw [if_pos h40]
      have hp := h.push
      have st : rdB (k + 3) (rdE x A I (some (wordD w)) z4 z5) Z = .nx (rdE x A Z.length (some (wordD w)) z4 z5) (Z.set A (Cell.lst (stkL (stk ++ [(I, as)]))) ++ [Cell.lst []]) := by
        unfold rdB
        rw [sIfS, cmp3, d40, decide_eq_true h40, rthen_ok, if_pos rfl, sSq, append_eq (A := A) (o := mVar 1) (m := mVar 2) (d := .loc I) rfl rfl h.gA (by unfold stkL; rw [List.length_map]; omega), fthen_nx]
        rw [show stkL stk ++ [.loc I] = stkL (stk ++ [(I, as)]) by unfold stkL; rw [List.map_append]; rfl]
        rw [sSet, sGc (d := .loc (Z.set A (Cell.lst (stkL (stk ++ [(I, as)])))).length) (S' := Z.set A (Cell.lst (stkL (stk ++ [(I, as)]))) ++ [Cell.lst []]) rfl, gc_one, rthen_ok, List.length_set]
        rfl
      rw [st]
      dsimp only
      rw [if_pos (show chk (some (W, ws)) _ from hp.gW)]
      have := rd_all k x z5 hm wl _ Z.length (stk ++ [(I, as)]) [] (some (wordD w)) z4 hw' hp (by rw [List.map_append, List.map_singleton, sum_snoc, Tm.sizeL]; dsimp only; omega) (by rw [List.length_append, List.length_singleton]; omega)
      rw [List.map_append] at this
      exact this
    rw [if_neg h40]
    by_cases h41 : w = [41]
    · -- )
      rw [if_pos h41]
      have tr : mtNot (mTru (mVar 1)) (rdE x A I (some (wordD w)) z4 z5) Z = .ok stk.isEmpty Z := by
        rw [stNot, sTru, sVar1, bind_ok]
        unfold dTru
        dsimp only
        rw [h.gA]
        dsimp only
        rw [bind_ok]
        congr 1
        cases stk <;> rfl
      have ra : ∀ α : MD.Env, mRaise0 "BadTerm" (mC (.str "a parenthesis is closed that was not begun")) α Z = .ex "BadTerm" [] α Z := fun α => rfl
      obtain ⟨G0, eG⟩ := h.pre
      rcases List.eq_nil_or_concat stk with hstk | ⟨st0, ⟨J, bs⟩, hstk⟩
      rotate_left
      rw [List.concat_eq_append] at hstk
      rotate_left
      · subst hstk
        have st : rdB (k + 3) (rdE x A I (some (wordD w)) z4 z5) Z = .ex "BadTerm" [] (rdE x A I (some (wordD w)) z4 z5) Z := by
          unfold rdB
          rw [sIfS, cmp3, d40, decide_eq_false h40, rthen_ok, if_neg Bool.false_ne_true, sIfS, cmp3, d41, decide_eq_true h41, rthen_ok, if_pos rfl, sSq, sIfS, tr, rthen_ok, show ([] : List (Nat × List Tm)).isEmpty = true from rfl, if_pos rfl, ra, fthen_ex]
        rw [st]
        dsimp only
        exact ⟨_, G0, by rw [eG]⟩
      · subst hstk
        rw [List.map_append, List.map_singleton, List.getLast?_concat, List.dropLast_concat]
        have e0 : (st0 ++ [(J, bs)]).isEmpty = false := by cases st0 <;> rfl
        cases as with
        | nil =>
          have jn := joined_no (k + 1) (Z := Z) (I := I) h.gI
          have st : rdB (k + 3) (rdE x A I (some (wordD w)) z4 z5) Z = .ex "BadTerm" [] (rdE x A I (some (wordD w)) z4 z5) Z := by
            unfold rdB
            rw [sIfS, cmp3, d40, decide_eq_false h40, rthen_ok, if_neg Bool.false_ne_true, sIfS, cmp3, d41, decide_eq_true h41, rthen_ok, if_pos rfl, sSq, sIfS, tr, rthen_ok, e0, if_neg Bool.false_ne_true, sNx, fthen_nx]
            rw [sSq, sSet, gc_ex (by rw [sCall, sA1, sVar2, bind_ok, sA0, bind_ok, bind_ok, own1, jn]), rthen_ex, fthen_ex]
          rw [st]
          dsimp only
          exact ⟨_, G0, by rw [eG]⟩
        | cons t us =>
          rw [popF, Option.bind_some]
          have ht : (t.appl us).All RK := appl_all (h.rk.1 t (List.mem_cons_self ..)) fun u hu => h.rk.1 u (List.mem_cons_of_mem _ hu)
          have ta : t.args.length ≤ t.size := by have := args_size t; omega
          rw [Tm.sizeL] at hs
          rw [List.length_cons, Tm.sizeL] at asl
          have jn := joined_eq (k + 1) h.wf (I := I) (t := t) (as := us) h.gI (by omega)
          have hJ := h.ne (J, bs) (List.mem_append_right _ (List.mem_singleton.mpr rfl))
          have gJ := h.gS (J, bs) (List.mem_append_right _ (List.mem_singleton.mpr rfl))
          have hp := h.pop ht
          have gA' : Z[A]? = some (Cell.lst (stkL st0 ++ [.loc J])) := by rw [h.gA]; unfold stkL; rw [List.map_append]; rfl
          have isA : isL (.loc A) Z = true := by
            unfold isL
            dsimp only
            rw [h.gA]
          have gJ' : (Z.set A (Cell.lst (stkL st0)))[J]? = some (Cell.lst (bs.map tD)) := by rw [List.getElem?_set_ne (Ne.symm hJ.2.1), gJ]
          have bl := Tm.len_sizeL bs
          have sb : Tm.sizeL bs ≤ m := by
            rw [List.map_append, List.map_singleton, sum_snoc] at hs
            dsimp only at hs
            omega
          have st : rdB (k + 3) (rdE x A I (some (wordD w)) z4 z5) Z = .nx (rdE x A J (some (wordD w)) (some (tD (t.appl us))) z5) ((Z.set A (Cell.lst (stkL st0))).set J (Cell.lst ((bs ++ [t.appl us]).map tD))) := by
            unfold rdB
            rw [sIfS, cmp3, d40, decide_eq_false h40, rthen_ok, if_neg Bool.false_ne_true, sIfS, cmp3, d41, decide_eq_true h41, rthen_ok, if_pos rfl, sSq, sIfS, tr, rthen_ok, e0, if_neg Bool.false_ne_true, sNx, fthen_nx]
            rw [sSq, sSet, sGc (by rw [sCall, sA1, sVar2, bind_ok, sA0, bind_ok, bind_ok, own1, jn]), gc_same, rthen_ok, fthen_nx]
            rw [show (rdE x A I (some (wordD w)) z4 z5).set 4 (some (tD (t.appl us))) = rdE x A I (some (wordD w)) (some (tD (t.appl us))) z5 from rfl]
            rw [sSq, sSet, sGc (by rw [sMt0, sVar1, bind_ok, if_pos isA, pop_loc gA']), gc_len (by rw [List.length_set]), rthen_ok, fthen_nx]
            rw [show (rdE x A I (some (wordD w)) (some (tD (t.appl us))) z5).set 2 (some (.loc J)) = rdE x A J (some (wordD w)) (some (tD (t.appl us))) z5 from rfl]
            rw [append_eq (A := J) (o := mVar 2) (m := mVar 4) (d := tD (t.appl us)) rfl rfl gJ' (by rw [List.length_map]; omega), List.map_append]
            rfl
          rw [st]
          dsimp only
          rw [if_pos (show chk (some (W, ws)) _ from hp.gW)]
          refine rd_all k x z5 hm wl _ J st0 (bs ++ [t.appl us]) (some (wordD w)) _ hw' hp ?_ (by rw [List.length_append, List.length_singleton] at hl; omega)
          rw [sizeL_snoc, Tm.appl_size]
          rw [List.map_append, List.map_singleton, sum_snoc] at hs
          dsimp only at hs
          omega
    rw [if_neg h41]
    have rh := read_head_all k h.wf (⟨w.toArray⟩ : Str) (by show w.toArray.size ≤ _; rw [List.size_toArray]; exact w1) w2
    obtain ⟨G0, eG⟩ := h.pre
    cases hk : keyF ⟨w.toArray⟩ with
    | none =>
      rw [hk] at rh
      rw [Option.bind_none]
      have st : rdB (k + 3) (rdE x A I (some (wordD w)) z4 z5) Z = .ex "BadTerm" [] (rdE x A I (some (wordD w)) z4 z5) Z := by
        unfold rdB
        rw [sIfS, cmp3, d40, decide_eq_false h40, rthen_ok, if_neg Bool.false_ne_true, sIfS, cmp3, d41, decide_eq_false h41, rthen_ok, if_neg Bool.false_ne_true]
        have isI : isL (.loc I) Z = true := by
          unfold isL
          dsimp only
          rw [h.gI]
        have e1 : mMt dAppend (mVar 2) (mA1 (mTup (mA1 (mCall (mOwn 1 (M_read_head (k + 3))) (mA1 (mVar 3) mA0)) (mA1 (mTup mA0) mA0))) mA0) (rdE x A I (some (wordD w)) z4 z5) Z = .ex "BadTerm" [] Z := by
          rw [sMt, sVar2, bind_ok, if_pos isI, sA1, sTup, sA1, sCall, sA1, sVar3, bind_ok, sA0, bind_ok, bind_ok, own1, show wordD w = .str ⟨w.toArray⟩ from rfl, rh]
          rfl
        rw [sEx, gc_ex e1, rthen_ex]
      rw [st]
      dsimp only
      exact ⟨_, G0, by rw [eG]⟩
    | some g =>
      rw [hk] at rh
      have hg := (keyF_some hk).1
      have hp := h.item (t := .mk g []) (Tm.All.mk hg fun u hu => absurd hu List.not_mem_nil)
      rw [Option.bind_some]
      have e1 : mTup (mA1 (mCall (mOwn 1 (M_read_head (k + 3))) (mA1 (mVar 3) mA0)) (mA1 (mTup mA0) mA0)) (rdE x A I (some (wordD w)) z4 z5) Z = .ok (tD (.mk g [])) Z := by
        rw [sTup, sA1, sCall, sA1, sVar3, bind_ok, sA0, bind_ok, bind_ok, own1, show wordD w = .str ⟨w.toArray⟩ from rfl, rh, bind_ok, sA1, tup0, bind_ok, sA0, bind_ok, bind_ok, bind_ok, if_pos (by show 2 ≤ 1000000; decide), tD_mk]
        rfl
      have st : rdB (k + 3) (rdE x A I (some (wordD w)) z4 z5) Z = .nx (rdE x A I (some (wordD w)) z4 z5) (Z.set I (Cell.lst ((as ++ [Tm.mk g []]).map tD))) := by
        unfold rdB
        rw [sIfS, cmp3, d40, decide_eq_false h40, rthen_ok, if_neg Bool.false_ne_true, sIfS, cmp3, d41, decide_eq_false h41, rthen_ok, if_neg Bool.false_ne_true]
        rw [append_eq (A := I) (o := mVar 2) rfl e1 h.gI (by rw [List.length_map]; omega), List.map_append]
        rfl
      rw [st]
      dsimp only
      rw [if_pos (show chk (some (W, ws)) _ from hp.gW)]
      exact rd_all k x z5 hm wl _ I stk (as ++ [.mk g []]) (some (wordD w)) z4 hw' hp (by rw [sizeL_snoc, Tm.size, Tm.sizeL]; omega) (by omega)
end
end DM

namespace DM
open PySem L2 MD
open DF (Tm)
open DF (KOk)
section
variable {S Z : Sto}
theorem sp_mem : ∀ (l : List Nat), ∀ w ∈ spL l, ∀ c ∈ w, c ∈ l
  | [], w, h, c, hc => by rw [spL] at h; rw [List.mem_singleton.mp h] at hc; exact hc
  | d :: r, w, h, c, hc => by
    rw [spL.eq_2] at h
    by_cases hd : d = 32
    · rw [if_pos hd] at h
      rcases List.mem_cons.mp h with rfl | h
      · exact absurd hc List.not_mem_nil
      · exact List.mem_cons_of_mem _ (sp_mem r w h c hc)
    · rw [if_neg hd] at h
      have ih := sp_mem r
      cases e : spL r with
      | nil => exact absurd e (spL_ne r)
      | cons x ws =>
        rw [e] at h ih
        dsimp only at h
        rcases List.mem_cons.mp h with rfl | h
        · rcases List.mem_cons.mp hc with rfl | hc
          · exact List.mem_cons_self ..
          · exact List.mem_cons_of_mem _ (ih x (List.mem_cons_self ..) c hc)
        · exact List.mem_cons_of_mem _ (ih w (List.mem_cons_of_mem _ h) c hc)
theorem sp_cnt : ∀ (l : List Nat), (wdL l).length ≤ l.length := by
  intro l
  have h : ∀ l : List Nat, (wdL l).length + (match spL l with
    | [] :: _ => 0
    | _ => 0) ≤ l.length := by
    intro l
    have : ∀ l : List Nat, ((spL l).tail.filter fun w => !w.isEmpty).length + (match spL l with
      | [] :: _ => 0
      | [] => 0
      | _ :: _ => 1) ≤ l.length := by
      intro l
      induction l with
      | nil => exact Nat.le_refl _
      | cons c r ih =>
        rw [spL.eq_2]
        by_cases hc : c = 32
        · rw [if_pos hc, List.length_cons]
          cases e : spL r with
          | nil => exact absurd e (spL_ne r)
          | cons w ws =>
            rw [e] at ih
            show ((w :: ws).filter fun w => !w.isEmpty).length + 0 ≤ r.length + 1
            rw [List.filter_cons]
            cases w with
            | nil => have ih : (ws.filter fun w => !w.isEmpty).length + 0 ≤ r.length := ih; rw [if_neg (by decide)]; omega
            | cons d w => have ih : (ws.filter fun w => !w.isEmpty).length + 1 ≤ r.length := ih; rw [show (!(d :: w).isEmpty) = true from rfl, if_pos rfl, List.length_cons]; omega
        · rw [if_neg hc, List.length_cons]
          cases e : spL r with
          | nil => exact absurd e (spL_ne r)
          | cons w ws =>
            rw [e] at ih
            show (ws.filter fun w => !w.isEmpty).length + 1 ≤ r.length + 1
            have : (ws.filter fun w => !w.isEmpty).length ≤ r.length := by
              refine Nat.le_trans ?_ ih
              exact Nat.le_add_right _ _
            omega
    have t := this l
    unfold wdL
    cases e : spL l with
    | nil => exact absurd e (spL_ne l)
    | cons w ws =>
      rw [e] at t
      rw [List.filter_cons]
      cases w with
      | nil => have t : (ws.filter fun w => !w.isEmpty).length + 0 ≤ l.length := t; rw [if_neg (by decide)]; exact t
      | cons d w => have t : (ws.filter fun w => !w.isEmpty).length + 1 ≤ l.length := t; rw [show (!(d :: w).isEmpty) = true from rfl, if_pos rfl, List.length_cons]; exact t
  have := h l
  omega
theorem spr_len : ∀ l : List Nat, (l.flatMap sprC).length ≤ 3 * l.length
  | [] => Nat.le_refl _
  | c :: r => by
    rw [List.flatMap_cons, List.length_append, List.length_cons]
    have := spr_len r
    have : (sprC c).length ≤ 3 := by
      unfold sprC
      split
      · exact Nat.le_refl _
      · split
        · exact Nat.le_refl _
        · show 1 ≤ 3; decide
    omega
theorem spr_mem {l : List Nat} {c : Nat} (h : c ∈ l.flatMap sprC) : c = 32 ∨ c ∈ l := by
  obtain ⟨d, hd, hc⟩ := List.mem_flatMap.mp h
  unfold sprC at hc
  split at hc
  · rename_i e
    rcases List.mem_cons.mp hc with rfl | hc
    · exact .inl rfl
    rcases List.mem_cons.mp hc with rfl | hc
    · exact .inr (e ▸ hd)
    · exact .inl (List.mem_singleton.mp hc)
  · split at hc
    · rename_i e
      rcases List.mem_cons.mp hc with rfl | hc
      · exact .inl rfl
      rcases List.mem_cons.mp hc with rfl | hc
      · exact .inr (e ▸ hd)
      · exact .inl (List.mem_singleton.mp hc)
    · rw [List.mem_singleton.mp hc]; exact .inr hd
def jnF : Option (List (List Tm) × List Tm) → Option Tm
  | some ([], t :: us) => some (t.appl us)
  | _ => none
/-- the term that a text is of; none: BadTerm -/
noncomputable def rdT (x : Str) : Option Tm := (jnF (rdF (wdL (x.cps.toList.flatMap sprC)) [] [])).bind fun t => if wtS t = x then some t else none
theorem rdF_all : ∀ (wl : List (List Nat)) (stk : List (List Tm)) (as : List Tm) (st : List (List Tm)) (bs : List Tm), rdF wl stk as = some (st, bs) → (∀ l ∈ stk, ∀ t ∈ l, t.All RK) → (∀ t ∈ as, t.All RK) → (∀ l ∈ st, ∀ t ∈ l, t.All RK) ∧ ∀ t ∈ bs, t.All RK
  | [], stk, as, st, bs, h, h1, h2 => by
    rw [rdF] at h
    cases h
    exact ⟨h1, h2⟩
  | w :: wl, stk, as, st, bs, h, h1, h2 => by
    rw [rdF] at h
    split at h
    · exact rdF_all wl _ _ st bs h (fun l hl => by
        rcases List.mem_append.mp hl with hl | hl
        · exact h1 l hl
        · rw [List.mem_singleton.mp hl]; exact h2) (fun t ht => absurd ht List.not_mem_nil)
    · split at h
      · obtain ⟨as', e, h⟩ := Option.bind_eq_some_iff.mp h
        refine rdF_all wl _ _ st bs h (fun l hl => h1 l (List.dropLast_subset _ hl)) ?_
        unfold popF at e
        split at e
        · rename_i top t us q
          cases e
          intro u hu
          rcases List.mem_append.mp hu with hu | hu
          · exact h1 top (List.mem_of_getLast? q) u hu
          · rw [List.mem_singleton.mp hu]
            exact appl_all (h2 t (List.mem_cons_self ..)) fun u hu => h2 u (List.mem_cons_of_mem _ hu)
        · cases e
      · obtain ⟨g, e, h⟩ := Option.bind_eq_some_iff.mp h
        refine rdF_all wl _ _ st bs h h1 fun t ht => ?_
        rcases List.mem_append.mp ht with ht | ht
        · exact h2 t ht
        · rw [List.mem_singleton.mp ht]
          exact Tm.All.mk (keyF_some e).1 fun u hu => absurd hu List.not_mem_nil
theorem rdT_some {x : Str} {t : Tm} (h : rdT x = some t) : t.All RK ∧ wtS t = x := by
  unfold rdT at h
  obtain ⟨u, e, h⟩ := Option.bind_eq_some_iff.mp h
  split at h
  · rename_i hw
    cases h
    refine ⟨?_, hw⟩
    unfold jnF at e
    split at e
    · rename_i t us q
      cases e
      have := (rdF_all _ _ _ _ _ q (fun l hl => absurd hl List.not_mem_nil) (fun t ht => absurd ht List.not_mem_nil)).2
      exact appl_all (this t (List.mem_cons_self ..)) fun u hu => this u (List.mem_cons_of_mem _ hu)
    · cases e
  · cases h
theorem read_term_all (k : Nat) (hS : Wf S) (x : Str) (zl : x.length ≤ 3000) (hc : ∀ c ∈ x.cps.toList, c < 16 ^ 8) : M_read_term (k + 4) [.str x] S = match rdT x with
    | some t => .ok (tD t) S
    | none => .ex "BadTerm" [] S := by
  rw [M_read_term, mFn_eq, show startE 6 [.str x] = [some (.str x), none, none, none, none, none] from rfl]
  have c1 : ∀ α : MD.Env, mGc (mLst mA0) α S = .ok (.loc S.length) (S ++ [Cell.lst []]) := fun α => by
    rw [sGc (d := .loc S.length) (S' := S ++ [Cell.lst []]) rfl, gc_one]
  have c2 : ∀ α : MD.Env, mGc (mLst mA0) α (S ++ [Cell.lst []]) = .ok (.loc (S.length + 1)) (S ++ [Cell.lst [], Cell.lst []]) := fun α => by
    rw [sGc (d := .loc (S ++ [Cell.lst []]).length) (S' := (S ++ [Cell.lst []]) ++ [Cell.lst []]) rfl, gc_one, List.length_append, List.append_assoc]
    rfl
  rw [sSq, sSet, c1, rthen_ok, fthen_nx]
  simp only [xset_s, xset_0]
  rw [sSq, sSet, c2, rthen_ok, fthen_nx]
  simp only [xset_s, xset_0]
  have w2 : Wf (S ++ [Cell.lst [], Cell.lst []]) := wf_app hS rfl
  have sl := spr_len x.cps.toList
  have xl := slenT x
  have wm : ∀ w ∈ wdL (x.cps.toList.flatMap sprC), w.length ≤ 60000 ∧ ∀ c ∈ w, c < 16 ^ 8 := fun w hw => by
    have hw := (List.mem_filter.mp hw).1
    refine ⟨by have := sp_len _ w hw; omega, fun c h => ?_⟩
    rcases spr_mem (sp_mem _ w hw c h) with rfl | h
    · decide
    · exact hc c h
  have wc := sp_cnt (x.cps.toList.flatMap sprC)
  unfold rdT
  generalize hwl : wdL (x.cps.toList.flatMap sprC) = wl at wm wc
  have we := words_eq (k + 2) w2 x zl (ws := wl) hwl
  rw [List.length_append, List.append_assoc] at we
  have it : mIt (mCall (mOwn 1 (M_words (k + 3))) (mA1 (mVar 0) mA0)) [some (.str x), some (.loc S.length), some (.loc (S.length + 1)), none, none, none] (S ++ [Cell.lst [], Cell.lst []]) = .ok (wl.map wordD, some (S.length + 2, wl.map wordD)) (S ++ ([Cell.lst [], Cell.lst []] ++ [Cell.lst (wl.map wordD)])) := by
    unfold mIt
    rw [sCall, sA1, sVar0, bind_ok, sA0, bind_ok, bind_ok, own1, we, bind_ok]
    exact it_loc getA
  have w3 : Wf (S ++ ([Cell.lst [], Cell.lst []] ++ [Cell.lst (wl.map wordD)])) := wf_app hS (by
    generalize (S.length + ([Cell.lst [], Cell.lst []] ++ [Cell.lst (wl.map wordD)]).length) = q
    show (Dt.bddL q [] && (Dt.bddL q [] && (Dt.bddL q (wl.map wordD) && true))) = true
    rw [bddNil]
    generalize wl = l
    have : Dt.bddL q (l.map wordD) = true := by
      induction l with
      | nil => exact bddNil
      | cons w l ih => rw [List.map_cons, bddCons, ih, show (wordD w).bdd q = true from bddStr]; rfl
    rw [this]
    rfl)
  have r0 : RdG S (S ++ ([Cell.lst [], Cell.lst []] ++ [Cell.lst (wl.map wordD)])) S.length (S.length + 1) (S.length + 2) [] [] (wl.map wordD) := ⟨w3, ⟨_, rfl⟩, get0, fun p hp => absurd hp List.not_mem_nil, get1, getA, List.nodup_nil, fun p hp => absurd hp List.not_mem_nil, by omega, by omega, by omega, by omega, by omega, fun t ht => absurd ht List.not_mem_nil, fun p hp => absurd hp List.not_mem_nil⟩
  have lp := rd_all k (.str x) none (m := 9900) (Nat.le_refl _) wl _ (S.length + 1) [] [] none none wm r0 (by show 0 + Tm.sizeL [] + _ ≤ _; rw [Tm.sizeL]; omega) (by show 0 + _ ≤ _; omega)
  rw [List.map_nil] at lp
  unfold rdB at lp
  rw [sSq, xFor, it, rthen_ok]
  dsimp only
  cases hF : rdF wl [] [] with
  | none =>
    rw [hF] at lp
    obtain ⟨α, G, e⟩ := lp
    rw [e, fthen_ex, show jnF none = none from rfl, Option.bind_none]
    exact dropX hS rfl
  | some q =>
    obtain ⟨st, as⟩ := q
    rw [hF] at lp
    obtain ⟨stk, I, y3, y4, Z, e, h, es, hs⟩ := lp
    rw [e, fthen_nx]
    obtain ⟨G, eG⟩ := h.pre
    have tr : mTru (mVar 1) (rdE (.str x) S.length I y3 y4 none) Z = .ok (!stk.isEmpty) Z := by
      rw [sTru, sVar1, bind_ok]
      unfold dTru
      dsimp only
      rw [h.gA]
      dsimp only
      congr 1
      cases stk <;> rfl
    rw [sSq, sIfS, tr, rthen_ok]
    cases stk with
    | cons p stk =>
      rw [show (!(p :: stk).isEmpty) = true from rfl, if_pos rfl, show mRaise0 "BadTerm" (mC (.str "a parenthesis is not closed")) (rdE (.str x) S.length I y3 y4 none) Z = .ex "BadTerm" [] (rdE (.str x) S.length I y3 y4 none) Z from rfl, fthen_ex]
      rw [← es, show jnF (some ((p :: stk).map (·.2), as)) = none from rfl, Option.bind_none, eG]
      exact dropX hS rfl
    | nil =>
      rw [show (!([] : List (Nat × List Tm)).isEmpty) = false from rfl, if_neg Bool.false_ne_true, sNx, fthen_nx, ← es]
      cases as with
      | nil =>
        have jn := joined_no (k + 1) (Z := Z) (I := I) h.gI
        rw [sSq, sSet, gc_ex (by rw [sCall, sA1, sVar2, bind_ok, sA0, bind_ok, bind_ok, own1, jn]), rthen_ex, fthen_ex, show jnF (some (([] : List (Nat × List Tm)).map (·.2), [])) = none from rfl, Option.bind_none, eG]
        exact dropX hS rfl
      | cons t us =>
        rw [Tm.sizeL] at hs
        have ta : t.args.length ≤ t.size := by have := args_size t; omega
        have ul := Tm.len_sizeL us
        have jn := joined_eq (k + 1) h.wf (I := I) (t := t) (as := us) h.gI (by omega)
        have ht : (t.appl us).All RK := appl_all (h.rk.1 t (List.mem_cons_self ..)) fun u hu => h.rk.1 u (List.mem_cons_of_mem _ hu)
        rw [sSq, sSet, sGc (by rw [sCall, sA1, sVar2, bind_ok, sA0, bind_ok, bind_ok, own1, jn]), gc_same, rthen_ok, fthen_nx]
        rw [show (rdE (.str x) S.length I y3 y4 none).set 5 (some (tD (t.appl us))) = [some (.str x), some (.loc S.length), some (.loc I), y3, y4, some (tD (t.appl us))] from rfl]
        have wr := write_term_eq (k + 1) Z h.wf (t.appl us) (RK.hg ht) (by rw [Tm.appl_size]; omega)
        rw [sSq, sIfS, show mT (mOp dNe (mCall (mOwn 1 (M_write_term (k + 3))) (mA1 (mVar 5) mA0)) (mVar 0)) [some (.str x), some (.loc S.length), some (.loc I), y3, y4, some (tD (t.appl us))] Z = .ok (!decide (wtS (t.appl us) = x)) Z by
          rw [sT, sOp, sCall, sA1, sVar5, bind_ok, sA0, bind_ok, bind_ok, own1, wr, bind_ok, sVar0, bind_ok, show dNe (.str (wtS (t.appl us))) (.str x) Z = .ok (.bl (!decide (wtS (t.appl us) = x))) Z from rfl]
          rfl, rthen_ok, show jnF (some (([] : List (Nat × List Tm)).map (·.2), t :: us)) = some (t.appl us) from rfl, Option.bind_some]
        by_cases hw : wtS (t.appl us) = x
        · rw [decide_eq_true hw, Bool.not_true, if_neg Bool.false_ne_true, sNx, fthen_nx, sRt, sVar5, rthen_ok, if_pos hw]
          dsimp only
          rw [eG]
          exact gc_drop hS (tD_bdd _ _)
        · rw [decide_eq_false hw, Bool.not_false, if_pos rfl, if_neg hw]
          rw [show ∀ α : MD.Env, mRaise0 "BadTerm" (mC (.str "a blank or a parenthesis is missing or needless")) α Z = .ex "BadTerm" [] α Z from fun _ => rfl, fthen_ex, eG]
          exact dropX hS rfl
end
end DM

namespace DM
open PySem L2 MD
noncomputable def M_is_constructor : Nat → List Dt → Sto → Rs Dt
  | 0 => fun _ _ => .no
  | k + 1 => mFn 1 (mRt (mAnd (mCall dIsi (mA1 (mVar 0) (mA1 (mC (.ty "str")) mA0))) (mNot (mM0 dIsLower (mOp dIx (mVar 0) (mC (.int 0)))))))
noncomputable def M_is_function : Nat → List Dt → Sto → Rs Dt
  | 0 => fun _ _ => .no
  | k + 1 => mFn 1 (mRt (mAnd (mCall dIsi (mA1 (mVar 0) (mA1 (mC (.ty "str")) mA0))) (mM0 dIsLower (mOp dIx (mVar 0) (mC (.int 0))))))
noncomputable def M_are_counted : Nat → List Dt → Sto → Rs Dt
  | 0 => fun _ _ => .no
  | k + 1 => mFn 3 (mRt (mOp dEq (mLc [1] (mIt (mVar 0)) (gN 1) mYes (mTup (mA1 (mOp dIx (mVar 1) (mC (.int 0))) (mA1 (mCall dLen (mA1 (mOp dIx (mVar 1) (mC (.int 1))) mA0)) mA0)))) (mLc [2] (mIr1 (mA1 (mCall dLen (mA1 (mVar 0) mA0)) mA0)) (gN 2) mYes (mTup (mA1 (mVar 2) (mA1 (mC (.int 0)) mA0))))))
noncomputable def M_read_line : Nat → List Dt → Sto → Rs Dt
  | 0 => fun _ _ => .no
  | k + 1 => mFn 12 (mSq (mAsg (gT [1, 2, 3]) (mGc (mM1 dPartition (mVar 0) (mC (.str " = ")))))
      (mSq (mTryS (mtOnly "BadTerm") (mSq (mAsg (gT [4, 5]) (mGc (mCall (mOwn 1 (M_read_term k)) (mA1 (mVar 1) mA0))))
      (mSet 6 (mGc (mCall (mOwn 1 (M_read_term k)) (mA1 (mVar 3) mA0))))) (mRt (mC .non)))
      (mSq (mIfS (mtOr (mtNot (mTru (mCall (mOwn 1 (M_is_function k)) (mA1 (mVar 4) mA0)))) (mT (mOp dGt (mCall dLen (mA1 (mVar 5) mA0)) (mC (.int 100))))) (mRt (mC .non)) mNx)
      (mSq (mPar3 7 8 9 (mA1 (mC .non) (mA1 (mTup mA0) (mA1 (mVar 5) mA0))))
      (mSq (mIfS (mtAnd (mTru (mVar 5)) (mTru (mCall (mOwn 1 (M_is_constructor k)) (mA1 (mOp dIx (mOp dIx (mVar 5) (mC (.int 0))) (mC (.int 0))) mA0)))) (mSq (mAsg (gT [7, 8]) (mGc (mOp dIx (mVar 5) (mC (.int 0)))))
      (mSet 9 (mGc (mSl dSl (mVar 5) (mOs (mC (.int 1))) mOn)))) mNx)
      (mSq (mSet 10 (mGc (mOp dAdd (mCall dLen (mA1 (mVar 8) mA0)) (mCall dLen (mA1 (mVar 9) mA0)))))
      (mSq (mIfS (mtOr (mT (mOp dGt (mCall dLen (mA1 (mVar 8) mA0)) (mC (.int 6)))) (mtNot (mTru (mCall (mOwn 1 (M_are_counted k)) (mA1 (mOp dAdd (mVar 8) (mVar 9)) mA0))))) (mRt (mC .non)) mNx)
      (mSq (mIfS (mtOr (mT (mOp dGt (mCall (mOwn 1 (M_size k)) (mA1 (mVar 6) mA0)) (mC (.int 120)))) (mTru (mCall dAny (mA1 (mLc [11] (mIt (mCall (mOwn 1 (M_unknowns k)) (mA1 (mVar 6) mA0))) (gN 11) mYes (mOp dGe (mVar 11) (mVar 10))) mA0)))) (mRt (mC .non)) mNx)
      (mRt (mTup (mA1 (mVar 4) (mA1 (mCall dLen (mA1 (mVar 5) mA0)) (mA1 (mVar 7) (mA1 (mCall dLen (mA1 (mVar 8) mA0)) (mA1 (mVar 6) mA0)))))))))))))))
noncomputable def M_calls_only : Nat → List Dt → Sto → Rs Dt
  | 0 => fun _ _ => .no
  | k + 1 => mFn 3 (mRt (mCall dAll (mA1 (mLc [2] (mIt (mCall (mOwn 1 (M_names k)) (mA1 (mVar 0) mA0))) (gN 2) (mTru (mCall (mOwn 1 (M_is_function k)) (mA1 (mVar 2) mA0))) (mOp dIn (mVar 2) (mVar 1))) mA0)))
noncomputable def M_function_of : Nat → List Dt → Sto → Rs Dt
  | 0 => fun _ _ => .no
  | k + 1 => mFn 7 (mSq (mAsg (gT [1, 2, 3, 4, 5]) (mGc (mOp dIx (mVar 0) (mC (.int 0)))))
      (mSq (mIfS (mT (mOp dIsN (mVar 3) (mC .non))) (mRt (mTup (mA1 (mC (.str "plain")) (mA1 (mVar 1) (mA1 (mVar 2) (mA1 (mVar 5) mA0)))))) mNx)
      (mRt (mTup (mA1 (mC (.str "cases")) (mA1 (mVar 1) (mA1 (mVar 2) (mA1 (mCall dTuple (mA1 (mLc [6] (mIt (mVar 0)) (gN 6) mYes (mSl dSl (mVar 6) (mOs (mC (.int 2))) mOn)) mA0)) mA0))))))))
noncomputable def M_is_further : Nat → List Dt → Sto → Rs Dt
  | 0 => fun _ _ => .no
  | k + 1 => mFn 4 (mSq (mIfS (mtOr (mT (mOp dIsN (mOp dIx (mVar 0) (mC (.int 2))) (mC .non))) (mT (mOp dNe (mSl dSl (mVar 0) mOn (mOs (mC (.int 2)))) (mSl dSl (mOp dIx (mVar 1) (mC (.int 0))) mOn (mOs (mC (.int 2))))))) (mRt (mC (.bl false))) mNx)
      (mSq (mSet 3 (mGc (mLc [2] (mIt (mVar 1)) (gN 2) mYes (mOp dIx (mVar 2) (mC (.int 2))))))
      (mRt (mAnd (mOp dNotIn (mC .non) (mVar 3)) (mOp dNotIn (mOp dIx (mVar 0) (mC (.int 2))) (mVar 3))))))
noncomputable def M_is_added : Nat → List Dt → Sto → Rs Dt
  | 0 => fun _ _ => .no
  | k + 1 => mFn 3 (mSq (mIfS (mtAnd (mTru (mVar 1)) (mTru (mCall (mOwn 2 (M_is_further k)) (mA1 (mVar 0) (mA1 (mOp dIx (mVar 1) (mUn dNeg (mC (.int 1)))) mA0))))) (mSq (mEx (mGc (mMt dAppend (mOp dIx (mVar 1) (mUn dNeg (mC (.int 1)))) (mA1 (mVar 0) mA0))))
      (mRt (mC (.bl true)))) mNx)
      (mSq (mIfS (mT (mOp dIn (mOp dIx (mVar 0) (mC (.int 0))) (mLc [2] (mIt (mVar 1)) (gN 2) mYes (mOp dIx (mOp dIx (mVar 2) (mC (.int 0))) (mC (.int 0)))))) (mRt (mC (.bl false))) mNx)
      (mSq (mEx (mGc (mMt dAppend (mVar 1) (mA1 (mLst (mA1 (mVar 0) mA0)) mA0))))
      (mRt (mC (.bl true))))))
noncomputable def M_read_program : Nat → List Dt → Sto → Rs Dt
  | 0 => fun _ _ => .no
  | k + 1 => mFn 10 (mSq (mSet 1 (mGc (mM1 dSplit (mVar 0) (mC (.str "\n")))))
      (mSq (mSet 2 (mGc (mMt0 dPop (mVar 1))))
      (mSq (mSet 3 (mGc (mLst mA0)))
      (mSq (mSet 4 (mGc (mLst mA0)))
      (mSq (mFor (mIenS 1 (mA1 (mVar 1) mA0)) (gT [5, 6]) (mSq (mSet 7 (mGc (mCall (mOwn 1 (M_read_line k)) (mA1 (mVar 6) mA0))))
      (mSq (mIfS (mtOr (mT (mOp dIsN (mVar 7) (mC .non))) (mtNot (mTru (mCall (mOwn 2 (M_is_added k)) (mA1 (mVar 7) (mA1 (mVar 4) mA0)))))) (mRaise "BadProgram" "line" (mVar 5)) mNx)
      (mEx (mGc (mMt dAppend (mVar 3) (mA1 (mVar 7) mA0)))))))
      (mSq (mIfS (mTru (mVar 2)) (mRaise "BadProgram" "line" (mOp dAdd (mCall dLen (mA1 (mVar 1) mA0)) (mC (.int 1)))) mNx)
      (mSq (mSet 9 (mGc (mDc [8] (mIt (mVar 4)) (gN 8) mYes (mOp dIx (mOp dIx (mVar 8) (mC (.int 0))) (mC (.int 0))) (mC (.bl true)))))
      (mSq (mFor (mIenS 1 (mA1 (mVar 3) mA0)) (gT [5, 7]) (mIfS (mtNot (mTru (mCall (mOwn 2 (M_calls_only k)) (mA1 (mOp dIx (mVar 7) (mC (.int 4))) (mA1 (mVar 9) mA0))))) (mRaise "BadProgram" "line" (mVar 5)) mNx))
      (mRt (mCall dTuple (mA1 (mLc [8] (mIt (mVar 4)) (gN 8) mYes (mCall (mOwn 1 (M_function_of k)) (mA1 (mVar 8) mA0))) mA0)))))))))))
noncomputable def M_write_line : Nat → List Dt → Sto → Rs Dt
  | 0 => fun _ _ => .no
  | k + 1 => mFn 3 (mRt (mJs [(mFmt (mCall (mOwn 1 (M_write_term k)) (mA1 (mTup (mA1 (mVar 0) (mA1 (mVar 1) mA0))) mA0))), (mC (.str " = ")), (mFmt (mCall (mOwn 1 (M_write_term k)) (mA1 (mVar 2) mA0))), (mC (.str "\n"))]))
noncomputable def M_write_program : Nat → List Dt → Sto → Rs Dt
  | 0 => fun _ _ => .no
  | k + 1 => mFn 10 (mSq (mSet 1 (mGc (mLst mA0)))
      (mSq (mFor (mIt (mVar 0)) (gT [2, 3, 4, 5]) (mSq (mIfS (mT (mOp dEq (mVar 2) (mC (.str "plain")))) (mSq (mEx (mGc (mMt dAppend (mVar 1) (mA1 (mCall (mOwn 3 (M_write_line k)) (mA1 (mVar 3) (mA1 (mCall (mOwn 2 (M_lone_unknowns k)) (mA1 (mC (.int 0)) (mA1 (mVar 4) mA0))) (mA1 (mVar 5) mA0)))) mA0))))
      (mCt)) mNx)
      (mFor (mIt (mVar 5)) (gT [6, 7, 8]) (mSq (mSet 9 (mGc (mTup (mA1 (mVar 6) (mA1 (mCall (mOwn 2 (M_lone_unknowns k)) (mA1 (mC (.int 0)) (mA1 (mVar 7) mA0))) mA0)))))
      (mEx (mGc (mMt dAppend (mVar 1) (mA1 (mCall (mOwn 3 (M_write_line k)) (mA1 (mVar 3) (mA1 (mOp dAdd (mTup (mA1 (mVar 9) mA0)) (mCall (mOwn 2 (M_lone_unknowns k)) (mA1 (mVar 7) (mA1 (mOp dSub (mVar 4) (mC (.int 1))) mA0)))) (mA1 (mVar 8) mA0)))) mA0))))))))
      (mRt (mM1 dJoin (mC (.str "")) (mVar 1)))))
end DM

namespace DM
open PySem L2 MD
open DF (Tm)
open DF (Fn KOk lones)
section
variable {S Z : Sto}
/-! ### names of terms, equality of lists, sorts of heads -/
noncomputable def nmL (t : Tm) : List Key := DF.dedup (t.heads.filter fun k => !isUnkK k)
/-- a first letter that is small -/
def lowS (x : Str) : Bool := match x.cps.toList with
  | c :: _ => Txt.islower ⟨#[c]⟩
  | [] => false
def lowK : Key → Bool
  | .inl _ => false
  | .inr x => lowS x
def conK : Key → Bool
  | .inl _ => false
  | .inr x => !lowS x
/-! are_counted -/
def pairT (t : Tm) : DF.Dt := .tup [.key t.hd, .key (.inl (t.args.length : Int))]
open Classical in
noncomputable def cntT (ts : List Tm) : Bool := decide (ts = lones 0 ts.length)
end
end DM

namespace DM
open PySem L2 MD
open DF (Tm)
open DF (Fn KOk lones)
section
variable {S Z : Sto}
/-! ### read_line of any line -/
structure Row where
  nm : Str
  np : Nat
  c : Option Str
  nf : Nat
  b : Tm
def conD : Option Str → Dt
  | none => .non
  | some x => .str x
noncomputable def rowD (r : Row) : Dt := .tup [.str r.nm, .int (r.np : Int), conD r.c, .int (r.nf : Int), tD r.b]
noncomputable def optR : Option Row → Dt
  | none => .non
  | some r => rowD r
def geB (n : Int) : Key → Bool
  | .inl i => decide (n ≤ i)
  | .inr _ => false
def unkB (t : Tm) (n : Int) : Bool := (DF.dedup (t.heads.filter isUnkK)).any (geB n)
def splF : List Tm → Option Str × List Tm × List Tm
  | .mk (.inr c) fs :: os => if lowS c = true then (none, [], .mk (.inr c) fs :: os) else (some c, fs, os)
  | as => (none, [], as)
noncomputable def rowK (nm : Str) (as : List Tm) (b : Tm) (q : Option Str × List Tm × List Tm) : Option Row :=
  if 6 < q.2.1.length then none else if cntT (q.2.1 ++ q.2.2) = false then none else if 120 < b.size then none else if unkB b ((q.2.1.length : Int) + (q.2.2.length : Int)) = true then none else some ⟨nm, as.length, q.1, q.2.1.length, b⟩
noncomputable def rowF : Tm → Tm → Option Row
  | .mk (.inr nm) as, b => if lowS nm = false then none else if 100 < as.length then none else rowK nm as b (splF as)
  | .mk (.inl _) _, _ => none
noncomputable def rdL (x : Str) : Option Row := (rdT (Txt.partition x " = ").1).bind fun l => (rdT (Txt.partition x " = ").2.2).bind fun b => rowF l b
end
end DM

namespace DM
open PySem L2 MD
open DF (Tm)
open DF (Fn KOk lones)
section
variable {S Z : Sto}
theorem sz_wt0 : ∀ n : Nat, (∀ t : Tm, t.size ≤ n → t.All RK → t.size ≤ (wt t).length) ∧ (∀ ts : List Tm, Tm.sizeL ts ≤ n → (∀ t ∈ ts, t.All RK) → Tm.sizeL ts ≤ (wtL ts).length) := by
  intro n
  induction n with
  | zero =>
    refine ⟨fun t h => absurd t.size_pos (by omega), fun ts h _ => ?_⟩
    cases ts with
    | nil => rw [Tm.sizeL]; exact Nat.zero_le _
    | cons t ts => rw [Tm.sizeL] at h; exact absurd t.size_pos (by omega)
  | succ n ih =>
    have A : ∀ t : Tm, t.size ≤ n + 1 → t.All RK → t.size ≤ (wt t).length := by
      intro t hs ha
      cases t with
      | mk h ts =>
        rw [Tm.size] at hs
        have i := ih.2 ts (by omega) (fun t ht => all_sub' ha ht)
        have hp : 0 < (hcs h).length := List.length_pos_iff.mpr (rk_hok h (all_hd ha)).ne
        rw [wt, Tm.size, List.length_append]
        omega
    refine ⟨A, fun ts => ?_⟩
    induction ts with
    | nil => intro _ _; rw [Tm.sizeL]; exact Nat.zero_le _
    | cons t ts ihl =>
      intro hs ha
      rw [Tm.sizeL] at hs
      have h1 := A t (by omega) (ha t (List.mem_cons_self ..))
      have h2 := ihl (by omega) (fun t ht => ha t (List.mem_cons_of_mem _ ht))
      rw [wtL, Tm.sizeL]
      by_cases q : t.args = []
      · rw [if_pos q, List.length_append, List.length_cons]; omega
      · rw [if_neg q]
        simp only [List.length_append, List.length_cons, List.length_nil]
        omega
theorem sz_wt {t : Tm} (h : t.All RK) {n : Nat} (hn : (wtS t).length ≤ n) : t.size ≤ n := by
  have := (sz_wt0 t.size).1 t (Nat.le_refl _) h
  rw [slenT, wtS_cps] at hn
  omega
theorem optR_b (n : Nat) (o : Option Row) : (optR o).bdd n = true := by
  cases o with
  | none => exact bddNon
  | some r =>
    unfold optR rowD
    rw [bddTup, bddCons, bddCons, bddCons, bddCons, bddCons, bddNil, bddStr, bddInt, bddInt, tD_bdd]
    cases r.c with
    | none => rfl
    | some x => rfl
end
end DM

namespace DM
open PySem L2 MD
open DF (Tm)
open DF (Fn KOk lones)
section
variable {S Z : Sto}
/-! ### groups of rows -/
noncomputable def furP (r : Row) : List Row → Bool
  | [] => false
  | g :: gs => r.c.isSome && decide (r.nm = g.nm ∧ r.np = g.np) && (g :: gs).all fun o => o.c.isSome && !decide (o.c = r.c)
def nmG : List Row → Str
  | [] => Str.empty
  | g :: _ => g.nm
noncomputable def lastF (r : Row) (gs : List (List Row)) : Bool := match gs.getLast? with
  | some g => furP r g
  | none => false
/-- a row put behind the groups; none: it may not stand there -/
noncomputable def addR (r : Row) (gs : List (List Row)) : Option (List (List Row)) :=
  if lastF r gs = true then some (gs.dropLast ++ [(gs.getLast?.getD []) ++ [r]]) else if (gs.any fun g => decide (nmG g = r.nm)) = true then none else some (gs ++ [[r]])
/-- a row as it is read: its name is a text without strange signs -/
structure RowG (r : Row) : Prop where
  nm : RK (.inr r.nm)
  c : ∀ x, r.c = some x → RK (.inr x)
  np : r.np ≤ 1000
  nf : r.nf ≤ 1000
  b : r.b.All RK
  bz : r.b.size ≤ 9000
theorem rowD_b (q : Nat) (r : Row) : (rowD r).bdd q = true := optR_b q (some r)
theorem rowsD_b (q : Nat) : ∀ l : List Row, Dt.bddL q (l.map rowD) = true
  | [] => bddNil
  | r :: l => by rw [List.map_cons, bddCons, rowD_b, rowsD_b q l]; rfl
end
end DM

namespace DM
open PySem L2 MD
open DF (Tm)
open DF (Fn KOk lones)
section
variable {S Z : Sto}
/-! ### is_added -/
theorem ix_neg1 {A : Nat} {l : List Dt} {d : Dt} (g : Z[A]? = some (Cell.lst (l ++ [d]))) : dIx (.loc A) (.int (-1)) Z = .ok d Z := by
  rw [xIxL, g]
  dsimp only
  rw [show atI (l ++ [d]) (-1 : Int) = some d by
    unfold atI ixN
    rw [List.length_append, List.length_singleton, if_neg (by omega), if_pos (by omega)]
    rw [show (-1 + ((l.length + 1 : Nat) : Int)).toNat = l.length by omega]
    exact List.getElem?_concat_length]
def locG (gs : List (Nat × List Row)) : List Dt := gs.map fun p => .loc p.1
structure GrAt (S Z : Sto) (P : Nat) (gs : List (Nat × List Row)) : Prop where
  wf : Wf Z
  pre : ∃ G, Z = S ++ G
  gG : Z[P]? = some (Cell.lst (locG gs))
  gS : ∀ p ∈ gs, Z[p.1]? = some (Cell.lst (p.2.map rowD))
  nd : (gs.map (·.1)).Nodup
  ne : ∀ p ∈ gs, p.1 ≠ P ∧ S.length ≤ p.1
  lG : S.length ≤ P
  ok : ∀ p ∈ gs, p.2 ≠ [] ∧ p.2.length ≤ 900000 ∧ ∀ r ∈ p.2, RowG r
end
end DM

namespace DM
open PySem L2 MD
open DF (Tm)
open DF (Fn KOk lones)
section
variable {S Z : Sto}
/-! ### read_program: the rows -/
noncomputable def stepR (x : Str) (gs : List (List Row)) : Option (Row × List (List Row)) := (rdL x).bind fun r => (addR r gs).bind fun g => some (r, g)
noncomputable def ld1 : Nat → List Str → List (List Row) → List Row → Nat ⊕ (List (List Row) × List Row)
  | _, [], gs, rs => .inr (gs, rs)
  | n, x :: xs, gs, rs => match stepR x gs with
    | none => .inl n
    | some (r, g) => ld1 (n + 1) xs g (rs ++ [r])
/-! numbered items -/
def itmS {β : Type} (e : β → Dt) : Nat → List β → List Dt
  | _, [] => []
  | n, x :: xs => .tup [.int (n : Int), e x] :: itmS e (n + 1) xs
/-! the first loop -/
structure RpAt (S Z : Sto) (L R P : Nat) (ll : List Str) (rs : List Row) (gl : List (Nat × List Row)) : Prop where
  g : GrAt S Z P gl
  gL : Z[L]? = some (Cell.lst (ll.map .str))
  gR : Z[R]? = some (Cell.lst (rs.map rowD))
  LR : L ≠ R
  LP : L ≠ P
  RP : R ≠ P
  nL : L ∉ gl.map (·.1)
  nR : R ∉ gl.map (·.1)
  lR : S.length ≤ R
  rg : ∀ r ∈ rs, RowG r
variable {L R P : Nat} {ll : List Str}
theorem RpAt.row {rs : List Row} {gl : List (Nat × List Row)} (h : RpAt S Z L R P ll rs gl) {r : Row} (hr : RowG r) : RpAt S (Z.set R (Cell.lst ((rs ++ [r]).map rowD))) L R P ll (rs ++ [r]) gl := by
  have lR := (List.getElem?_eq_some_iff.mp h.gR).1
  have g := h.g
  refine { h with g := { g with wf := wf_set g.wf (rowsD_b _ _), pre := pre_set g.pre h.lR, gG := by rw [List.getElem?_set_ne h.RP]; exact g.gG, gS := fun p hp => ?_ }, gL := by rw [List.getElem?_set_ne (Ne.symm h.LR)]; exact h.gL, gR := by rw [List.getElem?_set_self lR], rg := fun q hq => ?_ }
  · rw [List.getElem?_set_ne]
    · exact g.gS p hp
    · intro e
      exact h.nR (e ▸ List.mem_map_of_mem hp)
  · rcases List.mem_append.mp hq with hq | hq
    · exact h.rg q hq
    · rw [List.mem_singleton.mp hq]; exact hr
abbrev rpE (x : Dt) (L : Nat) (rest : Str) (R P : Nat) (z5 z6 z7 z8 z9 : Option Dt) : MD.Env := [some x, some (.loc L), some (.str rest), some (.loc R), some (.loc P), z5, z6, z7, z8, z9]
def rpX (S : Sto) (F : Fl) (m : Nat) : Prop := ∃ (α : MD.Env) (G : Sto), F = .ex "BadProgram" [("line", .int (m : Int))] α (S ++ G)
end
end DM

namespace DM
open PySem L2 MD
open DF (Tm)
open DF (Fn KOk lones)
section
variable {S Z : Sto}
/-! ### the names that are defined -/
def kvN (ns : List Str) : List (Key × Dt) := ns.map fun x => (.inr x, .bl true)
/-- whether a function is among the names -/
def callK (ns : List Str) : Key → Bool
  | .inr x => decide (x ∈ ns)
  | .inl _ => false
/-! the second loop -/
noncomputable def ld2 : Nat → List Row → List Str → Option Nat
  | _, [], _ => none
  | n, r :: rs, ns => if ((nmL r.b).filter lowK).all (callK ns) = true then ld2 (n + 1) rs ns else some n
/-! functions -/
def ruleR (r : Row) : Str × Nat × Tm := (r.c.getD Str.empty, r.nf, r.b)
def fnG : List Row → Fn
  | [] => .plain Str.empty 0 (.mk (.inl 0) [])
  | r :: rs => match r.c with
    | none => .plain r.nm r.np r.b
    | some _ => .cases r.nm r.np ((r :: rs).map ruleR)
end
end DM

namespace DM
open PySem L2 MD
open DF (Tm)
open DF (Fn KOk lones)
section
variable {S Z : Sto}
/-! ### read_program of any text -/
structure GsOk (gs : List (List Row)) : Prop where
  ne : ∀ g ∈ gs, g ≠ []
  nd : (gs.map nmG).Nodup
  cs : ∀ r rs, r :: rs ∈ gs → r.c = none ∨ ∀ q ∈ r :: rs, q.c.isSome = true
noncomputable def fin2 (m : Nat) (rest : Str) (gs : List (List Row)) (rs : List Row) : Nat ⊕ List (List Row) := if rest.length ≠ 0 then .inl (m + 1) else match ld2 1 rs (gs.map nmG) with
    | some n => .inl n
    | none => .inr gs
/-- what the lines are: the wrong line, or the groups of rows -/
noncomputable def prgF (ls : List Str) (rest : Str) : Nat ⊕ List (List Row) := match ld1 1 ls [] [] with
  | .inl n => .inl n
  | .inr (gs, rs) => fin2 ls.length rest gs rs
def prgR (S : Sto) : Nat ⊕ List (List Row) → Rs Dt
  | .inl n => .ex "BadProgram" [("line", .int (n : Int))] S
  | .inr gs => .ok (.tup ((gs.map fnG).map fnD)) S
end
end DM

namespace DM
open PySem L2 MD
open DF (Tm)
open DF (Fn KOk lones)
section
variable {S Z : Sto}
/-! ### lines that are written, read again -/
mutual
theorem tD_injR : ∀ {a b : Tm}, tD a = tD b → a = b
  | .mk g ts, .mk h us, e => by
    rw [tD_mk, tD_mk] at e
    injection e with e
    injection e with e1 e2
    injection e2 with e2 _
    injection e2 with e2
    have hg : g = h := by
      cases g <;> cases h <;> first | (injection e1 with e1; rw [e1]) | (exact absurd e1 (by intro q; cases q))
    rw [hg, tDL_injR e2]
theorem tDL_injR : ∀ {a b : List Tm}, a.map tD = b.map tD → a = b
  | [], [], _ => rfl
  | [], _ :: _, e => by cases e
  | _ :: _, [], e => by cases e
  | a :: as, b :: bs, e => by
    rw [List.map_cons, List.map_cons] at e
    injection e with e1 e2
    rw [tD_injR e1, tDL_injR e2]
end
theorem chr_small {c : Nat} (h : Chr c) : c < 16 ^ 8 := by
  have a : ∀ c ∈ (LET ++ DIG).cps.toList, c < 128 := fun c hc => (aln_rng c hc).2.2.2.2.2
  rcases h with rfl | rfl | rfl | rfl | h
  · decide
  · decide
  · decide
  · decide
  · exact Nat.lt_trans (a c h) (by decide)
theorem rdT_wt {t : Tm} (ht : t.All RK) (hl : (wtS t).length ≤ 3000) : rdT (wtS t) = some t := by
  have e1 := read_term_eq 0 (S := []) rfl t ht (sz_wt ht hl) hl
  have e2 := read_term_all 0 (S := []) rfl (wtS t) hl (fun c hc => chr_small (wtS_chr ht c hc))
  rw [e1] at e2
  cases h : rdT (wtS t) with
  | none => rw [h] at e2; cases e2
  | some u =>
    rw [h] at e2
    injection e2 with e2 _
    rw [tD_injR e2]
/-- a row that can be written -/
structure RowW (r : Row) : Prop where
  nm : RK (.inr r.nm)
  low : lowS r.nm = true
  np : r.np ≤ 100
  c0 : r.c = none → r.nf = 0
  c1 : ∀ x, r.c = some x → RK (.inr x) ∧ lowS x = false ∧ r.nf ≤ 6 ∧ 1 ≤ r.np
  b : r.b.All RK
  bz : r.b.size ≤ 120
  bu : ∀ i : Int, (Sum.inl i : Key) ∈ r.b.heads → i < (r.nf : Int) + ((r.np : Int) - (if r.c.isSome then 1 else 0))
def leftA (r : Row) : List Tm := match r.c with
  | none => lones 0 r.np
  | some x => .mk (.inr x) (lones 0 r.nf) :: lones (r.nf : Int) (r.np - 1)
def leftT (r : Row) : Tm := .mk (.inr r.nm) (leftA r)
noncomputable def lineR (r : Row) : Str := (wtS (leftT r) ++ (" = " : Str)) ++ wtS r.b
end
end DM

namespace DM
open PySem L2 MD
open DF (Tm)
open DF (Fn KOk)
section
/-! ### a term's text, found piece by piece -/
def isSep (c : Nat) : Bool := c == 40 || c == 41 || c == 32
def pieS : List Nat → List Nat → List (List Nat)
  | w, [] => if w = [] then [] else [w]
  | w, c :: cs => if isSep c = true then (if w = [] then [] else [w]) ++ [c] :: pieS [] cs else pieS (w ++ [c]) cs
theorem pieS_flat : ∀ (cs w : List Nat), (pieS w cs).flatten = w ++ cs
  | [], w => by
    rw [pieS]
    by_cases h : w = []
    · rw [if_pos h, h]; rfl
    · rw [if_neg h, List.append_nil]; exact List.append_nil w
  | c :: cs, w => by
    rw [pieS]
    by_cases hs : isSep c = true
    · rw [if_pos hs]
      by_cases h : w = []
      · rw [if_pos h, h, List.nil_append, List.flatten_cons, pieS_flat cs []]; rfl
      · rw [if_neg h]
        show (w :: [c] :: pieS [] cs).flatten = _
        rw [List.flatten_cons, List.flatten_cons, pieS_flat cs []]; rfl
    · rw [if_neg hs, pieS_flat cs (w ++ [c]), List.append_assoc]; rfl
/-- a word, then nothing or a sign that parts -/
def endS (r : List Nat) : Prop := r = [] ∨ ∃ c q, r = c :: q ∧ isSep c = true
theorem pieS_word : ∀ (a w r : List Nat), (∀ c ∈ a, isSep c = false) → endS r → w ++ a ≠ [] → pieS w (a ++ r) = (w ++ a) :: pieS [] r
  | [], w, r, _, he, hn => by
    rw [List.append_nil] at hn
    rw [List.append_nil, List.nil_append]
    rcases he with rfl | ⟨c, q, rfl, hc⟩
    · rw [pieS, if_neg hn, pieS, if_pos rfl]
    · rw [pieS, if_pos hc, if_neg hn, pieS, if_pos hc, if_pos rfl]; rfl
  | c :: a, w, r, h, he, hn => by
    rw [List.cons_append, pieS, if_neg (by rw [h c (List.mem_cons_self ..)]; exact Bool.false_ne_true), pieS_word a (w ++ [c]) r (fun d hd => h d (List.mem_cons_of_mem _ hd)) he (by simp), List.append_assoc]
    rfl
theorem pieS_sep {c : Nat} (h : isSep c = true) (r : List Nat) : pieS [] (c :: r) = [c] :: pieS [] r := by
  rw [pieS, if_pos h, if_pos rfl]; rfl
def asmT : List Tm → Tm
  | [] => .mk (.inl 0) []
  | .mk h _ :: as => .mk h as
noncomputable def stM (l : List Nat) (top : List Tm) (stk : List (List Tm)) (p : List Nat) : Option (List Tm × List (List Tm)) :=
  if p = [40] then (if l ≠ [32] ∨ top = [] then none else some ([], top :: stk))
  else if p = [41] then (if (l = [40] ∨ l = [32]) ∨ top.length < 2 then none else match stk with
    | [] => none
    | w :: r => some (w ++ [asmT top], r))
  else if p = [32] then (if l = [40] ∨ l = [32] then none else some (top, stk))
  else (if ¬ (l = [40] ∨ l = [32]) then none else (keyF ⟨p.toArray⟩).map fun g => (top ++ [.mk g []], stk))
noncomputable def runM : List Nat → List Tm → List (List Tm) → List (List Nat) → Option (List Nat × List Tm × List (List Tm))
  | l, top, stk, [] => some (l, top, stk)
  | l, top, stk, p :: ps => (stM l top stk p).bind fun q => runM p q.1 q.2 ps
noncomputable def termM (x : List Nat) : Option Tm := (runM [40] [] [] (pieS [] x)).bind fun q => if q.2.2 = [] ∧ q.2.1 ≠ [] ∧ q.1 ≠ [32] then some (asmT q.2.1) else none
/-! what is accepted is written so -/
noncomputable def wtT : List Tm → List Nat
  | [] => []
  | .mk h _ :: as => hcs h ++ wtL as
noncomputable def rend : List (List Tm) → List Nat
  | [] => []
  | w :: r => rend r ++ wtT w ++ [32, 40]
theorem wtL_app : ∀ a b : List Tm, wtL (a ++ b) = wtL a ++ wtL b
  | [], b => by rw [wtL]; rfl
  | u :: a, b => by rw [List.cons_append, wtL, wtL, wtL_app a b, List.append_assoc]
theorem wtT_app {w : List Tm} (h : w ≠ []) (b : List Tm) : wtT (w ++ b) = wtT w ++ wtL b := by
  cases w with
  | nil => exact absurd rfl h
  | cons u w =>
    cases u with
    | mk g ts =>
      show hcs g ++ wtL (w ++ b) = (hcs g ++ wtL w) ++ wtL b
      rw [wtL_app, List.append_assoc]
theorem wt_asm {w : List Tm} (h : w ≠ []) : wt (asmT w) = wtT w := by
  cases w with
  | nil => exact absurd rfl h
  | cons u w => cases u with | mk g ts => show wt (.mk g w) = hcs g ++ wtL w; rw [wt]
theorem asm_args {w : List Tm} (h : w ≠ []) : (asmT w).args = w.tail := by
  cases w with
  | nil => exact absurd rfl h
  | cons u w => cases u with | mk g ts => rfl
theorem asm_rk {w : List Tm} (h : w ≠ []) (a : ∀ t ∈ w, t.All RK) : (asmT w).All RK := by
  cases w with
  | nil => exact absurd rfl h
  | cons u w =>
    cases u with
    | mk g ts => exact Tm.All.mk (all_hd (a _ (List.mem_cons_self ..))) fun t ht => a t (List.mem_cons_of_mem _ ht)
structure AccI (l : List Nat) (top : List Tm) (stk : List (List Tm)) (x : List Nat) : Prop where
  x : x = rend stk ++ wtT top ++ (if l = [32] then [32] else [])
  rs : ∀ w ∈ stk, w ≠ [] ∧ ∀ t ∈ w, t.All RK
  rt : ∀ t ∈ top, t.All RK
  o : l = [40] → top = []
  n : l ≠ [40] → top ≠ []
theorem acc_step {l : List Nat} {top : List Tm} {stk : List (List Tm)} {x p : List Nat} {q : List Tm × List (List Tm)} (I : AccI l top stk x) (h : stM l top stk p = some q) : AccI p q.1 q.2 (x ++ p) := by
  obtain ⟨hx, rs, rt, ho, hn⟩ := I
  unfold stM at h
  by_cases p1 : p = [40]
  · rw [if_pos p1] at h
    by_cases c : l ≠ [32] ∨ top = []
    · rw [if_pos c] at h; cases h
    · rw [if_neg c] at h
      cases h
      have l32 : l = [32] := Decidable.byContradiction fun q => c (.inl q)
      have tn : top ≠ [] := fun q => c (.inr q)
      rw [if_pos l32] at hx
      refine ⟨?_, fun w hw => ?_, fun t ht => absurd ht List.not_mem_nil, fun _ => rfl, fun q => absurd p1 q⟩
      · rw [hx, p1, if_neg (by decide), List.append_nil, rend, wtT, List.append_nil, List.append_assoc (rend stk ++ wtT top)]; rfl
      · rcases List.mem_cons.mp hw with rfl | hw
        · exact ⟨tn, rt⟩
        · exact rs w hw
  · rw [if_neg p1] at h
    by_cases p2 : p = [41]
    · rw [if_pos p2] at h
      by_cases c : (l = [40] ∨ l = [32]) ∨ top.length < 2
      · rw [if_pos c] at h; cases h
      · rw [if_neg c] at h
        cases stk with
        | nil => cases h
        | cons w r =>
          cases h
          have l1 : l ≠ [40] := fun q => c (.inl (.inl q))
          have l2 : l ≠ [32] := fun q => c (.inl (.inr q))
          have tl : 2 ≤ top.length := Nat.le_of_not_lt fun q => c (.inr q)
          have tn := hn l1
          obtain ⟨wn, wr⟩ := rs w (List.mem_cons_self ..)
          rw [if_neg l2, List.append_nil] at hx
          have an : (asmT top).args ≠ [] := by
            rw [asm_args tn]
            intro q
            have := congrArg List.length q
            rw [List.length_tail] at this
            have : top.length - 1 = 0 := this
            omega
          refine ⟨?_, fun v hv => rs v (List.mem_cons_of_mem _ hv), fun t ht => ?_, fun q => absurd q p1, fun _ => by simp⟩
          · rw [hx, p2, if_neg (by decide), List.append_nil, rend, wtT_app wn, wtL, if_neg an, wtL, List.append_nil, wt_asm tn]
            simp only [List.append_assoc, List.cons_append, List.nil_append]
          · rcases List.mem_append.mp ht with ht | ht
            · exact wr t ht
            · rw [List.mem_singleton.mp ht]; exact asm_rk tn rt
    · rw [if_neg p2] at h
      by_cases p3 : p = [32]
      · rw [if_pos p3] at h
        by_cases c : l = [40] ∨ l = [32]
        · rw [if_pos c] at h; cases h
        · rw [if_neg c] at h
          cases h
          have l1 : l ≠ [40] := fun q => c (.inl q)
          have l2 : l ≠ [32] := fun q => c (.inr q)
          rw [if_neg l2, List.append_nil] at hx
          exact ⟨by rw [hx, p3, if_pos rfl], rs, rt, fun q => absurd q p1, fun _ => hn l1⟩
      · rw [if_neg p3] at h
        by_cases c : ¬ (l = [40] ∨ l = [32])
        · rw [if_pos c] at h; cases h
        · rw [if_neg c] at h
          have c := Decidable.not_not.mp c
          cases hk : keyF ⟨p.toArray⟩ with
          | none => rw [hk] at h; cases h
          | some g =>
            rw [hk] at h
            cases h
            obtain ⟨rk, hg⟩ := keyF_some hk
            have hg : hcs g = p := by rw [hg]
            refine ⟨?_, rs, fun t ht => ?_, fun q => absurd q p1, fun _ => by simp⟩
            · rw [hx, if_neg p3, List.append_nil]
              rcases c with c | c
              · rw [ho c, if_neg (by rw [c]; decide), List.append_nil]
                show (rend stk ++ wtT []) ++ p = rend stk ++ (hcs g ++ wtL [])
                rw [wtT, wtL, List.append_nil, List.append_nil, hg]
              · rw [if_pos c, wtT_app (hn (by rw [c]; decide)), wtL, show (Tm.mk g []).args = [] from rfl, if_pos rfl, wt, wtL, List.append_nil, List.append_nil, hg]
                show _ = rend stk ++ _
                simp only [List.append_assoc, List.cons_append, List.nil_append]
            · rcases List.mem_append.mp ht with ht | ht
              · exact rt t ht
              · rw [List.mem_singleton.mp ht]
                exact Tm.All.mk rk fun u hu => absurd hu List.not_mem_nil
theorem acc_run : ∀ (ps : List (List Nat)) {l : List Nat} {top : List Tm} {stk : List (List Tm)} {x : List Nat} {q : List Nat × List Tm × List (List Tm)}, AccI l top stk x → runM l top stk ps = some q → AccI q.1 q.2.1 q.2.2 (x ++ ps.flatten)
  | [], l, top, stk, x, q, I, h => by rw [runM] at h; cases h; rw [List.flatten_nil, List.append_nil]; exact I
  | p :: ps, l, top, stk, x, q, I, h => by
    rw [runM] at h
    obtain ⟨s, e, h⟩ := Option.bind_eq_some_iff.mp h
    have := acc_run ps (acc_step I e) h
    rw [List.flatten_cons, ← List.append_assoc]
    exact this
theorem termM_some {x : List Nat} {t : Tm} (h : termM x = some t) : t.All RK ∧ wt t = x := by
  unfold termM at h
  obtain ⟨q, e, h⟩ := Option.bind_eq_some_iff.mp h
  have I := acc_run _ (x := []) ⟨by rfl, fun w hw => absurd hw List.not_mem_nil, fun t ht => absurd ht List.not_mem_nil, fun _ => rfl, fun q => absurd rfl q⟩ e
  by_cases c : q.2.2 = [] ∧ q.2.1 ≠ [] ∧ q.1 ≠ [32]
  · rw [if_pos c] at h
    cases h
    refine ⟨asm_rk c.2.1 I.rt, ?_⟩
    have := I.x
    rw [c.1, if_neg c.2.2, List.append_nil, rend, List.nil_append, List.nil_append, pieS_flat, List.nil_append] at this
    rw [wt_asm c.2.1, this]
  · rw [if_neg c] at h; cases h
/-! what is written so is accepted -/
theorem chr_sep {k : Key} (h : RK k) : ∀ c ∈ hcs k, isSep c = false := fun c hc => by
  have : ∀ c ∈ (LET ++ DIG).cps.toList, isSep c = false := by decide +kernel
  cases k with
  | inl i =>
    rw [hcs_inl (i := i) h.1] at hc
    rcases List.mem_cons.mp hc with rfl | hc
    · rfl
    · have := dgs_dig hc
      unfold isSep
      rw [Bool.or_eq_false_iff, Bool.or_eq_false_iff]
      exact ⟨⟨beq_eq_false_iff_ne.mpr (by omega), beq_eq_false_iff_ne.mpr (by omega)⟩, beq_eq_false_iff_ne.mpr (by omega)⟩
  | inr x => exact this c (h.2.2 c hc)
theorem hcs_nn {k : Key} (h : RK k) : hcs k ≠ [] := by
  cases k with
  | inl i => rw [hcs_inl (i := i) h.1]; exact List.cons_ne_nil _ _
  | inr x =>
    obtain ⟨_, ⟨c, r, e, _⟩, _⟩ := h
    show x.cps.toList ≠ []
    rw [e]; exact List.cons_ne_nil _ _
theorem hcs_no {k : Key} (h : RK k) {c : Nat} (hc : isSep c = true) : hcs k ≠ [c] := fun e => by
  have := chr_sep h c (by rw [e]; exact List.mem_singleton.mpr rfl)
  rw [hc] at this
  cases this
theorem st_word {k : Key} (h : RK k) {l : List Nat} (hl : l = [40] ∨ l = [32]) (top : List Tm) (stk : List (List Tm)) : stM l top stk (hcs k) = some (top ++ [.mk k []], stk) := by
  unfold stM
  rw [if_neg (hcs_no h (by rfl)), if_neg (hcs_no h (by rfl)), if_neg (hcs_no h (by rfl)), if_neg (fun q => q hl), keyF_of h (show (⟨(hcs k).toArray⟩ : Str).cps.toList = hcs k from rfl)]
  rfl
theorem end_wtL (ts : List Tm) {r : List Nat} (h : endS r) : endS (wtL ts ++ r) := by
  cases ts with
  | nil => rw [wtL]; exact h
  | cons u us =>
    rw [wtL]
    refine .inr ?_
    by_cases c : u.args = []
    · rw [if_pos c]; exact ⟨32, _, rfl, rfl⟩
    · rw [if_neg c]; exact ⟨32, _, rfl, rfl⟩
mutual
theorem run_tm : ∀ (t : Tm), t.All RK → ∀ (stk : List (List Tm)) (r : List Nat), endS r → ∃ l, l ≠ [40] ∧ l ≠ [32] ∧ runM [40] [] stk (pieS [] (wt t ++ r)) = runM l (.mk t.hd [] :: t.args) stk (pieS [] r)
  | .mk h ts, a, stk, r, he => by
    have rk : RK h := all_hd a
    rw [wt, List.append_assoc, pieS_word (hcs h) [] _ (chr_sep rk) (end_wtL ts he) (hcs_nn rk), List.nil_append, runM, st_word rk (.inl rfl), Option.bind_some]
    obtain ⟨l, l1, l2, e⟩ := run_ts ts (fun u hu => all_args a hu) (hcs h) (hcs_no rk rfl) (hcs_no rk rfl) [.mk h []] (List.cons_ne_nil _ _) stk r he
    exact ⟨l, l1, l2, e⟩
theorem run_ts : ∀ (ts : List Tm), (∀ t ∈ ts, t.All RK) → ∀ (l : List Nat), l ≠ [40] → l ≠ [32] → ∀ (top : List Tm), top ≠ [] → ∀ (stk : List (List Tm)) (r : List Nat), endS r → ∃ l', l' ≠ [40] ∧ l' ≠ [32] ∧ runM l top stk (pieS [] (wtL ts ++ r)) = runM l' (top ++ ts) stk (pieS [] r)
  | [], _, l, l1, l2, top, tn, stk, r, he => ⟨l, l1, l2, by rw [wtL, List.append_nil]; rfl⟩
  | .mk g us :: ts, a, l, l1, l2, top, tn, stk, r, he => by
    have au := a _ (List.mem_cons_self ..)
    have rk : RK g := all_hd au
    have at' : ∀ t ∈ ts, t.All RK := fun t ht => a t (List.mem_cons_of_mem _ ht)
    have s32 : ∀ t0 s0, stM l t0 s0 [32] = some (t0, s0) := fun t0 s0 => by
      unfold stM
      rw [if_neg (by decide), if_neg (by decide), if_pos rfl, if_neg (by rintro (q | q); exact l1 q; exact l2 q)]
    rw [wtL, show (Tm.mk g us).args = us from rfl]
    by_cases c : us = []
    · subst c
      rw [if_pos rfl, List.append_assoc, List.cons_append, pieS_sep rfl, runM, s32, Option.bind_some, wt, wtL, List.append_nil, pieS_word (hcs g) [] _ (chr_sep rk) (end_wtL ts he) (hcs_nn rk), List.nil_append, runM, st_word rk (.inr rfl), Option.bind_some]
      obtain ⟨l', h1, h2, e⟩ := run_ts ts at' (hcs g) (hcs_no rk rfl) (hcs_no rk rfl) (top ++ [.mk g []]) (by simp) stk r he
      refine ⟨l', h1, h2, ?_⟩
      rw [e, List.append_assoc]
      rfl
    · rw [if_neg c]
      simp only [List.cons_append, List.append_assoc, List.nil_append]
      rw [pieS_sep rfl, runM, s32, Option.bind_some, pieS_sep rfl, runM, show stM [32] top stk [40] = some ([], top :: stk) by
        unfold stM
        rw [if_pos rfl, if_neg (by rintro (q | q); exact q rfl; exact tn q)], Option.bind_some]
      obtain ⟨m, m1, m2, em⟩ := run_tm (.mk g us) au (top :: stk) (41 :: (wtL ts ++ r)) (.inr ⟨41, _, rfl, rfl⟩)
      rw [em, pieS_sep rfl, runM, show stM m (.mk (Tm.mk g us).hd [] :: (Tm.mk g us).args) (top :: stk) [41] = some (top ++ [.mk g us], stk) by
        unfold stM
        rw [if_neg (by decide), if_pos rfl, if_neg (by
          rintro ((q | q) | q)
          · exact m1 q
          · exact m2 q
          · have : us.length + 1 < 2 := q
            have := List.length_pos_iff.mpr c
            omega)]
        rfl, Option.bind_some]
      obtain ⟨l', h1, h2, e⟩ := run_ts ts at' [41] (by decide) (by decide) (top ++ [.mk g us]) (by simp) stk r he
      refine ⟨l', h1, h2, ?_⟩
      rw [e, List.append_assoc]
      rfl
end
theorem termM_wt {t : Tm} (h : t.All RK) : termM (wt t) = some t := by
  obtain ⟨l, l1, l2, e⟩ := run_tm t h [] [] (.inl rfl)
  rw [List.append_nil, show pieS [] [] = [] from rfl, runM] at e
  unfold termM
  rw [e, Option.bind_some, if_pos ⟨rfl, List.cons_ne_nil _ _, l2⟩]
  cases t with
  | mk g ts => rfl
/-- the two ways to read agree -/
theorem termM_rdT {x : Str} (h : x.length ≤ 3000) : termM x.cps.toList = rdT x := by
  cases e : rdT x with
  | some t =>
    obtain ⟨a, rfl⟩ := rdT_some e
    rw [wtS_cps]
    exact termM_wt a
  | none =>
    cases e2 : termM x.cps.toList with
    | none => rfl
    | some t =>
      obtain ⟨a, w⟩ := termM_some e2
      have : wtS t = x := PySem.Str.ext' (Array.toList_inj.mp (by rw [wtS_cps, w]))
      rw [← this] at e h
      rw [rdT_wt a h] at e
      cases e
end
end DM

namespace DM
open PySem L2 MD
open DF (Tm)
open DF (Fn KOk lones)
section
variable {S Z : Sto}
/-! ### a program's rows -/
def rowsOf : Fn → List Row
  | .plain y n b => [⟨y, n, none, 0, b⟩]
  | .cases y n rs => rs.map fun r => ⟨y, n, some r.1, r.2.1, r.2.2⟩
/-- a function that can be written; ns are the names that it may name -/
structure FnW (ns : List Str) (f : Fn) : Prop where
  ne : rowsOf f ≠ []
  w : ∀ r ∈ rowsOf f, RowW r ∧ ∀ x, (Sum.inr x : Key) ∈ r.b.heads → lowS x = true → x ∈ ns
  nd : ∀ y n rs, f = .cases y n rs → (rs.map (·.1)).Nodup
noncomputable def foldR : List Row → List (List Row) → Option (List (List Row))
  | [], gs => some gs
  | r :: rs, gs => (addR r gs).bind fun g => foldR rs g
end
end DM

namespace DM
open PySem L2 MD
open DF (Tm)
open DF (Fn KOk lones)
section
variable {S Z : Sto}
/-! ### write_program -/
noncomputable def wlS (r : Row) : Str := (((Str.empty ++ wtS (leftT r)) ++ (" = " : Str)) ++ wtS r.b) ++ ("\n" : Str)
abbrev wpE (x : Dt) (A : Nat) (z2 z3 z4 z5 z6 z7 z8 z9 : Option Dt) : MD.Env := [some x, some (.loc A), z2, z3, z4, z5, z6, z7, z8, z9]
end
end DM

namespace DM
open PySem L2 MD
noncomputable def M_h_rules : Nat → List Dt → Sto → Rs Dt
  | 0 => fun _ _ => .no
  | k + 1 => mFn 9 (mSq (mSet 4 (mGc (mOp dIx (mVar 2) (mC (.int 1)))))
      (mSq (mSet 5 (mGc (mCall (mOwn 3 (M_h_pick k)) (mA1 (mVar 0) (mA1 (mVar 1) (mA1 (mCall dLen (mA1 (mVar 4) mA0)) mA0))))))
      (mSq (mSet 6 (mGc (mLst mA0)))
      (mSq (mFor (mIt (mSl dSl (mOp dAdd (mSl dSl (mVar 4) (mOs (mVar 5)) mOn) (mSl dSl (mVar 4) mOn (mOs (mVar 5)))) mOn (mOs (mOp dAdd (mC (.int 1)) (mCall (mOwn 3 (M_h_pick k)) (mA1 (mVar 0) (mA1 (mVar 1) (mA1 (mCall dLen (mA1 (mVar 4) mA0)) mA0)))))))) (gT [7, 8]) (mSq (mIfS (mT (mOp dEq (mCall (mOwn 3 (M_h_pick k)) (mA1 (mVar 0) (mA1 (mVar 1) (mA1 (mC (.int 8)) mA0)))) (mC (.int 0)))) (mSet 8 (mGc (mCall (mOwn 3 (M_h_pick k)) (mA1 (mVar 0) (mA1 (mVar 1) (mA1 (mC (.int 7)) mA0)))))) mNx)
      (mSq (mSub (mVar 0) (mC (.int 3)) (mOp dAdd (mC (.int 1)) (mCall (mOwn 3 (M_h_pick k)) (mA1 (mVar 0) (mA1 (mVar 1) (mA1 (mOp dIx (mLst (mA1 (mC (.int 5)) (mA1 (mC (.int 12)) (mA1 (mC (.int 120)) mA0)))) (mCall (mOwn 3 (M_h_pick k)) (mA1 (mVar 0) (mA1 (mVar 1) (mA1 (mC (.int 3)) mA0))))) mA0))))))
      (mEx (mGc (mMt dAppend (mVar 6) (mA1 (mTup (mA1 (mVar 7) (mA1 (mVar 8) (mA1 (mCall (mOwn 5 (M_h_body k)) (mA1 (mVar 0) (mA1 (mVar 1) (mA1 (mVar 2) (mA1 (mOp dSub (mOp dAdd (mVar 8) (mVar 3)) (mC (.int 1))) (mA1 (mC (.int 0)) mA0)))))) mA0)))) mA0)))))))
      (mRt (mCall dTuple (mA1 (mVar 6) mA0)))))))
noncomputable def M_h_program : Nat → List Dt → Sto → Rs Dt
  | 0 => fun _ _ => .no
  | k + 1 => mFn 6 (mSq (mSet 3 (mGc (mLst mA0)))
      (mSq (mFor (mIt (mOp dIx (mVar 2) (mC (.int 0)))) (gT [4, 5]) (mIfS (mtAnd (mT (mOp dGt (mVar 5) (mC (.int 0)))) (mT (mOp dEq (mCall (mOwn 3 (M_h_pick k)) (mA1 (mVar 0) (mA1 (mVar 1) (mA1 (mC (.int 2)) mA0)))) (mC (.int 0))))) (mEx (mGc (mMt dAppend (mVar 3) (mA1 (mTup (mA1 (mC (.str "cases")) (mA1 (mVar 4) (mA1 (mVar 5) (mA1 (mCall (mOwn 4 (M_h_rules k)) (mA1 (mVar 0) (mA1 (mVar 1) (mA1 (mVar 2) (mA1 (mVar 5) mA0))))) mA0))))) mA0)))) (mSq (mSub (mVar 0) (mC (.int 3)) (mOp dAdd (mC (.int 1)) (mCall (mOwn 3 (M_h_pick k)) (mA1 (mVar 0) (mA1 (mVar 1) (mA1 (mOp dIx (mLst (mA1 (mC (.int 5)) (mA1 (mC (.int 12)) (mA1 (mC (.int 120)) mA0)))) (mCall (mOwn 3 (M_h_pick k)) (mA1 (mVar 0) (mA1 (mVar 1) (mA1 (mC (.int 3)) mA0))))) mA0))))))
      (mEx (mGc (mMt dAppend (mVar 3) (mA1 (mTup (mA1 (mC (.str "plain")) (mA1 (mVar 4) (mA1 (mVar 5) (mA1 (mCall (mOwn 5 (M_h_body k)) (mA1 (mVar 0) (mA1 (mVar 1) (mA1 (mVar 2) (mA1 (mVar 5) (mA1 (mC (.int 0)) mA0)))))) mA0))))) mA0)))))))
      (mRt (mCall dTuple (mA1 (mVar 3) mA0)))))
noncomputable def M_h_left : Nat → List Dt → Sto → Rs Dt
  | 0 => fun _ _ => .no
  | k + 1 => mFn 6 (mSq (mSet 4 (mGc (mLst mA0)))
      (mSq (mIfS (mT (mOp dNe (mVar 2) (mC (.str "")))) (mSet 4 (mGc (mLst (mA1 (mTup (mA1 (mVar 2) (mA1 (mCall dTuple (mA1 (mLc [5] (mIr1 (mA1 (mVar 3) mA0)) (gN 5) mYes (mTup (mA1 (mVar 5) (mA1 (mTup mA0) mA0)))) mA0)) mA0))) mA0)))) mNx)
      (mSq (mFor (mIr2 (mA1 (mVar 3) (mA1 (mOp dSub (mOp dAdd (mVar 3) (mVar 1)) (mCall dLen (mA1 (mVar 4) mA0))) mA0))) (gN 5) (mEx (mGc (mMt dAppend (mVar 4) (mA1 (mTup (mA1 (mVar 5) (mA1 (mTup mA0) mA0))) mA0)))))
      (mRt (mTup (mA1 (mVar 0) (mA1 (mCall dTuple (mA1 (mVar 4) mA0)) mA0)))))))
noncomputable def M_h_lines : Nat → List Dt → Sto → Rs Dt
  | 0 => fun _ _ => .no
  | k + 1 => mFn 7 (mSq (mSet 1 (mGc (mLst mA0)))
      (mSq (mFor (mIt (mVar 0)) (gN 2) (mIfS (mT (mOp dEq (mOp dIx (mVar 2) (mC (.int 0))) (mC (.str "plain")))) (mEx (mGc (mMt dAppend (mVar 1) (mA1 (mOp dAdd (mOp dAdd (mCall (mOwn 1 (M_h_written k)) (mA1 (mCall (mOwn 4 (M_h_left k)) (mA1 (mOp dIx (mVar 2) (mC (.int 1))) (mA1 (mOp dIx (mVar 2) (mC (.int 2))) (mA1 (mC (.str "")) (mA1 (mC (.int 0)) mA0))))) mA0)) (mC (.str " = "))) (mCall (mOwn 1 (M_h_written k)) (mA1 (mOp dIx (mVar 2) (mC (.int 3))) mA0))) mA0)))) (mFor (mIt (mOp dIx (mVar 2) (mC (.int 3)))) (gT [3, 4, 5]) (mSq (mSet 6 (mGc (mCall (mOwn 4 (M_h_left k)) (mA1 (mOp dIx (mVar 2) (mC (.int 1))) (mA1 (mOp dIx (mVar 2) (mC (.int 2))) (mA1 (mVar 3) (mA1 (mVar 4) mA0)))))))
      (mEx (mGc (mMt dAppend (mVar 1) (mA1 (mOp dAdd (mOp dAdd (mCall (mOwn 1 (M_h_written k)) (mA1 (mVar 6) mA0)) (mC (.str " = "))) (mCall (mOwn 1 (M_h_written k)) (mA1 (mVar 5) mA0))) mA0))))))))
      (mRt (mVar 1))))
end DM

namespace DM
open PySem L2 MD
open DF (Tm)
open DF (Fn KOk lones)
section
variable {S Z : Sto}
/-! ### h_left, h_lines -/
theorem ne_ss {a b : Str} : dNe (.str a) (.str b) S = .ok (.bl (!decide (a = b))) S := by
  show dEqG true (.str a) (.str b) S = _
  have e : dEqG false (.str a) (.str b) S = _ := eq_ss (S := S)
  simp only [dEqG, eqSc] at e ⊢
  simp
end
end DM

namespace DM
open PySem L2 MD
noncomputable def M_h_is_name : Nat → List Dt → Sto → Rs Dt
  | 0 => fun _ _ => .no
  | k + 1 => mFn 3 (mSq (mSet 1 (mGc (mC (.str "abcdefghijklmnopqrstuvwxyzABCDEFGHIJKLMNOPQRSTUVWXYZ"))))
      (mSq (mIfS (mtOr (mtNot (mT (mChain dLe dLe (mC (.int 1)) (mCall dLen (mA1 (mVar 0) mA0)) (mC (.int 12))))) (mT (mOp dNotIn (mOp dIx (mVar 0) (mC (.int 0))) (mVar 1)))) (mRt (mC (.bl false))) mNx)
      (mRt (mOp dEq (mCall dLen (mA1 (mLc [2] (mIts (mVar 0)) (gN 2) (mT (mOp dNotIn (mVar 2) (mOp dAdd (mVar 1) (mC (.str "0123456789"))))) (mVar 2)) mA0)) (mC (.int 0))))))
noncomputable def M_h_is_head : Nat → List Dt → Sto → Rs Dt
  | 0 => fun _ _ => .no
  | k + 1 => mFn 3 (mSq (mIfS (mT (mOp dNe (mSl dSl (mVar 0) mOn (mOs (mC (.int 1)))) (mC (.str "?")))) (mRt (mCall (mOwn 1 (M_h_is_name k)) (mA1 (mVar 0) mA0))) mNx)
      (mSq (mSet 1 (mGc (mSl dSl (mVar 0) (mOs (mC (.int 1))) mOn)))
      (mSq (mIfS (mtOr (mtNot (mT (mChain dLe dLe (mC (.int 1)) (mCall dLen (mA1 (mVar 1) mA0)) (mC (.int 4))))) (mtAnd (mT (mOp dGt (mCall dLen (mA1 (mVar 1) mA0)) (mC (.int 1)))) (mT (mOp dEq (mOp dIx (mVar 1) (mC (.int 0))) (mC (.str "0")))))) (mRt (mC (.bl false))) mNx)
      (mRt (mOp dEq (mCall dLen (mA1 (mLc [2] (mIts (mVar 1)) (gN 2) (mT (mOp dNotIn (mVar 2) (mC (.str "0123456789")))) (mVar 2)) mA0)) (mC (.int 0)))))))
noncomputable def M_h_pieces : Nat → List Dt → Sto → Rs Dt
  | 0 => fun _ _ => .no
  | k + 1 => mFn 4 (mSq (mSet 1 (mGc (mLst mA0)))
      (mSq (mSet 2 (mGc (mC (.str ""))))
      (mSq (mFor (mIts (mVar 0)) (gN 3) (mIfS (mT (mOp dIn (mVar 3) (mC (.str "() ")))) (mSq (mIfS (mT (mOp dNe (mVar 2) (mC (.str "")))) (mEx (mGc (mMt dAppend (mVar 1) (mA1 (mVar 2) mA0)))) mNx)
      (mSq (mEx (mGc (mMt dAppend (mVar 1) (mA1 (mVar 3) mA0))))
      (mSet 2 (mGc (mC (.str "")))))) (mSet 2 (mGc (mOp dAdd (mVar 2) (mVar 3))))))
      (mSq (mIfS (mT (mOp dNe (mVar 2) (mC (.str "")))) (mEx (mGc (mMt dAppend (mVar 1) (mA1 (mVar 2) mA0)))) mNx)
      (mRt (mVar 1))))))
noncomputable def M_h_is_term : Nat → List Dt → Sto → Rs Dt
  | 0 => fun _ _ => .no
  | k + 1 => mFn 4 (mSq (mSet 1 (mGc (mC (.str "("))))
      (mSq (mSet 2 (mGc (mLst (mA1 (mC (.int 0)) mA0))))
      (mSq (mFor (mIt (mCall (mOwn 1 (M_h_pieces k)) (mA1 (mVar 0) mA0))) (gN 3) (mSq (mIfS (mT (mOp dEq (mVar 3) (mC (.str "(")))) (mSq (mIfS (mtOr (mT (mOp dNe (mVar 1) (mC (.str " ")))) (mT (mOp dEq (mOp dIx (mVar 2) (mUn dNeg (mC (.int 1)))) (mC (.int 0))))) (mRt (mC (.bl false))) mNx)
      (mEx (mGc (mMt dAppend (mVar 2) (mA1 (mC (.int 0)) mA0))))) (mIfS (mT (mOp dEq (mVar 3) (mC (.str ")")))) (mSq (mIfS (mtOr (mT (mOp dIn (mVar 1) (mC (.str "( ")))) (mtOr (mT (mOp dLt (mCall dLen (mA1 (mVar 2) mA0)) (mC (.int 2)))) (mT (mOp dLt (mOp dIx (mVar 2) (mUn dNeg (mC (.int 1)))) (mC (.int 2)))))) (mRt (mC (.bl false))) mNx)
      (mSq (mEx (mGc (mMt0 dPop (mVar 2))))
      (mSub (mVar 2) (mUn dNeg (mC (.int 1))) (mOp dAdd (mOp dIx (mVar 2) (mUn dNeg (mC (.int 1)))) (mC (.int 1)))))) (mIfS (mT (mOp dEq (mVar 3) (mC (.str " ")))) (mIfS (mT (mOp dIn (mVar 1) (mC (.str "( ")))) (mRt (mC (.bl false))) mNx) (mSq (mIfS (mtOr (mT (mOp dNotIn (mVar 1) (mC (.str "( ")))) (mtNot (mTru (mCall (mOwn 1 (M_h_is_head k)) (mA1 (mVar 3) mA0))))) (mRt (mC (.bl false))) mNx)
      (mSub (mVar 2) (mUn dNeg (mC (.int 1))) (mOp dAdd (mOp dIx (mVar 2) (mUn dNeg (mC (.int 1)))) (mC (.int 1))))))))
      (mSet 1 (mGc (mVar 3)))))
      (mRt (mAnd (mOp dEq (mCall dLen (mA1 (mVar 2) mA0)) (mC (.int 1))) (mAnd (mOp dGt (mOp dIx (mVar 2) (mC (.int 0))) (mC (.int 0))) (mOp dNe (mVar 1) (mC (.str " ")))))))))
end DM

namespace DM
open PySem L2 MD
open DF (Tm)
open DF (Fn KOk)
section
variable {S Z : Sto}
/-! ### the law's names and heads -/
theorem notin_c {A : Str} {c : Nat} : dNotIn (chrD c) (.str A) S = .ok (.bl (!inS A c)) S := rfl
theorem notin_c' {A : Str} {c : Nat} : dNotIn (.str ⟨#[c]⟩) (.str A) S = .ok (.bl (!inS A c)) S := rfl
theorem chain_len' {a c : Int} {x : Str} {α : MD.Env} {i : Nat} (h : x.length ≤ 1000000) (hx : ∀ Z, mVar i α Z = .ok (.str x) Z) : mChain dLe dLe (mC (.int a)) (mCall dLen (mA1 (mVar i) mA0)) (mC (.int c)) α S = .ok (.bl (decide (a ≤ (x.length : Int) ∧ (x.length : Int) ≤ c))) S := by
  unfold mChain
  rw [sC, bind_ok, sCall, sA1, hx, bind_ok, sA0, bind_ok, bind_ok, len_s h, bind_ok, show ∀ i j : Int, dLe (.int i) (.int j) S = .ok (.bl (decide (i ≤ j))) S from fun _ _ => rfl, bind_ok]
  by_cases h1 : a ≤ (x.length : Int)
  · rw [decide_eq_true h1]
    dsimp only
    rw [sC, bind_ok, show ∀ i j : Int, dLe (.int i) (.int j) S = .ok (.bl (decide (i ≤ j))) S from fun _ _ => rfl]
    congr 2
    rw [decide_eq_decide]
    omega
  · rw [decide_eq_false h1, decide_eq_false (fun q => h1 q.1)]
theorem none_out (l : List Nat) (f : Nat → Bool) : decide (((l.filter fun c => !f c).length : Int) = 0) = l.all f := by
  induction l with
  | nil => rfl
  | cons c l ih =>
    rw [List.all_cons, ← ih]
    cases h : f c with
    | true => rw [List.filter_cons_of_neg (by rw [h]; exact Bool.false_ne_true), Bool.true_and]
    | false =>
      rw [List.filter_cons_of_pos (by rw [h]; rfl), Bool.false_and, List.length_cons]
      exact decide_eq_false (by omega)
/-- the characters of a word that are not in a text, counted -/
theorem out_cnt {x A : Str} {α α2 : MD.Env} {i j : Nat} {me : ME} (hα : wipeE α [j] = α2) (hx : ∀ Z, mVar i α Z = .ok (.str x) Z) (hA : ∀ c, me (α2.set j (some (chrD c))) S = .ok (.str A) S) (hj : ∀ c, mVar j (α2.set j (some (chrD c))) S = .ok (chrD c) S) (hl : x.length ≤ 100000) :
    mOp dEq (mCall dLen (mA1 (mLc [j] (mIts (mVar i)) (gN j) (mT (mOp dNotIn (mVar j) me)) (mVar j)) mA0)) (mC (.int 0)) α S = .ok (.bl (x.cps.toList.all fun c => inS A c)) (S ++ [Cell.lst ((x.cps.toList.filter fun c => !inS A c).map chrD)]) := by
  have ll := slenT x
  have lc := lcGo_pure (S := S) (c := none) (g := gN j) (t := mT (mOp dNotIn (mVar j) me)) (m := mVar j) (α := α2) True.intro chrD (fun c => !inS A c) chrD x.cps.toList [] (fun c hc => ⟨α2.set j (some (chrD c)), rfl, by
    rw [sT, sOp, hj, bind_ok, hA, bind_ok, notin_c, bind_ok, sasB], fun _ => hj c⟩) (by rw [List.length_nil]; omega)
  have a2 : mLc [j] (mIts (mVar i)) (gN j) (mT (mOp dNotIn (mVar j) me)) (mVar j) α S = .ok (.loc S.length) (S ++ [Cell.lst ((x.cps.toList.filter fun c => !inS A c).map chrD)]) := by
    unfold mLc mIts
    rw [hx, bind_ok, show itOfS (.str x) S = .ok (x.cps.toList.map chrD, none) S from rfl, bind_ok, hα]
    show Rs.bind (lcGo none _ _ _ α2 _ _ _) _ = _
    rw [lc, bind_ok, List.nil_append]
  rw [sOp, sCall, sA1, a2, bind_ok, sA0, bind_ok, bind_ok, len_loc get0, bind_ok, sC, bind_ok, eq_ii, List.length_map, none_out]
theorem nameB_at {x : Str} {c : Nat} {r : List Nat} (e : x.cps.toList = c :: r) : nameB x = (decide (1 ≤ x.length ∧ x.length ≤ 12) && inS LET c && x.cps.toList.all fun c => inS (LET ++ DIG) c) := by
  unfold nameB
  rw [e]
theorem nameB_no {x : Str} (h : ¬ (1 ≤ x.length ∧ x.length ≤ 12)) : nameB x = false := by
  unfold nameB
  rw [decide_eq_false h, Bool.false_and, Bool.false_and]
theorem lis_name (k : Nat) (hS : Wf S) {x : Str} (hx : x.length ≤ 100000) : M_h_is_name (k + 1) [.str x] S = .ok (.bl (nameB x)) S := by
  rw [M_h_is_name, mFn_eq, show startE 3 [.str x] = [some (.str x), none, none] from rfl]
  rw [sSq, sSet, sGc (d := .str LET) (S' := S) rfl, gc_same, rthen_ok, fthen_nx]
  simp only [xset_s, xset_0]
  rw [sSq, sIfS, stOr, stNot, sT, chain_len' (x := x) (by omega) (fun Z => rfl), bind_ok, sasB, bind_ok]
  by_cases h : 1 ≤ x.length ∧ x.length ≤ 12
  · rw [show decide ((1 : Int) ≤ (x.length : Int) ∧ (x.length : Int) ≤ 12) = true from decide_eq_true ⟨by omega, by omega⟩, Bool.not_true, bind_ok, if_neg Bool.false_ne_true]
    obtain ⟨c, r, e⟩ : ∃ c r, x.cps.toList = c :: r := by
      cases q : x.cps.toList with
      | nil => have := slenT x; rw [q] at this; rw [this] at h; exact absurd h.1 (by decide)
      | cons c r => exact ⟨c, r, rfl⟩
    rw [sT, sOp, sOp, sVar0, bind_ok, sC, bind_ok, ix_s0 (by omega) e, bind_ok, sVar1, bind_ok, notin_c', bind_ok, sasB, rthen_ok, nameB_at e, decide_eq_true h]
    cases h2 : inS LET c with
    | false =>
      rw [Bool.not_false, if_pos rfl, sRt, sC, rthen_ok, fthen_rt]
      rw [Bool.and_false, Bool.false_and]
      exact gc_same
    | true =>
      rw [Bool.not_true, if_neg Bool.false_ne_true, sNx, fthen_nx, sRt, out_cnt (A := LET ++ DIG) (α2 := [some (.str x), some (.str LET), none]) rfl (fun Z => rfl) (fun c => by
        rw [sOp, show ([some (.str x), some (.str LET), none] : MD.Env).set 2 (some (chrD c)) = [some (.str x), some (.str LET), some (chrD c)] from rfl, sVar1, bind_ok, sC, bind_ok]
        unfold dAdd
        dsimp only
        rw [if_pos (by decide +kernel)]
        rfl) (fun c => rfl) hx, rthen_ok]
      rw [Bool.true_and, Bool.true_and]
      exact gc_drop hS bddBl
  · rw [show decide ((1 : Int) ≤ (x.length : Int) ∧ (x.length : Int) ≤ 12) = false from decide_eq_false (by omega), nameB_no h, Bool.not_false, bind_ok, if_pos rfl, rthen_ok, if_pos rfl, sRt, sC, rthen_ok, fthen_rt]
    exact gc_same
theorem cut_head {x : Str} : cutS x none (some 1) = ⟨(x.cps.toList.take 1).toArray⟩ := by
  unfold cutS
  have hl := slenT x
  rw [show HT.sIx x.length x.length (some (1 : Int)) = min 1 x.length by rw [show (1 : Int) = ((1 : Nat) : Int) from rfl, HT.sIx_nat], HT.sIx_none, List.drop_zero, Nat.sub_zero]
  by_cases h10 : 1 ≤ x.length
  · rw [Nat.min_eq_left h10]
  · rw [Nat.min_eq_right (by omega), List.take_of_length_le (by omega), List.take_of_length_le (by omega)]
theorem cut_tail {x : Str} {c : Nat} {r : List Nat} (e : x.cps.toList = c :: r) : cutS x (some 1) none = ⟨r.toArray⟩ := by
  have xl : x.length = r.length + 1 := by rw [slenT, e, List.length_cons]
  unfold cutS
  rw [show HT.sIx x.length 0 (some (1 : Int)) = 1 by rw [show (1 : Int) = ((1 : Nat) : Int) from rfl, HT.sIx_nat]; omega, HT.sIx_none, e, List.drop_one, List.tail_cons, List.take_of_length_le (by omega)]
theorem name_q {x : Str} {r : List Nat} (e : x.cps.toList = 63 :: r) : nameB x = false := by
  rw [nameB_at e, show inS LET 63 = false from Bool.eq_false_iff.mpr fun q => absurd ((inS_iff _ _).mp q) (by decide +kernel), Bool.and_false, Bool.false_and]
theorem str1 {c d : Nat} : decide ((⟨#[c]⟩ : Str) = ⟨#[d]⟩) = decide (c = d) := decide_eq_decide.mpr ⟨fun q => by
  have := congrArg (fun s : Str => s.cps.toList) q
  injection this, fun q => by rw [q]⟩
theorem lis_head (k : Nat) (hS : Wf S) {x : Str} (hx : x.length ≤ 60000) : M_h_is_head (k + 2) [.str x] S = .ok (.bl (keyF x).isSome) S := by
  rw [M_h_is_head, mFn_eq, show startE 3 [.str x] = [some (.str x), none, none] from rfl]
  have s1 : mSl dSl (mVar 0) mOn (mOs (mC (.int 1))) [some (.str x), none, none] S = .ok (.str ⟨(x.cps.toList.take 1).toArray⟩) S := by
    rw [sSl, sVar0, bind_ok, sOn, bind_ok, sOs, sC, bind_ok]
    dsimp only
    rw [bind_ok]
    unfold dSl
    dsimp only
    rw [if_pos (by omega), cut_head]
  have q1 : ("?" : Str) = ⟨#[63]⟩ := by decide +kernel
  rw [sSq, sIfS, sT, sOp, s1, bind_ok, sC, bind_ok, show Dt.str (Str.ofString "?") = .str ⟨#[63]⟩ by rw [← q1], ne_ss, bind_ok, sasB, rthen_ok]
  unfold keyF
  by_cases hq : ∃ r, x.cps.toList = 63 :: r
  · obtain ⟨r, e⟩ := hq
    have xl : x.length = r.length + 1 := by rw [slenT, e, List.length_cons]
    have rl : (⟨r.toArray⟩ : Str).length = r.length := by show r.toArray.size = _; rw [List.size_toArray]
    have rc : (⟨r.toArray⟩ : Str).cps.toList = r := rfl
    rw [show (⟨(x.cps.toList.take 1).toArray⟩ : Str) = ⟨#[63]⟩ by rw [e]; rfl, decide_eq_true rfl, Bool.not_true, if_neg Bool.false_ne_true, sNx, fthen_nx, name_q e, if_neg Bool.false_ne_true, e, unkF]
    have sl : mSl dSl (mVar 0) (mOs (mC (.int 1))) mOn [some (.str x), none, none] S = .ok (.str ⟨r.toArray⟩) S := by
      rw [sSl, sVar0, bind_ok, sOs, sC, bind_ok]
      dsimp only
      rw [bind_ok, sOn, bind_ok]
      unfold dSl
      dsimp only
      rw [if_pos (by omega), cut_tail e]
    rw [sSq, sSet, sGc sl, gc_same, rthen_ok, fthen_nx]
    simp only [xset_s, xset_0]
    have isS : (if numB ⟨r.toArray⟩ = true then some ((.inl ((PySem.NumText.digitsVal r : Nat) : Int)) : Key) else none).isSome = numB ⟨r.toArray⟩ := by
      cases numB ⟨r.toArray⟩ <;> rfl
    rw [isS]
    unfold numB
    rw [sSq, sIfS, stOr, stNot, sT, chain_len' (x := ⟨r.toArray⟩) (by omega) (fun Z => rfl), bind_ok, sasB, bind_ok]
    by_cases h : 1 ≤ (⟨r.toArray⟩ : Str).length ∧ (⟨r.toArray⟩ : Str).length ≤ 4
    · rw [show decide ((1 : Int) ≤ ((⟨r.toArray⟩ : Str).length : Int) ∧ ((⟨r.toArray⟩ : Str).length : Int) ≤ 4) = true from decide_eq_true ⟨by omega, by omega⟩, decide_eq_true h, Bool.not_true, bind_ok, if_neg Bool.false_ne_true]
      obtain ⟨c, r', e2⟩ : ∃ c r', (⟨r.toArray⟩ : Str).cps.toList = c :: r' := by
        cases q : r with
        | nil => rw [rl, q] at h; exact absurd h.1 (by decide)
        | cons c r => exact ⟨c, r, rfl⟩
      have e3 : r = c :: r' := by rw [← rc, e2]
      have fin : mOp dEq (mCall dLen (mA1 (mLc [2] (mIts (mVar 1)) (gN 2) (mT (mOp dNotIn (mVar 2) (mC (.str "0123456789")))) (mVar 2)) mA0)) (mC (.int 0)) [some (.str x), some (.str ⟨r.toArray⟩), none] S = .ok (.bl ((⟨r.toArray⟩ : Str).cps.toList.all fun c => inS DIG c)) (S ++ [Cell.lst (((⟨r.toArray⟩ : Str).cps.toList.filter fun c => !inS DIG c).map chrD)]) := out_cnt (A := DIG) (α2 := [some (.str x), some (.str ⟨r.toArray⟩), none]) rfl (fun Z => rfl) (fun c => rfl) (fun c => rfl) (by omega)
      have s0 : decide ((⟨r.toArray⟩ : Str) = Str.ofString "0") = decide (r = [48]) := decide_eq_decide.mpr ⟨fun q => by
        have := congrArg (fun s : Str => s.cps.toList) q
        exact this.trans (by decide +kernel), fun q => by rw [q]; decide +kernel⟩
      rw [stAnd, sT, sOp, sCall, sA1, sVar1, bind_ok, sA0, bind_ok, bind_ok, len_s (by omega), bind_ok, sC, bind_ok, show ∀ i : Int, dGt (.int i) (.int 1) S = .ok (.bl (decide (1 < i))) S from fun _ => rfl, bind_ok, sasB, bind_ok, rl]
      rw [e2]
      dsimp only
      rw [← e2]
      by_cases l1 : 1 < (r.length : Int)
      · rw [decide_eq_true l1, if_pos rfl, sT, sOp, sOp, sVar1, bind_ok, sC, bind_ok, ix_s0 (by omega) e2, bind_ok, sC, bind_ok, show Dt.str (Str.ofString "0") = .str ⟨#[48]⟩ by rw [show (Str.ofString "0") = (⟨#[48]⟩ : Str) by decide +kernel], eq_ss, str1, bind_ok, sasB, rthen_ok]
        have n0 : decide (r = [48]) = false := decide_eq_false fun q => by rw [q] at l1; exact absurd l1 (by decide)
        by_cases c0 : c = 48
        · rw [decide_eq_true c0, if_pos rfl, sRt, sC, rthen_ok, fthen_rt, s0, n0, Bool.not_true, Bool.or_false, Bool.and_false]
          exact gc_same
        · rw [decide_eq_false c0, if_neg Bool.false_ne_true, sNx, fthen_nx, sRt, fin, rthen_ok, Bool.not_false, Bool.or_true, Bool.and_true, Bool.true_and]
          exact gc_drop hS bddBl
      · have r1 : r' = [] := by
          rw [e3, List.length_cons] at l1
          exact List.eq_nil_of_length_eq_zero (by omega)
        rw [decide_eq_false l1, if_neg Bool.false_ne_true, rthen_ok, if_neg Bool.false_ne_true, sNx, fthen_nx, sRt, fin, rthen_ok, Bool.true_and, s0]
        have : (decide (r = [48]) || !decide (c = 48)) = true := by
          rw [e3, r1]
          by_cases c0 : c = 48
          · rw [c0]; rfl
          · rw [decide_eq_false c0, Bool.not_false, Bool.or_true]
        rw [this, Bool.and_true]
        exact gc_drop hS bddBl
    · rw [show decide ((1 : Int) ≤ ((⟨r.toArray⟩ : Str).length : Int) ∧ ((⟨r.toArray⟩ : Str).length : Int) ≤ 4) = false from decide_eq_false (by omega), decide_eq_false h, Bool.not_false, bind_ok, if_pos rfl, rthen_ok, if_pos rfl, sRt, sC, rthen_ok, fthen_rt, Bool.false_and, Bool.false_and]
      exact gc_same
  · have hq' : ∀ r, x.cps.toList ≠ 63 :: r := fun r q => hq ⟨r, q⟩
    rw [decide_eq_false (fun q => by
      have := congrArg (fun s : Str => s.cps.toList) q
      have : x.cps.toList.take 1 = [63] := this
      cases h : x.cps.toList with
      | nil => rw [h] at this; cases this
      | cons c r =>
        rw [h] at this
        injection this with e
        exact hq' r (by rw [h, e])), Bool.not_false, if_pos rfl, sRt, sCall, sA1, sVar0, bind_ok, sA0, bind_ok, bind_ok, own1, lis_name k hS (by omega), rthen_ok, fthen_rt, unkF_no hq']
    rw [show (if nameB x = true then some ((.inr x) : Key) else none).isSome = nameB x by cases nameB x <;> rfl]
    exact gc_same
end
end DM

namespace DM
open PySem L2 MD
open DF (Tm)
open DF (Fn KOk lones)
section
variable {S Z Z1 : Sto} {st : Nat} {d : Int} {α : MD.Env}
/-! ### what a text is made of: how many signs, which, how many opening parentheses -/
def BLl (n c : Nat) (l : List Nat) : Prop := l.length ≤ n ∧ (∀ x ∈ l, x < 16 ^ 8) ∧ l.count 40 ≤ c
def BL (n c : Nat) (x : Str) : Prop := BLl n c x.cps.toList
theorem BLl.app {n c m e : Nat} {l k : List Nat} (h : BLl n c l) (g : BLl m e k) : BLl (n + m) (c + e) (l ++ k) := by
  obtain ⟨h1, h2, h3⟩ := h
  obtain ⟨g1, g2, g3⟩ := g
  refine ⟨by rw [List.length_append]; omega, fun x hx => ?_, by rw [List.count_append]; omega⟩
  rcases List.mem_append.mp hx with hx | hx
  · exact h2 x hx
  · exact g2 x hx
theorem BLl.mono {n c m e : Nat} {l : List Nat} (h : BLl n c l) (a : n ≤ m) (b : c ≤ e) : BLl m e l := ⟨Nat.le_trans h.1 a, h.2.1, Nat.le_trans h.2.2 b⟩
theorem BLl.sub {n c : Nat} {l k : List Nat} (h : BLl n c l) (s : k.Sublist l) : BLl n c k := ⟨Nat.le_trans s.length_le h.1, fun x hx => h.2.1 x (s.subset hx), Nat.le_trans (s.count_le 40) h.2.2⟩
theorem BLl.ins {n c m e i j : Nat} {l y : List Nat} (h : BLl n c l) (g : BLl m e y) (hij : i ≤ j) : BLl (n + m) (c + e) ((l.take i ++ y) ++ l.drop j) := by
  have sp := List.take_append_drop i l
  have sub : (l.drop j).Sublist (l.drop i) := by
    rw [show j = i + (j - i) by omega, ← List.drop_drop]
    exact List.drop_sublist ..
  have h0 : BLl n c (l.take i ++ l.drop j) := BLl.sub h (by
    conv => rhs; rw [← sp]
    exact List.Sublist.append (List.Sublist.refl _) sub)
  have h1 := h0.app g
  refine ⟨?_, fun x hx => h1.2.1 x ?_, ?_⟩
  · have := h1.1
    simp only [List.length_append] at this ⊢
    omega
  · simp only [List.mem_append] at hx ⊢
    rcases hx with (hx | hx) | hx
    · exact .inl (.inl hx)
    · exact .inr hx
    · exact .inl (.inr hx)
  · have := h1.2.2
    simp only [List.count_append] at this ⊢
    omega
theorem BL.app {n c m e : Nat} {x y : Str} (h : BL n c x) (g : BL m e y) : BL (n + m) (c + e) (x ++ y) := by
  unfold BL
  rw [cps_app]
  exact BLl.app h g
theorem BL.mono {n c m e : Nat} {x : Str} (h : BL n c x) (a : n ≤ m) (b : c ≤ e) : BL m e x := BLl.mono h a b
theorem BL.len {n c : Nat} {x : Str} (h : BL n c x) : x.length ≤ n := by rw [slenT]; exact h.1
/-! ### cuts of texts -/
def takeS (n : Nat) (x : Str) : Str := ⟨(x.cps.toList.take n).toArray⟩
def dropS (n : Nat) (x : Str) : Str := ⟨(x.cps.toList.drop n).toArray⟩
theorem takeS_cps (n : Nat) (x : Str) : (takeS n x).cps.toList = x.cps.toList.take n := rfl
theorem dropS_cps (n : Nat) (x : Str) : (dropS n x).cps.toList = x.cps.toList.drop n := rfl
theorem takeS_len (n : Nat) (x : Str) : (takeS n x).length ≤ x.length := by
  rw [slenT, slenT x, takeS_cps, List.length_take]; omega
theorem dropS_len (n : Nat) (x : Str) : (dropS n x).length ≤ x.length := by
  rw [slenT, slenT x, dropS_cps, List.length_drop]; omega
theorem cut_take (x : Str) (n : Nat) : cutS x none (some (n : Int)) = takeS n x := by
  unfold cutS takeS
  have hl := slenT x
  rw [HT.sIx_nat, HT.sIx_none, List.drop_zero, Nat.sub_zero]
  by_cases h : n ≤ x.length
  · rw [Nat.min_eq_left h]
  · rw [Nat.min_eq_right (by omega), List.take_of_length_le (by omega), List.take_of_length_le (by omega)]
theorem cut_drop (x : Str) (n : Nat) : cutS x (some (n : Int)) none = dropS n x := by
  unfold cutS dropS
  have hl := slenT x
  rw [HT.sIx_nat, HT.sIx_none]
  by_cases h : n ≤ x.length
  · rw [Nat.min_eq_left h, List.take_of_length_le (by rw [List.length_drop]; omega)]
  · rw [Nat.min_eq_right (by omega), List.drop_of_length_le (by omega), List.drop_of_length_le (by omega), List.take_nil]
theorem cut_mid (x : Str) (n m : Nat) (hnm : n ≤ m) : cutS x (some (n : Int)) (some (m : Int)) = takeS (m - n) (dropS n x) := by
  unfold cutS
  show _ = (⟨((x.cps.toList.drop n).take (m - n)).toArray⟩ : Str)
  have hl := slenT x
  rw [HT.sIx_nat, HT.sIx_nat]
  by_cases h : n ≤ x.length
  · rw [Nat.min_eq_left h]
    by_cases h2 : m ≤ x.length
    · rw [Nat.min_eq_left h2]
    · rw [Nat.min_eq_right (by omega), List.take_of_length_le (by rw [List.length_drop]; omega), List.take_of_length_le (by rw [List.length_drop]; omega)]
  · rw [Nat.min_eq_right (by omega), List.drop_of_length_le (by omega), List.drop_of_length_le (by omega), List.take_nil, List.take_nil]
theorem slS {x : Str} {lo hi : Option Int} (h : x.length ≤ 1000000) : dSl (.str x) lo hi S = .ok (.str (cutS x lo hi)) S := if_pos h
/-! ### texts that are drawn: what an expression gives, in any store that goes on from S -/
def Ev (S : Sto) (st : Nat) (d : Int) (α : MD.Env) (P : Str → Prop) (m : ME) : Prop := ∀ Z, PkX S st d Z → ∃ x Z', m α Z = .ok (.str x) Z' ∧ P x ∧ PkX S st d Z'
def EvI (st : Nat) (d : Int) (α : MD.Env) (n : Nat) (m : ME) : Prop := ∀ Z, PkAt Z st d → ∃ (i : Nat) (Z' : Sto), m α Z = .ok (.int (i : Int)) Z' ∧ i < n ∧ PkR Z st d Z'
def EvA (S : Sto) (st : Nat) (d : Int) (α : MD.Env) (P : Str → Prop) (n : Nat) (m : MA) : Prop := ∀ Z, PkX S st d Z → ∃ (xs : List Str) (Z' : Sto), m α Z = .ok (xs.map .str) Z' ∧ xs.length = n ∧ (∀ x ∈ xs, P x) ∧ PkX S st d Z'
variable {P Q R : Str → Prop} {m m1 m2 : ME} {n : Nat}
theorem Ev.eq {x : Str} (h : ∀ Z, m α Z = .ok (.str x) Z) : Ev S st d α (fun y => y = x) m := fun Z p => ⟨x, Z, h Z, rfl, p⟩
theorem Ev.mono (h : Ev S st d α P m) (hP : ∀ x, P x → Q x) : Ev S st d α Q m := fun Z p => by
  obtain ⟨x, Z', e, hx, p'⟩ := h Z p
  exact ⟨x, Z', e, hP x hx, p'⟩
theorem Ev.add (h1 : Ev S st d α P m1) (h2 : Ev S st d α Q m2) (hl : ∀ x y, P x → Q y → x.length + y.length ≤ 1000000) : Ev S st d α (fun z => ∃ x y, z = x ++ y ∧ P x ∧ Q y) (mOp dAdd m1 m2) := fun Z p => by
  obtain ⟨x, Z1, e1, hx, p1⟩ := h1 Z p
  obtain ⟨y, Z2, e2, hy, p2⟩ := h2 Z1 p1
  exact ⟨x ++ y, Z2, by rw [sOp, e1, bind_ok, e2, bind_ok, add_sS (hl x y hx hy)], ⟨x, y, rfl, hx, hy⟩, p2⟩
theorem EvI.pick (k : Nat) (ns : List Int) {m : ME} {many : Int} (l : 0 < many) (v0 : ∀ Z, mVar 0 α Z = .ok (.loc st) Z) (v1 : ∀ Z, mVar 1 α Z = .ok (.scr ns) Z) (hm : ∀ Z, m α Z = .ok (.int many) Z) (h1 : many < 1073741824 := by decide) : EvI st d α many.toNat (mCall (mOwn 3 (M_h_pick (k + 1))) (mA1 (mVar 0) (mA1 (mVar 1) (mA1 m mA0)))) := fun Z p => by
  obtain ⟨r, Z', e, b, p'⟩ := pkc k ns p v0 v1 (hm Z) l h1
  refine ⟨r.toNat, Z', ?_, by omega, p'⟩
  rw [e, Int.toNat_of_nonneg b.1]
theorem Ev.ixS (l : st < S.length) {w : Str} (hw : w.length ≤ 1000) (h : EvI st d α n m) (hn : n ≤ w.length) : Ev S st d α (fun y => ∃ c ∈ w.cps.toList, y = ⟨#[c]⟩) (mOp dIx (mC (.str w)) m) := fun Z p => by
  obtain ⟨i, Z1, e1, hi, p1⟩ := h Z (p.at l)
  obtain ⟨c, hc, ix⟩ := ix_sn (S := Z1) (x := w) (n := i) (by omega) (by omega)
  exact ⟨⟨#[c]⟩, Z1, by rw [sOp, sC, bind_ok, e1, bind_ok, ix], ⟨c, hc, rfl⟩, p.step l p1⟩
theorem EvA.nil : EvA S st d α P 0 mA0 := fun Z p => ⟨[], Z, rfl, rfl, fun x hx => absurd hx List.not_mem_nil, p⟩
theorem EvA.cons {a : MA} (h1 : Ev S st d α P m) (h2 : EvA S st d α P n a) : EvA S st d α P (n + 1) (mA1 m a) := fun Z p => by
  obtain ⟨x, Z1, e1, hx, p1⟩ := h1 Z p
  obtain ⟨xs, Z2, e2, hl, hxs, p2⟩ := h2 Z1 p1
  refine ⟨x :: xs, Z2, by rw [sA1, e1, bind_ok, e2, bind_ok]; rfl, by rw [List.length_cons, hl], fun y hy => ?_, p2⟩
  rcases List.mem_cons.mp hy with rfl | hy
  · exact hx
  · exact hxs y hy
theorem Ev.ixL (l : st < S.length) {a : MA} (ha : EvA S st d α P n a) (hn : n ≤ 1000) (h : EvI st d α n m) : Ev S st d α P (mOp dIx (mLst a) m) := fun Z p => by
  obtain ⟨xs, Z1, e1, hl, hxs, p1⟩ := ha Z p
  have p2 := p1.app [Cell.lst (xs.map .str)]
  obtain ⟨i, Z2, e2, hi, q2⟩ := h _ (p2.at l)
  have gi : i < xs.length := by omega
  have g : Z2[Z1.length]? = some (Cell.lst (xs.map .str)) := by
    rw [q2.get (by have := p1.len; omega)]; exact get0
  refine ⟨xs[i], Z2, ?_, hxs _ (List.getElem_mem gi), p2.step l q2⟩
  rw [sOp, sLst, e1, bind_ok, if_pos (by rw [List.length_map]; omega), bind_ok, e2, bind_ok]
  exact ix_loc g (by rw [List.getElem?_map, List.getElem?_eq_getElem gi]; rfl)
/-- what a `return` of it leaves -/
theorem Ev.ret (w : Wf S) (p : PkX S st d Z) (h : Ev S st d α P m) : ∃ x Z' S', mRt m α Z = .rt (.str x) Z' ∧ gcR S.length (.str x) Z' = .ok (.str x) S' ∧ P x ∧ PkR S st d S' := by
  obtain ⟨x, Z', e, hx, p'⟩ := h Z p
  obtain ⟨S', g, q⟩ := p'.drop w (x := .str x) bddStr
  exact ⟨x, Z', S', by rw [sRt, e, rthen_ok], g, hx, q⟩
end
end DM

namespace DM
open PySem L2 MD
noncomputable def M_h_spoiled : Nat → List Dt → Sto → Rs Dt
  | 0 => fun _ _ => .no
  | k + 1 => mFn 6 (mSq (mSet 3 (mGc (mCall (mOwn 3 (M_h_pick k)) (mA1 (mVar 0) (mA1 (mVar 1) (mA1 (mOp dAdd (mCall dLen (mA1 (mVar 2) mA0)) (mC (.int 1))) mA0))))))
      (mSq (mSet 4 (mGc (mCall (mOwn 3 (M_h_pick k)) (mA1 (mVar 0) (mA1 (mVar 1) (mA1 (mC (.int 9)) mA0))))))
      (mSq (mIfS (mT (mOp dEq (mVar 4) (mC (.int 0)))) (mRt (mOp dAdd (mSl dSl (mVar 2) mOn (mOs (mVar 3))) (mSl dSl (mVar 2) (mOs (mOp dAdd (mVar 3) (mC (.int 1)))) mOn))) mNx)
      (mSq (mIfS (mT (mOp dEq (mVar 4) (mC (.int 1)))) (mRt (mOp dAdd (mOp dAdd (mSl dSl (mVar 2) mOn (mOs (mVar 3))) (mSl dSl (mVar 2) (mOs (mVar 3)) (mOs (mOp dAdd (mVar 3) (mC (.int 1)))))) (mSl dSl (mVar 2) (mOs (mVar 3)) mOn))) mNx)
      (mSq (mIfS (mT (mOp dEq (mVar 4) (mC (.int 2)))) (mRt (mOp dAdd (mOp dAdd (mSl dSl (mVar 2) mOn (mOs (mVar 3))) (mOp dIx (mC (.str "() ?0aZ_=|-.;:+")) (mCall (mOwn 3 (M_h_pick k)) (mA1 (mVar 0) (mA1 (mVar 1) (mA1 (mC (.int 15)) mA0)))))) (mSl dSl (mVar 2) (mOs (mVar 3)) mOn))) mNx)
      (mSq (mIfS (mT (mOp dEq (mVar 4) (mC (.int 3)))) (mRt (mOp dAdd (mOp dAdd (mSl dSl (mVar 2) mOn (mOs (mVar 3))) (mOp dIx (mC (.str "() ?19bY#")) (mCall (mOwn 3 (M_h_pick k)) (mA1 (mVar 0) (mA1 (mVar 1) (mA1 (mC (.int 9)) mA0)))))) (mSl dSl (mVar 2) (mOs (mOp dAdd (mVar 3) (mC (.int 1)))) mOn))) mNx)
      (mSq (mIfS (mT (mOp dEq (mVar 4) (mC (.int 4)))) (mRt (mSl dSl (mVar 2) mOn (mOs (mVar 3)))) mNx)
      (mSq (mIfS (mT (mOp dEq (mVar 4) (mC (.int 5)))) (mRt (mSl dSl (mVar 2) (mOs (mVar 3)) mOn)) mNx)
      (mSq (mIfS (mT (mOp dEq (mVar 4) (mC (.int 6)))) (mRt (mOp dIx (mLst (mA1 (mOp dAdd (mOp dAdd (mC (.str "(")) (mVar 2)) (mC (.str ")"))) (mA1 (mOp dAdd (mVar 2) (mC (.str " (A)"))) (mA1 (mOp dAdd (mC (.str "(A) ")) (mVar 2)) (mA1 (mOp dAdd (mVar 2) (mC (.str " ()"))) (mA1 (mOp dAdd (mC (.str "?")) (mVar 2)) mA0)))))) (mCall (mOwn 3 (M_h_pick k)) (mA1 (mVar 0) (mA1 (mVar 1) (mA1 (mC (.int 5)) mA0)))))) mNx)
      (mSq (mIfS (mT (mOp dEq (mVar 4) (mC (.int 7)))) (mRt (mOp dAdd (mOp dAdd (mSl dSl (mVar 2) mOn (mOs (mVar 3))) (mSl dSl (mC (.str "a1b2c3d4e5f6")) mOn (mOs (mCall (mOwn 3 (M_h_pick k)) (mA1 (mVar 0) (mA1 (mVar 1) (mA1 (mC (.int 13)) mA0))))))) (mSl dSl (mVar 2) (mOs (mVar 3)) mOn))) mNx)
      (mSq (mSet 5 (mGc (mOp dIx (mLst (mA1 (mC (.str "?00")) (mA1 (mC (.str "?10000")) (mA1 (mC (.str "?-1")) (mA1 (mC (.str "?")) (mA1 (mC (.str "?1a")) (mA1 (mC (.str "1")) (mA1 (mC (.str "A-b")) (mA1 (mC (.str "\n")) (mA1 (mC (.str "?01")) mA0)))))))))) (mCall (mOwn 3 (M_h_pick k)) (mA1 (mVar 0) (mA1 (mVar 1) (mA1 (mC (.int 9)) mA0)))))))
      (mRt (mOp dAdd (mOp dAdd (mOp dAdd (mSl dSl (mVar 2) mOn (mOs (mVar 3))) (mC (.str " "))) (mVar 5)) (mSl dSl (mVar 2) (mOs (mVar 3)) mOn))))))))))))))
end DM

namespace DM
open PySem L2 MD
open DF (Tm)
open DF (Fn KOk lones)
section
variable {S Z Z1 : Sto} {st : Nat} {d : Int} {α : MD.Env}
/-! ### _law_spoiled: at most 13 signs and one parenthesis more -/
theorem BL.chr {w : Str} {x : Nat} (h : ∀ y ∈ w.cps.toList, y < 16 ^ 8) (hx : x ∈ w.cps.toList) : BL 1 1 ⟨#[x]⟩ := ⟨Nat.le_refl _, fun y hy => by rw [List.mem_singleton.mp hy]; exact h x hx, Nat.le_trans List.count_le_length (Nat.le_refl 1)⟩
theorem wSp1 : ("() ?0aZ_=|-.;:+" : Str).length = 15 ∧ ∀ y ∈ ("() ?0aZ_=|-.;:+" : Str).cps.toList, y < 16 ^ 8 := by decide +kernel
theorem wSp2 : ("() ?19bY#" : Str).length = 9 ∧ ∀ y ∈ ("() ?19bY#" : Str).cps.toList, y < 16 ^ 8 := by decide +kernel
theorem wSp3 : BL 12 0 ("a1b2c3d4e5f6" : Str) := ⟨by decide +kernel, by decide +kernel, by decide +kernel⟩
abbrev spE (st : Nat) (ns : List Int) (x : Str) (a q : Nat) : MD.Env := [some (.loc st), some (.scr ns), some (.str x), some (.int (a : Int)), some (.int (q : Int)), none]
theorem spoiled_eq (k : Nat) (ns : List Int) (hS : Wf S) (h : PkAt S st d) {x : Str} {n c : Nat} (hx : BL n c x) (hn : n ≤ 100000) : ∃ y S', M_h_spoiled (k + 2) [.loc st, .scr ns, .str x] S = .ok (.str y) S' ∧ BL (n + 13) (c + 1) y ∧ PkR S st d S' := by
  have l := h.lt
  have lx := hx.len
  rw [show k + 2 = (k + 1) + 1 from rfl, M_h_spoiled, mFn_eq, show startE 6 [.loc st, .scr ns, .str x] = [some (.loc st), some (.scr ns), some (.str x), none, none, none] from rfl]
  obtain ⟨a0, Z1, e1, b1, p1⟩ := pkc k ns h (α := [some (.loc st), some (.scr ns), some (.str x), none, none, none]) (m := mOp dAdd (mCall dLen (mA1 (mVar 2) mA0)) (mC (.int 1))) (many := (x.length : Int) + 1) (fun _ => rfl) (fun _ => rfl) (by rw [sOp, sCall, sA1, sVar2, bind_ok, sA0, bind_ok, bind_ok, len_s (by omega), bind_ok, sC, bind_ok, add_ii]) (by omega) (by omega)
  obtain ⟨a, rfl⟩ : ∃ a : Nat, a0 = a := ⟨a0.toNat, by omega⟩
  rw [sSq, sSet, sGc e1, gc_len p1.len, rthen_ok, fthen_nx]
  simp only [xset_s, xset_0]
  obtain ⟨q0, Z2, e2, b2, p2⟩ := pkc k ns (p1.at l) (α := [some (.loc st), some (.scr ns), some (.str x), some (.int (a : Int)), none, none]) (m := mC (.int 9)) (many := 9) (fun _ => rfl) (fun _ => rfl) (by rw [sC]) (by decide)
  obtain ⟨q, rfl⟩ : ∃ q : Nat, q0 = q := ⟨q0.toNat, by omega⟩
  rw [sSq, sSet, sGc e2, gc_len p2.len, rthen_ok, fthen_nx]
  simp only [xset_s, xset_0]
  have pX : PkX S st d Z2 := (p1.trans p2).x
  have cnd : ∀ (j : Int) (Z : Sto) (z : Option Dt), mT (mOp dEq (mVar 4) (mC (.int j))) [some (.loc st), some (.scr ns), some (.str x), some (.int (a : Int)), some (.int (q : Int)), z] Z = .ok (decide ((q : Int) = j)) Z := fun j Z z => by
    rw [sT, sOp, sVar4, bind_ok, sC, bind_ok, eq_ii, bind_ok, sasB]
  have pk : ∀ (many : Int) (z : Option Dt), 0 < many → many < 1073741824 → EvI st d [some (.loc st), some (.scr ns), some (.str x), some (.int (a : Int)), some (.int (q : Int)), z] many.toNat (mCall (mOwn 3 (M_h_pick (k + 1))) (mA1 (mVar 0) (mA1 (mVar 1) (mA1 (mC (.int many)) mA0)))) := fun many z h0 h1 => EvI.pick k ns h0 (fun _ => rfl) (fun _ => rfl) (fun _ => rfl) h1
  have tk : ∀ z, Ev S st d [some (.loc st), some (.scr ns), some (.str x), some (.int (a : Int)), some (.int (q : Int)), z] (fun y => y = takeS a x) (mSl dSl (mVar 2) mOn (mOs (mVar 3))) := fun z => Ev.eq fun Z => by
    rw [sSl, sVar2, bind_ok, sOn, bind_ok, sOs, sVar3, bind_ok]
    dsimp only
    rw [bind_ok, slS (by omega), cut_take]
  have dr : ∀ z, Ev S st d [some (.loc st), some (.scr ns), some (.str x), some (.int (a : Int)), some (.int (q : Int)), z] (fun y => y = dropS a x) (mSl dSl (mVar 2) (mOs (mVar 3)) mOn) := fun z => Ev.eq fun Z => by
    rw [sSl, sVar2, bind_ok, sOs, sVar3, bind_ok]
    dsimp only
    rw [bind_ok, sOn, bind_ok, slS (by omega), cut_drop]
  have dr1 : ∀ z, Ev S st d [some (.loc st), some (.scr ns), some (.str x), some (.int (a : Int)), some (.int (q : Int)), z] (fun y => y = dropS (a + 1) x) (mSl dSl (mVar 2) (mOs (mOp dAdd (mVar 3) (mC (.int 1)))) mOn) := fun z => Ev.eq fun Z => by
    rw [sSl, sVar2, bind_ok, sOs, sOp, sVar3, bind_ok, sC, bind_ok, add_ii, bind_ok]
    dsimp only
    rw [bind_ok, sOn, bind_ok, show (a : Int) + 1 = ((a + 1 : Nat) : Int) by omega, slS (by omega), cut_drop]
  have mid : ∀ z, Ev S st d [some (.loc st), some (.scr ns), some (.str x), some (.int (a : Int)), some (.int (q : Int)), z] (fun y => y = takeS 1 (dropS a x)) (mSl dSl (mVar 2) (mOs (mVar 3)) (mOs (mOp dAdd (mVar 3) (mC (.int 1))))) := fun z => Ev.eq fun Z => by
    rw [sSl, sVar2, bind_ok, sOs, sVar3, bind_ok]
    dsimp only
    rw [bind_ok, sOs, sOp, sVar3, bind_ok, sC, bind_ok, add_ii, bind_ok]
    dsimp only
    rw [bind_ok, show (a : Int) + 1 = ((a + 1 : Nat) : Int) by omega, slS (by omega), cut_mid _ _ _ (by omega), show a + 1 - a = 1 by omega]
  have lt := takeS_len a x
  have ld := dropS_len a x
  have ld1 := dropS_len (a + 1) x
  have lm : (takeS 1 (dropS a x)).length ≤ 1 := by rw [slenT, takeS_cps, List.length_take]; omega
  -- a text put in
  have ins : ∀ {m e j : Nat} {y : Str}, BL m e y → m ≤ 13 → e ≤ 1 → a ≤ j → BL (n + 13) (c + 1) ((takeS a x ++ y) ++ dropS j x) := fun {m e j y} hy hm he hj => by
    unfold BL
    rw [cps_app, cps_app, takeS_cps, dropS_cps]
    exact (BLl.ins hx hy hj).mono (by omega) (by omega)
  have sub : ∀ {y : Str}, (y.cps.toList).Sublist x.cps.toList → BL (n + 13) (c + 1) y := fun s => (BLl.sub hx s).mono (by omega) (by omega)
  have done : ∀ {m : ME} {z : Option Dt}, Ev S st d [some (.loc st), some (.scr ns), some (.str x), some (.int (a : Int)), some (.int (q : Int)), z] (BL (n + 13) (c + 1)) m → ∀ {Z : Sto}, PkX S st d Z → ∃ y Z' S', mRt m [some (.loc st), some (.scr ns), some (.str x), some (.int (a : Int)), some (.int (q : Int)), z] Z = .rt (.str y) Z' ∧ gcR S.length (.str y) Z' = .ok (.str y) S' ∧ BL (n + 13) (c + 1) y ∧ PkR S st d S' := fun {m z} h {Z} p => Ev.ret hS p h
  have end0 : ∀ {m : ME} {o : MS}, Ev S st d [some (.loc st), some (.scr ns), some (.str x), some (.int (a : Int)), some (.int (q : Int)), none] (BL (n + 13) (c + 1)) m → ∃ y S', (match ((mIfS (fun α S => .ok true S) (mRt m) mNx) [some (.loc st), some (.scr ns), some (.str x), some (.int (a : Int)), some (.int (q : Int)), none] Z2).then o with
    | .nx _ S' => gcR S.length .non S'
    | .rt d S' => gcR S.length d S'
    | .ex c fs _ S' => gcX S.length c fs S'
    | _ => .no) = .ok (.str y) S' ∧ BL (n + 13) (c + 1) y ∧ PkR S st d S' := fun {m o} h => by
    obtain ⟨y, Z', S', e, g, hy, p⟩ := done h pX
    rw [sIfS, rthen_ok, if_pos rfl, e, fthen_rt]
    exact ⟨y, S', g, hy, p⟩
  -- 0
  rw [sSq, sIfS, cnd, rthen_ok]
  by_cases q0 : (q : Int) = 0
  · rw [decide_eq_true q0]
    exact end0 ((Ev.add (tk none) (dr1 none) (by rintro _ _ rfl rfl; omega)).mono (by
      rintro _ ⟨_, _, rfl, rfl, rfl⟩
      have := ins (m := 0) (e := 0) (j := a + 1) (y := ⟨#[]⟩) ⟨Nat.le_refl _, fun x hx => absurd hx List.not_mem_nil, Nat.le_refl _⟩ (by decide) (by decide) (by omega)
      unfold BL at this ⊢
      rw [cps_app, cps_app, List.append_nil] at this
      rw [cps_app]
      exact this))
  rw [decide_eq_false q0, if_neg Bool.false_ne_true, sNx, fthen_nx]
  -- 1
  rw [sSq, sIfS, cnd, rthen_ok]
  by_cases q1 : (q : Int) = 1
  · rw [decide_eq_true q1]
    exact end0 ((Ev.add (Ev.add (tk none) (mid none) (by rintro _ _ rfl rfl; omega)) (dr none) (by rintro _ _ ⟨_, _, rfl, rfl, rfl⟩ rfl; rw [len_app]; omega)).mono (by
      rintro _ ⟨_, _, rfl, ⟨_, _, rfl, rfl, rfl⟩, rfl⟩
      exact ins (m := 1) (e := 1) ⟨by rw [← slenT]; exact lm, fun x h => hx.2.1 x (List.mem_of_mem_drop (List.mem_of_mem_take h)), Nat.le_trans List.count_le_length (by rw [← slenT]; exact lm)⟩ (by decide) (by decide) (Nat.le_refl _)))
  rw [decide_eq_false q1, if_neg Bool.false_ne_true, sNx, fthen_nx]
  -- 2
  rw [sSq, sIfS, cnd, rthen_ok]
  by_cases q2 : (q : Int) = 2
  · rw [decide_eq_true q2]
    exact end0 ((Ev.add (Ev.add (tk none) (Ev.ixS l (by rw [wSp1.1]; decide) (pk 15 none (by decide) (by decide)) (by rw [wSp1.1]; decide)) (by rintro _ _ rfl ⟨_, _, rfl⟩; show _ + 1 ≤ _; omega)) (dr none) (by rintro _ _ ⟨_, _, rfl, rfl, ⟨_, _, rfl⟩⟩ rfl; rw [len_app]; show _ + 1 + _ ≤ _; omega)).mono (by
      rintro _ ⟨_, _, rfl, ⟨_, _, rfl, rfl, ⟨y, hy, rfl⟩⟩, rfl⟩
      exact ins (BL.chr wSp1.2 hy) (by decide) (by decide) (Nat.le_refl _)))
  rw [decide_eq_false q2, if_neg Bool.false_ne_true, sNx, fthen_nx]
  -- 3
  rw [sSq, sIfS, cnd, rthen_ok]
  by_cases q3 : (q : Int) = 3
  · rw [decide_eq_true q3]
    exact end0 ((Ev.add (Ev.add (tk none) (Ev.ixS l (by rw [wSp2.1]; decide) (pk 9 none (by decide) (by decide)) (by rw [wSp2.1]; decide)) (by rintro _ _ rfl ⟨_, _, rfl⟩; show _ + 1 ≤ _; omega)) (dr1 none) (by rintro _ _ ⟨_, _, rfl, rfl, ⟨_, _, rfl⟩⟩ rfl; rw [len_app]; show _ + 1 + _ ≤ _; omega)).mono (by
      rintro _ ⟨_, _, rfl, ⟨_, _, rfl, rfl, ⟨y, hy, rfl⟩⟩, rfl⟩
      exact ins (BL.chr wSp2.2 hy) (by decide) (by decide) (by omega)))
  rw [decide_eq_false q3, if_neg Bool.false_ne_true, sNx, fthen_nx]
  -- 4
  rw [sSq, sIfS, cnd, rthen_ok]
  by_cases q4 : (q : Int) = 4
  · rw [decide_eq_true q4]
    exact end0 ((tk none).mono (by rintro _ rfl; exact sub (List.take_sublist ..)))
  rw [decide_eq_false q4, if_neg Bool.false_ne_true, sNx, fthen_nx]
  -- 5
  rw [sSq, sIfS, cnd, rthen_ok]
  by_cases q5 : (q : Int) = 5
  · rw [decide_eq_true q5]
    exact end0 ((dr none).mono (by rintro _ rfl; exact sub (List.drop_sublist ..)))
  rw [decide_eq_false q5, if_neg Bool.false_ne_true, sNx, fthen_nx]
  have vx : ∀ z, Ev S st d [some (.loc st), some (.scr ns), some (.str x), some (.int (a : Int)), some (.int (q : Int)), z] (fun y => y = x) (mVar 2) := fun z => Ev.eq fun Z => rfl
  have cc : ∀ (z : Option Dt) (w : Str), Ev S st d [some (.loc st), some (.scr ns), some (.str x), some (.int (a : Int)), some (.int (q : Int)), z] (fun y => y = w) (mC (.str w)) := fun z w => Ev.eq fun Z => rfl
  -- 6
  rw [sSq, sIfS, cnd, rthen_ok]
  by_cases q6 : (q : Int) = 6
  · rw [decide_eq_true q6]
    have two : ∀ {m : ME} {w : Str}, Ev S st d (spE st ns x a q) (fun z => ∃ y v, z = y ++ v ∧ y = x ∧ v = w) m → BL 4 1 w → Ev S st d (spE st ns x a q) (BL (n + 13) (c + 1)) m := fun h hw => h.mono (by
      rintro _ ⟨_, _, rfl, rfl, rfl⟩
      exact (BL.app hx hw).mono (by omega) (by omega))
    have two' : ∀ {m : ME} {w : Str}, Ev S st d (spE st ns x a q) (fun z => ∃ y v, z = y ++ v ∧ y = w ∧ v = x) m → BL 4 1 w → Ev S st d (spE st ns x a q) (BL (n + 13) (c + 1)) m := fun h hw => h.mono (by
      rintro _ ⟨_, _, rfl, rfl, rfl⟩
      exact (BL.app hw hx).mono (by omega) (by omega))
    refine end0 (Ev.ixL (n := 5) l (EvA.cons ?_ (EvA.cons (two (Ev.add (vx none) (cc none " (A)") ?_) ⟨by decide +kernel, by decide +kernel, by decide +kernel⟩) (EvA.cons (two' (Ev.add (cc none "(A) ") (vx none) ?_) ⟨by decide +kernel, by decide +kernel, by decide +kernel⟩) (EvA.cons (two (Ev.add (vx none) (cc none " ()") ?_) ⟨by decide +kernel, by decide +kernel, by decide +kernel⟩) (EvA.cons (two' (Ev.add (cc none "?") (vx none) ?_) ⟨by decide +kernel, by decide +kernel, by decide +kernel⟩) EvA.nil))))) (by decide) (pk 5 none (by decide) (by decide)))
    · refine (Ev.add (Ev.add (cc none "(") (vx none) ?_) (cc none ")") ?_).mono ?_
      · rintro _ _ rfl rfl; rw [show ("(" : Str).length = 1 by decide +kernel]; omega
      · rintro _ _ ⟨_, _, rfl, rfl, rfl⟩ rfl; rw [len_app, show ("(" : Str).length = 1 by decide +kernel, show (")" : Str).length = 1 by decide +kernel]; omega
      · rintro _ ⟨_, _, rfl, ⟨_, _, rfl, rfl, rfl⟩, rfl⟩
        exact ((BL.app (BL.app (x := "(") (n := 1) (c := 1) ⟨by decide +kernel, by decide +kernel, by decide +kernel⟩ hx) (y := ")") (m := 1) (e := 0) ⟨by decide +kernel, by decide +kernel, by decide +kernel⟩)).mono (by omega) (by omega)
    · rintro _ _ rfl rfl; rw [show (" (A)" : Str).length = 4 by decide +kernel]; omega
    · rintro _ _ rfl rfl; rw [show ("(A) " : Str).length = 4 by decide +kernel]; omega
    · rintro _ _ rfl rfl; rw [show (" ()" : Str).length = 3 by decide +kernel]; omega
    · rintro _ _ rfl rfl; rw [show ("?" : Str).length = 1 by decide +kernel]; omega
  rw [decide_eq_false q6, if_neg Bool.false_ne_true, sNx, fthen_nx]
  -- 7
  rw [sSq, sIfS, cnd, rthen_ok]
  by_cases q7 : (q : Int) = 7
  · rw [decide_eq_true q7]
    have ct : Ev S st d (spE st ns x a q) (fun y => BL 12 0 y) (mSl dSl (mC (.str "a1b2c3d4e5f6")) mOn (mOs (mCall (mOwn 3 (M_h_pick (k + 1))) (mA1 (mVar 0) (mA1 (mVar 1) (mA1 (mC (.int 13)) mA0)))))) := fun Z p => by
      obtain ⟨i, Z', e, hi, p'⟩ := pk 13 none (by decide) (by decide) Z (p.at l)
      refine ⟨takeS i "a1b2c3d4e5f6", Z', ?_, BLl.sub wSp3 (List.take_sublist ..), p.step l p'⟩
      rw [sSl, sC, bind_ok, sOn, bind_ok, sOs, e, bind_ok]
      dsimp only
      rw [bind_ok, slS (by decide +kernel), cut_take]
    exact end0 ((Ev.add (Ev.add (tk none) ct (by rintro _ _ rfl h; have := h.len; omega)) (dr none) (by rintro _ _ ⟨_, _, rfl, rfl, h⟩ rfl; have := h.len; rw [len_app]; omega)).mono (by
      rintro _ ⟨_, _, rfl, ⟨_, _, rfl, rfl, h⟩, rfl⟩
      exact ins h (by decide) (by decide) (Nat.le_refl _)))
  rw [decide_eq_false q7, if_neg Bool.false_ne_true, sNx, fthen_nx]
  -- a word
  obtain ⟨w, Z3, e3, hw, p3⟩ := (Ev.ixL (S := S) (d := d) (α := spE st ns x a q) (P := BL 6 0) (n := 9) l (EvA.cons ((cc none "?00").mono (by rintro _ rfl; exact ⟨by decide +kernel, by decide +kernel, by decide +kernel⟩)) (EvA.cons ((cc none "?10000").mono (by rintro _ rfl; exact ⟨by decide +kernel, by decide +kernel, by decide +kernel⟩)) (EvA.cons ((cc none "?-1").mono (by rintro _ rfl; exact ⟨by decide +kernel, by decide +kernel, by decide +kernel⟩)) (EvA.cons ((cc none "?").mono (by rintro _ rfl; exact ⟨by decide +kernel, by decide +kernel, by decide +kernel⟩)) (EvA.cons ((cc none "?1a").mono (by rintro _ rfl; exact ⟨by decide +kernel, by decide +kernel, by decide +kernel⟩)) (EvA.cons ((cc none "1").mono (by rintro _ rfl; exact ⟨by decide +kernel, by decide +kernel, by decide +kernel⟩)) (EvA.cons ((cc none "A-b").mono (by rintro _ rfl; exact ⟨by decide +kernel, by decide +kernel, by decide +kernel⟩)) (EvA.cons ((cc none "\n").mono (by rintro _ rfl; exact ⟨by decide +kernel, by decide +kernel, by decide +kernel⟩)) (EvA.cons ((cc none "?01").mono (by rintro _ rfl; exact ⟨by decide +kernel, by decide +kernel, by decide +kernel⟩)) EvA.nil))))))))) (by decide) (pk 9 none (by decide) (by decide))) Z2 pX
  obtain ⟨Z4, g4, p4⟩ : ∃ Z4, gcR Z2.length (.str w) Z3 = .ok (.str w) Z4 ∧ PkX S st d Z4 := by
    unfold gcR
    by_cases hb : bddS Z2.length (Z3.take Z2.length) = true
    · rw [if_pos hb, if_pos bddStr]
      refine ⟨_, rfl, ?_⟩
      obtain ⟨Y, G, rfl, py⟩ := p3
      have := pX.len
      exact ⟨Y, G.take (Z2.length - Y.length), by rw [List.take_append, List.take_of_length_le (by rw [py.len]; exact this)], py⟩
    · rw [if_neg hb]; exact ⟨_, rfl, p3⟩
  rw [sSq, sSet, sGc e3, g4, rthen_ok, fthen_nx]
  simp only [xset_s, xset_0]
  have wl := hw.len
  have bl1 : (" " : Str).length = 1 := by decide +kernel
  obtain ⟨y, Z', S', e, g, hy, p⟩ := done (z := some (.str w)) (m := mOp dAdd (mOp dAdd (mOp dAdd (mSl dSl (mVar 2) mOn (mOs (mVar 3))) (mC (.str " "))) (mVar 5)) (mSl dSl (mVar 2) (mOs (mVar 3)) mOn)) ((Ev.add (Ev.add (Ev.add (tk _) (cc _ " ") (by rintro _ _ rfl rfl; omega)) (Ev.eq (x := w) fun Z => rfl) (by rintro _ _ ⟨_, _, rfl, rfl, rfl⟩ rfl; rw [len_app]; omega)) (dr _) (by rintro _ _ ⟨_, _, rfl, ⟨_, _, rfl, rfl, rfl⟩, rfl⟩ rfl; rw [len_app, len_app]; omega)).mono (by
    rintro _ ⟨_, _, rfl, ⟨_, _, rfl, ⟨_, _, rfl, rfl, rfl⟩, e5⟩, rfl⟩
    rw [e5]
    have := ins (y := (" " : Str) ++ w) (BL.app (x := (" " : Str)) (n := 1) (c := 0) ⟨by decide +kernel, by decide +kernel, by decide +kernel⟩ hw) (by decide) (by decide) (Nat.le_refl a)
    unfold BL at this ⊢
    simp only [cps_app, List.append_assoc] at this ⊢
    exact this)) p4
  rw [e]
  exact ⟨y, S', g, hy, p⟩
end
end DM

namespace DM
open PySem L2 MD
open DF (Tm)
open DF (Fn KOk)
section
variable {S Z : Sto}
/-! ### the law's pieces -/
abbrev sP (p : List Nat) : Str := ⟨p.toArray⟩
def pD (p : List Nat) : Dt := .str (sP p)
theorem sP_cps (p : List Nat) : (sP p).cps.toList = p := rfl
theorem sP_len (p : List Nat) : (sP p).length = p.length := by show p.toArray.size = _; rw [List.size_toArray]
theorem sP_eq {p q : List Nat} : decide (sP p = sP q) = decide (p = q) := decide_eq_decide.mpr ⟨fun e => congrArg (fun s : Str => s.cps.toList) e, fun e => by rw [e]⟩
theorem sP_app (p : List Nat) (c : Nat) : sP p ++ (⟨#[c]⟩ : Str) = sP (p ++ [c]) := PySem.Str.ext' (Array.toList_inj.mp (by rw [cps_app]))
theorem pD_b (n : Nat) (ps : List (List Nat)) : Dt.bddL n (ps.map pD) = true := by
  have := strsB n (ps.map sP)
  rw [List.map_map] at this
  exact this
theorem emp_sP : (Str.ofString "" : Str) = sP [] := by decide +kernel
theorem sep_in (c : Nat) : inS (Str.ofString "() ") c = isSep c := by
  rw [Bool.eq_iff_iff, inS_iff, show (Str.ofString "() ").cps.toList = [40, 41, 32] by decide +kernel]
  unfold isSep
  simp [or_assoc]
theorem pie_len : ∀ (cs w : List Nat), (pieS w cs).length ≤ 2 * cs.length + 1
  | [], w => by
    rw [pieS]
    split
    · exact Nat.zero_le _
    · exact Nat.le_refl _
  | c :: cs, w => by
    have h1 := pie_len cs []
    have h2 := pie_len cs (w ++ [c])
    rw [pieS, List.length_cons]
    split
    · rw [List.length_append, List.length_cons]
      split
      · rw [List.length_nil]; omega
      · show 1 + _ ≤ _; omega
    · omega
theorem pie_loop {A : Nat} {x0 : Option Dt} (B : MS) (hB : B = mIfS (mT (mOp dIn (mVar 3) (mC (.str "() ")))) (mSq (mIfS (mT (mOp dNe (mVar 2) (mC (.str "")))) (mEx (mGc (mMt dAppend (mVar 1) (mA1 (mVar 2) mA0)))) mNx)
      (mSq (mEx (mGc (mMt dAppend (mVar 1) (mA1 (mVar 3) mA0))))
      (mSet 2 (mGc (mC (.str "")))))) (mSet 2 (mGc (mOp dAdd (mVar 2) (mVar 3))))) : ∀ (cs w : List Nat) (Z : Sto) (ws : List (List Nat)) (z3 : Option Dt), Z[A]? = some (Cell.lst (ws.map pD)) → w.length + cs.length ≤ 100000 → ws.length + 2 * cs.length ≤ 300000 →
    ∃ (w' : List Nat) (ws' : List (List Nat)) (y3 : Option Dt), forGo none (gN 3) B (cs.map chrD) [x0, some (.loc A), some (.str (sP w)), z3] Z = .nx [x0, some (.loc A), some (.str (sP w')), y3] (Z.set A (Cell.lst (ws'.map pD))) ∧ ws' ++ (if w' = [] then [] else [w']) = ws ++ pieS w cs ∧ ws'.length ≤ 300000
  | [], w, Z, ws, z3, g, _, hl => ⟨w, ws, z3, by rw [set_self Z A _ g]; rfl, by rw [pieS], by omega⟩
  | c :: cs, w, Z, ws, z3, g, hw, hl => by
    rw [List.length_cons] at hw hl
    have lA := (List.getElem?_eq_some_iff.mp g).1
    rw [List.map_cons, forGo, sgN]
    simp only [xset_s, xset_0]
    have ti : mT (mOp dIn (mVar 3) (mC (.str "() "))) [x0, some (.loc A), some (.str (sP w)), some (chrD c)] Z = .ok (isSep c) Z := by
      rw [sT, sOp, sVar3, bind_ok, sC, bind_ok, show dIn (chrD c) (.str (Str.ofString "() ")) Z = .ok (.bl (inS (Str.ofString "() ") c)) Z from rfl, sep_in, bind_ok, sasB]
    rw [pieS]
    cases hs : isSep c with
    | true =>
      rw [if_pos rfl]
      have st : B [x0, some (.loc A), some (.str (sP w)), some (chrD c)] Z = .nx [x0, some (.loc A), some (.str (sP [])), some (chrD c)] (Z.set A (Cell.lst ((ws ++ ((if w = [] then [] else [w]) ++ [[c]])).map pD))) := by
        rw [hB, sIfS, ti, hs, rthen_ok, if_pos rfl, sSq, sIfS, sT, sOp, sVar2, bind_ok, sC, bind_ok, emp_sP, ne_ss, sP_eq, bind_ok, sasB, rthen_ok]
        by_cases h : w = []
        · rw [decide_eq_true h, Bool.not_true, if_neg Bool.false_ne_true, sNx, fthen_nx, sSq, append_eq (A := A) (o := mVar 1) (m := mVar 3) (d := chrD c) rfl rfl g (by rw [List.length_map]; omega), fthen_nx, sSet, sGc (d := .str (sP [])) rfl, gc_same, rthen_ok]
          simp only [xset_s, xset_0]
          rw [if_pos h, List.nil_append, List.map_append]
          rfl
        · rw [decide_eq_false h, Bool.not_false, if_pos rfl, append_eq (A := A) (o := mVar 1) (m := mVar 2) (d := .str (sP w)) rfl rfl g (by rw [List.length_map]; omega), fthen_nx, sSq, append_eq (Z := Z.set A (Cell.lst (ws.map pD ++ [Dt.str (sP w)]))) (α := [x0, some (.loc A), some (.str (sP w)), some (chrD c)]) (A := A) (o := mVar 1) (m := mVar 3) (d := chrD c) rfl rfl (List.getElem?_set_self lA) (by rw [List.length_append, List.length_map]; show _ + 1 < _; omega), fthen_nx, sSet, sGc (d := .str (sP [])) rfl, gc_same, rthen_ok, List.set_set]
          simp only [xset_s, xset_0]
          rw [if_neg h, List.map_append, List.append_assoc]
          rfl
      rw [st]
      dsimp only
      rw [if_pos (show chk none _ from True.intro)]
      have wl : ((if w = [] then [] else [w]) ++ [[c]]).length ≤ 2 := by
        split
        · exact Nat.le_of_ble_eq_true rfl
        · exact Nat.le_refl _
      obtain ⟨w', ws', y3, e, h, h2⟩ := pie_loop B hB cs [] (Z.set A (Cell.lst ((ws ++ ((if w = [] then [] else [w]) ++ [[c]])).map pD))) (ws ++ ((if w = [] then [] else [w]) ++ [[c]])) (some (chrD c)) (List.getElem?_set_self lA) (by rw [List.length_nil]; omega) (by rw [List.length_append]; omega)
      refine ⟨w', ws', y3, ?_, ?_, h2⟩
      · rw [e, List.set_set]
      · rw [h, List.append_assoc, List.append_assoc]
        rfl
    | false =>
      rw [if_neg Bool.false_ne_true]
      have st : B [x0, some (.loc A), some (.str (sP w)), some (chrD c)] Z = .nx [x0, some (.loc A), some (.str (sP (w ++ [c]))), some (chrD c)] Z := by
        rw [hB, sIfS, ti, hs, rthen_ok, if_neg Bool.false_ne_true, sSet, sGc (d := .str (sP (w ++ [c]))) (S' := Z) (by
          rw [sOp, sVar2, bind_ok, sVar3, bind_ok, show chrD c = .str ⟨#[c]⟩ from rfl, add_sS (by rw [sP_len]; show w.length + 1 ≤ _; omega), sP_app]), gc_same, rthen_ok]
        rfl
      rw [st]
      dsimp only
      rw [if_pos (show chk none _ from True.intro)]
      obtain ⟨w', ws', y3, e, h, h2⟩ := pie_loop B hB cs (w ++ [c]) Z ws (some (chrD c)) g (by rw [List.length_append, List.length_singleton]; omega) (by omega)
      exact ⟨w', ws', y3, e, h, h2⟩
theorem pieces_eq (k : Nat) (hS : Wf S) {x : Str} (hx : x.length ≤ 100000) : M_h_pieces (k + 1) [.str x] S = .ok (.loc S.length) (S ++ [Cell.lst ((pieS [] x.cps.toList).map pD)]) := by
  have ll := slenT x
  rw [M_h_pieces, mFn_eq, show startE 4 [.str x] = [some (.str x), none, none, none] from rfl]
  rw [sSq, sSet, sGc (d := .loc S.length) (S' := S ++ [Cell.lst []]) rfl, gc_one, rthen_ok, fthen_nx]
  simp only [xset_s, xset_0]
  rw [sSq, sSet, sGc (d := .str (sP [])) (S' := S ++ [Cell.lst []]) (by rw [sC, emp_sP]), gc_same, rthen_ok, fthen_nx]
  simp only [xset_s, xset_0]
  have g0 : (S ++ [Cell.lst []])[S.length]? = some (Cell.lst (([] : List (List Nat)).map pD)) := get0
  obtain ⟨w', ws', y3, e, h, h2⟩ := pie_loop (A := S.length) (x0 := some (.str x)) _ rfl x.cps.toList [] (S ++ [Cell.lst []]) [] none g0 (by rw [List.length_nil]; omega) (by rw [List.length_nil]; omega)
  rw [set0] at e
  have it : mIts (mVar 0) [some (.str x), some (.loc S.length), some (.str (sP [])), none] (S ++ [Cell.lst []]) = .ok (x.cps.toList.map chrD, none) (S ++ [Cell.lst []]) := rfl
  rw [sSq, xFor, it, rthen_ok]
  dsimp only
  rw [e, fthen_nx, sSq, sIfS, sT, sOp, sVar2, bind_ok, sC, bind_ok, emp_sP, ne_ss, sP_eq, bind_ok, sasB, rthen_ok]
  rw [List.nil_append] at h
  by_cases hw : w' = []
  · rw [if_pos hw, List.append_nil] at h
    rw [decide_eq_true hw, Bool.not_true, if_neg Bool.false_ne_true, sNx, fthen_nx, sRt, sVar1, rthen_ok, h]
    exact gc_one
  · rw [if_neg hw] at h
    rw [decide_eq_false hw, Bool.not_false, if_pos rfl, append_eq (A := S.length) (o := mVar 1) (m := mVar 2) (d := .str (sP w')) rfl rfl get0 (by rw [List.length_map]; omega), set0, fthen_nx, sRt, sVar1, rthen_ok, ← h, List.map_append]
    exact gc_one
/-! what a piece is -/
def okP (p : List Nat) : Prop := (∃ c, p = [c]) ∨ (p ≠ [] ∧ ∀ c ∈ p, isSep c = false)
theorem pie_ok : ∀ (cs w : List Nat), (∀ c ∈ w, isSep c = false) → ∀ p ∈ pieS w cs, okP p
  | [], w, hw, p, hp => by
    rw [pieS] at hp
    by_cases h : w = []
    · rw [if_pos h] at hp; exact absurd hp List.not_mem_nil
    · rw [if_neg h] at hp
      rw [List.mem_singleton.mp hp]
      exact .inr ⟨h, hw⟩
  | c :: cs, w, hw, p, hp => by
    rw [pieS] at hp
    cases hs : isSep c with
    | true =>
      rw [hs, if_pos rfl] at hp
      rcases List.mem_append.mp hp with hp | hp
      · by_cases h : w = []
        · rw [if_pos h] at hp; exact absurd hp List.not_mem_nil
        · rw [if_neg h] at hp
          rw [List.mem_singleton.mp hp]
          exact .inr ⟨h, hw⟩
      · rcases List.mem_cons.mp hp with rfl | hp
        · exact .inl ⟨c, rfl⟩
        · exact pie_ok cs [] (fun d hd => absurd hd List.not_mem_nil) p hp
    | false =>
      rw [hs, if_neg Bool.false_ne_true] at hp
      exact pie_ok cs (w ++ [c]) (fun d hd => by
        rcases List.mem_append.mp hd with hd | hd
        · exact hw d hd
        · rw [List.mem_singleton.mp hd]; exact hs) p hp
theorem in_two {p : List Nat} (h : okP p) : dIn (.str (sP p)) (.str (Str.ofString "( ")) S = .ok (.bl (decide (p = [40] ∨ p = [32]))) S := by
  have cc : (Str.ofString "( ").cps.toList = [40, 32] := by decide +kernel
  have one : ∀ c, inS (Str.ofString "( ") c = decide (c = 40 ∨ c = 32) := fun c => by
    rw [Bool.eq_iff_iff, inS_iff, cc, decide_eq_true_eq]
    simp
  rcases h with ⟨c, rfl⟩ | ⟨hn, hp⟩
  · show Rs.ok (Dt.bl (inS (Str.ofString "( ") c)) S = _
    rw [one]
    congr 2
    exact decide_eq_decide.mpr ⟨fun q => q.imp (fun e => by rw [e]) (fun e => by rw [e]), fun q => q.imp (fun e => by injection e) (fun e => by injection e)⟩
  · have no : (Builtin.Str.occurrences (Str.ofString "( ") (sP p) 0 (Str.ofString "( ").length 1).isEmpty = true := by
      rcases PySem.StrLaws.occ_head (Str.ofString "( ") (sP p) 1 (Nat.le_refl 1) with ⟨h0, _⟩ | ⟨i, r, h0, hi, _⟩
      · rw [h0]; rfl
      · exfalso
        obtain ⟨h1, h2⟩ := hi
        rw [PySem.StrLaws.subAt_eq, sP_cps] at h2
        have h2 := eq_of_beq h2
        cases p with
        | nil => exact hn rfl
        | cons c r =>
          have : c ∈ ((Str.ofString "( ").cps.toList.drop i).take (sP (c :: r)).length := by rw [h2]; exact List.mem_cons_self ..
          have := List.mem_of_mem_drop (List.mem_of_mem_take this)
          rw [cc] at this
          have hc := hp c (List.mem_cons_self ..)
          simp only [List.mem_cons, List.not_mem_nil, or_false] at this
          rcases this with rfl | rfl
          · exact absurd hc (by decide)
          · exact absurd hc (by decide)
    have e : decide (p = [40] ∨ p = [32]) = false := decide_eq_false (by
      rintro (rfl | rfl)
      · exact absurd (hp 40 (List.mem_cons_self ..)) (by decide)
      · exact absurd (hp 32 (List.mem_cons_self ..)) (by decide))
    rw [e]
    show Rs.ok (Dt.bl (!(Builtin.Str.occurrences (Str.ofString "( ") (sP p) 0 (Str.ofString "( ").length 1).isEmpty)) S = _
    rw [no]
    rfl
end
end DM

namespace DM
open PySem L2 MD
open DF (Tm)
open DF (Fn KOk)
section
variable {S Z : Sto}
/-! ### the law's is_term -/
def lnD (w : List Tm) : Dt := .int (w.length : Int)
def cntD (top : List Tm) (stk : List (List Tm)) : List Dt := stk.reverse.map lnD ++ [lnD top]
theorem lnD_b (n : Nat) : ∀ l : List (List Tm), Dt.bddL n (l.map lnD) = true
  | [] => bddNil
  | w :: l => by rw [List.map_cons, bddCons, lnD, bddInt, lnD_b n l]; rfl
theorem cntD_b (n : Nat) (top : List Tm) (stk : List (List Tm)) : Dt.bddL n (cntD top stk) = true := by
  have := lnD_b n (stk.reverse ++ [top])
  rw [List.map_append] at this
  exact this
theorem set_last {A : Nat} {l : List Dt} {x d : Dt} {α : MD.Env} {o m : ME} (ho : o α Z = .ok (.loc A) Z) (g : Z[A]? = some (Cell.lst (l ++ [x]))) (hm : m α Z = .ok d Z) : mSub o (mUn dNeg (mC (.int 1))) m α Z = .nx α (Z.set A (Cell.lst (l ++ [d]))) := by
  unfold mSub
  rw [hm, rthen_ok, ho, rthen_ok, show mUn dNeg (mC (.int 1)) α Z = .ok (.int (-1)) Z from rfl, rthen_ok, show dSetI (.loc A) (.int (-1)) d Z = some (Z.set A (Cell.lst (l ++ [d]))) by
    unfold dSetI
    dsimp only
    rw [g]
    dsimp only
    rw [show ixN (l ++ [x]).length (-1 : Int) = some l.length by
      unfold ixN
      rw [List.length_append, List.length_singleton, if_neg (by omega), if_pos (by omega)]
      rw [show (-1 + ((l.length + 1 : Nat) : Int)).toNat = l.length by omega]]
    dsimp only
    rw [List.set_append_right _ _ (Nat.le_refl _), Nat.sub_self]
    rfl]
theorem eq_pD {p : List Nat} {c : Nat} {x : Str} (h : x = sP [c]) : dEq (pD p) (.str x) S = .ok (.bl (decide (p = [c]))) S := by
  rw [h]
  show dEq (.str (sP p)) (.str (sP [c])) S = _
  rw [eq_ss, sP_eq]
theorem ne_pD {p : List Nat} {c : Nat} {x : Str} (h : x = sP [c]) : dNe (pD p) (.str x) S = .ok (.bl (!decide (p = [c]))) S := by
  rw [h]
  show dNe (.str (sP p)) (.str (sP [c])) S = _
  rw [ne_ss, sP_eq]
theorem c40 : (Str.ofString "(" : Str) = sP [40] := by decide +kernel
theorem c41 : (Str.ofString ")" : Str) = sP [41] := by decide +kernel
theorem c32 : (Str.ofString " " : Str) = sP [32] := by decide +kernel
theorem len0 (top : List Tm) : decide (((top.length : Nat) : Int) = 0) = decide (top = []) := decide_eq_decide.mpr ⟨fun h => List.eq_nil_of_length_eq_zero (by omega), fun h => by rw [h]; rfl⟩
theorem cnt_len (top : List Tm) (stk : List (List Tm)) : (cntD top stk).length = stk.length + 1 := by
  unfold cntD
  rw [List.length_append, List.length_map, List.length_reverse]; rfl
theorem ist_step (k : Nat) {A : Nat} {x0 z3 : Option Dt} (B : MS) (hB : B = mSq (mIfS (mT (mOp dEq (mVar 3) (mC (.str "(")))) (mSq (mIfS (mtOr (mT (mOp dNe (mVar 1) (mC (.str " ")))) (mT (mOp dEq (mOp dIx (mVar 2) (mUn dNeg (mC (.int 1)))) (mC (.int 0))))) (mRt (mC (.bl false))) mNx)
      (mEx (mGc (mMt dAppend (mVar 2) (mA1 (mC (.int 0)) mA0))))) (mIfS (mT (mOp dEq (mVar 3) (mC (.str ")")))) (mSq (mIfS (mtOr (mT (mOp dIn (mVar 1) (mC (.str "( ")))) (mtOr (mT (mOp dLt (mCall dLen (mA1 (mVar 2) mA0)) (mC (.int 2)))) (mT (mOp dLt (mOp dIx (mVar 2) (mUn dNeg (mC (.int 1)))) (mC (.int 2)))))) (mRt (mC (.bl false))) mNx)
      (mSq (mEx (mGc (mMt0 dPop (mVar 2))))
      (mSub (mVar 2) (mUn dNeg (mC (.int 1))) (mOp dAdd (mOp dIx (mVar 2) (mUn dNeg (mC (.int 1)))) (mC (.int 1)))))) (mIfS (mT (mOp dEq (mVar 3) (mC (.str " ")))) (mIfS (mT (mOp dIn (mVar 1) (mC (.str "( ")))) (mRt (mC (.bl false))) mNx) (mSq (mIfS (mtOr (mT (mOp dNotIn (mVar 1) (mC (.str "( ")))) (mtNot (mTru (mCall (mOwn 1 (M_h_is_head (k + 2))) (mA1 (mVar 3) mA0))))) (mRt (mC (.bl false))) mNx)
      (mSub (mVar 2) (mUn dNeg (mC (.int 1))) (mOp dAdd (mOp dIx (mVar 2) (mUn dNeg (mC (.int 1)))) (mC (.int 1))))))))
      (mSet 1 (mGc (mVar 3)))) {l p : List Nat} {top : List Tm} {stk : List (List Tm)} (w : Wf Z) (hl : okP l) (hp : p.length ≤ 60000) (g : Z[A]? = some (Cell.lst (cntD top stk))) (sl : stk.length ≤ 900000) :
    (stM l top stk p = none ∧ B [x0, some (pD l), some (.loc A), some (pD p)] Z = .rt (.bl false) Z) ∨ ∃ q, stM l top stk p = some q ∧ B [x0, some (pD l), some (.loc A), some (pD p)] Z = .nx [x0, some (pD p), some (.loc A), some (pD p)] (Z.set A (Cell.lst (cntD q.1 q.2))) ∧ q.2.length ≤ stk.length + 1 := by
  have lA := (List.getElem?_eq_some_iff.mp g).1
  have neg : ∀ (α : MD.Env) (Y : Sto), mUn dNeg (mC (.int 1)) α Y = .ok (.int (-1)) Y := fun _ _ => rfl
  have g' : Z[A]? = some (Cell.lst (stk.reverse.map lnD ++ [lnD top])) := g
  have i1 : mOp dIx (mVar 2) (mUn dNeg (mC (.int 1))) [x0, some (pD l), some (.loc A), some (pD p)] Z = .ok (lnD top) Z := by
    rw [sOp, sVar2, bind_ok, neg, bind_ok, ix_neg1 g']
  have t1 : mT (mOp dIn (mVar 1) (mC (.str "( "))) [x0, some (pD l), some (.loc A), some (pD p)] Z = .ok (decide (l = [40] ∨ l = [32])) Z := by
    rw [sT, sOp, sVar1, bind_ok, sC, bind_ok, show dIn (pD l) (.str (Str.ofString "( ")) Z = _ from in_two hl, bind_ok, sasB]
  have inc : mSub (mVar 2) (mUn dNeg (mC (.int 1))) (mOp dAdd (mOp dIx (mVar 2) (mUn dNeg (mC (.int 1)))) (mC (.int 1))) [x0, some (pD l), some (.loc A), some (pD p)] Z = .nx [x0, some (pD l), some (.loc A), some (pD p)] (Z.set A (Cell.lst (stk.reverse.map lnD ++ [.int ((top.length : Int) + 1)]))) := set_last rfl g' (by
    rw [sOp, i1, bind_ok, sC, bind_ok, lnD, add_ii])
  have last : ∀ {Y : Sto} {F : Fl}, F = .nx [x0, some (pD l), some (.loc A), some (pD p)] Y → F.then (mSet 1 (mGc (mVar 3))) = .nx [x0, some (pD p), some (.loc A), some (pD p)] Y := fun {Y F} h => by
    rw [h, fthen_nx, sSet, sGc (d := pD p) (S' := Y) rfl, gc_same, rthen_ok]
    rfl
  rw [hB, sSq, sIfS, sT, sOp, sVar3, bind_ok, sC, bind_ok, eq_pD c40, bind_ok, sasB, rthen_ok]
  unfold stM
  by_cases p1 : p = [40]
  · rw [if_pos p1, decide_eq_true p1, if_pos rfl, sSq, sIfS, stOr, sT, sOp, sVar1, bind_ok, sC, bind_ok, ne_pD c32, bind_ok, sasB, bind_ok]
    by_cases c : l = [32]
    · rw [decide_eq_true c, Bool.not_true, if_neg Bool.false_ne_true, sT, sOp, i1, bind_ok, sC, bind_ok, lnD, eq_ii, bind_ok, sasB, len0, rthen_ok]
      by_cases t : top = []
      · rw [decide_eq_true t, if_pos rfl, if_pos (.inr t), sRt, sC, rthen_ok, fthen_rt]
        exact .inl ⟨rfl, rfl⟩
      · rw [decide_eq_false t, if_neg Bool.false_ne_true, if_neg (by rintro (q | q); exact q c; exact t q)]
        refine .inr ⟨_, rfl, ?_, by show (stk.length + 1) ≤ _; omega⟩
        refine last ?_
        rw [sNx, fthen_nx, append_eq (A := A) (o := mVar 2) (m := mC (.int 0)) (d := .int 0) rfl rfl g (by rw [cnt_len]; omega)]
        show Fl.nx _ _ = Fl.nx _ (Z.set A (Cell.lst ((top :: stk).reverse.map lnD ++ [lnD []])))
        rw [List.reverse_cons, List.map_append]
        rfl
    · rw [decide_eq_false c, Bool.not_false, if_pos rfl, rthen_ok, if_pos rfl, if_pos (.inl c), sRt, sC, rthen_ok, fthen_rt]
      exact .inl ⟨rfl, rfl⟩
  rw [if_neg p1, decide_eq_false p1, if_neg Bool.false_ne_true, sIfS, sT, sOp, sVar3, bind_ok, sC, bind_ok, eq_pD c41, bind_ok, sasB, rthen_ok]
  by_cases p2 : p = [41]
  · rw [if_pos p2, decide_eq_true p2, if_pos rfl, sSq, sIfS, stOr, t1, bind_ok]
    by_cases c : l = [40] ∨ l = [32]
    · rw [decide_eq_true c, if_pos rfl, rthen_ok, if_pos rfl, if_pos (.inl c), sRt, sC, rthen_ok, fthen_rt]
      exact .inl ⟨rfl, rfl⟩
    rw [decide_eq_false c, if_neg Bool.false_ne_true, stOr, sT, sOp, sCall, sA1, sVar2, bind_ok, sA0, bind_ok, bind_ok, len_loc g, bind_ok, sC, bind_ok, show ∀ i : Int, dLt (.int i) (.int 2) Z = .ok (.bl (decide (i < 2))) Z from fun _ => rfl, bind_ok, sasB, bind_ok, cnt_len]
    cases stk with
    | nil =>
      rw [show decide ((([] : List (List Tm)).length + 1 : Nat) < (2 : Int)) = true from rfl, if_pos rfl, rthen_ok, if_pos rfl, sRt, sC, rthen_ok, fthen_rt]
      refine .inl ⟨?_, rfl⟩
      split
      · rfl
      · rfl
    | cons v r =>
      rw [decide_eq_false (by rw [List.length_cons]; omega), if_neg Bool.false_ne_true, sT, sOp, i1, bind_ok, sC, bind_ok, lnD, show ∀ i : Int, dLt (.int i) (.int 2) Z = .ok (.bl (decide (i < 2))) Z from fun _ => rfl, bind_ok, sasB, rthen_ok]
      by_cases t : top.length < 2
      · rw [show decide (((top.length : Nat) : Int) < 2) = true from decide_eq_true (by omega), if_pos rfl, if_pos (.inr t), sRt, sC, rthen_ok, fthen_rt]
        exact .inl ⟨rfl, rfl⟩
      · rw [show decide (((top.length : Nat) : Int) < 2) = false from decide_eq_false (by omega), if_neg Bool.false_ne_true, if_neg (by rintro (q | q); exact c q; exact t q)]
        refine .inr ⟨_, rfl, ?_, by show r.length ≤ r.length + 1 + 1; omega⟩
        refine last ?_
        have pp := pop_loc g'
        have isA : isL (.loc A) Z = true := by
          unfold isL
          dsimp only
          rw [g]
        have gv : (Z.set A (Cell.lst ((v :: r).reverse.map lnD)))[A]? = some (Cell.lst (r.reverse.map lnD ++ [lnD v])) := by
          rw [List.getElem?_set_self lA, List.reverse_cons, List.map_append]; rfl
        rw [sNx, fthen_nx, sSq, sEx, sGc (d := lnD top) (S' := Z.set A (Cell.lst ((v :: r).reverse.map lnD))) (by rw [sMt0, sVar2, bind_ok, if_pos isA, pp]), gc_len List.length_set, rthen_ok, fthen_nx, set_last (x := lnD v) (d := .int ((v.length : Int) + 1)) (o := mVar 2) rfl gv (by
          rw [sOp, sOp, sVar2, bind_ok, neg, bind_ok, ix_neg1 gv, bind_ok, sC, bind_ok, lnD, add_ii]), List.set_set]
        show Fl.nx _ _ = Fl.nx _ (Z.set A (Cell.lst (r.reverse.map lnD ++ [lnD (v ++ [asmT top])])))
        rw [lnD, List.length_append, List.length_singleton, Int.natCast_add]
        rfl
  rw [if_neg p2, decide_eq_false p2, if_neg Bool.false_ne_true, sIfS, sT, sOp, sVar3, bind_ok, sC, bind_ok, eq_pD c32, bind_ok, sasB, rthen_ok]
  by_cases p3 : p = [32]
  · rw [if_pos p3, decide_eq_true p3, if_pos rfl, sIfS, t1, rthen_ok]
    by_cases c : l = [40] ∨ l = [32]
    · rw [decide_eq_true c, if_pos rfl, if_pos c, sRt, sC, rthen_ok, fthen_rt]
      exact .inl ⟨rfl, rfl⟩
    · rw [decide_eq_false c, if_neg Bool.false_ne_true, if_neg c]
      refine .inr ⟨_, rfl, ?_, by show stk.length ≤ _; omega⟩
      refine last ?_
      show Fl.nx _ Z = Fl.nx _ (Z.set A (Cell.lst (cntD top stk)))
      rw [set_self Z A _ g]
  · rw [if_neg p3, decide_eq_false p3, if_neg Bool.false_ne_true, sSq, sIfS, stOr, sT, sOp, sVar1, bind_ok, sC, bind_ok, show dNotIn (pD l) (.str (Str.ofString "( ")) Z = .ok (.bl (!decide (l = [40] ∨ l = [32]))) Z by
      have := in_two (S := Z) hl
      unfold dIn at this
      unfold dNotIn
      injection this with this
      injection this with this
      rw [if_neg Bool.false_ne_true] at this
      show Rs.ok (Dt.bl (!(!(Builtin.Str.occurrences (Str.ofString "( ") (sP l) 0 (Str.ofString "( ").length 1).isEmpty))) Z = _
      rw [this], bind_ok, sasB, bind_ok]
    by_cases c : l = [40] ∨ l = [32]
    · rw [decide_eq_true c, Bool.not_true, if_neg Bool.false_ne_true, if_neg (fun q => q c), stNot, sTru, sCall, sA1, sVar3, bind_ok, sA0, bind_ok, bind_ok, own1, show M_h_is_head (k + 2) [pD p] Z = .ok (.bl (keyF (sP p)).isSome) Z from lis_head k w (by rw [sP_len]; exact hp), bind_ok, tru_bl, bind_ok, rthen_ok]
      cases hk : keyF (sP p) with
      | none =>
        rw [show (none : Option Key).isSome = false from rfl, Bool.not_false, if_pos rfl, sRt, sC, rthen_ok, fthen_rt]
        exact .inl ⟨rfl, rfl⟩
      | some g2 =>
        rw [show (some g2).isSome = true from rfl, Bool.not_true, if_neg Bool.false_ne_true]
        refine .inr ⟨_, rfl, ?_, by show stk.length ≤ _; omega⟩
        refine last ?_
        rw [sNx, fthen_nx, inc]
        show Fl.nx _ _ = Fl.nx _ (Z.set A (Cell.lst (stk.reverse.map lnD ++ [lnD (top ++ [.mk g2 []])])))
        rw [lnD, List.length_append, List.length_singleton, Int.natCast_add]
        rfl
    · rw [decide_eq_false c, Bool.not_false, if_pos rfl, rthen_ok, if_pos rfl, if_pos c, sRt, sC, rthen_ok, fthen_rt]
      exact .inl ⟨rfl, rfl⟩
theorem ist_loop (k : Nat) {A P : Nat} {x0 : Option Dt} {src : List Dt} (hAP : A ≠ P) (B : MS) (hB : B = mSq (mIfS (mT (mOp dEq (mVar 3) (mC (.str "(")))) (mSq (mIfS (mtOr (mT (mOp dNe (mVar 1) (mC (.str " ")))) (mT (mOp dEq (mOp dIx (mVar 2) (mUn dNeg (mC (.int 1)))) (mC (.int 0))))) (mRt (mC (.bl false))) mNx)
      (mEx (mGc (mMt dAppend (mVar 2) (mA1 (mC (.int 0)) mA0))))) (mIfS (mT (mOp dEq (mVar 3) (mC (.str ")")))) (mSq (mIfS (mtOr (mT (mOp dIn (mVar 1) (mC (.str "( ")))) (mtOr (mT (mOp dLt (mCall dLen (mA1 (mVar 2) mA0)) (mC (.int 2)))) (mT (mOp dLt (mOp dIx (mVar 2) (mUn dNeg (mC (.int 1)))) (mC (.int 2)))))) (mRt (mC (.bl false))) mNx)
      (mSq (mEx (mGc (mMt0 dPop (mVar 2))))
      (mSub (mVar 2) (mUn dNeg (mC (.int 1))) (mOp dAdd (mOp dIx (mVar 2) (mUn dNeg (mC (.int 1)))) (mC (.int 1)))))) (mIfS (mT (mOp dEq (mVar 3) (mC (.str " ")))) (mIfS (mT (mOp dIn (mVar 1) (mC (.str "( ")))) (mRt (mC (.bl false))) mNx) (mSq (mIfS (mtOr (mT (mOp dNotIn (mVar 1) (mC (.str "( ")))) (mtNot (mTru (mCall (mOwn 1 (M_h_is_head (k + 2))) (mA1 (mVar 3) mA0))))) (mRt (mC (.bl false))) mNx)
      (mSub (mVar 2) (mUn dNeg (mC (.int 1))) (mOp dAdd (mOp dIx (mVar 2) (mUn dNeg (mC (.int 1)))) (mC (.int 1))))))))
      (mSet 1 (mGc (mVar 3)))) : ∀ (ps : List (List Nat)) (l : List Nat) (top : List Tm) (stk : List (List Tm)) (Z : Sto) (z3 : Option Dt), Wf Z → okP l → (∀ p ∈ ps, okP p ∧ p.length ≤ 60000) → Z[A]? = some (Cell.lst (cntD top stk)) → Z[P]? = some (Cell.lst src) → stk.length + ps.length ≤ 800000 →
    (runM l top stk ps = none ∧ ∃ c, forGo (some (P, src)) (gN 3) B (ps.map pD) [x0, some (pD l), some (.loc A), z3] Z = .rt (.bl false) (Z.set A c)) ∨ ∃ q y3, runM l top stk ps = some q ∧ okP q.1 ∧ forGo (some (P, src)) (gN 3) B (ps.map pD) [x0, some (pD l), some (.loc A), z3] Z = .nx [x0, some (pD q.1), some (.loc A), y3] (Z.set A (Cell.lst (cntD q.2.1 q.2.2))) ∧ q.2.2.length ≤ 800000
  | [], l, top, stk, Z, z3, w, hl, hp, g, gP, sl => .inr ⟨(l, top, stk), z3, rfl, hl, by rw [set_self Z A _ g]; rfl, by show stk.length ≤ _; omega⟩
  | p :: ps, l, top, stk, Z, z3, w, hl, hp, g, gP, sl => by
    rw [List.length_cons] at sl
    have lA := (List.getElem?_eq_some_iff.mp g).1
    obtain ⟨pk, pl⟩ := hp p (List.mem_cons_self ..)
    rw [List.map_cons, forGo, sgN]
    simp only [xset_s, xset_0]
    rw [runM]
    rcases ist_step k (x0 := x0) B hB w hl pl g (by omega) (z3 := z3) with ⟨e, st⟩ | ⟨q, e, st, ql⟩
    · rw [e, st]
      exact .inl ⟨rfl, Cell.lst (cntD top stk), by rw [set_self Z A _ g]⟩
    · have w1 : Wf (Z.set A (Cell.lst (cntD q.1 q.2))) := wf_set w (cntD_b _ _ _)
      have gP1 : (Z.set A (Cell.lst (cntD q.1 q.2)))[P]? = some (Cell.lst src) := by rw [List.getElem?_set_ne hAP, gP]
      rw [e, Option.bind_some, st]
      dsimp only
      rw [if_pos (show chk (some (P, src)) _ from gP1)]
      rcases ist_loop k (x0 := x0) hAP B hB ps p q.1 q.2 (Z.set A (Cell.lst (cntD q.1 q.2))) (some (pD p)) w1 pk (fun p hp' => hp p (List.mem_cons_of_mem _ hp')) (List.getElem?_set_self lA) gP1 (by omega) with ⟨e2, c, h2⟩ | ⟨r, y3, e2, ok, h2, rl⟩
      · exact .inl ⟨e2, c, by rw [h2, List.set_set]⟩
      · exact .inr ⟨r, y3, e2, ok, by rw [h2, List.set_set], rl⟩
theorem is_term_all (k : Nat) (hS : Wf S) {x : Str} (hx : x.length ≤ 60000) : M_h_is_term (k + 3) [.str x] S = .ok (.bl (termM x.cps.toList).isSome) S := by
  have ll := slenT x
  rw [M_h_is_term, mFn_eq, show startE 4 [.str x] = [some (.str x), none, none, none] from rfl]
  rw [sSq, sSet, sGc (d := pD [40]) (S' := S) (by rw [sC, c40]; rfl), gc_same, rthen_ok, fthen_nx]
  simp only [xset_s, xset_0]
  rw [sSq, sSet, sGc (d := .loc S.length) (S' := S ++ [Cell.lst (cntD [] [])]) rfl, gc_one, rthen_ok, fthen_nx]
  simp only [xset_s, xset_0]
  have w1 : Wf (S ++ [Cell.lst (cntD [] [])]) := wf_app hS rfl
  have pe := pieces_eq (k + 1) w1 (x := x) (by omega)
  have lS : (S ++ [Cell.lst (cntD [] [])]).length = S.length + 1 := List.length_append
  have pl := pie_len x.cps.toList []
  have pf := pieS_flat x.cps.toList []
  have po := pie_ok x.cps.toList [] (fun c hc => absurd hc List.not_mem_nil)
  have pm : ∀ p ∈ pieS [] x.cps.toList, p.length ≤ 60000 := fun p hp => by
    have : p.length ≤ (pieS [] x.cps.toList).flatten.length := List.Sublist.length_le (List.sublist_flatten_of_mem hp)
    rw [pf, List.nil_append, ← ll] at this
    omega
  unfold termM
  generalize pieS [] x.cps.toList = ps at pe pl po pm
  have it : mIt (mCall (mOwn 1 (M_h_pieces (k + 2))) (mA1 (mVar 0) mA0)) [some (.str x), some (pD [40]), some (.loc S.length), none] (S ++ [Cell.lst (cntD [] [])]) = .ok (ps.map pD, some (S.length + 1, ps.map pD)) (S ++ [Cell.lst (cntD [] []), Cell.lst (ps.map pD)]) := by
    unfold mIt
    rw [sCall, sA1, sVar0, bind_ok, sA0, bind_ok, bind_ok, own1, pe, bind_ok, lS, List.append_assoc]
    exact it_loc get1
  have w2 : Wf (S ++ [Cell.lst (cntD [] []), Cell.lst (ps.map pD)]) := wf_app hS (by
    rw [bddSCons, bddSCons, bddSNil, bddLst, bddLst, cntD_b, pD_b]; rfl)
  have go := ist_loop k (A := S.length) (P := S.length + 1) (x0 := some (.str x)) (src := ps.map pD) (by omega) _ rfl ps [40] [] [] (S ++ [Cell.lst (cntD [] []), Cell.lst (ps.map pD)]) none w2 (.inl ⟨40, rfl⟩) (fun p hp => ⟨po p hp, pm p hp⟩) get0 get1 (by rw [List.length_nil]; omega)
  have sh : ∀ c : Cell, (S ++ [Cell.lst (cntD [] []), Cell.lst (ps.map pD)]).set S.length c = S ++ [c, Cell.lst (ps.map pD)] := fun c => by
    rw [List.set_append_right _ _ (Nat.le_refl _), Nat.sub_self]; rfl
  rw [sSq, xFor, it, rthen_ok]
  dsimp only
  rcases go with ⟨e, c, h⟩ | ⟨q, y3, e, ok, h, ql⟩
  · rw [h, fthen_rt, e, sh]
    exact gc_drop hS bddBl
  · obtain ⟨l, top, stk⟩ := q
    dsimp only at ok h ql
    rw [h, fthen_nx, e, Option.bind_some, sh]
    have g : (S ++ [Cell.lst (cntD top stk), Cell.lst (ps.map pD)])[S.length]? = some (Cell.lst (cntD top stk)) := get0
    dsimp only
    rw [sRt, sAnd, sOp, sCall, sA1, sVar2, bind_ok, sA0, bind_ok, bind_ok, len_loc g, bind_ok, sC, bind_ok, cnt_len, eq_ii, bind_ok]
    cases stk with
    | cons v r =>
      rw [decide_eq_false (by rw [List.length_cons]; omega), if_neg (fun q => absurd q.1 (List.cons_ne_nil _ _))]
      dsimp only
      rw [rthen_ok]
      exact gc_drop hS bddBl
    | nil =>
      rw [show decide (((([] : List (List Tm)).length + 1 : Nat) : Int) = 1) = true from rfl]
      dsimp only
      rw [sAnd, sOp, sOp, sVar2, bind_ok, sC, bind_ok, show dIx (.loc S.length) (.int 0) (S ++ [Cell.lst (cntD top []), Cell.lst (ps.map pD)]) = .ok (lnD top) (S ++ [Cell.lst (cntD top []), Cell.lst (ps.map pD)]) by
        rw [xIxL, g]; rfl, bind_ok, sC, bind_ok, lnD, show ∀ (i : Int) (Y : Sto), dGt (.int i) (.int 0) Y = .ok (.bl (decide (0 < i))) Y from fun _ _ => rfl, bind_ok]
      by_cases t : top = []
      · rw [decide_eq_false (by rw [t]; decide), if_neg (fun q => q.2.1 t)]
        dsimp only
        rw [rthen_ok]
        exact gc_drop hS bddBl
      · rw [decide_eq_true (by have := List.length_pos_iff.mpr t; omega)]
        dsimp only
        rw [sOp, sVar1, bind_ok, sC, bind_ok, ne_pD c32, rthen_ok]
        by_cases c : l = [32]
        · rw [decide_eq_true c, if_neg (fun q => q.2.2 c)]
          exact gc_drop hS bddBl
        · rw [decide_eq_false c, if_pos ⟨rfl, t, c⟩]
          exact gc_drop hS bddBl
end
end DM

namespace DM
open PySem L2 MD
open DF (Tm)
open DF (Fn KOk lones)
section
theorem cnt_wtA : ∀ n : Nat, (∀ t : Tm, t.size ≤ n → t.All RK → (wt t).count 40 + 1 ≤ t.size) ∧ (∀ ts : List Tm, Tm.sizeL ts ≤ n → (∀ t ∈ ts, t.All RK) → (wtL ts).count 40 ≤ Tm.sizeL ts) := by
  have hc : ∀ {k : Key}, RK k → (hcs k).count 40 = 0 := fun {k} h => List.count_eq_zero.mpr fun q => by
    have := chr_sep h 40 q
    cases this
  intro n
  induction n with
  | zero =>
    refine ⟨fun t h => absurd t.size_pos (by omega), fun ts h _ => ?_⟩
    cases ts with
    | nil => rw [wtL]; exact Nat.zero_le _
    | cons t ts => rw [Tm.sizeL] at h; exact absurd t.size_pos (by omega)
  | succ n ih =>
    have A : ∀ t : Tm, t.size ≤ n + 1 → t.All RK → (wt t).count 40 + 1 ≤ t.size := by
      intro t hs a
      cases t with
      | mk h ts =>
        rw [Tm.size] at hs
        have := ih.2 ts (by omega) (fun t ht => all_args a ht)
        rw [Tm.size, wt, List.count_append, hc (all_hd a)]
        omega
    refine ⟨A, fun ts => ?_⟩
    induction ts with
    | nil => intro _ _; rw [wtL]; exact Nat.zero_le _
    | cons t ts ihl =>
      intro hs ha
      rw [Tm.sizeL] at hs
      have h1 := A t (by omega) (ha t (List.mem_cons_self ..))
      have h2 := ihl (by omega) fun u hu => ha u (List.mem_cons_of_mem _ hu)
      rw [Tm.sizeL, wtL, List.count_append]
      split
      · rw [List.count_cons_of_ne (by decide)]; omega
      · rw [List.count_cons_of_ne (by decide), List.count_cons_self, List.count_append, show ([41] : List Nat).count 40 = 0 by decide]; omega
end
end DM

namespace DM
open PySem L2 MD
noncomputable def M_h_told : Nat → List Dt → Sto → Rs Dt
  | 0 => fun _ _ => .no
  | k + 1 => mFn 3 (mTryB (mtOnly "BadTerm") "BadTerm" 1 2 "bad" (mRt (mTup (mA1 (mC (.str "term")) (mA1 (mCall (mOwn 1 (M_write_term k)) (mA1 (mCall (mOwn 1 (M_read_term k)) (mA1 (mVar 0) mA0)) mA0)) mA0)))))
noncomputable def M_law : Nat → List Dt → Sto → Rs Dt
  | 0 => fun _ _ => .no
  | k + 1 => mFn 7 (mSq (mSet 1 (mGc (mLst (mA1 (mC (.int 0)) (mA1 (mC (.int 0)) (mA1 (mC (.int 1)) (mA1 (mC (.int 0)) mA0)))))))
      (mSq (mSet 2 (mGc (mCall (mOwn 2 (M_h_pool k)) (mA1 (mVar 1) (mA1 (mVar 0) mA0)))))
      (mSq (mFor (mIr1 (mA1 (mC (.int 6)) mA0)) (gN 3) (mSq (mSet 4 (mGc (mCall (mOwn 1 (M_h_written k)) (mA1 (mCall (mOwn 4 (M_h_term k)) (mA1 (mVar 1) (mA1 (mVar 0) (mA1 (mVar 2) (mA1 (mC (.int 20)) mA0))))) mA0))))
      (mSq (mFor (mIr1 (mA1 (mOp dAdd (mC (.int 1)) (mCall (mOwn 3 (M_h_pick k)) (mA1 (mVar 1) (mA1 (mVar 0) (mA1 (mC (.int 3)) mA0))))) mA0)) (gN 5) (mSet 4 (mGc (mCall (mOwn 3 (M_h_spoiled k)) (mA1 (mVar 1) (mA1 (mVar 0) (mA1 (mVar 4) mA0)))))))
      (mSq (mSet 6 (mGc (mCall (mOwn 1 (M_h_told k)) (mA1 (mVar 4) mA0))))
      (mIfS (mTru (mCall (mOwn 1 (M_h_is_term k)) (mA1 (mVar 4) mA0))) (mIfS (mtNot (mTru (mCall (mOwn 2 (M_h_same k)) (mA1 (mVar 6) (mA1 (mTup (mA1 (mC (.str "term")) (mA1 (mVar 4) mA0))) mA0))))) (mRt (mC (.bl false))) mNx) (mIfS (mtOr (mT (mOp dNe (mOp dIx (mVar 6) (mC (.int 0))) (mC (.str "bad")))) (mT (mOp dNotB (mOp dIx (mVar 6) (mC (.int 1))) (mC (.bl true))))) (mRt (mC (.bl false))) mNx))))))
      (mRt (mC (.bl true))))))
end DM

namespace DM
open PySem L2 MD
open DF (Tm)
open DF (Fn KOk lones)
section
variable {S Z Z1 : Sto} {st : Nat} {d : Int} {α : MD.Env}
/-! ### k04 -/
/-- what is told of a text that should be a term -/
noncomputable def tld4 (x : Str) : Dt := match rdT x with
  | some _ => .tup [.str "term", .str x]
  | none => .tup [.str "bad", .bl true]
theorem told4 (k : Nat) (hS : Wf S) {x : Str} (zl : x.length ≤ 3000) (hc : ∀ c ∈ x.cps.toList, c < 16 ^ 8) : M_h_told (k + 5) [.str x] S = .ok (tld4 x) S := by
  have rd := read_term_all k hS x zl hc
  rw [show k + 5 = (k + 4) + 1 from rfl, M_h_told, mFn_eq, show startE 3 [.str x] = [some (.str x), none, none] from rfl]
  cases hp : rdT x with
  | none =>
    rw [hp] at rd
    have b : mRt (mTup (mA1 (mC (.str "term")) (mA1 (mCall (mOwn 1 (M_write_term (k + 4))) (mA1 (mCall (mOwn 1 (M_read_term (k + 4))) (mA1 (mVar 0) mA0)) mA0)) mA0))) [some (.str x), none, none] S = .ex "BadTerm" [] [some (.str x), none, none] S := by
      rw [sRt, sTup, sA1, sC, bind_ok, sA1, sCall, sA1, sCall, sA1, sVar0, bind_ok, sA0, bind_ok, bind_ok, own1, rd]
      rfl
    unfold mTryB
    rw [b]
    dsimp only
    rw [show mtOnly "BadTerm" "BadTerm" = some true from if_pos rfl]
    dsimp only
    rw [if_pos ⟨rfl, by show 1 < 3; decide, by show 2 < 3; decide, by decide⟩]
    dsimp only
    unfold tld4
    rw [hp]
    exact gc_same
  | some t =>
    rw [hp] at rd
    obtain ⟨ta, tw⟩ := rdT_some hp
    have tz := sz_wt ta (n := 3000) (by rw [tw]; exact zl)
    have wr := write_term_eq (k + 2) S hS t (RK.hg ta) (by omega)
    rw [tw] at wr
    have b : mRt (mTup (mA1 (mC (.str "term")) (mA1 (mCall (mOwn 1 (M_write_term (k + 4))) (mA1 (mCall (mOwn 1 (M_read_term (k + 4))) (mA1 (mVar 0) mA0)) mA0)) mA0))) [some (.str x), none, none] S = .rt (tld4 x) S := by
      rw [sRt, sTup, sA1, sC, bind_ok, sA1, sCall, sA1, sCall, sA1, sVar0, bind_ok, sA0, bind_ok, bind_ok, own1, rd, bind_ok, sA0, bind_ok, bind_ok, own1, wr, bind_ok, sA0, bind_ok, bind_ok, bind_ok, if_pos (l2le _ _), rthen_ok]
      unfold tld4
      rw [hp]
    unfold mTryB
    rw [b]
    dsimp only
    exact gc_same
theorem bl_wt {t : Tm} {n : Nat} (h : t.All RK) (hz : t.size ≤ n) : BL (15 * n) n (wtS t) := by
  refine ⟨by rw [← slenT]; exact Nat.le_trans (wtS_lenR h) (Nat.mul_le_mul_left _ hz), fun c hc => chr_small (wtS_chr h c hc), ?_⟩
  have := (cnt_wtA t.size).1 t (Nat.le_refl _) h
  rw [wtS_cps]
  omega
/-- a text, spoilt several times -/
theorem spoil_loop (k : Nat) (ns : List Int) {x2 z3 z6 : Option Dt} (B : MS) (hB : B = mSet 4 (mGc (mCall (mOwn 3 (M_h_spoiled (k + 2))) (mA1 (mVar 1) (mA1 (mVar 0) (mA1 (mVar 4) mA0)))))) : ∀ (its : List Dt) (Z : Sto) (x : Str) (n c : Nat) (z5 : Option Dt), Wf Z → PkAt Z st d → BL n c x → n + 13 * its.length ≤ 10000 →
    ∃ y5 x' Z', forGo none (gN 5) B its [some (.scr ns), some (.loc st), x2, z3, some (.str x), z5, z6] Z = .nx [some (.scr ns), some (.loc st), x2, z3, some (.str x'), y5, z6] Z' ∧ BL (n + 13 * its.length) (c + its.length) x' ∧ PkR Z st d Z'
  | [], Z, x, n, c, z5, w, h, hx, _ => ⟨z5, x, Z, rfl, hx.mono (Nat.le_add_right ..) (Nat.le_add_right ..), h.self⟩
  | e :: its, Z, x, n, c, z5, w, h, hx, hn => by
    rw [List.length_cons] at hn
    obtain ⟨y, Z1, e1, hy, p1⟩ := spoiled_eq k ns w h hx (by omega)
    obtain ⟨y5, x', Z', e2, hx', p2⟩ := spoil_loop k ns B hB its Z1 y (n + 13) (c + 1) (some e) (p1.wf w) (p1.at h.lt) hy (by omega)
    refine ⟨y5, x', Z', ?_, hx'.mono (by rw [List.length_cons]; omega) (by rw [List.length_cons]; omega), p1.trans p2⟩
    rw [forGo, sgN]
    simp only [xset_s, xset_0]
    have st' : B [some (.scr ns), some (.loc st), x2, z3, some (.str x), some e, z6] Z = .nx [some (.scr ns), some (.loc st), x2, z3, some (.str y), some e, z6] Z1 := by
      rw [hB, sSet, sGc (d := .str y) (S' := Z1) (by rw [sCall, sA1, sVar1, bind_ok, sA1, sVar0, bind_ok, sA1, sVar4, bind_ok, sA0, bind_ok, bind_ok, bind_ok, bind_ok, own3, e1]), gc_len p1.len, rthen_ok]
      rfl
    rw [st']
    dsimp only
    rw [if_pos (show chk none _ from True.intro), e2]
end
end DM

namespace DM
open PySem L2 MD
open DF (Tm)
open DF (Fn KOk lones)
section
variable {S Z Z1 : Sto} {st : Nat} {d : Int} {α : MD.Env}
abbrev k4E (ns : List Int) (pl : Nat) (z3 z4 z5 z6 : Option Dt) : MD.Env := [some (.scr ns), some (.loc 0), some (.loc pl), z3, z4, z5, z6]
theorem turn4 (ns : List Int) {pl : Nat} {pool : List Key} (B : MS) (hB : B = (mSq (mSet 4 (mGc (mCall (mOwn 1 (M_h_written 259)) (mA1 (mCall (mOwn 4 (M_h_term 259)) (mA1 (mVar 1) (mA1 (mVar 0) (mA1 (mVar 2) (mA1 (mC (.int 20)) mA0))))) mA0))))
      (mSq (mFor (mIr1 (mA1 (mOp dAdd (mC (.int 1)) (mCall (mOwn 3 (M_h_pick 259)) (mA1 (mVar 1) (mA1 (mVar 0) (mA1 (mC (.int 3)) mA0))))) mA0)) (gN 5) (mSet 4 (mGc (mCall (mOwn 3 (M_h_spoiled 259)) (mA1 (mVar 1) (mA1 (mVar 0) (mA1 (mVar 4) mA0)))))))
      (mSq (mSet 6 (mGc (mCall (mOwn 1 (M_h_told 259)) (mA1 (mVar 4) mA0))))
      (mIfS (mTru (mCall (mOwn 1 (M_h_is_term 259)) (mA1 (mVar 4) mA0))) (mIfS (mtNot (mTru (mCall (mOwn 2 (M_h_same 259)) (mA1 (mVar 6) (mA1 (mTup (mA1 (mC (.str "term")) (mA1 (mVar 4) mA0))) mA0))))) (mRt (mC (.bl false))) mNx) (mIfS (mtOr (mT (mOp dNe (mOp dIx (mVar 6) (mC (.int 0))) (mC (.str "bad")))) (mT (mOp dNotB (mOp dIx (mVar 6) (mC (.int 1))) (mC (.bl true))))) (mRt (mC (.bl false))) mNx)))))) {z3 z4 z5 z6 : Option Dt} (w : Wf Z) (h : PkAt Z 0 d) (hp : PoolAt Z 0 pl pool) : ∃ y4 y5 y6 Z' d', B (k4E ns pl z3 z4 z5 z6) Z = .nx (k4E ns pl z3 y4 y5 y6) Z' ∧ PkR Z 0 d' Z' := by
  obtain ⟨t, Z1, d1, e1, ht, p1⟩ := term_hq 164 ns w h hp (most := 20) (by decide) (by decide)
  have w1 := p1.wf w
  have h1 := p1.at h.lt
  have wr := written_eq 167 91 t ht.hi ht.al (by have := wtS_lenR ht.al; have := ht.sz; rw [← wtS_cps, ← slenT]; omega) Z1
  rw [hB, sSq, sSet, sGc (d := .str (wtS t)) (S' := Z1) (by rw [sCall, sA1, sCall, sA1, sVar1, bind_ok, sA1, sVar0, bind_ok, sA1, sVar2, bind_ok, sA1, sC, bind_ok, sA0, bind_ok, bind_ok, bind_ok, bind_ok, bind_ok, own4, show M_h_term 259 [.loc 0, .scr ns, .loc pl, .int 20] Z = _ from e1, bind_ok, sA0, bind_ok, bind_ok, own1]; exact wr), gc_len p1.len, rthen_ok, fthen_nx]
  rw [show (k4E ns pl z3 z4 z5 z6).set 4 (some (.str (wtS t))) = k4E ns pl z3 (some (.str (wtS t))) z5 z6 from rfl]
  obtain ⟨r, Z2, e2, b2, p2⟩ := pick_eq 258 ns h1 3 (by decide)
  have w2 := p2.wf w1
  have h2 := p2.at h1.lt
  have ir : mIr1 (mA1 (mOp dAdd (mC (.int 1)) (mCall (mOwn 3 (M_h_pick 259)) (mA1 (mVar 1) (mA1 (mVar 0) (mA1 (mC (.int 3)) mA0))))) mA0) (k4E ns pl z3 (some (.str (wtS t))) z5 z6) Z1 = .ok (rngD 0 (1 + r).toNat, none) Z2 := by
    unfold mIr1
    rw [sA1, sOp, sC, bind_ok, sCall, sA1, sVar1, bind_ok, sA1, sVar0, bind_ok, sA1, sC, bind_ok, sA0, bind_ok, bind_ok, bind_ok, bind_ok, own3, e2, bind_ok, add_ii, bind_ok, sA0, bind_ok, bind_ok]
    dsimp only
    rw [if_pos (by omega)]
  have rl : (rngD 0 (1 + r).toNat).length ≤ 3 := by unfold rngD; rw [List.length_map, List.length_range]; omega
  obtain ⟨y5, x, Z3, e3, hx, p3⟩ := spoil_loop 257 ns (x2 := some (.loc pl)) (z3 := z3) (z6 := z6) _ rfl (rngD 0 (1 + r).toNat) Z2 (wtS t) (15 * 20) 20 z5 w2 h2 (bl_wt ht.al ht.sz) (by omega)
  have w3 := p3.wf w2
  have h3 := p3.at h2.lt
  have xl : x.length ≤ 3000 := by have := hx.len; omega
  rw [sSq, xFor, ir, rthen_ok]
  dsimp only
  rw [e3, fthen_nx]
  have td := told4 254 w3 xl hx.2.1
  rw [sSq, sSet, sGc (d := tld4 x) (S' := Z3) (by rw [sCall, sA1, sVar4, bind_ok, sA0, bind_ok, bind_ok, own1]; exact td), gc_same, rthen_ok, fthen_nx]
  have it := is_term_all 256 w3 (x := x) (by omega)
  rw [termM_rdT xl] at it
  rw [show ([some (.scr ns), some (.loc 0), some (.loc pl), z3, some (.str x), y5, z6] : MD.Env).set 6 (some (tld4 x)) = k4E ns pl z3 (some (.str x)) y5 (some (tld4 x)) from rfl]
  have v4 : mVar 4 (k4E ns pl z3 (some (.str x)) y5 (some (tld4 x))) Z3 = .ok (.str x) Z3 := rfl
  have v6 : mVar 6 (k4E ns pl z3 (some (.str x)) y5 (some (tld4 x))) Z3 = .ok (tld4 x) Z3 := rfl
  have tot := (p1.trans p2).trans p3
  refine ⟨some (.str x), y5, some (tld4 x), Z3, d1, ?_, tot⟩
  rw [sIfS, sTru, sCall, sA1, v4, bind_ok, sA0, bind_ok, bind_ok, own1, it, bind_ok, tru_bl, rthen_ok]
  cases hr : rdT x with
  | some u =>
    have tl : tld4 x = .tup [.str "term", .str x] := by unfold tld4; rw [hr]
    have sm : M_h_same 259 [.tup [.str "term", .str x], .tup [.str "term", .str x]] Z3 = .ok (.bl true) Z3 := same_tup 258 _ (l2le _ _) fun y hy => by
      simp only [List.mem_cons, List.not_mem_nil, or_false] at hy
      rcases hy with rfl | rfl <;> exact same_str 257 _
    rw [show (some u : Option Tm).isSome = true from rfl, if_pos rfl, sIfS, stNot, sTru, sCall, sA1, v6, bind_ok, sA1, sTup, sA1, sC, bind_ok, sA1, v4, bind_ok, sA0, bind_ok, bind_ok, bind_ok, if_pos (l2le _ _), bind_ok, sA0, bind_ok, bind_ok, bind_ok, own2, tl]
    rw [show M_h_same 259 [.tup [.str "term", .str x], .tup [.str (Str.ofString "term"), .str x]] Z3 = _ from sm, bind_ok, tru_bl, bind_ok, Bool.not_true, rthen_ok, if_neg Bool.false_ne_true, sNx]
  | none =>
    have tl : tld4 x = .tup [.str "bad", .bl true] := by unfold tld4; rw [hr]
    rw [tl] at v6
    rw [show (none : Option Tm).isSome = false from rfl, if_neg Bool.false_ne_true, sIfS, stOr, sT, sOp, sOp, tl, v6, bind_ok, sC, bind_ok, ix_t0, bind_ok, sC, bind_ok, show dNe (.str "bad") (.str (Str.ofString "bad")) Z3 = .ok (.bl false) Z3 by
      show Rs.ok (Dt.bl (!decide (Str.ofString "bad" = Str.ofString "bad"))) Z3 = _
      rw [decide_eq_true rfl]; rfl, bind_ok, sasB, bind_ok, if_neg Bool.false_ne_true, sT, sOp, sOp, v6, bind_ok, sC, bind_ok, ix_t1, bind_ok, sC, bind_ok, show dNotB (.bl true) (.bl true) Z3 = .ok (.bl false) Z3 from rfl, bind_ok, sasB, rthen_ok, if_neg Bool.false_ne_true, sNx]
theorem loop4 (ns : List Int) {pl : Nat} {pool : List Key} (B : MS) (hB : B = (mSq (mSet 4 (mGc (mCall (mOwn 1 (M_h_written 259)) (mA1 (mCall (mOwn 4 (M_h_term 259)) (mA1 (mVar 1) (mA1 (mVar 0) (mA1 (mVar 2) (mA1 (mC (.int 20)) mA0))))) mA0))))
      (mSq (mFor (mIr1 (mA1 (mOp dAdd (mC (.int 1)) (mCall (mOwn 3 (M_h_pick 259)) (mA1 (mVar 1) (mA1 (mVar 0) (mA1 (mC (.int 3)) mA0))))) mA0)) (gN 5) (mSet 4 (mGc (mCall (mOwn 3 (M_h_spoiled 259)) (mA1 (mVar 1) (mA1 (mVar 0) (mA1 (mVar 4) mA0)))))))
      (mSq (mSet 6 (mGc (mCall (mOwn 1 (M_h_told 259)) (mA1 (mVar 4) mA0))))
      (mIfS (mTru (mCall (mOwn 1 (M_h_is_term 259)) (mA1 (mVar 4) mA0))) (mIfS (mtNot (mTru (mCall (mOwn 2 (M_h_same 259)) (mA1 (mVar 6) (mA1 (mTup (mA1 (mC (.str "term")) (mA1 (mVar 4) mA0))) mA0))))) (mRt (mC (.bl false))) mNx) (mIfS (mtOr (mT (mOp dNe (mOp dIx (mVar 6) (mC (.int 0))) (mC (.str "bad")))) (mT (mOp dNotB (mOp dIx (mVar 6) (mC (.int 1))) (mC (.bl true))))) (mRt (mC (.bl false))) mNx)))))) : ∀ (its : List Dt) (Z : Sto) (d : Int) (z3 z4 z5 z6 : Option Dt), Wf Z → PkAt Z 0 d → PoolAt Z 0 pl pool → ∃ y3 y4 y5 y6 Z', forGo none (gN 3) B its (k4E ns pl z3 z4 z5 z6) Z = .nx (k4E ns pl y3 y4 y5 y6) Z'
  | [], Z, d, z3, z4, z5, z6, _, _, _ => ⟨z3, z4, z5, z6, Z, rfl⟩
  | e :: its, Z, d, z3, z4, z5, z6, w, h, hp => by
    obtain ⟨y4, y5, y6, Z1, d1, e1, p1⟩ := turn4 ns B hB (z3 := some e) (z4 := z4) (z5 := z5) (z6 := z6) w h hp
    obtain ⟨x3, x4, x5, x6, Z2, e2⟩ := loop4 ns B hB its Z1 d1 (some e) y4 y5 y6 (p1.wf w) (p1.at h.lt) (hp.pk p1)
    refine ⟨x3, x4, x5, x6, Z2, ?_⟩
    rw [forGo, sgN]
    rw [show (k4E ns pl z3 z4 z5 z6).set 3 (some e) = k4E ns pl (some e) z4 z5 z6 from rfl]
    simp only [e1]
    rw [if_pos (show chk none _ from True.intro), e2]
theorem law_at (ns : List Int) (hl : ns.length ≤ 63) : ∃ S, M_law 260 [.scr ns] [] = .ok (.bl true) S := by
  rw [show (260 : Nat) = 259 + 1 from rfl, M_law, mFn_eq, show startE 7 [.scr ns] = [some (.scr ns), none, none, none, none, none, none] from rfl]
  rw [sSq, sSet, sGc (d := .loc 0) (S' := [stc 0 0 1 0]) rfl, show gcR ([] : Sto).length (.loc 0) [stc 0 0 1 0] = .ok (.loc 0) [stc 0 0 1 0] from gc_one (S := []), rthen_ok, fthen_nx]
  simp only [xset_s, xset_0]
  have w0 : Wf [stc 0 0 1 0] := wf_app (S := []) (G := [stc 0 0 1 0]) rfl rfl
  have h0 : PkAt [stc 0 0 1 0] 0 0 := ⟨0, 0, 1, rfl, by decide, by decide, by decide, by decide⟩
  obtain ⟨pool, S1, e1, hk, hn, p1⟩ := pool_eq 256 ns w0 h0
  have w1 : Wf (S1 ++ [Cell.lst (pool.map kD)]) := wf_app (p1.wf w0) (by
    show (Dt.bddL _ (pool.map kD) && true) = true
    rw [kDs_bdd]; rfl)
  have l1 : S1.length = 1 := p1.len
  have h1 : PkAt (S1 ++ [Cell.lst (pool.map kD)]) 0 0 := (p1.at (by decide)).app _
  have hp : PoolAt (S1 ++ [Cell.lst (pool.map kD)]) 0 1 pool := ⟨by rw [← l1]; exact get0, hk, by omega, by omega, by decide⟩
  rw [sSq, sSet, sGc (d := .loc 1) (S' := S1 ++ [Cell.lst (pool.map kD)]) (by rw [sCall, sA1, sVar1, bind_ok, sA1, sVar0, bind_ok, sA0, bind_ok, bind_ok, bind_ok, own2]; exact e1), show gcR ([stc 0 0 1 0] : Sto).length (.loc 1) (S1 ++ [Cell.lst (pool.map kD)]) = .ok (.loc 1) (S1 ++ [Cell.lst (pool.map kD)]) from by
    have := gc_one (S := S1) (c := Cell.lst (pool.map kD))
    rw [l1] at this
    exact this, rthen_ok, fthen_nx]
  simp only [xset_s, xset_0]
  obtain ⟨y3, y4, y5, y6, Z, e2⟩ := loop4 ns _ rfl (rngD 0 6) _ 0 none none none none w1 h1 hp
  have ir : ∀ (α : MD.Env) (Z : Sto), mIr1 (mA1 (mC (.int 6)) mA0) α Z = .ok (rngD 0 6, none) Z := fun α Z => by
    unfold mIr1
    rw [sA1, sC, bind_ok, sA0, bind_ok, bind_ok]
    dsimp only
    rw [if_pos (by decide)]
    rfl
  rw [sSq, xFor, ir, rthen_ok]
  dsimp only
  rw [e2, fthen_nx, sRt, sC, rthen_ok]
  exact ⟨[], gc_drop (S := []) rfl bddBl⟩
end
end DM

namespace DM
open PySem L2 MD
def topS (i : Nat) : Stmt := PySem.Challenge.pw_drivefold_k04_texts_that_are_no_terms.main.body.getD i (.Pass ⟨0, 0, 0, 0⟩)
abbrev s_applied : Stmt := topS 10
abbrev s_write_term : Stmt := topS 14
abbrev s_write_head : Stmt := topS 15
abbrev s_read_term : Stmt := topS 16
abbrev s_words : Stmt := topS 17
abbrev s_joined : Stmt := topS 18
abbrev s_read_head : Stmt := topS 19
abbrev s_is_name : Stmt := topS 20
abbrev s_is_number : Stmt := topS 21
abbrev s_consists_of : Stmt := topS 22
abbrev s_h_pick : Stmt := topS 24
abbrev s_h_same : Stmt := topS 25
abbrev s_h_name : Stmt := topS 26
abbrev s_h_head : Stmt := topS 27
abbrev s_h_pool : Stmt := topS 28
abbrev s_h_any : Stmt := topS 29
abbrev s_h_deep : Stmt := topS 30
abbrev s_h_term : Stmt := topS 31
abbrev s_h_written : Stmt := topS 32
abbrev s_h_is_name : Stmt := topS 33
abbrev s_h_is_head : Stmt := topS 34
abbrev s_h_pieces : Stmt := topS 35
abbrev s_h_is_term : Stmt := topS 36
abbrev s_h_spoiled : Stmt := topS 37
abbrev s_h_told : Stmt := topS 38
abbrev s_law : Stmt := topS 39
theorem sc_applied : FnScope ["term", "arguments"] ["term", "arguments"] (defScope s_applied) := ⟨rfl, rfl, rfl, by decide +kernel, rfl, by decide +kernel, by decide +kernel⟩
theorem sc_write_term : FnScope ["term", "pieces", "waiting", "item", "argument"] ["term"] (defScope s_write_term) := ⟨rfl, rfl, rfl, by decide +kernel, rfl, by decide +kernel, by decide +kernel⟩
theorem sc_write_head : FnScope ["head"] ["head"] (defScope s_write_head) := ⟨rfl, rfl, rfl, by decide +kernel, rfl, by decide +kernel, by decide +kernel⟩
theorem sc_read_term : FnScope ["text", "around", "items", "word", "inner", "term"] ["text"] (defScope s_read_term) := ⟨rfl, rfl, rfl, by decide +kernel, rfl, by decide +kernel, by decide +kernel⟩
theorem sc_words : FnScope ["text", "spread", "word"] ["text"] (defScope s_words) := ⟨rfl, rfl, rfl, by decide +kernel, rfl, by decide +kernel, by decide +kernel⟩
theorem sc_joined : FnScope ["items"] ["items"] (defScope s_joined) := ⟨rfl, rfl, rfl, by decide +kernel, rfl, by decide +kernel, by decide +kernel⟩
theorem sc_read_head : FnScope ["word"] ["word"] (defScope s_read_head) := ⟨rfl, rfl, rfl, by decide +kernel, rfl, by decide +kernel, by decide +kernel⟩
theorem sc_is_name : FnScope ["word"] ["word"] (defScope s_is_name) := ⟨rfl, rfl, rfl, by decide +kernel, rfl, by decide +kernel, by decide +kernel⟩
theorem sc_is_number : FnScope ["word"] ["word"] (defScope s_is_number) := ⟨rfl, rfl, rfl, by decide +kernel, rfl, by decide +kernel, by decide +kernel⟩
theorem sc_consists_of : FnScope ["word", "characters", "character"] ["word", "characters"] (defScope s_consists_of) := ⟨rfl, rfl, rfl, by decide +kernel, rfl, by decide +kernel, by decide +kernel⟩
theorem sc_h_pick : FnScope ["state", "script", "many", "number", "place", "cell"] ["state", "script", "many"] (defScope s_h_pick) := ⟨rfl, rfl, rfl, by decide +kernel, rfl, by decide +kernel, by decide +kernel⟩
theorem sc_h_same : FnScope ["actual", "due", "k"] ["actual", "due"] (defScope s_h_same) := ⟨rfl, rfl, rfl, by decide +kernel, rfl, by decide +kernel, by decide +kernel⟩
theorem sc_h_name : FnScope ["state", "script", "large", "small", "chars", "size", "word", "k"] ["state", "script", "large"] (defScope s_h_name) := ⟨rfl, rfl, rfl, by decide +kernel, rfl, by decide +kernel, by decide +kernel⟩
theorem sc_h_head : FnScope ["state", "script", "pool", "choice"] ["state", "script", "pool"] (defScope s_h_head) := ⟨rfl, rfl, rfl, by decide +kernel, rfl, by decide +kernel, by decide +kernel⟩
theorem sc_h_pool : FnScope ["state", "script", "k"] ["state", "script"] (defScope s_h_pool) := ⟨rfl, rfl, rfl, by decide +kernel, rfl, by decide +kernel, by decide +kernel⟩
theorem sc_h_any : FnScope ["state", "script", "pool", "depth", "head", "arguments", "many", "k"] ["state", "script", "pool", "depth"] (defScope s_h_any) := ⟨rfl, rfl, rfl, by decide +kernel, rfl, by decide +kernel, by decide +kernel⟩
theorem sc_h_deep : FnScope ["state", "script", "pool", "many", "term", "k", "arguments"] ["state", "script", "pool", "many"] (defScope s_h_deep) := ⟨rfl, rfl, rfl, by decide +kernel, rfl, by decide +kernel, by decide +kernel⟩
theorem sc_h_term : FnScope ["state", "script", "pool", "most"] ["state", "script", "pool", "most"] (defScope s_h_term) := ⟨rfl, rfl, rfl, by decide +kernel, rfl, by decide +kernel, by decide +kernel⟩
theorem sc_h_written : FnScope ["term", "text", "argument", "part"] ["term"] (defScope s_h_written) := ⟨rfl, rfl, rfl, by decide +kernel, rfl, by decide +kernel, by decide +kernel⟩
theorem sc_h_is_name : FnScope ["word", "letters", "char"] ["word"] (defScope s_h_is_name) := ⟨rfl, rfl, rfl, by decide +kernel, rfl, by decide +kernel, by decide +kernel⟩
theorem sc_h_is_head : FnScope ["word", "digits", "char"] ["word"] (defScope s_h_is_head) := ⟨rfl, rfl, rfl, by decide +kernel, rfl, by decide +kernel, by decide +kernel⟩
theorem sc_h_pieces : FnScope ["text", "pieces", "word", "char"] ["text"] (defScope s_h_pieces) := ⟨rfl, rfl, rfl, by decide +kernel, rfl, by decide +kernel, by decide +kernel⟩
theorem sc_h_is_term : FnScope ["text", "last", "counts", "piece"] ["text"] (defScope s_h_is_term) := ⟨rfl, rfl, rfl, by decide +kernel, rfl, by decide +kernel, by decide +kernel⟩
theorem sc_h_spoiled : FnScope ["state", "script", "text", "at", "choice", "word"] ["state", "script", "text"] (defScope s_h_spoiled) := ⟨rfl, rfl, rfl, by decide +kernel, rfl, by decide +kernel, by decide +kernel⟩
theorem sc_h_told : FnScope ["text", "e", "others"] ["text"] (defScope s_h_told) := ⟨rfl, rfl, rfl, by decide +kernel, rfl, by decide +kernel, by decide +kernel⟩
theorem sc_law : FnScope ["script", "state", "pool", "k", "text", "j", "told"] ["script"] (defScope s_law) := ⟨rfl, rfl, rfl, by decide +kernel, rfl, by decide +kernel, by decide +kernel⟩
structure DefAt (K : PySem.W.Frag) (mg : Str → Option Value) (x : Str) (st : Stmt) (ps : List Str) (f : Addr) (fd : FuncData) : Prop where
  F : Fun K x x st f fd
  b : Binds K fd ps []
  m : mg x = some (.ref f)
structure Txt (P : Program) (w : World) (K : PySem.W.Frag) (mg : Str → Option Value) (base : Heap) where
  c_DriveFoldError : Addr
  x_DriveFoldError : PySem.W.excIn K c_DriveFoldError [.type "ValueError", .type "Exception", .type "BaseException", .type "object"] "ValueError.__new__" = true
  g_DriveFoldError : mg "DriveFoldError" = some (.ref c_DriveFoldError)
  k_DriveFoldError : PySem.W.keepIn K (.ref c_DriveFoldError) = true
  b_DriveFoldError : PySem.W.subIn K (.ref c_DriveFoldError) (.type "BaseException") = some true
  t_DriveFoldError : PySem.W.typeIn K (.ref c_DriveFoldError) = some (.type "type")
  c_BadTerm : Addr
  x_BadTerm : PySem.W.excIn K c_BadTerm [.type "ValueError", .type "Exception", .type "BaseException", .type "object"] "ValueError.__new__" = true
  g_BadTerm : mg "BadTerm" = some (.ref c_BadTerm)
  k_BadTerm : PySem.W.keepIn K (.ref c_BadTerm) = true
  b_BadTerm : PySem.W.subIn K (.ref c_BadTerm) (.type "BaseException") = some true
  t_BadTerm : PySem.W.typeIn K (.ref c_BadTerm) = some (.type "type")
  o_BadJournal : Addr
  og_BadJournal : mg "BadJournal" = some (.ref o_BadJournal)
  o_BadPaper : Addr
  og_BadPaper : mg "BadPaper" = some (.ref o_BadPaper)
  o_BadProgram : Addr
  og_BadProgram : mg "BadProgram" = some (.ref o_BadProgram)
  o_Refused : Addr
  og_Refused : mg "Refused" = some (.ref o_Refused)
  o_TooLarge : Addr
  og_TooLarge : mg "TooLarge" = some (.ref o_TooLarge)
  o_WrongPaper : Addr
  og_WrongPaper : mg "WrongPaper" = some (.ref o_WrongPaper)
  tx_BadTerm : PySem.W.exmOne K (.ref c_BadTerm) (.ref c_DriveFoldError) = some true
  te_BadTerm : EisC K c_BadTerm
  tv_BadTerm : PySem.W.kitOne K (.ref c_BadTerm) (.type "ValueError") = some true
  ta_BadTerm : PySem.W.kitAny K (.ref c_BadTerm) [.ref o_BadJournal, .ref o_BadPaper, .ref o_BadProgram, .ref o_Refused, .ref o_TooLarge, .ref o_WrongPaper] = some false
  f_applied : Addr
  fd_applied : FuncData
  d_applied : DefAt K mg "applied" s_applied ["term", "arguments"] f_applied fd_applied
  f_write_term : Addr
  fd_write_term : FuncData
  d_write_term : DefAt K mg "write_term" s_write_term ["term"] f_write_term fd_write_term
  f_write_head : Addr
  fd_write_head : FuncData
  d_write_head : DefAt K mg "write_head" s_write_head ["head"] f_write_head fd_write_head
  f_read_term : Addr
  fd_read_term : FuncData
  d_read_term : DefAt K mg "read_term" s_read_term ["text"] f_read_term fd_read_term
  f_words : Addr
  fd_words : FuncData
  d_words : DefAt K mg "words" s_words ["text"] f_words fd_words
  f_joined : Addr
  fd_joined : FuncData
  d_joined : DefAt K mg "joined" s_joined ["items"] f_joined fd_joined
  f_read_head : Addr
  fd_read_head : FuncData
  d_read_head : DefAt K mg "read_head" s_read_head ["word"] f_read_head fd_read_head
  f_is_name : Addr
  fd_is_name : FuncData
  d_is_name : DefAt K mg "is_name" s_is_name ["word"] f_is_name fd_is_name
  f_is_number : Addr
  fd_is_number : FuncData
  d_is_number : DefAt K mg "is_number" s_is_number ["word"] f_is_number fd_is_number
  f_consists_of : Addr
  fd_consists_of : FuncData
  d_consists_of : DefAt K mg "consists_of" s_consists_of ["word", "characters"] f_consists_of fd_consists_of
  f_h_pick : Addr
  fd_h_pick : FuncData
  d_h_pick : DefAt K mg "_law_pick" s_h_pick ["state", "script", "many"] f_h_pick fd_h_pick
  f_h_same : Addr
  fd_h_same : FuncData
  d_h_same : DefAt K mg "_law_same" s_h_same ["actual", "due"] f_h_same fd_h_same
  f_h_name : Addr
  fd_h_name : FuncData
  d_h_name : DefAt K mg "_law_name" s_h_name ["state", "script", "large"] f_h_name fd_h_name
  f_h_head : Addr
  fd_h_head : FuncData
  d_h_head : DefAt K mg "_law_head" s_h_head ["state", "script", "pool"] f_h_head fd_h_head
  f_h_pool : Addr
  fd_h_pool : FuncData
  d_h_pool : DefAt K mg "_law_pool" s_h_pool ["state", "script"] f_h_pool fd_h_pool
  f_h_any : Addr
  fd_h_any : FuncData
  d_h_any : DefAt K mg "_law_any" s_h_any ["state", "script", "pool", "depth"] f_h_any fd_h_any
  f_h_deep : Addr
  fd_h_deep : FuncData
  d_h_deep : DefAt K mg "_law_deep" s_h_deep ["state", "script", "pool", "many"] f_h_deep fd_h_deep
  f_h_term : Addr
  fd_h_term : FuncData
  d_h_term : DefAt K mg "_law_term" s_h_term ["state", "script", "pool", "most"] f_h_term fd_h_term
  f_h_written : Addr
  fd_h_written : FuncData
  d_h_written : DefAt K mg "_law_written" s_h_written ["term"] f_h_written fd_h_written
  f_h_is_name : Addr
  fd_h_is_name : FuncData
  d_h_is_name : DefAt K mg "_law_is_name" s_h_is_name ["word"] f_h_is_name fd_h_is_name
  f_h_is_head : Addr
  fd_h_is_head : FuncData
  d_h_is_head : DefAt K mg "_law_is_head" s_h_is_head ["word"] f_h_is_head fd_h_is_head
  f_h_pieces : Addr
  fd_h_pieces : FuncData
  d_h_pieces : DefAt K mg "_law_pieces" s_h_pieces ["text"] f_h_pieces fd_h_pieces
  f_h_is_term : Addr
  fd_h_is_term : FuncData
  d_h_is_term : DefAt K mg "_law_is_term" s_h_is_term ["text"] f_h_is_term fd_h_is_term
  f_h_spoiled : Addr
  fd_h_spoiled : FuncData
  d_h_spoiled : DefAt K mg "_law_spoiled" s_h_spoiled ["state", "script", "text"] f_h_spoiled fd_h_spoiled
  f_h_told : Addr
  fd_h_told : FuncData
  d_h_told : DefAt K mg "_law_told" s_h_told ["text"] f_h_told fd_h_told
  f_law : Addr
  fd_law : FuncData
  d_law : DefAt K mg "law" s_law ["script"] f_law fd_law
  z_isinstance : mg "isinstance" = none
  z_str : mg "str" = none
  z_reversed : mg "reversed" = none
  z_int : mg "int" = none
  z_tuple : mg "tuple" = none
  z_len : mg "len" = none
  z_all : mg "all" = none
  z_abs : mg "abs" = none
  z_range : mg "range" = none
  z_bool : mg "bool" = none
  z_ValueError : mg "ValueError" = none
  c_LETTERS : ∃ t, mg "LETTERS" = some (.str "abcdefghijklmnopqrstuvwxyzABCDEFGHIJKLMNOPQRSTUVWXYZ" t)
  c_DIGITS : ∃ t, mg "DIGITS" = some (.str "0123456789" t)
def ZT {P : Program} {w : World} {K : PySem.W.Frag} {mg : Str → Option Value} {base : Heap} (T : Txt P w K mg base) : KZ := ⟨K, fun c => if c = "DriveFoldError" then T.c_DriveFoldError else if c = "BadTerm" then T.c_BadTerm else 0⟩
theorem cl_BadTerm {P : Program} {w : World} {K : PySem.W.Frag} {mg : Str → Option Value} {base : Heap} (T : Txt P w K mg base) : (ZT T).cl "BadTerm" = T.c_BadTerm := by
  show (if ("BadTerm" : Str) = "DriveFoldError" then T.c_DriveFoldError else (if ("BadTerm" : Str) = "BadTerm" then T.c_BadTerm else (0 : Addr))) = _
  rw [if_neg (by decide +kernel), if_pos rfl]
theorem mtq_BadTerm {P : Program} {w : World} {K : PySem.W.Frag} {mg : Str → Option Value} {base : Heap} (T : Txt P w K mg base) : ∀ cn b, mtOnly "BadTerm" cn = some b → PySem.W.exmOne K (.ref ((ZT T).cl cn)) (.ref T.c_DriveFoldError) = some b := fun cn b h => by
  unfold mtOnly at h
  split at h
  · rename_i e
    cases h
    rw [e, cl_BadTerm]
    exact T.tx_BadTerm
  · cases h
theorem tez_BadTerm {P : Program} {w : World} {K : PySem.W.Frag} {mg : Str → Option Value} {base : Heap} (T : Txt P w K mg base) : EisC K ((ZT T).cl "BadTerm") := by rw [cl_BadTerm]; exact T.te_BadTerm
theorem tvz_BadTerm {P : Program} {w : World} {K : PySem.W.Frag} {mg : Str → Option Value} {base : Heap} (T : Txt P w K mg base) : PySem.W.kitOne K (.ref ((ZT T).cl "BadTerm")) (.type "ValueError") = some true := by rw [cl_BadTerm]; exact T.tv_BadTerm
theorem tkz_BadTerm {P : Program} {w : World} {K : PySem.W.Frag} {mg : Str → Option Value} {base : Heap} (T : Txt P w K mg base) : PySem.W.kitOne K (.ref ((ZT T).cl "BadTerm")) (.ref T.c_BadTerm) = some true := by rw [cl_BadTerm]; exact kit_same
theorem taz_BadTerm {P : Program} {w : World} {K : PySem.W.Frag} {mg : Str → Option Value} {base : Heap} (T : Txt P w K mg base) : PySem.W.kitAny K (.ref ((ZT T).cl "BadTerm")) [.ref T.o_BadJournal, .ref T.o_BadPaper, .ref T.o_BadProgram, .ref T.o_Refused, .ref T.o_TooLarge, .ref T.o_WrongPaper] = some false := by rw [cl_BadTerm]; exact T.ta_BadTerm
end DM
namespace DM
open PySem L2 MD
section
variable {P : Program} {w : World} {K : PySem.W.Frag} {mg : Str → Option Value} {base : Heap}
theorem ok_h_pick (T : Txt P w K mg base) : ∀ k, FnM P w (ZT T) mg base k T.f_h_pick T.fd_h_pick ["state", "script", "many"] (M_h_pick k)
  | 0 => fn_zero
  | k + 1 => by
    refine fn_m (Z := ZT T) T.d_h_pick.F sc_h_pick fun cdv A outer s H E hr => ?_
    have nd := sc_h_pick.nd
    have tk : Takes (cxOf (L2.CX P w) P w K mg base ["state", "script", "many", "number", "place", "cell"] "_law_pick" (defScope s_h_pick) T.f_h_pick cdv A outer s H E) (fun c d _ H => E c d H) := takes_of rfl rfl rfl rfl
    exact (ms2 (ms_if (mt_cmp op_gt omCmp (m_ix (ixIx rfl hr.hu) omIx (mv 0) (mInt) (fun _ _ => rfl)) (mInt) (nomark _)) (ms2 (ms_set (i := 3) nd rfl (.inl rfl) (m_op op_mod omMod (m_callTy call_int1 cmInt (by rfl) T.z_int (by decide +kernel) (ma1 (m_ix (ixIx rfl hr.hu) omIx (mv 0) (mInt) (fun _ _ => rfl)) ma0)) (mv 2)))
      (ms2 (ms_sub (mv 0) (mInt) (m_op op_fdiv omDiv (m_ix (ixIx rfl hr.hu) omIx (mv 0) (mInt) (fun _ _ => rfl)) (mv 2)))
      (ms1 (ms_ret (mv 3))))) ms0)
      (ms2 (ms_set (i := 4) nd rfl (.inl rfl) (m_ix (ixIx rfl hr.hu) omIx (mv 0) (mInt) (fun _ _ => rfl)))
      (ms2 (ms_sub (mv 0) (mInt) (m_op (opAdd rfl) omAdd (mv 4) (mInt)))
      (ms2 (ms_if (mt_cmp op_lt omCmp (mv 4) (m_callB (crLen rfl) cmLen (by rfl) T.z_len PySem.boot_len (ma1 (mv 1) ma0)) (nomark _)) (ms2 (ms_set (i := 5) nd rfl (.inl rfl) (m_callB call_abs cmAbs (by rfl) T.z_abs (by decide +kernel) (ma1 (m_callTy call_int1 cmInt (by rfl) T.z_int (by decide +kernel) (ma1 (m_ix (ixIx rfl hr.hu) omIx (mv 1) (mv 4) (fun _ _ => rfl)) ma0)) ma0)))
      (ms2 (ms_if (mt_cmp op_ge omCmp (mv 5) (m_op op_pow omPow (mInt) (mInt)) (nomark _)) (ms2 (ms_sub (mv 0) (mInt) (m_op op_fdiv omDiv (mv 5) (mv 2)))
      (ms1 (ms_ret (m_op op_mod omMod (m_callTy call_int1 cmInt (by rfl) T.z_int (by decide +kernel) (ma1 (mv 5) ma0)) (mv 2))))) ms0)
      (ms1 (ms_sub (mv 0) (mInt) (m_op op_mod omMod (m_callTy call_int1 cmInt (by rfl) T.z_int (by decide +kernel) (ma1 (m_op (opAdd rfl) omAdd (m_op (opAdd rfl) omAdd (m_op op_mul omMul (m_ix (ixIx rfl hr.hu) omIx (mv 0) (mInt) (fun _ _ => rfl)) (mInt)) (m_op op_mul omMul (mv 5) (mInt))) (mInt)) ma0)) (mInt)))))) ms0)
      (ms2 (ms_sub (mv 0) (mInt) (m_op op_mod omMod (m_callTy call_int1 cmInt (by rfl) T.z_int (by decide +kernel) (ma1 (m_op (opAdd rfl) omAdd (m_op (opAdd rfl) omAdd (m_op op_mul omMul (m_ix (ixIx rfl hr.hu) omIx (mv 0) (mInt) (fun _ _ => rfl)) (mInt)) (m_op op_mul omMul (mInt) (mv 4))) (mInt)) ma0)) (mInt)))
      (ms1 (ms_ret (m_op op_mod omMod (m_callTy call_int1 cmInt (by rfl) T.z_int (by decide +kernel) (ma1 (m_op op_fdiv omDiv (m_op op_mul omMul (m_ix (ixIx rfl hr.hu) omIx (mv 0) (mInt) (fun _ _ => rfl)) (m_ix (ixIx rfl hr.hu) omIx (mv 0) (mInt) (fun _ _ => rfl))) (mInt)) ma0)) (mv 2)))))))))
theorem ok_h_name (T : Txt P w K mg base) : ∀ k, FnM P w (ZT T) mg base k T.f_h_name T.fd_h_name ["state", "script", "large"] (M_h_name k)
  | 0 => fn_zero
  | k + 1 => by
    have G_h_pick : FnM P w (ZT T) mg base k T.f_h_pick T.fd_h_pick ["state", "script", "many"] (M_h_pick k) := ok_h_pick T k
    refine fn_m (Z := ZT T) T.d_h_name.F sc_h_name fun cdv A outer s H E hr => ?_
    have nd := sc_h_name.nd
    have tk : Takes (cxOf (L2.CX P w) P w K mg base ["state", "script", "large", "small", "chars", "size", "word", "k"] "_law_name" (defScope s_h_name) T.f_h_name cdv A outer s H E) (fun c d _ H => E c d H) := takes_of rfl rfl rfl rfl
    exact (ms2 (ms_set (i := 3) nd rfl (.inl rfl) (mStr))
      (ms2 (ms_set (i := 4) nd rfl (.inl rfl) (m_op (opAdd rfl) omAdd (m_op (opAdd rfl) omAdd (mv 3) (m_sm0 PySem.F.slot_str_upper PySem.F.type_str_upper mt_upper mfUpper (mv 3))) (mStr)))
      (ms2 (ms_set (i := 5) nd rfl (.inl rfl) (m_op (opAdd rfl) omAdd (mInt) (m_own G_h_pick rfl tk hr (by rfl) T.d_h_pick.m T.d_h_pick.F.kp T.d_h_pick.b (ma1 (mv 0) (ma1 (mv 1) (ma1 (mInt) ma0))))))
      (ms2 (ms_if (mt_cmp (opEq rfl hr.units6) omEq (mv 5) (mInt) (nomark _)) (ms1 (ms_set (i := 5) nd rfl (.inl rfl) (m_op (opAdd rfl) omAdd (mInt) (m_own G_h_pick rfl tk hr (by rfl) T.d_h_pick.m T.d_h_pick.F.kp T.d_h_pick.b (ma1 (mv 0) (ma1 (mv 1) (ma1 (mInt) ma0))))))) ms0)
      (ms2 (ms_set (i := 6) nd rfl (.inl rfl) (m_ix (ixIx rfl hr.hu) omIx (m_ix (ixIx rfl hr.hu) omIx (mlst (ma1 (mv 3) (ma1 (m_sm0 PySem.F.slot_str_upper PySem.F.type_str_upper mt_upper mfUpper (mv 3)) ma0))) (m_callTy call_int1 cmInt (by rfl) T.z_int (by decide +kernel) (ma1 (mv 2) ma0)) (fun _ _ => rfl)) (m_own G_h_pick rfl tk hr (by rfl) T.d_h_pick.m T.d_h_pick.F.kp T.d_h_pick.b (ma1 (mv 0) (ma1 (mv 1) (ma1 (mInt) ma0)))) (fun _ _ => rfl)))
      (ms2 (ms_for (passes_of rfl) rfl (m_ir1 (by rfl) T.z_range (ma1 (m_op op_sub omSub (mv 5) (mInt)) ma0)) (src_r1 _) (pg_name (i := 7) nd rfl (.inl rfl)) (gok_n 7) (ms1 (ms_set (i := 6) nd rfl (.inl rfl) (m_op (opAdd rfl) omAdd (mv 6) (m_ix (ixIx rfl hr.hu) omIx (mv 4) (m_own G_h_pick rfl tk hr (by rfl) T.d_h_pick.m T.d_h_pick.F.kp T.d_h_pick.b (ma1 (mv 0) (ma1 (mv 1) (ma1 (mInt) ma0)))) (fun _ _ => rfl))))))
      (ms1 (ms_ret (mv 6)))))))))
theorem ok_h_pool (T : Txt P w K mg base) : ∀ k, FnM P w (ZT T) mg base k T.f_h_pool T.fd_h_pool ["state", "script"] (M_h_pool k)
  | 0 => fn_zero
  | k + 1 => by
    have G_h_name : FnM P w (ZT T) mg base k T.f_h_name T.fd_h_name ["state", "script", "large"] (M_h_name k) := ok_h_name T k
    refine fn_m (Z := ZT T) T.d_h_pool.F sc_h_pool fun cdv A outer s H E hr => ?_
    have nd := sc_h_pool.nd
    have tk : Takes (cxOf (L2.CX P w) P w K mg base ["state", "script", "k"] "_law_pool" (defScope s_h_pool) T.f_h_pool cdv A outer s H E) (fun c d _ H => E c d H) := takes_of rfl rfl rfl rfl
    exact (ms1 (ms_ret (m_op (opAdd rfl) omAdd (m_lc (own := [("k", 2)]) rfl nd (m_ir1 (by rfl) T.z_range (ma1 (mInt) ma0)) (src_r1 _) (blkOk_by (own := [("k", 2)]) (N := ["state", "script", "k"]) (sc := defScope s_h_pool) (by decide +kernel)) (fun _ _ _ _ _ => (pg_name (i := 2) nd rfl (.inl rfl))) (gok_n 2) (fun _ _ _ _ _ => mts0) (fun _ _ _ _ _ => (m_own G_h_name rfl takes0 hr (by rfl) T.d_h_name.m T.d_h_name.F.kp T.d_h_name.b (ma1 (mv 0) (ma1 (mv 1) (ma1 (m_cmp op_lt omCmp (mv 2) (mInt) (nomark _)) ma0)))))) (mlst (ma1 (mInt) (ma1 (mInt) (ma1 (mInt) ma0)))))))
theorem ok_h_written (T : Txt P w K mg base) : ∀ k, FnM P w (ZT T) mg base k T.f_h_written T.fd_h_written ["term"] (M_h_written k)
  | 0 => fn_zero
  | k + 1 => by
    have G_h_written : FnM P w (ZT T) mg base k T.f_h_written T.fd_h_written ["term"] (M_h_written k) := ok_h_written T k
    refine fn_m (Z := ZT T) T.d_h_written.F sc_h_written fun cdv A outer s H E hr => ?_
    have nd := sc_h_written.nd
    have tk : Takes (cxOf (L2.CX P w) P w K mg base ["term", "text", "argument", "part"] "_law_written" (defScope s_h_written) T.f_h_written cdv A outer s H E) (fun c d _ H => E c d H) := takes_of rfl rfl rfl rfl
    exact (ms2 (ms_set (i := 1) nd rfl (.inl rfl) (m_callTy crStr cmStr (by rfl) T.z_str (by decide +kernel) (ma1 (m_ix (ixIx rfl hr.hu) omIx (mv 0) (mInt) (fun _ _ => rfl)) ma0)))
      (ms2 (ms_if (mt_truth rfl (m_callB (crIsi rfl) cmIsi (by rfl) T.z_isinstance (by decide +kernel) (ma1 (m_ix (ixIx rfl hr.hu) omIx (mv 0) (mInt) (fun _ _ => rfl)) (ma1 (mTy (n := "int") (by rfl) T.z_int (by decide +kernel)) ma0)))) (ms1 (ms_set (i := 1) nd rfl (.inl rfl) (m_op (opAdd rfl) omAdd (mStr) (mv 1)))) ms0)
      (ms2 (ms_for (passes_of rfl) rfl (m_it rfl (m_ix (ixIx rfl hr.hu) omIx (mv 0) (mInt) (fun _ _ => rfl))) (src_it _) (pg_name (i := 2) nd rfl (.inl rfl)) (gok_n 2) (ms2 (ms_set (i := 3) nd rfl (.inl rfl) (m_own G_h_written rfl tk hr (by rfl) T.d_h_written.m T.d_h_written.F.kp T.d_h_written.b (ma1 (mv 2) ma0)))
      (ms2 (ms_if (mt_cmp op_gt omCmp (m_callB (crLen rfl) cmLen (by rfl) T.z_len PySem.boot_len (ma1 (m_ix (ixIx rfl hr.hu) omIx (mv 2) (mInt) (fun _ _ => rfl)) ma0)) (mInt) (nomark _)) (ms1 (ms_set (i := 3) nd rfl (.inl rfl) (m_op (opAdd rfl) omAdd (m_op (opAdd rfl) omAdd (mStr) (mv 3)) (mStr)))) ms0)
      (ms1 (ms_set (i := 1) nd rfl (.inl rfl) (m_op (opAdd rfl) omAdd (m_op (opAdd rfl) omAdd (mv 1) (mStr)) (mv 3)))))))
      (ms1 (ms_ret (mv 1))))))
theorem ok_write_head (T : Txt P w K mg base) : ∀ k, FnM P w (ZT T) mg base k T.f_write_head T.fd_write_head ["head"] (M_write_head k)
  | 0 => fn_zero
  | k + 1 => by
    refine fn_m (Z := ZT T) T.d_write_head.F sc_write_head fun cdv A outer s H E hr => ?_
    have nd := sc_write_head.nd
    have tk : Takes (cxOf (L2.CX P w) P w K mg base ["head"] "write_head" (defScope s_write_head) T.f_write_head cdv A outer s H E) (fun c d _ H => E c d H) := takes_of rfl rfl rfl rfl
    exact (ms1 (ms_ret (m_if (mt_truth rfl (m_callB (crIsi rfl) cmIsi (by rfl) T.z_isinstance (by decide +kernel) (ma1 (mv 0) (ma1 (mTy (n := "int") (by rfl) T.z_int (by decide +kernel)) ma0)))) (m_js (PJm.cons (mStr) (PJm.cons (m_fmt (mv 0)) PJm.nil))) (mv 0))))
theorem ok_write_term (T : Txt P w K mg base) : ∀ k, FnM P w (ZT T) mg base k T.f_write_term T.fd_write_term ["term"] (M_write_term k)
  | 0 => fn_zero
  | k + 1 => by
    have G_write_head : FnM P w (ZT T) mg base k T.f_write_head T.fd_write_head ["head"] (M_write_head k) := ok_write_head T k
    refine fn_m (Z := ZT T) T.d_write_term.F sc_write_term fun cdv A outer s H E hr => ?_
    have nd := sc_write_term.nd
    have tk : Takes (cxOf (L2.CX P w) P w K mg base ["term", "pieces", "waiting", "item", "argument"] "write_term" (defScope s_write_term) T.f_write_term cdv A outer s H E) (fun c d _ H => E c d H) := takes_of rfl rfl rfl rfl
    exact (ms2 (ms_set (i := 1) nd rfl (.inl rfl) (mlst ma0))
      (ms2 (ms_set (i := 2) nd rfl (.inl rfl) (mlst (ma1 (mv 0) ma0)))
      (ms2 (ms_while (passes_of rfl) (mt_truth rfl (mv 2)) (ms2 (ms_set (i := 3) nd rfl (.inl rfl) (m_bm0 rfl PySem.F.plainAttrs_list PySem.F.slot_list_pop PySem.F.type_list_pop mt_pop mfPop (mv 2)))
      (ms1 (ms_if (mt_truth rfl (m_callB (crIsi rfl) cmIsi (by rfl) T.z_isinstance (by decide +kernel) (ma1 (mv 3) (ma1 (mTy (n := "str") (by rfl) T.z_str (by decide +kernel)) ma0)))) (ms1 (ms_expr (m_bm rfl PySem.F.plainAttrs_list PySem.F.slot_list_append PySem.F.type_list_append mt_append mfAppend (mv 1) (ma1 (mv 3) ma0)))) (ms2 (ms_expr (m_bm rfl PySem.F.plainAttrs_list PySem.F.slot_list_append PySem.F.type_list_append mt_append mfAppend (mv 1) (ma1 (m_own G_write_head rfl tk hr (by rfl) T.d_write_head.m T.d_write_head.F.kp T.d_write_head.b (ma1 (m_ix (ixIx rfl hr.hu) omIx (mv 3) (mInt) (fun _ _ => rfl)) ma0)) ma0)))
      (ms1 (ms_for (passes_of rfl) rfl (m_irev rfl (by rfl) T.z_reversed (m_ix (ixIx rfl hr.hu) omIx (mv 3) (mInt) (fun _ _ => rfl))) (src_rev _) (pg_name (i := 4) nd rfl (.inl rfl)) (gok_n 4) (ms1 (ms_expr (m_bm rfl PySem.F.plainAttrs_list PySem.F.slot_list_extend PySem.F.type_list_extend mrExtend mfExtend (mv 2) (ma1 (m_if (mt_truth rfl (m_ix (ixIx rfl hr.hu) omIx (mv 4) (mInt) (fun _ _ => rfl))) (mlst (ma1 (mStr) (ma1 (mv 4) (ma1 (mStr) ma0)))) (mlst (ma1 (mv 4) (ma1 (mStr) ma0)))) ma0)))))))))))
      (ms1 (ms_ret (m_sm1 PySem.F.slot_str_join PySem.F.type_str_join (mtJoin rfl) mfJoin (mStr) (mv 1)))))))
theorem ok_words (T : Txt P w K mg base) : ∀ k, FnM P w (ZT T) mg base k T.f_words T.fd_words ["text"] (M_words k)
  | 0 => fn_zero
  | k + 1 => by
    refine fn_mT (Z := ZT T) T.d_words.F sc_words (by decide +kernel) (by decide) fun cdv A outer s H E hr => ?_
    have nd := sc_words.nd
    have tk : Takes (cxOf (L2.CX P w) P w K mg base ["text", "spread", "word"] "words" (defScope s_words) T.f_words cdv A outer s H E) (fun c d _ H => E c d H) := takes_of rfl rfl rfl rfl
    exact (ms2T (ms_setT (i := 1) nd rfl (.inl rfl) (m_rep2 (m_rep1 (mv 0) (by decide +kernel)) (by decide +kernel)))
      (ms1 (ms_ret (m_lc (own := [("word", 2)]) rfl nd (m_it rfl (m_sm1 PySem.F.slot_str_split PySem.F.type_str_split mt_split mfSplit (mv 1) (mStr))) (src_it _) (blkOk_by (own := [("word", 2)]) (N := ["text", "spread", "word"]) (sc := defScope s_words) (by decide +kernel)) (fun _ _ _ _ _ => (pg_name (i := 2) nd rfl (.inl rfl))) (gok_n 2) (fun _ _ _ _ _ => mts1 (mt_truth rfl (mv 2))) (fun _ _ _ _ _ => (mv 2))))))
theorem ok_applied (T : Txt P w K mg base) : ∀ k, FnM P w (ZT T) mg base k T.f_applied T.fd_applied ["term", "arguments"] (M_applied k)
  | 0 => fn_zero
  | k + 1 => by
    refine fn_m (Z := ZT T) T.d_applied.F sc_applied fun cdv A outer s H E hr => ?_
    have nd := sc_applied.nd
    have tk : Takes (cxOf (L2.CX P w) P w K mg base ["term", "arguments"] "applied" (defScope s_applied) T.f_applied cdv A outer s H E) (fun c d _ H => E c d H) := takes_of rfl rfl rfl rfl
    exact (ms1 (ms_ret (mtup (ma1 (m_ix (ixIx rfl hr.hu) omIx (mv 0) (mInt) (fun _ _ => rfl)) (ma1 (m_op (opAdd rfl) omAdd (m_ix (ixIx rfl hr.hu) omIx (mv 0) (mInt) (fun _ _ => rfl)) (mv 1)) ma0)))))
theorem ok_joined (T : Txt P w K mg base) : ∀ k, FnM P w (ZT T) mg base k T.f_joined T.fd_joined ["items"] (M_joined k)
  | 0 => fn_zero
  | k + 1 => by
    have G_applied : FnM P w (ZT T) mg base k T.f_applied T.fd_applied ["term", "arguments"] (M_applied k) := ok_applied T k
    refine fn_m (Z := ZT T) T.d_joined.F sc_joined fun cdv A outer s H E hr => ?_
    have nd := sc_joined.nd
    have tk : Takes (cxOf (L2.CX P w) P w K mg base ["items"] "joined" (defScope s_joined) T.f_joined cdv A outer s H E) (fun c d _ H => E c d H) := takes_of rfl rfl rfl rfl
    exact (ms2 (ms_if (mt_not (mt_truth rfl (mv 0))) (ms1 (ms_raise1 rfl tk (cl_BadTerm T) PySem.F.excBase_ValueError T.x_BadTerm T.k_BadTerm (raises_own T.b_BadTerm T.t_BadTerm) (by rfl) T.g_BadTerm (mStr))) ms0)
      (ms1 (ms_ret (m_own G_applied rfl tk hr (by rfl) T.d_applied.m T.d_applied.F.kp T.d_applied.b (ma1 (m_ix (ixIx rfl hr.hu) omIx (mv 0) (mInt) (fun _ _ => rfl)) (ma1 (m_callTy (crTuple rfl rfl) cmTuple (by rfl) T.z_tuple (by decide +kernel) (ma1 (m_slice rfl (mv 0) (mo_s (mInt)) mo_n) ma0)) ma0))))))
theorem ok_consists_of (T : Txt P w K mg base) : ∀ k, FnM P w (ZT T) mg base k T.f_consists_of T.fd_consists_of ["word", "characters"] (M_consists_of k)
  | 0 => fn_zero
  | k + 1 => by
    refine fn_m (Z := ZT T) T.d_consists_of.F sc_consists_of fun cdv A outer s H E hr => ?_
    have nd := sc_consists_of.nd
    have tk : Takes (cxOf (L2.CX P w) P w K mg base ["word", "characters", "character"] "consists_of" (defScope s_consists_of) T.f_consists_of cdv A outer s H E) (fun c d _ H => E c d H) := takes_of rfl rfl rfl rfl
    exact (ms1 (ms_ret (m_callB (crAll rfl rfl) cmAll (by rfl) T.z_all (by decide +kernel) (ma1 (m_lc (own := [("character", 2)]) rfl nd (m_its (mv 0)) (src_its _) (blkOk_by (own := [("character", 2)]) (N := ["word", "characters", "character"]) (sc := defScope s_consists_of) (by decide +kernel)) (fun _ _ _ _ _ => (pg_name (i := 2) nd rfl (.inl rfl))) (gok_n 2) (fun _ _ _ _ _ => mts0) (fun _ _ _ _ _ => (m_cmp (opIn rfl hr.units6) (omIn false) (mv 2) (mv 1) rfl))) ma0))))
theorem ok_is_name (T : Txt P w K mg base) : ∀ k, FnM P w (ZT T) mg base k T.f_is_name T.fd_is_name ["word"] (M_is_name k)
  | 0 => fn_zero
  | k + 1 => by
    have G_consists_of : FnM P w (ZT T) mg base k T.f_consists_of T.fd_consists_of ["word", "characters"] (M_consists_of k) := ok_consists_of T k
    refine fn_m (Z := ZT T) T.d_is_name.F sc_is_name fun cdv A outer s H E hr => ?_
    have nd := sc_is_name.nd
    have tk : Takes (cxOf (L2.CX P w) P w K mg base ["word"] "is_name" (defScope s_is_name) T.f_is_name cdv A outer s H E) (fun c d _ H => E c d H) := takes_of rfl rfl rfl rfl
    exact (ms1 (ms_ret (m_and (m_chain op_le op_le omCmp omCmp (mInt) (m_callB (crLen rfl) cmLen (by rfl) T.z_len PySem.boot_len (ma1 (mv 0) ma0)) (mInt)) (m_and (m_cmp (opIn rfl hr.units6) (omIn false) (m_ix (ixIx rfl hr.hu) omIx (mv 0) (mInt) (fun _ _ => rfl)) (mGStr (by rfl) T.c_LETTERS) rfl) (m_one (m_own G_consists_of rfl tk hr (by rfl) T.d_consists_of.m T.d_consists_of.F.kp T.d_consists_of.b (ma1 (mv 0) (ma1 (m_op (opAdd rfl) omAdd (mGStr (by rfl) T.c_LETTERS) (mGStr (by rfl) T.c_DIGITS)) ma0))))))))
theorem ok_is_number (T : Txt P w K mg base) : ∀ k, FnM P w (ZT T) mg base k T.f_is_number T.fd_is_number ["word"] (M_is_number k)
  | 0 => fn_zero
  | k + 1 => by
    have G_consists_of : FnM P w (ZT T) mg base k T.f_consists_of T.fd_consists_of ["word", "characters"] (M_consists_of k) := ok_consists_of T k
    refine fn_m (Z := ZT T) T.d_is_number.F sc_is_number fun cdv A outer s H E hr => ?_
    have nd := sc_is_number.nd
    have tk : Takes (cxOf (L2.CX P w) P w K mg base ["word"] "is_number" (defScope s_is_number) T.f_is_number cdv A outer s H E) (fun c d _ H => E c d H) := takes_of rfl rfl rfl rfl
    exact (ms1 (ms_ret (m_and (m_chain op_le op_le omCmp omCmp (mInt) (m_callB (crLen rfl) cmLen (by rfl) T.z_len PySem.boot_len (ma1 (mv 0) ma0)) (mInt)) (m_and (m_own G_consists_of rfl tk hr (by rfl) T.d_consists_of.m T.d_consists_of.F.kp T.d_consists_of.b (ma1 (mv 0) (ma1 (mGStr (by rfl) T.c_DIGITS) ma0))) (m_one (m_or (m_cmp (opEq rfl hr.units6) omEq (mv 0) (mStr) (nomark _)) (m_one (m_cmp (opNe rfl hr.units6) omNe (m_ix (ixIx rfl hr.hu) omIx (mv 0) (mInt) (fun _ _ => rfl)) (mStr) (nomark _)))))))))
theorem ok_read_head (T : Txt P w K mg base) : ∀ k, FnM P w (ZT T) mg base k T.f_read_head T.fd_read_head ["word"] (M_read_head k)
  | 0 => fn_zero
  | k + 1 => by
    have G_is_number : FnM P w (ZT T) mg base k T.f_is_number T.fd_is_number ["word"] (M_is_number k) := ok_is_number T k
    have G_is_name : FnM P w (ZT T) mg base k T.f_is_name T.fd_is_name ["word"] (M_is_name k) := ok_is_name T k
    refine fn_m (Z := ZT T) T.d_read_head.F sc_read_head fun cdv A outer s H E hr => ?_
    have nd := sc_read_head.nd
    have tk : Takes (cxOf (L2.CX P w) P w K mg base ["word"] "read_head" (defScope s_read_head) T.f_read_head cdv A outer s H E) (fun c d _ H => E c d H) := takes_of rfl rfl rfl rfl
    exact (ms2 (ms_if (mt_truth rfl (m_own G_is_name rfl tk hr (by rfl) T.d_is_name.m T.d_is_name.F.kp T.d_is_name.b (ma1 (mv 0) ma0))) (ms1 (ms_ret (mv 0))) ms0)
      (ms2 (ms_if (PW.pt (mw_and (mt_truth rfl (m_sm1 PySem.F.slot_str_startswith PySem.F.type_str_startswith mt_startswith mfStarts (mv 0) (mStr))) (mw_and1 (mt_truth rfl (m_own G_is_number rfl tk hr (by rfl) T.d_is_number.m T.d_is_number.F.kp T.d_is_number.b (ma1 (m_slice rfl (mv 0) (mo_s (mInt)) mo_n) ma0)))))) (ms1 (ms_ret (m_callTy crInt3 cmInt3 (by rfl) T.z_int (by decide +kernel) (ma1 (m_slice rfl (mv 0) (mo_s (mInt)) mo_n) ma0)))) ms0)
      (ms1 (ms_raise1 rfl tk (cl_BadTerm T) PySem.F.excBase_ValueError T.x_BadTerm T.k_BadTerm (raises_own T.b_BadTerm T.t_BadTerm) (by rfl) T.g_BadTerm (m_js (PJm.cons (m_fmtR (mv 0)) (PJm.cons (mStr) PJm.nil)))))))
theorem ok_read_term (T : Txt P w K mg base) : ∀ k, FnM P w (ZT T) mg base k T.f_read_term T.fd_read_term ["text"] (M_read_term k)
  | 0 => fn_zero
  | k + 1 => by
    have G_write_term : FnM P w (ZT T) mg base k T.f_write_term T.fd_write_term ["term"] (M_write_term k) := ok_write_term T k
    have G_joined : FnM P w (ZT T) mg base k T.f_joined T.fd_joined ["items"] (M_joined k) := ok_joined T k
    have G_words : FnM P w (ZT T) mg base k T.f_words T.fd_words ["text"] (M_words k) := ok_words T k
    have G_read_head : FnM P w (ZT T) mg base k T.f_read_head T.fd_read_head ["word"] (M_read_head k) := ok_read_head T k
    refine fn_m (Z := ZT T) T.d_read_term.F sc_read_term fun cdv A outer s H E hr => ?_
    have nd := sc_read_term.nd
    have tk : Takes (cxOf (L2.CX P w) P w K mg base ["text", "around", "items", "word", "inner", "term"] "read_term" (defScope s_read_term) T.f_read_term cdv A outer s H E) (fun c d _ H => E c d H) := takes_of rfl rfl rfl rfl
    exact (ms2 (ms_set (i := 1) nd rfl (.inl rfl) (mlst ma0))
      (ms2 (ms_set (i := 2) nd rfl (.inl rfl) (mlst ma0))
      (ms2 (ms_for (passes_of rfl) rfl (m_it rfl (m_own G_words rfl tk hr (by rfl) T.d_words.m T.d_words.F.kp T.d_words.b (ma1 (mv 0) ma0))) (src_it _) (pg_name (i := 3) nd rfl (.inl rfl)) (gok_n 3) (ms1 (ms_if (mt_cmp (opEq rfl hr.units6) omEq (mv 3) (mStr) (nomark _)) (ms2 (ms_expr (m_bm rfl PySem.F.plainAttrs_list PySem.F.slot_list_append PySem.F.type_list_append mt_append mfAppend (mv 1) (ma1 (mv 2) ma0)))
      (ms1 (ms_set (i := 2) nd rfl (.inl rfl) (mlst ma0)))) (ms1 (ms_if (mt_cmp (opEq rfl hr.units6) omEq (mv 3) (mStr) (nomark _)) (ms2 (ms_if (mt_not (mt_truth rfl (mv 1))) (ms1 (ms_raise1 rfl tk (cl_BadTerm T) PySem.F.excBase_ValueError T.x_BadTerm T.k_BadTerm (raises_own T.b_BadTerm T.t_BadTerm) (by rfl) T.g_BadTerm (mStr))) ms0)
      (ms2 (ms_set (i := 4) nd rfl (.inl rfl) (m_own G_joined rfl tk hr (by rfl) T.d_joined.m T.d_joined.F.kp T.d_joined.b (ma1 (mv 2) ma0)))
      (ms2 (ms_set (i := 2) nd rfl (.inl rfl) (m_bm0 rfl PySem.F.plainAttrs_list PySem.F.slot_list_pop PySem.F.type_list_pop mt_pop mfPop (mv 1)))
      (ms1 (ms_expr (m_bm rfl PySem.F.plainAttrs_list PySem.F.slot_list_append PySem.F.type_list_append mt_append mfAppend (mv 2) (ma1 (mv 4) ma0))))))) (ms1 (ms_expr (m_bm rfl PySem.F.plainAttrs_list PySem.F.slot_list_append PySem.F.type_list_append mt_append mfAppend (mv 2) (ma1 (mtup (ma1 (m_own G_read_head rfl tk hr (by rfl) T.d_read_head.m T.d_read_head.F.kp T.d_read_head.b (ma1 (mv 3) ma0)) (ma1 (mtup ma0) ma0))) ma0)))))))))
      (ms2 (ms_if (mt_truth rfl (mv 1)) (ms1 (ms_raise1 rfl tk (cl_BadTerm T) PySem.F.excBase_ValueError T.x_BadTerm T.k_BadTerm (raises_own T.b_BadTerm T.t_BadTerm) (by rfl) T.g_BadTerm (mStr))) ms0)
      (ms2 (ms_set (i := 5) nd rfl (.inl rfl) (m_own G_joined rfl tk hr (by rfl) T.d_joined.m T.d_joined.F.kp T.d_joined.b (ma1 (mv 2) ma0)))
      (ms2 (ms_if (mt_cmp (opNe rfl hr.units6) omNe (m_own G_write_term rfl tk hr (by rfl) T.d_write_term.m T.d_write_term.F.kp T.d_write_term.b (ma1 (mv 5) ma0)) (mv 0) (nomark _)) (ms1 (ms_raise1 rfl tk (cl_BadTerm T) PySem.F.excBase_ValueError T.x_BadTerm T.k_BadTerm (raises_own T.b_BadTerm T.t_BadTerm) (by rfl) T.g_BadTerm (mStr))) ms0)
      (ms1 (ms_ret (mv 5)))))))))
theorem ok_h_told (T : Txt P w K mg base) : ∀ k, FnM P w (ZT T) mg base k T.f_h_told T.fd_h_told ["text"] (M_h_told k)
  | 0 => fn_zero
  | k + 1 => by
    have G_write_term : FnM P w (ZT T) mg base k T.f_write_term T.fd_write_term ["term"] (M_write_term k) := ok_write_term T k
    have G_read_term : FnM P w (ZT T) mg base k T.f_read_term T.fd_read_term ["text"] (M_read_term k) := ok_read_term T k
    refine fn_m (Z := ZT T) T.d_h_told.F sc_h_told fun cdv A outer s H E hr => ?_
    have nd := sc_h_told.nd
    have tk : Takes (cxOf (L2.CX P w) P w K mg base ["text", "e", "others"] "_law_told" (defScope s_h_told) T.f_h_told cdv A outer s H E) (fun c d _ H => E c d H) := takes_of rfl rfl rfl rfl
    exact (ms1 (ms_tryB (i := 1) (j := 2) rfl rfl nd rfl rfl ⟨rfl, by decide, .inl T.g_DriveFoldError⟩ tk (mtq_BadTerm T) (fun _ _ _ tk po => (ms1 (ms_ret (mtup (ma1 (mStr) (ma1 (m_own G_write_term rfl tk hr (by rfl) T.d_write_term.m T.d_write_term.F.kp T.d_write_term.b (ma1 (m_own G_read_term rfl tk hr (by rfl) T.d_read_term.m T.d_read_term.F.kp T.d_read_term.b (ma1 (mv 0) ma0)) ma0)) ma0)))))) (fun a oe cls d pn hz hf => pss_told0 (j := 2) (i := 1) nd rfl (.inl rfl) rfl (fun hC => by subst hC; exact pe_isT (tez_BadTerm T) hz hf (by rfl) T.z_isinstance (i := 1) rfl rfl (pac1 (by rfl) T.og_BadJournal (pac1 (by rfl) T.og_BadPaper (pac1 (by rfl) T.og_BadProgram (pac1 (by rfl) T.og_Refused (pac1 (by rfl) T.og_TooLarge (pac1 (by rfl) T.og_WrongPaper pac0)))))) (.cons (.own _) (.cons (.own _) (.cons (.own _) (.cons (.own _) (.cons (.own _) (.cons (.own _) .nil)))))) (taz_BadTerm T) (Nat.le_of_ble_eq_true rfl)) (fun hC => by subst hC; exact pe_is1 (tez_BadTerm T) hz hf (by rfl) T.z_isinstance (i := 1) rfl rfl (pe_glob (v := .ref T.c_BadTerm) (by rfl) T.g_BadTerm rfl) (.own _) (tkz_BadTerm T)) (fun hC => by subst hC; exact pe_is1 (tez_BadTerm T) hz hf (by rfl) T.z_isinstance (i := 1) rfl rfl (pe_bltn (v := .ty "ValueError") (by rfl) T.z_ValueError (by decide +kernel) rfl) (.ty _) (tvz_BadTerm T)))))
theorem ok_h_pieces (T : Txt P w K mg base) : ∀ k, FnM P w (ZT T) mg base k T.f_h_pieces T.fd_h_pieces ["text"] (M_h_pieces k)
  | 0 => fn_zero
  | k + 1 => by
    refine fn_m (Z := ZT T) T.d_h_pieces.F sc_h_pieces fun cdv A outer s H E hr => ?_
    have nd := sc_h_pieces.nd
    have tk : Takes (cxOf (L2.CX P w) P w K mg base ["text", "pieces", "word", "char"] "_law_pieces" (defScope s_h_pieces) T.f_h_pieces cdv A outer s H E) (fun c d _ H => E c d H) := takes_of rfl rfl rfl rfl
    exact (ms2 (ms_set (i := 1) nd rfl (.inl rfl) (mlst ma0))
      (ms2 (ms_set (i := 2) nd rfl (.inl rfl) (mStr))
      (ms2 (ms_for (passes_of rfl) rfl (m_its (mv 0)) (src_its _) (pg_name (i := 3) nd rfl (.inl rfl)) (gok_n 3) (ms1 (ms_if (mt_cmp (opIn rfl hr.units6) (omIn false) (mv 3) (mStr) rfl) (ms2 (ms_if (mt_cmp (opNe rfl hr.units6) omNe (mv 2) (mStr) (nomark _)) (ms1 (ms_expr (m_bm rfl PySem.F.plainAttrs_list PySem.F.slot_list_append PySem.F.type_list_append mt_append mfAppend (mv 1) (ma1 (mv 2) ma0)))) ms0)
      (ms2 (ms_expr (m_bm rfl PySem.F.plainAttrs_list PySem.F.slot_list_append PySem.F.type_list_append mt_append mfAppend (mv 1) (ma1 (mv 3) ma0)))
      (ms1 (ms_set (i := 2) nd rfl (.inl rfl) (mStr))))) (ms1 (ms_set (i := 2) nd rfl (.inl rfl) (m_op (opAdd rfl) omAdd (mv 2) (mv 3)))))))
      (ms2 (ms_if (mt_cmp (opNe rfl hr.units6) omNe (mv 2) (mStr) (nomark _)) (ms1 (ms_expr (m_bm rfl PySem.F.plainAttrs_list PySem.F.slot_list_append PySem.F.type_list_append mt_append mfAppend (mv 1) (ma1 (mv 2) ma0)))) ms0)
      (ms1 (ms_ret (mv 1)))))))
theorem ok_h_is_name (T : Txt P w K mg base) : ∀ k, FnM P w (ZT T) mg base k T.f_h_is_name T.fd_h_is_name ["word"] (M_h_is_name k)
  | 0 => fn_zero
  | k + 1 => by
    refine fn_m (Z := ZT T) T.d_h_is_name.F sc_h_is_name fun cdv A outer s H E hr => ?_
    have nd := sc_h_is_name.nd
    have tk : Takes (cxOf (L2.CX P w) P w K mg base ["word", "letters", "char"] "_law_is_name" (defScope s_h_is_name) T.f_h_is_name cdv A outer s H E) (fun c d _ H => E c d H) := takes_of rfl rfl rfl rfl
    exact (ms2 (ms_set (i := 1) nd rfl (.inr rfl) (mStr))
      (ms2 (ms_if (PW.pt (mw_or (mt_not (mt_chain op_le op_le omCmp omCmp (mInt) (m_callB (crLen rfl) cmLen (by rfl) T.z_len PySem.boot_len (ma1 (mv 0) ma0)) (mInt))) (mw_or1 (mt_cmp (opNotIn rfl hr.units6) (omIn true) (m_ix (ixIx rfl hr.hu) omIx (mv 0) (mInt) (fun _ _ => rfl)) (mv 1) rfl)))) (ms1 (ms_ret (mBl))) ms0)
      (ms1 (ms_ret (m_cmp (opEq rfl hr.units6) omEq (m_callB (crLen rfl) cmLen (by rfl) T.z_len PySem.boot_len (ma1 (m_lc (own := [("char", 2)]) rfl nd (m_its (mv 0)) (src_its _) (blkOk_by (own := [("char", 2)]) (N := ["word", "letters", "char"]) (sc := defScope s_h_is_name) (by decide +kernel)) (fun _ _ _ _ _ => (pg_name (i := 2) nd rfl (.inl rfl))) (gok_n 2) (fun _ _ _ _ _ => mts1 (mt_cmp (opNotIn rfl hr.units6) (omIn true) (mv 2) (m_op (opAdd rfl) omAdd (mv 1) (mStr)) rfl)) (fun _ _ _ _ _ => (mv 2))) ma0)) (mInt) (nomark _))))))
theorem ok_h_is_head (T : Txt P w K mg base) : ∀ k, FnM P w (ZT T) mg base k T.f_h_is_head T.fd_h_is_head ["word"] (M_h_is_head k)
  | 0 => fn_zero
  | k + 1 => by
    have G_h_is_name : FnM P w (ZT T) mg base k T.f_h_is_name T.fd_h_is_name ["word"] (M_h_is_name k) := ok_h_is_name T k
    refine fn_m (Z := ZT T) T.d_h_is_head.F sc_h_is_head fun cdv A outer s H E hr => ?_
    have nd := sc_h_is_head.nd
    have tk : Takes (cxOf (L2.CX P w) P w K mg base ["word", "digits", "char"] "_law_is_head" (defScope s_h_is_head) T.f_h_is_head cdv A outer s H E) (fun c d _ H => E c d H) := takes_of rfl rfl rfl rfl
    exact (ms2 (ms_if (mt_cmp (opNe rfl hr.units6) omNe (m_slice rfl (mv 0) mo_n (mo_s (mInt))) (mStr) (nomark _)) (ms1 (ms_ret (m_own G_h_is_name rfl tk hr (by rfl) T.d_h_is_name.m T.d_h_is_name.F.kp T.d_h_is_name.b (ma1 (mv 0) ma0)))) ms0)
      (ms2 (ms_set (i := 1) nd rfl (.inl rfl) (m_slice rfl (mv 0) (mo_s (mInt)) mo_n))
      (ms2 (ms_if (PW.pt (mw_or (mt_not (mt_chain op_le op_le omCmp omCmp (mInt) (m_callB (crLen rfl) cmLen (by rfl) T.z_len PySem.boot_len (ma1 (mv 1) ma0)) (mInt))) (mw_or1 (PW.pt (mw_and (mt_cmp op_gt omCmp (m_callB (crLen rfl) cmLen (by rfl) T.z_len PySem.boot_len (ma1 (mv 1) ma0)) (mInt) (nomark _)) (mw_and1 (mt_cmp (opEq rfl hr.units6) omEq (m_ix (ixIx rfl hr.hu) omIx (mv 1) (mInt) (fun _ _ => rfl)) (mStr) (nomark _)))))))) (ms1 (ms_ret (mBl))) ms0)
      (ms1 (ms_ret (m_cmp (opEq rfl hr.units6) omEq (m_callB (crLen rfl) cmLen (by rfl) T.z_len PySem.boot_len (ma1 (m_lc (own := [("char", 2)]) rfl nd (m_its (mv 1)) (src_its _) (blkOk_by (own := [("char", 2)]) (N := ["word", "digits", "char"]) (sc := defScope s_h_is_head) (by decide +kernel)) (fun _ _ _ _ _ => (pg_name (i := 2) nd rfl (.inl rfl))) (gok_n 2) (fun _ _ _ _ _ => mts1 (mt_cmp (opNotIn rfl hr.units6) (omIn true) (mv 2) (mStr) rfl)) (fun _ _ _ _ _ => (mv 2))) ma0)) (mInt) (nomark _)))))))
theorem ok_h_is_term (T : Txt P w K mg base) : ∀ k, FnM P w (ZT T) mg base k T.f_h_is_term T.fd_h_is_term ["text"] (M_h_is_term k)
  | 0 => fn_zero
  | k + 1 => by
    have G_h_pieces : FnM P w (ZT T) mg base k T.f_h_pieces T.fd_h_pieces ["text"] (M_h_pieces k) := ok_h_pieces T k
    have G_h_is_head : FnM P w (ZT T) mg base k T.f_h_is_head T.fd_h_is_head ["word"] (M_h_is_head k) := ok_h_is_head T k
    refine fn_m (Z := ZT T) T.d_h_is_term.F sc_h_is_term fun cdv A outer s H E hr => ?_
    have nd := sc_h_is_term.nd
    have tk : Takes (cxOf (L2.CX P w) P w K mg base ["text", "last", "counts", "piece"] "_law_is_term" (defScope s_h_is_term) T.f_h_is_term cdv A outer s H E) (fun c d _ H => E c d H) := takes_of rfl rfl rfl rfl
    exact (ms2 (ms_set (i := 1) nd rfl (.inl rfl) (mStr))
      (ms2 (ms_set (i := 2) nd rfl (.inl rfl) (mlst (ma1 (mInt) ma0)))
      (ms2 (ms_for (passes_of rfl) rfl (m_it rfl (m_own G_h_pieces rfl tk hr (by rfl) T.d_h_pieces.m T.d_h_pieces.F.kp T.d_h_pieces.b (ma1 (mv 0) ma0))) (src_it _) (pg_name (i := 3) nd rfl (.inl rfl)) (gok_n 3) (ms2 (ms_if (mt_cmp (opEq rfl hr.units6) omEq (mv 3) (mStr) (nomark _)) (ms2 (ms_if (PW.pt (mw_or (mt_cmp (opNe rfl hr.units6) omNe (mv 1) (mStr) (nomark _)) (mw_or1 (mt_cmp (opEq rfl hr.units6) omEq (m_ix (ixIx rfl hr.hu) omIx (mv 2) (m_un un_neg omNeg (mInt)) (fun _ _ => rfl)) (mInt) (nomark _))))) (ms1 (ms_ret (mBl))) ms0)
      (ms1 (ms_expr (m_bm rfl PySem.F.plainAttrs_list PySem.F.slot_list_append PySem.F.type_list_append mt_append mfAppend (mv 2) (ma1 (mInt) ma0))))) (ms1 (ms_if (mt_cmp (opEq rfl hr.units6) omEq (mv 3) (mStr) (nomark _)) (ms2 (ms_if (PW.pt (mw_or (mt_cmp (opIn rfl hr.units6) (omIn false) (mv 1) (mStr) rfl) (mw_or (mt_cmp op_lt omCmp (m_callB (crLen rfl) cmLen (by rfl) T.z_len PySem.boot_len (ma1 (mv 2) ma0)) (mInt) (nomark _)) (mw_or1 (mt_cmp op_lt omCmp (m_ix (ixIx rfl hr.hu) omIx (mv 2) (m_un un_neg omNeg (mInt)) (fun _ _ => rfl)) (mInt) (nomark _)))))) (ms1 (ms_ret (mBl))) ms0)
      (ms2 (ms_expr (m_bm0 rfl PySem.F.plainAttrs_list PySem.F.slot_list_pop PySem.F.type_list_pop mt_pop mfPop (mv 2)))
      (ms1 (ms_sub (mv 2) (m_un un_neg omNeg (mInt)) (m_op (opAdd rfl) omAdd (m_ix (ixIx rfl hr.hu) omIx (mv 2) (m_un un_neg omNeg (mInt)) (fun _ _ => rfl)) (mInt)))))) (ms1 (ms_if (mt_cmp (opEq rfl hr.units6) omEq (mv 3) (mStr) (nomark _)) (ms1 (ms_if (mt_cmp (opIn rfl hr.units6) (omIn false) (mv 1) (mStr) rfl) (ms1 (ms_ret (mBl))) ms0)) (ms2 (ms_if (PW.pt (mw_or (mt_cmp (opNotIn rfl hr.units6) (omIn true) (mv 1) (mStr) rfl) (mw_or1 (mt_not (mt_truth rfl (m_own G_h_is_head rfl tk hr (by rfl) T.d_h_is_head.m T.d_h_is_head.F.kp T.d_h_is_head.b (ma1 (mv 3) ma0))))))) (ms1 (ms_ret (mBl))) ms0)
      (ms1 (ms_sub (mv 2) (m_un un_neg omNeg (mInt)) (m_op (opAdd rfl) omAdd (m_ix (ixIx rfl hr.hu) omIx (mv 2) (m_un un_neg omNeg (mInt)) (fun _ _ => rfl)) (mInt))))))))))
      (ms1 (ms_set (i := 1) nd rfl (.inl rfl) (mv 3)))))
      (ms1 (ms_ret (m_and (m_cmp (opEq rfl hr.units6) omEq (m_callB (crLen rfl) cmLen (by rfl) T.z_len PySem.boot_len (ma1 (mv 2) ma0)) (mInt) (nomark _)) (m_and (m_cmp op_gt omCmp (m_ix (ixIx rfl hr.hu) omIx (mv 2) (mInt) (fun _ _ => rfl)) (mInt) (nomark _)) (m_one (m_cmp (opNe rfl hr.units6) omNe (mv 1) (mStr) (nomark _))))))))))
theorem ok_h_head (T : Txt P w K mg base) : ∀ k, FnM P w (ZT T) mg base k T.f_h_head T.fd_h_head ["state", "script", "pool"] (M_h_head k)
  | 0 => fn_zero
  | k + 1 => by
    have G_h_pick : FnM P w (ZT T) mg base k T.f_h_pick T.fd_h_pick ["state", "script", "many"] (M_h_pick k) := ok_h_pick T k
    have G_h_name : FnM P w (ZT T) mg base k T.f_h_name T.fd_h_name ["state", "script", "large"] (M_h_name k) := ok_h_name T k
    refine fn_m (Z := ZT T) T.d_h_head.F sc_h_head fun cdv A outer s H E hr => ?_
    have nd := sc_h_head.nd
    have tk : Takes (cxOf (L2.CX P w) P w K mg base ["state", "script", "pool", "choice"] "_law_head" (defScope s_h_head) T.f_h_head cdv A outer s H E) (fun c d _ H => E c d H) := takes_of rfl rfl rfl rfl
    exact (ms2 (ms_set (i := 3) nd rfl (.inl rfl) (m_own G_h_pick rfl tk hr (by rfl) T.d_h_pick.m T.d_h_pick.F.kp T.d_h_pick.b (ma1 (mv 0) (ma1 (mv 1) (ma1 (mInt) ma0)))))
      (ms2 (ms_if (mt_cmp op_lt omCmp (mv 3) (mInt) (nomark _)) (ms1 (ms_ret (m_own G_h_pick rfl tk hr (by rfl) T.d_h_pick.m T.d_h_pick.F.kp T.d_h_pick.b (ma1 (mv 0) (ma1 (mv 1) (ma1 (m_ix (ixIx rfl hr.hu) omIx (mlst (ma1 (mInt) (ma1 (mInt) (ma1 (mInt) ma0)))) (mv 3) (fun _ _ => rfl)) ma0)))))) ms0)
      (ms2 (ms_if (mt_cmp (opEq rfl hr.units6) omEq (mv 3) (mInt) (nomark _)) (ms1 (ms_ret (m_own G_h_name rfl tk hr (by rfl) T.d_h_name.m T.d_h_name.F.kp T.d_h_name.b (ma1 (mv 0) (ma1 (mv 1) (ma1 (m_cmp (opEq rfl hr.units6) omEq (m_own G_h_pick rfl tk hr (by rfl) T.d_h_pick.m T.d_h_pick.F.kp T.d_h_pick.b (ma1 (mv 0) (ma1 (mv 1) (ma1 (mInt) ma0)))) (mInt) (nomark _)) ma0)))))) ms0)
      (ms1 (ms_ret (m_ix (ixIx rfl hr.hu) omIx (mv 2) (m_own G_h_pick rfl tk hr (by rfl) T.d_h_pick.m T.d_h_pick.F.kp T.d_h_pick.b (ma1 (mv 0) (ma1 (mv 1) (ma1 (m_callB (crLen rfl) cmLen (by rfl) T.z_len PySem.boot_len (ma1 (mv 2) ma0)) ma0)))) (fun _ _ => rfl)))))))
theorem ok_h_any (T : Txt P w K mg base) : ∀ k, FnM P w (ZT T) mg base k T.f_h_any T.fd_h_any ["state", "script", "pool", "depth"] (M_h_any k)
  | 0 => fn_zero
  | k + 1 => by
    have G_h_any : FnM P w (ZT T) mg base k T.f_h_any T.fd_h_any ["state", "script", "pool", "depth"] (M_h_any k) := ok_h_any T k
    have G_h_pick : FnM P w (ZT T) mg base k T.f_h_pick T.fd_h_pick ["state", "script", "many"] (M_h_pick k) := ok_h_pick T k
    have G_h_head : FnM P w (ZT T) mg base k T.f_h_head T.fd_h_head ["state", "script", "pool"] (M_h_head k) := ok_h_head T k
    refine fn_m (Z := ZT T) T.d_h_any.F sc_h_any fun cdv A outer s H E hr => ?_
    have nd := sc_h_any.nd
    have tk : Takes (cxOf (L2.CX P w) P w K mg base ["state", "script", "pool", "depth", "head", "arguments", "many", "k"] "_law_any" (defScope s_h_any) T.f_h_any cdv A outer s H E) (fun c d _ H => E c d H) := takes_of rfl rfl rfl rfl
    exact (ms2 (ms_sub (mv 0) (mInt) (m_op op_sub omSub (m_ix (ixIx rfl hr.hu) omIx (mv 0) (mInt) (fun _ _ => rfl)) (mInt)))
      (ms2 (ms_set (i := 4) nd rfl (.inl rfl) (m_own G_h_head rfl tk hr (by rfl) T.d_h_head.m T.d_h_head.F.kp T.d_h_head.b (ma1 (mv 0) (ma1 (mv 1) (ma1 (mv 2) ma0)))))
      (ms2 (ms_set (i := 5) nd rfl (.inl rfl) (mlst ma0))
      (ms2 (ms_set (i := 6) nd rfl (.inl rfl) (m_own G_h_pick rfl tk hr (by rfl) T.d_h_pick.m T.d_h_pick.F.kp T.d_h_pick.b (ma1 (mv 0) (ma1 (mv 1) (ma1 (m_ix (ixIx rfl hr.hu) omIx (mlst (ma1 (mInt) (ma1 (mInt) ma0))) (m_callTy call_int1 cmInt (by rfl) T.z_int (by decide +kernel) (ma1 (m_cmp op_gt omCmp (mv 3) (mInt) (nomark _)) ma0)) (fun _ _ => rfl)) ma0)))))
      (ms2 (ms_for (passes_of rfl) rfl (m_ir1 (by rfl) T.z_range (ma1 (mv 6) ma0)) (src_r1 _) (pg_name (i := 7) nd rfl (.inl rfl)) (gok_n 7) (ms1 (ms_if (PW.pt (mw_and (mt_cmp op_gt omCmp (m_ix (ixIx rfl hr.hu) omIx (mv 0) (mInt) (fun _ _ => rfl)) (mInt) (nomark _)) (mw_and1 (mt_cmp op_lt omCmp (mv 3) (mInt) (nomark _))))) (ms1 (ms_expr (m_bm rfl PySem.F.plainAttrs_list PySem.F.slot_list_append PySem.F.type_list_append mt_append mfAppend (mv 5) (ma1 (m_own G_h_any rfl tk hr (by rfl) T.d_h_any.m T.d_h_any.F.kp T.d_h_any.b (ma1 (mv 0) (ma1 (mv 1) (ma1 (mv 2) (ma1 (m_op (opAdd rfl) omAdd (mv 3) (mInt)) ma0))))) ma0)))) ms0)))
      (ms1 (ms_ret (mtup (ma1 (mv 4) (ma1 (m_callTy (crTuple rfl rfl) cmTuple (by rfl) T.z_tuple (by decide +kernel) (ma1 (mv 5) ma0)) ma0))))))))))
theorem ok_h_deep (T : Txt P w K mg base) : ∀ k, FnM P w (ZT T) mg base k T.f_h_deep T.fd_h_deep ["state", "script", "pool", "many"] (M_h_deep k)
  | 0 => fn_zero
  | k + 1 => by
    have G_h_head : FnM P w (ZT T) mg base k T.f_h_head T.fd_h_head ["state", "script", "pool"] (M_h_head k) := ok_h_head T k
    have G_h_pick : FnM P w (ZT T) mg base k T.f_h_pick T.fd_h_pick ["state", "script", "many"] (M_h_pick k) := ok_h_pick T k
    refine fn_m (Z := ZT T) T.d_h_deep.F sc_h_deep fun cdv A outer s H E hr => ?_
    have nd := sc_h_deep.nd
    have tk : Takes (cxOf (L2.CX P w) P w K mg base ["state", "script", "pool", "many", "term", "k", "arguments"] "_law_deep" (defScope s_h_deep) T.f_h_deep cdv A outer s H E) (fun c d _ H => E c d H) := takes_of rfl rfl rfl rfl
    exact (ms2 (ms_set (i := 4) nd rfl (.inl rfl) (mtup (ma1 (m_own G_h_head rfl tk hr (by rfl) T.d_h_head.m T.d_h_head.F.kp T.d_h_head.b (ma1 (mv 0) (ma1 (mv 1) (ma1 (mv 2) ma0)))) (ma1 (mtup ma0) ma0))))
      (ms2 (ms_for (passes_of rfl) rfl (m_ir1 (by rfl) T.z_range (ma1 (mv 3) ma0)) (src_r1 _) (pg_name (i := 5) nd rfl (.inl rfl)) (gok_n 5) (ms2 (ms_set (i := 6) nd rfl (.inl rfl) (mlst (ma1 (mv 4) ma0)))
      (ms2 (ms_if (mt_cmp (opEq rfl hr.units6) omEq (m_own G_h_pick rfl tk hr (by rfl) T.d_h_pick.m T.d_h_pick.F.kp T.d_h_pick.b (ma1 (mv 0) (ma1 (mv 1) (ma1 (mInt) ma0)))) (mInt) (nomark _)) (ms1 (ms_expr (m_bm rfl PySem.F.plainAttrs_list PySem.F.slot_list_append PySem.F.type_list_append mt_append mfAppend (mv 6) (ma1 (mtup (ma1 (m_own G_h_head rfl tk hr (by rfl) T.d_h_head.m T.d_h_head.F.kp T.d_h_head.b (ma1 (mv 0) (ma1 (mv 1) (ma1 (mv 2) ma0)))) (ma1 (mtup ma0) ma0))) ma0)))) ms0)
      (ms2 (ms_if (mt_cmp (opEq rfl hr.units6) omEq (m_own G_h_pick rfl tk hr (by rfl) T.d_h_pick.m T.d_h_pick.F.kp T.d_h_pick.b (ma1 (mv 0) (ma1 (mv 1) (ma1 (mInt) ma0)))) (mInt) (nomark _)) (ms1 (ms_set (i := 6) nd rfl (.inl rfl) (m_op (opAdd rfl) omAdd (mlst (ma1 (mtup (ma1 (m_own G_h_head rfl tk hr (by rfl) T.d_h_head.m T.d_h_head.F.kp T.d_h_head.b (ma1 (mv 0) (ma1 (mv 1) (ma1 (mv 2) ma0)))) (ma1 (mtup ma0) ma0))) ma0)) (mv 6)))) ms0)
      (ms1 (ms_set (i := 4) nd rfl (.inl rfl) (mtup (ma1 (m_own G_h_head rfl tk hr (by rfl) T.d_h_head.m T.d_h_head.F.kp T.d_h_head.b (ma1 (mv 0) (ma1 (mv 1) (ma1 (mv 2) ma0)))) (ma1 (m_callTy (crTuple rfl rfl) cmTuple (by rfl) T.z_tuple (by decide +kernel) (ma1 (m_slice rfl (mv 6) mo_n (mo_s (mInt))) ma0)) ma0)))))))))
      (ms1 (ms_ret (mv 4)))))
theorem ok_h_term (T : Txt P w K mg base) : ∀ k, FnM P w (ZT T) mg base k T.f_h_term T.fd_h_term ["state", "script", "pool", "most"] (M_h_term k)
  | 0 => fn_zero
  | k + 1 => by
    have G_h_any : FnM P w (ZT T) mg base k T.f_h_any T.fd_h_any ["state", "script", "pool", "depth"] (M_h_any k) := ok_h_any T k
    have G_h_pick : FnM P w (ZT T) mg base k T.f_h_pick T.fd_h_pick ["state", "script", "many"] (M_h_pick k) := ok_h_pick T k
    have G_h_deep : FnM P w (ZT T) mg base k T.f_h_deep T.fd_h_deep ["state", "script", "pool", "many"] (M_h_deep k) := ok_h_deep T k
    refine fn_m (Z := ZT T) T.d_h_term.F sc_h_term fun cdv A outer s H E hr => ?_
    have nd := sc_h_term.nd
    have tk : Takes (cxOf (L2.CX P w) P w K mg base ["state", "script", "pool", "most"] "_law_term" (defScope s_h_term) T.f_h_term cdv A outer s H E) (fun c d _ H => E c d H) := takes_of rfl rfl rfl rfl
    exact (ms2 (ms_if (mt_cmp (opEq rfl hr.units6) omEq (m_own G_h_pick rfl tk hr (by rfl) T.d_h_pick.m T.d_h_pick.F.kp T.d_h_pick.b (ma1 (mv 0) (ma1 (mv 1) (ma1 (mInt) ma0)))) (mInt) (nomark _)) (ms1 (ms_ret (m_own G_h_deep rfl tk hr (by rfl) T.d_h_deep.m T.d_h_deep.F.kp T.d_h_deep.b (ma1 (mv 0) (ma1 (mv 1) (ma1 (mv 2) (ma1 (m_own G_h_pick rfl tk hr (by rfl) T.d_h_pick.m T.d_h_pick.F.kp T.d_h_pick.b (ma1 (mv 0) (ma1 (mv 1) (ma1 (m_op (opAdd rfl) omAdd (m_op op_fdiv omDiv (m_callTy call_int1 cmInt (by rfl) T.z_int (by decide +kernel) (ma1 (mv 3) ma0)) (mInt)) (mInt)) ma0)))) ma0))))))) ms0)
      (ms2 (ms_sub (mv 0) (mInt) (m_own G_h_pick rfl tk hr (by rfl) T.d_h_pick.m T.d_h_pick.F.kp T.d_h_pick.b (ma1 (mv 0) (ma1 (mv 1) (ma1 (mv 3) ma0)))))
      (ms1 (ms_ret (m_own G_h_any rfl tk hr (by rfl) T.d_h_any.m T.d_h_any.F.kp T.d_h_any.b (ma1 (mv 0) (ma1 (mv 1) (ma1 (mv 2) (ma1 (mInt) ma0)))))))))
theorem ok_h_spoiled (T : Txt P w K mg base) : ∀ k, FnM P w (ZT T) mg base k T.f_h_spoiled T.fd_h_spoiled ["state", "script", "text"] (M_h_spoiled k)
  | 0 => fn_zero
  | k + 1 => by
    have G_h_pick : FnM P w (ZT T) mg base k T.f_h_pick T.fd_h_pick ["state", "script", "many"] (M_h_pick k) := ok_h_pick T k
    refine fn_m (Z := ZT T) T.d_h_spoiled.F sc_h_spoiled fun cdv A outer s H E hr => ?_
    have nd := sc_h_spoiled.nd
    have tk : Takes (cxOf (L2.CX P w) P w K mg base ["state", "script", "text", "at", "choice", "word"] "_law_spoiled" (defScope s_h_spoiled) T.f_h_spoiled cdv A outer s H E) (fun c d _ H => E c d H) := takes_of rfl rfl rfl rfl
    exact (ms2 (ms_set (i := 3) nd rfl (.inl rfl) (m_own G_h_pick rfl tk hr (by rfl) T.d_h_pick.m T.d_h_pick.F.kp T.d_h_pick.b (ma1 (mv 0) (ma1 (mv 1) (ma1 (m_op (opAdd rfl) omAdd (m_callB (crLen rfl) cmLen (by rfl) T.z_len PySem.boot_len (ma1 (mv 2) ma0)) (mInt)) ma0)))))
      (ms2 (ms_set (i := 4) nd rfl (.inl rfl) (m_own G_h_pick rfl tk hr (by rfl) T.d_h_pick.m T.d_h_pick.F.kp T.d_h_pick.b (ma1 (mv 0) (ma1 (mv 1) (ma1 (mInt) ma0)))))
      (ms2 (ms_if (mt_cmp (opEq rfl hr.units6) omEq (mv 4) (mInt) (nomark _)) (ms1 (ms_ret (m_op (opAdd rfl) omAdd (m_slice rfl (mv 2) mo_n (mo_s (mv 3))) (m_slice rfl (mv 2) (mo_s (m_op (opAdd rfl) omAdd (mv 3) (mInt))) mo_n)))) ms0)
      (ms2 (ms_if (mt_cmp (opEq rfl hr.units6) omEq (mv 4) (mInt) (nomark _)) (ms1 (ms_ret (m_op (opAdd rfl) omAdd (m_op (opAdd rfl) omAdd (m_slice rfl (mv 2) mo_n (mo_s (mv 3))) (m_slice rfl (mv 2) (mo_s (mv 3)) (mo_s (m_op (opAdd rfl) omAdd (mv 3) (mInt))))) (m_slice rfl (mv 2) (mo_s (mv 3)) mo_n)))) ms0)
      (ms2 (ms_if (mt_cmp (opEq rfl hr.units6) omEq (mv 4) (mInt) (nomark _)) (ms1 (ms_ret (m_op (opAdd rfl) omAdd (m_op (opAdd rfl) omAdd (m_slice rfl (mv 2) mo_n (mo_s (mv 3))) (m_ix (ixIx rfl hr.hu) omIx (mStr) (m_own G_h_pick rfl tk hr (by rfl) T.d_h_pick.m T.d_h_pick.F.kp T.d_h_pick.b (ma1 (mv 0) (ma1 (mv 1) (ma1 (mInt) ma0)))) (fun _ _ => rfl))) (m_slice rfl (mv 2) (mo_s (mv 3)) mo_n)))) ms0)
      (ms2 (ms_if (mt_cmp (opEq rfl hr.units6) omEq (mv 4) (mInt) (nomark _)) (ms1 (ms_ret (m_op (opAdd rfl) omAdd (m_op (opAdd rfl) omAdd (m_slice rfl (mv 2) mo_n (mo_s (mv 3))) (m_ix (ixIx rfl hr.hu) omIx (mStr) (m_own G_h_pick rfl tk hr (by rfl) T.d_h_pick.m T.d_h_pick.F.kp T.d_h_pick.b (ma1 (mv 0) (ma1 (mv 1) (ma1 (mInt) ma0)))) (fun _ _ => rfl))) (m_slice rfl (mv 2) (mo_s (m_op (opAdd rfl) omAdd (mv 3) (mInt))) mo_n)))) ms0)
      (ms2 (ms_if (mt_cmp (opEq rfl hr.units6) omEq (mv 4) (mInt) (nomark _)) (ms1 (ms_ret (m_slice rfl (mv 2) mo_n (mo_s (mv 3))))) ms0)
      (ms2 (ms_if (mt_cmp (opEq rfl hr.units6) omEq (mv 4) (mInt) (nomark _)) (ms1 (ms_ret (m_slice rfl (mv 2) (mo_s (mv 3)) mo_n))) ms0)
      (ms2 (ms_if (mt_cmp (opEq rfl hr.units6) omEq (mv 4) (mInt) (nomark _)) (ms1 (ms_ret (m_ix (ixIx rfl hr.hu) omIx (mlst (ma1 (m_op (opAdd rfl) omAdd (m_op (opAdd rfl) omAdd (mStr) (mv 2)) (mStr)) (ma1 (m_op (opAdd rfl) omAdd (mv 2) (mStr)) (ma1 (m_op (opAdd rfl) omAdd (mStr) (mv 2)) (ma1 (m_op (opAdd rfl) omAdd (mv 2) (mStr)) (ma1 (m_op (opAdd rfl) omAdd (mStr) (mv 2)) ma0)))))) (m_own G_h_pick rfl tk hr (by rfl) T.d_h_pick.m T.d_h_pick.F.kp T.d_h_pick.b (ma1 (mv 0) (ma1 (mv 1) (ma1 (mInt) ma0)))) (fun _ _ => rfl)))) ms0)
      (ms2 (ms_if (mt_cmp (opEq rfl hr.units6) omEq (mv 4) (mInt) (nomark _)) (ms1 (ms_ret (m_op (opAdd rfl) omAdd (m_op (opAdd rfl) omAdd (m_slice rfl (mv 2) mo_n (mo_s (mv 3))) (m_slice rfl (mStr) mo_n (mo_s (m_own G_h_pick rfl tk hr (by rfl) T.d_h_pick.m T.d_h_pick.F.kp T.d_h_pick.b (ma1 (mv 0) (ma1 (mv 1) (ma1 (mInt) ma0))))))) (m_slice rfl (mv 2) (mo_s (mv 3)) mo_n)))) ms0)
      (ms2 (ms_set (i := 5) nd rfl (.inl rfl) (m_ix (ixIx rfl hr.hu) omIx (mlst (ma1 (mStr) (ma1 (mStr) (ma1 (mStr) (ma1 (mStr) (ma1 (mStr) (ma1 (mStr) (ma1 (mStr) (ma1 (mStr) (ma1 (mStr) ma0)))))))))) (m_own G_h_pick rfl tk hr (by rfl) T.d_h_pick.m T.d_h_pick.F.kp T.d_h_pick.b (ma1 (mv 0) (ma1 (mv 1) (ma1 (mInt) ma0)))) (fun _ _ => rfl)))
      (ms1 (ms_ret (m_op (opAdd rfl) omAdd (m_op (opAdd rfl) omAdd (m_op (opAdd rfl) omAdd (m_slice rfl (mv 2) mo_n (mo_s (mv 3))) (mStr)) (mv 5)) (m_slice rfl (mv 2) (mo_s (mv 3)) mo_n)))))))))))))))
theorem ok_h_same (T : Txt P w K mg base) : ∀ k, FnM P w (ZT T) mg base k T.f_h_same T.fd_h_same ["actual", "due"] (M_h_same k)
  | 0 => fn_zero
  | k + 1 => by
    have G_h_same : FnM P w (ZT T) mg base k T.f_h_same T.fd_h_same ["actual", "due"] (M_h_same k) := ok_h_same T k
    refine fn_m (Z := ZT T) T.d_h_same.F sc_h_same fun cdv A outer s H E hr => ?_
    have nd := sc_h_same.nd
    have tk : Takes (cxOf (L2.CX P w) P w K mg base ["actual", "due", "k"] "_law_same" (defScope s_h_same) T.f_h_same cdv A outer s H E) (fun c d _ H => E c d H) := takes_of rfl rfl rfl rfl
    exact (ms2 (ms_if (mt_cmp op_isN omIsN (mv 1) (mNon) (nomark _)) (ms1 (ms_ret (m_cmp op_isN omIsN (mv 0) (mNon) (nomark _)))) ms0)
      (ms2 (ms_if (mt_truth rfl (m_callB (crIsi rfl) cmIsi (by rfl) T.z_isinstance (by decide +kernel) (ma1 (mv 1) (ma1 (mTy (n := "tuple") (by rfl) T.z_tuple (by decide +kernel)) ma0)))) (ms2 (ms_if (PW.pt (mw_or (mt_not (mt_truth rfl (m_callB (crIsi rfl) cmIsi (by rfl) T.z_isinstance (by decide +kernel) (ma1 (mv 0) (ma1 (mTy (n := "tuple") (by rfl) T.z_tuple (by decide +kernel)) ma0))))) (mw_or1 (mt_cmp (opNe rfl hr.units6) omNe (m_callB (crLen rfl) cmLen (by rfl) T.z_len PySem.boot_len (ma1 (mv 0) ma0)) (m_callB (crLen rfl) cmLen (by rfl) T.z_len PySem.boot_len (ma1 (mv 1) ma0)) (nomark _))))) (ms1 (ms_ret (mBl))) ms0)
      (ms2 (ms_for (passes_of rfl) rfl (m_ir1 (by rfl) T.z_range (ma1 (m_callB (crLen rfl) cmLen (by rfl) T.z_len PySem.boot_len (ma1 (mv 1) ma0)) ma0)) (src_r1 _) (pg_name (i := 2) nd rfl (.inl rfl)) (gok_n 2) (ms1 (ms_if (mt_not (mt_truth rfl (m_own G_h_same rfl tk hr (by rfl) T.d_h_same.m T.d_h_same.F.kp T.d_h_same.b (ma1 (m_ix (ixIx rfl hr.hu) omIx (mv 0) (mv 2) (fun _ _ => rfl)) (ma1 (m_ix (ixIx rfl hr.hu) omIx (mv 1) (mv 2) (fun _ _ => rfl)) ma0))))) (ms1 (ms_ret (mBl))) ms0)))
      (ms1 (ms_ret (mBl))))) ms0)
      (ms2 (ms_if (mt_truth rfl (m_callB (crIsi rfl) cmIsi (by rfl) T.z_isinstance (by decide +kernel) (ma1 (mv 1) (ma1 (mTy (n := "int") (by rfl) T.z_int (by decide +kernel)) ma0)))) (ms1 (ms_ret (m_and (m_callB (crIsi rfl) cmIsi (by rfl) T.z_isinstance (by decide +kernel) (ma1 (mv 0) (ma1 (mTy (n := "int") (by rfl) T.z_int (by decide +kernel)) ma0))) (m_and (m_not rfl (m_callB (crIsi rfl) cmIsi (by rfl) T.z_isinstance (by decide +kernel) (ma1 (mv 0) (ma1 (mTy (n := "bool") (by rfl) T.z_bool (by decide +kernel)) ma0)))) (m_one (m_cmp (opEq rfl hr.units6) omEq (mv 0) (mv 1) (nomark _))))))) ms0)
      (ms1 (ms_ret (m_and (m_callB (crIsi rfl) cmIsi (by rfl) T.z_isinstance (by decide +kernel) (ma1 (mv 0) (ma1 (mTy (n := "str") (by rfl) T.z_str (by decide +kernel)) ma0))) (m_one (m_cmp (opEq rfl hr.units6) omEq (mv 0) (mv 1) (nomark _)))))))))
theorem ok_law (T : Txt P w K mg base) : ∀ k, FnM P w (ZT T) mg base k T.f_law T.fd_law ["script"] (M_law k)
  | 0 => fn_zero
  | k + 1 => by
    have G_h_is_term : FnM P w (ZT T) mg base k T.f_h_is_term T.fd_h_is_term ["text"] (M_h_is_term k) := ok_h_is_term T k
    have G_h_same : FnM P w (ZT T) mg base k T.f_h_same T.fd_h_same ["actual", "due"] (M_h_same k) := ok_h_same T k
    have G_h_told : FnM P w (ZT T) mg base k T.f_h_told T.fd_h_told ["text"] (M_h_told k) := ok_h_told T k
    have G_h_pick : FnM P w (ZT T) mg base k T.f_h_pick T.fd_h_pick ["state", "script", "many"] (M_h_pick k) := ok_h_pick T k
    have G_h_spoiled : FnM P w (ZT T) mg base k T.f_h_spoiled T.fd_h_spoiled ["state", "script", "text"] (M_h_spoiled k) := ok_h_spoiled T k
    have G_h_written : FnM P w (ZT T) mg base k T.f_h_written T.fd_h_written ["term"] (M_h_written k) := ok_h_written T k
    have G_h_term : FnM P w (ZT T) mg base k T.f_h_term T.fd_h_term ["state", "script", "pool", "most"] (M_h_term k) := ok_h_term T k
    have G_h_pool : FnM P w (ZT T) mg base k T.f_h_pool T.fd_h_pool ["state", "script"] (M_h_pool k) := ok_h_pool T k
    refine fn_m (Z := ZT T) T.d_law.F sc_law fun cdv A outer s H E hr => ?_
    have nd := sc_law.nd
    have tk : Takes (cxOf (L2.CX P w) P w K mg base ["script", "state", "pool", "k", "text", "j", "told"] "law" (defScope s_law) T.f_law cdv A outer s H E) (fun c d _ H => E c d H) := takes_of rfl rfl rfl rfl
    exact (ms2 (ms_set (i := 1) nd rfl (.inl rfl) (mlst (ma1 (mInt) (ma1 (mInt) (ma1 (mInt) (ma1 (mInt) ma0))))))
      (ms2 (ms_set (i := 2) nd rfl (.inl rfl) (m_own G_h_pool rfl tk hr (by rfl) T.d_h_pool.m T.d_h_pool.F.kp T.d_h_pool.b (ma1 (mv 1) (ma1 (mv 0) ma0))))
      (ms2 (ms_for (passes_of rfl) rfl (m_ir1 (by rfl) T.z_range (ma1 (mInt) ma0)) (src_r1 _) (pg_name (i := 3) nd rfl (.inl rfl)) (gok_n 3) (ms2 (ms_set (i := 4) nd rfl (.inl rfl) (m_own G_h_written rfl tk hr (by rfl) T.d_h_written.m T.d_h_written.F.kp T.d_h_written.b (ma1 (m_own G_h_term rfl tk hr (by rfl) T.d_h_term.m T.d_h_term.F.kp T.d_h_term.b (ma1 (mv 1) (ma1 (mv 0) (ma1 (mv 2) (ma1 (mInt) ma0))))) ma0)))
      (ms2 (ms_for (passes_of rfl) rfl (m_ir1 (by rfl) T.z_range (ma1 (m_op (opAdd rfl) omAdd (mInt) (m_own G_h_pick rfl tk hr (by rfl) T.d_h_pick.m T.d_h_pick.F.kp T.d_h_pick.b (ma1 (mv 1) (ma1 (mv 0) (ma1 (mInt) ma0))))) ma0)) (src_r1 _) (pg_name (i := 5) nd rfl (.inl rfl)) (gok_n 5) (ms1 (ms_set (i := 4) nd rfl (.inl rfl) (m_own G_h_spoiled rfl tk hr (by rfl) T.d_h_spoiled.m T.d_h_spoiled.F.kp T.d_h_spoiled.b (ma1 (mv 1) (ma1 (mv 0) (ma1 (mv 4) ma0)))))))
      (ms2 (ms_set (i := 6) nd rfl (.inl rfl) (m_own G_h_told rfl tk hr (by rfl) T.d_h_told.m T.d_h_told.F.kp T.d_h_told.b (ma1 (mv 4) ma0)))
      (ms1 (ms_if (mt_truth rfl (m_own G_h_is_term rfl tk hr (by rfl) T.d_h_is_term.m T.d_h_is_term.F.kp T.d_h_is_term.b (ma1 (mv 4) ma0))) (ms1 (ms_if (mt_not (mt_truth rfl (m_own G_h_same rfl tk hr (by rfl) T.d_h_same.m T.d_h_same.F.kp T.d_h_same.b (ma1 (mv 6) (ma1 (mtup (ma1 (mStr) (ma1 (mv 4) ma0))) ma0))))) (ms1 (ms_ret (mBl))) ms0)) (ms1 (ms_if (PW.pt (mw_or (mt_cmp (opNe rfl hr.units6) omNe (m_ix (ixIx rfl hr.hu) omIx (mv 6) (mInt) (fun _ _ => rfl)) (mStr) (nomark _)) (mw_or1 (mt_cmp op_notB omNotB (m_ix (ixIx rfl hr.hu) omIx (mv 6) (mInt) (fun _ _ => rfl)) (mBl) (nomark _))))) (ms1 (ms_ret (mBl))) ms0))))))))
      (ms1 (ms_ret (mBl))))))
end
end DM

namespace DM
open PySem L2 MD
theorem all_mk {l : PySem.W.OpenLaw} {w : World} {K : PySem.W.Frag} {h : Heap} {mg : Str → Option Value} {fa : Addr} (X : K.In h) (G : h.Ns mainGlobals mg) (hfa : mg "law" = some (.ref fa))
    {C_DriveFoldError : Addr}
    (a_DriveFoldError : PySem.W.nsIn K mainGlobals "DriveFoldError" = some (some (.ref C_DriveFoldError)))
    (xE_DriveFoldError : PySem.W.excIn K C_DriveFoldError [.type "ValueError", .type "Exception", .type "BaseException", .type "object"] "ValueError.__new__" = true)
    (kC_DriveFoldError : PySem.W.keepIn K (.ref C_DriveFoldError) = true)
    (bC_DriveFoldError : PySem.W.subIn K (.ref C_DriveFoldError) (.type "BaseException") = some true)
    (tC_DriveFoldError : PySem.W.typeIn K (.ref C_DriveFoldError) = some (.type "type"))
    {C_BadTerm : Addr}
    (a_BadTerm : PySem.W.nsIn K mainGlobals "BadTerm" = some (some (.ref C_BadTerm)))
    (xE_BadTerm : PySem.W.excIn K C_BadTerm [.type "ValueError", .type "Exception", .type "BaseException", .type "object"] "ValueError.__new__" = true)
    (kC_BadTerm : PySem.W.keepIn K (.ref C_BadTerm) = true)
    (bC_BadTerm : PySem.W.subIn K (.ref C_BadTerm) (.type "BaseException") = some true)
    (tC_BadTerm : PySem.W.typeIn K (.ref C_BadTerm) = some (.type "type"))
    {C_BadJournal : Addr} (a_BadJournal : PySem.W.nsIn K mainGlobals "BadJournal" = some (some (.ref C_BadJournal)))
    {C_BadPaper : Addr} (a_BadPaper : PySem.W.nsIn K mainGlobals "BadPaper" = some (some (.ref C_BadPaper)))
    {C_BadProgram : Addr} (a_BadProgram : PySem.W.nsIn K mainGlobals "BadProgram" = some (some (.ref C_BadProgram)))
    {C_Refused : Addr} (a_Refused : PySem.W.nsIn K mainGlobals "Refused" = some (some (.ref C_Refused)))
    {C_TooLarge : Addr} (a_TooLarge : PySem.W.nsIn K mainGlobals "TooLarge" = some (some (.ref C_TooLarge)))
    {C_WrongPaper : Addr} (a_WrongPaper : PySem.W.nsIn K mainGlobals "WrongPaper" = some (some (.ref C_WrongPaper)))
    (iB_BadTerm : PySem.W.isClsIn K C_DriveFoldError = true)
    (sB_BadTerm : PySem.W.subIn K (.ref C_BadTerm) (.ref C_DriveFoldError) = some true)
    (eX_BadTerm : PySem.W.isClsIn K C_BadTerm = true)
    (eG_BadTerm : PySem.W.findIn K (.ref C_BadTerm) "__getattribute__" = some (some (.builtin "BaseException.__getattribute__")))
    (eH_BadTerm : PySem.W.findIn K (.ref C_BadTerm) "__getattr__" = some none)
    (eS_BadTerm : PySem.W.subIn K (.ref C_BadTerm) (.type "BaseException") = some true)
    (eK_BadTerm : PySem.W.findIn K (.ref C_BadTerm) "__class__" = some (some (.builtin "object.__class__")))
    (eN_BadTerm : PySem.W.specialIn K (.builtin "object.__class__") "__get__" = some (some (.builtin "getset_descriptor.__get__")))
    (eT_BadTerm : PySem.W.takesIn K (.builtin "object.__class__") = some true)
    (eM_BadTerm : PySem.W.mroIn K C_BadTerm (.type "object") = some true)
    (tv_BadTerm : PySem.W.kitOne K (.ref C_BadTerm) (.type "ValueError") = some true)
    (ta_BadTerm : PySem.W.kitAny K (.ref C_BadTerm) [.ref C_BadJournal, .ref C_BadPaper, .ref C_BadProgram, .ref C_Refused, .ref C_TooLarge, .ref C_WrongPaper] = some false)
    {f0 : Addr} {od0 an0 : Option Addr} {sl0 : Array (Option Value)} {oc0 kV0 dc0 pm0 cd0 ct0 : Value}
    (a0 : PySem.W.nsIn K mainGlobals "applied" = some (some (.ref f0)))
    (l0 : K.lookup f0 = some ⟨oc0, od0, .func (PySem.W.fnOf "applied" "applied" (defArgs s_applied) (defBody s_applied) (defScope s_applied) .none kV0 dc0 pm0 an0 cd0 ct0), sl0⟩) (c0 : PySem.W.codeIn K cd0 "applied" = true) (k0 : PySem.W.keepIn K (.ref f0) = true)
    {f1 : Addr} {od1 an1 : Option Addr} {sl1 : Array (Option Value)} {oc1 kV1 dc1 pm1 cd1 ct1 : Value}
    (a1 : PySem.W.nsIn K mainGlobals "write_term" = some (some (.ref f1)))
    (l1 : K.lookup f1 = some ⟨oc1, od1, .func (PySem.W.fnOf "write_term" "write_term" (defArgs s_write_term) (defBody s_write_term) (defScope s_write_term) .none kV1 dc1 pm1 an1 cd1 ct1), sl1⟩) (c1 : PySem.W.codeIn K cd1 "write_term" = true) (k1 : PySem.W.keepIn K (.ref f1) = true)
    {f2 : Addr} {od2 an2 : Option Addr} {sl2 : Array (Option Value)} {oc2 kV2 dc2 pm2 cd2 ct2 : Value}
    (a2 : PySem.W.nsIn K mainGlobals "write_head" = some (some (.ref f2)))
    (l2 : K.lookup f2 = some ⟨oc2, od2, .func (PySem.W.fnOf "write_head" "write_head" (defArgs s_write_head) (defBody s_write_head) (defScope s_write_head) .none kV2 dc2 pm2 an2 cd2 ct2), sl2⟩) (c2 : PySem.W.codeIn K cd2 "write_head" = true) (k2 : PySem.W.keepIn K (.ref f2) = true)
    {f3 : Addr} {od3 an3 : Option Addr} {sl3 : Array (Option Value)} {oc3 kV3 dc3 pm3 cd3 ct3 : Value}
    (a3 : PySem.W.nsIn K mainGlobals "read_term" = some (some (.ref f3)))
    (l3 : K.lookup f3 = some ⟨oc3, od3, .func (PySem.W.fnOf "read_term" "read_term" (defArgs s_read_term) (defBody s_read_term) (defScope s_read_term) .none kV3 dc3 pm3 an3 cd3 ct3), sl3⟩) (c3 : PySem.W.codeIn K cd3 "read_term" = true) (k3 : PySem.W.keepIn K (.ref f3) = true)
    {f4 : Addr} {od4 an4 : Option Addr} {sl4 : Array (Option Value)} {oc4 kV4 dc4 pm4 cd4 ct4 : Value}
    (a4 : PySem.W.nsIn K mainGlobals "words" = some (some (.ref f4)))
    (l4 : K.lookup f4 = some ⟨oc4, od4, .func (PySem.W.fnOf "words" "words" (defArgs s_words) (defBody s_words) (defScope s_words) .none kV4 dc4 pm4 an4 cd4 ct4), sl4⟩) (c4 : PySem.W.codeIn K cd4 "words" = true) (k4 : PySem.W.keepIn K (.ref f4) = true)
    {f5 : Addr} {od5 an5 : Option Addr} {sl5 : Array (Option Value)} {oc5 kV5 dc5 pm5 cd5 ct5 : Value}
    (a5 : PySem.W.nsIn K mainGlobals "joined" = some (some (.ref f5)))
    (l5 : K.lookup f5 = some ⟨oc5, od5, .func (PySem.W.fnOf "joined" "joined" (defArgs s_joined) (defBody s_joined) (defScope s_joined) .none kV5 dc5 pm5 an5 cd5 ct5), sl5⟩) (c5 : PySem.W.codeIn K cd5 "joined" = true) (k5 : PySem.W.keepIn K (.ref f5) = true)
    {f6 : Addr} {od6 an6 : Option Addr} {sl6 : Array (Option Value)} {oc6 kV6 dc6 pm6 cd6 ct6 : Value}
    (a6 : PySem.W.nsIn K mainGlobals "read_head" = some (some (.ref f6)))
    (l6 : K.lookup f6 = some ⟨oc6, od6, .func (PySem.W.fnOf "read_head" "read_head" (defArgs s_read_head) (defBody s_read_head) (defScope s_read_head) .none kV6 dc6 pm6 an6 cd6 ct6), sl6⟩) (c6 : PySem.W.codeIn K cd6 "read_head" = true) (k6 : PySem.W.keepIn K (.ref f6) = true)
    {f7 : Addr} {od7 an7 : Option Addr} {sl7 : Array (Option Value)} {oc7 kV7 dc7 pm7 cd7 ct7 : Value}
    (a7 : PySem.W.nsIn K mainGlobals "is_name" = some (some (.ref f7)))
    (l7 : K.lookup f7 = some ⟨oc7, od7, .func (PySem.W.fnOf "is_name" "is_name" (defArgs s_is_name) (defBody s_is_name) (defScope s_is_name) .none kV7 dc7 pm7 an7 cd7 ct7), sl7⟩) (c7 : PySem.W.codeIn K cd7 "is_name" = true) (k7 : PySem.W.keepIn K (.ref f7) = true)
    {f8 : Addr} {od8 an8 : Option Addr} {sl8 : Array (Option Value)} {oc8 kV8 dc8 pm8 cd8 ct8 : Value}
    (a8 : PySem.W.nsIn K mainGlobals "is_number" = some (some (.ref f8)))
    (l8 : K.lookup f8 = some ⟨oc8, od8, .func (PySem.W.fnOf "is_number" "is_number" (defArgs s_is_number) (defBody s_is_number) (defScope s_is_number) .none kV8 dc8 pm8 an8 cd8 ct8), sl8⟩) (c8 : PySem.W.codeIn K cd8 "is_number" = true) (k8 : PySem.W.keepIn K (.ref f8) = true)
    {f9 : Addr} {od9 an9 : Option Addr} {sl9 : Array (Option Value)} {oc9 kV9 dc9 pm9 cd9 ct9 : Value}
    (a9 : PySem.W.nsIn K mainGlobals "consists_of" = some (some (.ref f9)))
    (l9 : K.lookup f9 = some ⟨oc9, od9, .func (PySem.W.fnOf "consists_of" "consists_of" (defArgs s_consists_of) (defBody s_consists_of) (defScope s_consists_of) .none kV9 dc9 pm9 an9 cd9 ct9), sl9⟩) (c9 : PySem.W.codeIn K cd9 "consists_of" = true) (k9 : PySem.W.keepIn K (.ref f9) = true)
    {f10 : Addr} {od10 an10 : Option Addr} {sl10 : Array (Option Value)} {oc10 kV10 dc10 pm10 cd10 ct10 : Value}
    (a10 : PySem.W.nsIn K mainGlobals "_law_pick" = some (some (.ref f10)))
    (l10 : K.lookup f10 = some ⟨oc10, od10, .func (PySem.W.fnOf "_law_pick" "_law_pick" (defArgs s_h_pick) (defBody s_h_pick) (defScope s_h_pick) .none kV10 dc10 pm10 an10 cd10 ct10), sl10⟩) (c10 : PySem.W.codeIn K cd10 "_law_pick" = true) (k10 : PySem.W.keepIn K (.ref f10) = true)
    {f11 : Addr} {od11 an11 : Option Addr} {sl11 : Array (Option Value)} {oc11 kV11 dc11 pm11 cd11 ct11 : Value}
    (a11 : PySem.W.nsIn K mainGlobals "_law_same" = some (some (.ref f11)))
    (l11 : K.lookup f11 = some ⟨oc11, od11, .func (PySem.W.fnOf "_law_same" "_law_same" (defArgs s_h_same) (defBody s_h_same) (defScope s_h_same) .none kV11 dc11 pm11 an11 cd11 ct11), sl11⟩) (c11 : PySem.W.codeIn K cd11 "_law_same" = true) (k11 : PySem.W.keepIn K (.ref f11) = true)
    {f12 : Addr} {od12 an12 : Option Addr} {sl12 : Array (Option Value)} {oc12 kV12 dc12 pm12 cd12 ct12 : Value}
    (a12 : PySem.W.nsIn K mainGlobals "_law_name" = some (some (.ref f12)))
    (l12 : K.lookup f12 = some ⟨oc12, od12, .func (PySem.W.fnOf "_law_name" "_law_name" (defArgs s_h_name) (defBody s_h_name) (defScope s_h_name) .none kV12 dc12 pm12 an12 cd12 ct12), sl12⟩) (c12 : PySem.W.codeIn K cd12 "_law_name" = true) (k12 : PySem.W.keepIn K (.ref f12) = true)
    {f13 : Addr} {od13 an13 : Option Addr} {sl13 : Array (Option Value)} {oc13 kV13 dc13 pm13 cd13 ct13 : Value}
    (a13 : PySem.W.nsIn K mainGlobals "_law_head" = some (some (.ref f13)))
    (l13 : K.lookup f13 = some ⟨oc13, od13, .func (PySem.W.fnOf "_law_head" "_law_head" (defArgs s_h_head) (defBody s_h_head) (defScope s_h_head) .none kV13 dc13 pm13 an13 cd13 ct13), sl13⟩) (c13 : PySem.W.codeIn K cd13 "_law_head" = true) (k13 : PySem.W.keepIn K (.ref f13) = true)
    {f14 : Addr} {od14 an14 : Option Addr} {sl14 : Array (Option Value)} {oc14 kV14 dc14 pm14 cd14 ct14 : Value}
    (a14 : PySem.W.nsIn K mainGlobals "_law_pool" = some (some (.ref f14)))
    (l14 : K.lookup f14 = some ⟨oc14, od14, .func (PySem.W.fnOf "_law_pool" "_law_pool" (defArgs s_h_pool) (defBody s_h_pool) (defScope s_h_pool) .none kV14 dc14 pm14 an14 cd14 ct14), sl14⟩) (c14 : PySem.W.codeIn K cd14 "_law_pool" = true) (k14 : PySem.W.keepIn K (.ref f14) = true)
    {f15 : Addr} {od15 an15 : Option Addr} {sl15 : Array (Option Value)} {oc15 kV15 dc15 pm15 cd15 ct15 : Value}
    (a15 : PySem.W.nsIn K mainGlobals "_law_any" = some (some (.ref f15)))
    (l15 : K.lookup f15 = some ⟨oc15, od15, .func (PySem.W.fnOf "_law_any" "_law_any" (defArgs s_h_any) (defBody s_h_any) (defScope s_h_any) .none kV15 dc15 pm15 an15 cd15 ct15), sl15⟩) (c15 : PySem.W.codeIn K cd15 "_law_any" = true) (k15 : PySem.W.keepIn K (.ref f15) = true)
    {f16 : Addr} {od16 an16 : Option Addr} {sl16 : Array (Option Value)} {oc16 kV16 dc16 pm16 cd16 ct16 : Value}
    (a16 : PySem.W.nsIn K mainGlobals "_law_deep" = some (some (.ref f16)))
    (l16 : K.lookup f16 = some ⟨oc16, od16, .func (PySem.W.fnOf "_law_deep" "_law_deep" (defArgs s_h_deep) (defBody s_h_deep) (defScope s_h_deep) .none kV16 dc16 pm16 an16 cd16 ct16), sl16⟩) (c16 : PySem.W.codeIn K cd16 "_law_deep" = true) (k16 : PySem.W.keepIn K (.ref f16) = true)
    {f17 : Addr} {od17 an17 : Option Addr} {sl17 : Array (Option Value)} {oc17 kV17 dc17 pm17 cd17 ct17 : Value}
    (a17 : PySem.W.nsIn K mainGlobals "_law_term" = some (some (.ref f17)))
    (l17 : K.lookup f17 = some ⟨oc17, od17, .func (PySem.W.fnOf "_law_term" "_law_term" (defArgs s_h_term) (defBody s_h_term) (defScope s_h_term) .none kV17 dc17 pm17 an17 cd17 ct17), sl17⟩) (c17 : PySem.W.codeIn K cd17 "_law_term" = true) (k17 : PySem.W.keepIn K (.ref f17) = true)
    {f18 : Addr} {od18 an18 : Option Addr} {sl18 : Array (Option Value)} {oc18 kV18 dc18 pm18 cd18 ct18 : Value}
    (a18 : PySem.W.nsIn K mainGlobals "_law_written" = some (some (.ref f18)))
    (l18 : K.lookup f18 = some ⟨oc18, od18, .func (PySem.W.fnOf "_law_written" "_law_written" (defArgs s_h_written) (defBody s_h_written) (defScope s_h_written) .none kV18 dc18 pm18 an18 cd18 ct18), sl18⟩) (c18 : PySem.W.codeIn K cd18 "_law_written" = true) (k18 : PySem.W.keepIn K (.ref f18) = true)
    {f19 : Addr} {od19 an19 : Option Addr} {sl19 : Array (Option Value)} {oc19 kV19 dc19 pm19 cd19 ct19 : Value}
    (a19 : PySem.W.nsIn K mainGlobals "_law_is_name" = some (some (.ref f19)))
    (l19 : K.lookup f19 = some ⟨oc19, od19, .func (PySem.W.fnOf "_law_is_name" "_law_is_name" (defArgs s_h_is_name) (defBody s_h_is_name) (defScope s_h_is_name) .none kV19 dc19 pm19 an19 cd19 ct19), sl19⟩) (c19 : PySem.W.codeIn K cd19 "_law_is_name" = true) (k19 : PySem.W.keepIn K (.ref f19) = true)
    {f20 : Addr} {od20 an20 : Option Addr} {sl20 : Array (Option Value)} {oc20 kV20 dc20 pm20 cd20 ct20 : Value}
    (a20 : PySem.W.nsIn K mainGlobals "_law_is_head" = some (some (.ref f20)))
    (l20 : K.lookup f20 = some ⟨oc20, od20, .func (PySem.W.fnOf "_law_is_head" "_law_is_head" (defArgs s_h_is_head) (defBody s_h_is_head) (defScope s_h_is_head) .none kV20 dc20 pm20 an20 cd20 ct20), sl20⟩) (c20 : PySem.W.codeIn K cd20 "_law_is_head" = true) (k20 : PySem.W.keepIn K (.ref f20) = true)
    {f21 : Addr} {od21 an21 : Option Addr} {sl21 : Array (Option Value)} {oc21 kV21 dc21 pm21 cd21 ct21 : Value}
    (a21 : PySem.W.nsIn K mainGlobals "_law_pieces" = some (some (.ref f21)))
    (l21 : K.lookup f21 = some ⟨oc21, od21, .func (PySem.W.fnOf "_law_pieces" "_law_pieces" (defArgs s_h_pieces) (defBody s_h_pieces) (defScope s_h_pieces) .none kV21 dc21 pm21 an21 cd21 ct21), sl21⟩) (c21 : PySem.W.codeIn K cd21 "_law_pieces" = true) (k21 : PySem.W.keepIn K (.ref f21) = true)
    {f22 : Addr} {od22 an22 : Option Addr} {sl22 : Array (Option Value)} {oc22 kV22 dc22 pm22 cd22 ct22 : Value}
    (a22 : PySem.W.nsIn K mainGlobals "_law_is_term" = some (some (.ref f22)))
    (l22 : K.lookup f22 = some ⟨oc22, od22, .func (PySem.W.fnOf "_law_is_term" "_law_is_term" (defArgs s_h_is_term) (defBody s_h_is_term) (defScope s_h_is_term) .none kV22 dc22 pm22 an22 cd22 ct22), sl22⟩) (c22 : PySem.W.codeIn K cd22 "_law_is_term" = true) (k22 : PySem.W.keepIn K (.ref f22) = true)
    {f23 : Addr} {od23 an23 : Option Addr} {sl23 : Array (Option Value)} {oc23 kV23 dc23 pm23 cd23 ct23 : Value}
    (a23 : PySem.W.nsIn K mainGlobals "_law_spoiled" = some (some (.ref f23)))
    (l23 : K.lookup f23 = some ⟨oc23, od23, .func (PySem.W.fnOf "_law_spoiled" "_law_spoiled" (defArgs s_h_spoiled) (defBody s_h_spoiled) (defScope s_h_spoiled) .none kV23 dc23 pm23 an23 cd23 ct23), sl23⟩) (c23 : PySem.W.codeIn K cd23 "_law_spoiled" = true) (k23 : PySem.W.keepIn K (.ref f23) = true)
    {f24 : Addr} {od24 an24 : Option Addr} {sl24 : Array (Option Value)} {oc24 kV24 dc24 pm24 cd24 ct24 : Value}
    (a24 : PySem.W.nsIn K mainGlobals "_law_told" = some (some (.ref f24)))
    (l24 : K.lookup f24 = some ⟨oc24, od24, .func (PySem.W.fnOf "_law_told" "_law_told" (defArgs s_h_told) (defBody s_h_told) (defScope s_h_told) .none kV24 dc24 pm24 an24 cd24 ct24), sl24⟩) (c24 : PySem.W.codeIn K cd24 "_law_told" = true) (k24 : PySem.W.keepIn K (.ref f24) = true)
    {f25 : Addr} {od25 an25 : Option Addr} {sl25 : Array (Option Value)} {oc25 kV25 dc25 pm25 cd25 ct25 : Value}
    (a25 : PySem.W.nsIn K mainGlobals "law" = some (some (.ref f25)))
    (l25 : K.lookup f25 = some ⟨oc25, od25, .func (PySem.W.fnOf "law" "law" (defArgs s_law) (defBody s_law) (defScope s_law) .none kV25 dc25 pm25 an25 cd25 ct25), sl25⟩) (c25 : PySem.W.codeIn K cd25 "law" = true) (k25 : PySem.W.keepIn K (.ref f25) = true)
    {t_LETTERS : PySem.Tok} (q_LETTERS : PySem.W.nsIn K mainGlobals "LETTERS" = some (some (.str "abcdefghijklmnopqrstuvwxyzABCDEFGHIJKLMNOPQRSTUVWXYZ" t_LETTERS)))
    {t_DIGITS : PySem.Tok} (q_DIGITS : PySem.W.nsIn K mainGlobals "DIGITS" = some (some (.str "0123456789" t_DIGITS)))
    (z_isinstance : PySem.W.nsIn K mainGlobals "isinstance" = some none)
    (z_str : PySem.W.nsIn K mainGlobals "str" = some none)
    (z_reversed : PySem.W.nsIn K mainGlobals "reversed" = some none)
    (z_int : PySem.W.nsIn K mainGlobals "int" = some none)
    (z_tuple : PySem.W.nsIn K mainGlobals "tuple" = some none)
    (z_len : PySem.W.nsIn K mainGlobals "len" = some none)
    (z_all : PySem.W.nsIn K mainGlobals "all" = some none)
    (z_abs : PySem.W.nsIn K mainGlobals "abs" = some none)
    (z_range : PySem.W.nsIn K mainGlobals "range" = some none)
    (z_bool : PySem.W.nsIn K mainGlobals "bool" = some none)
    (z_ValueError : PySem.W.nsIn K mainGlobals "ValueError" = some none)
    : ∃ fd : FuncData, (∀ (s : Shared) (v : Value), BindsTo s fd ⟨[v], []⟩ [("script", v)]) ∧ ∀ base : Heap, K.In base → base.Ns mainGlobals mg → FnOk l.prog w K mg base (L2.CX l.prog w) 99 fa fd ["script"] (spScr K) := by
  have e := hfa.symm.trans (PySem.W.mg_of X G a25)
  cases e
  have F0 := fun_mk (st := s_applied) l0 c0 k0
  have b0 := F0.binds (ps := ["term", "arguments"]) fun _ _ _ _ _ _ us hl => match us, hl with | [_, _], _ => rfl
  have F1 := fun_mk (st := s_write_term) l1 c1 k1
  have b1 := F1.binds (ps := ["term"]) fun _ _ _ _ _ _ us hl => match us, hl with | [_], _ => rfl
  have F2 := fun_mk (st := s_write_head) l2 c2 k2
  have b2 := F2.binds (ps := ["head"]) fun _ _ _ _ _ _ us hl => match us, hl with | [_], _ => rfl
  have F3 := fun_mk (st := s_read_term) l3 c3 k3
  have b3 := F3.binds (ps := ["text"]) fun _ _ _ _ _ _ us hl => match us, hl with | [_], _ => rfl
  have F4 := fun_mk (st := s_words) l4 c4 k4
  have b4 := F4.binds (ps := ["text"]) fun _ _ _ _ _ _ us hl => match us, hl with | [_], _ => rfl
  have F5 := fun_mk (st := s_joined) l5 c5 k5
  have b5 := F5.binds (ps := ["items"]) fun _ _ _ _ _ _ us hl => match us, hl with | [_], _ => rfl
  have F6 := fun_mk (st := s_read_head) l6 c6 k6
  have b6 := F6.binds (ps := ["word"]) fun _ _ _ _ _ _ us hl => match us, hl with | [_], _ => rfl
  have F7 := fun_mk (st := s_is_name) l7 c7 k7
  have b7 := F7.binds (ps := ["word"]) fun _ _ _ _ _ _ us hl => match us, hl with | [_], _ => rfl
  have F8 := fun_mk (st := s_is_number) l8 c8 k8
  have b8 := F8.binds (ps := ["word"]) fun _ _ _ _ _ _ us hl => match us, hl with | [_], _ => rfl
  have F9 := fun_mk (st := s_consists_of) l9 c9 k9
  have b9 := F9.binds (ps := ["word", "characters"]) fun _ _ _ _ _ _ us hl => match us, hl with | [_, _], _ => rfl
  have F10 := fun_mk (st := s_h_pick) l10 c10 k10
  have b10 := F10.binds (ps := ["state", "script", "many"]) fun _ _ _ _ _ _ us hl => match us, hl with | [_, _, _], _ => rfl
  have F11 := fun_mk (st := s_h_same) l11 c11 k11
  have b11 := F11.binds (ps := ["actual", "due"]) fun _ _ _ _ _ _ us hl => match us, hl with | [_, _], _ => rfl
  have F12 := fun_mk (st := s_h_name) l12 c12 k12
  have b12 := F12.binds (ps := ["state", "script", "large"]) fun _ _ _ _ _ _ us hl => match us, hl with | [_, _, _], _ => rfl
  have F13 := fun_mk (st := s_h_head) l13 c13 k13
  have b13 := F13.binds (ps := ["state", "script", "pool"]) fun _ _ _ _ _ _ us hl => match us, hl with | [_, _, _], _ => rfl
  have F14 := fun_mk (st := s_h_pool) l14 c14 k14
  have b14 := F14.binds (ps := ["state", "script"]) fun _ _ _ _ _ _ us hl => match us, hl with | [_, _], _ => rfl
  have F15 := fun_mk (st := s_h_any) l15 c15 k15
  have b15 := F15.binds (ps := ["state", "script", "pool", "depth"]) fun _ _ _ _ _ _ us hl => match us, hl with | [_, _, _, _], _ => rfl
  have F16 := fun_mk (st := s_h_deep) l16 c16 k16
  have b16 := F16.binds (ps := ["state", "script", "pool", "many"]) fun _ _ _ _ _ _ us hl => match us, hl with | [_, _, _, _], _ => rfl
  have F17 := fun_mk (st := s_h_term) l17 c17 k17
  have b17 := F17.binds (ps := ["state", "script", "pool", "most"]) fun _ _ _ _ _ _ us hl => match us, hl with | [_, _, _, _], _ => rfl
  have F18 := fun_mk (st := s_h_written) l18 c18 k18
  have b18 := F18.binds (ps := ["term"]) fun _ _ _ _ _ _ us hl => match us, hl with | [_], _ => rfl
  have F19 := fun_mk (st := s_h_is_name) l19 c19 k19
  have b19 := F19.binds (ps := ["word"]) fun _ _ _ _ _ _ us hl => match us, hl with | [_], _ => rfl
  have F20 := fun_mk (st := s_h_is_head) l20 c20 k20
  have b20 := F20.binds (ps := ["word"]) fun _ _ _ _ _ _ us hl => match us, hl with | [_], _ => rfl
  have F21 := fun_mk (st := s_h_pieces) l21 c21 k21
  have b21 := F21.binds (ps := ["text"]) fun _ _ _ _ _ _ us hl => match us, hl with | [_], _ => rfl
  have F22 := fun_mk (st := s_h_is_term) l22 c22 k22
  have b22 := F22.binds (ps := ["text"]) fun _ _ _ _ _ _ us hl => match us, hl with | [_], _ => rfl
  have F23 := fun_mk (st := s_h_spoiled) l23 c23 k23
  have b23 := F23.binds (ps := ["state", "script", "text"]) fun _ _ _ _ _ _ us hl => match us, hl with | [_, _, _], _ => rfl
  have F24 := fun_mk (st := s_h_told) l24 c24 k24
  have b24 := F24.binds (ps := ["text"]) fun _ _ _ _ _ _ us hl => match us, hl with | [_], _ => rfl
  have F25 := fun_mk (st := s_law) l25 c25 k25
  have b25 := F25.binds (ps := ["script"]) fun _ _ _ _ _ _ us hl => match us, hl with | [_], _ => rfl
  refine ⟨PySem.W.fnOf "law" "law" (defArgs s_law) (defBody s_law) (defScope s_law) .none kV25 dc25 pm25 an25 cd25 ct25, fun s v => .of_eq rfl, fun base _ _ => ?_⟩
  let T : Txt l.prog w K mg base := { c_DriveFoldError := C_DriveFoldError, x_DriveFoldError := xE_DriveFoldError, g_DriveFoldError := PySem.W.mg_of X G a_DriveFoldError, k_DriveFoldError := kC_DriveFoldError, b_DriveFoldError := bC_DriveFoldError, t_DriveFoldError := tC_DriveFoldError, c_BadTerm := C_BadTerm, x_BadTerm := xE_BadTerm, g_BadTerm := PySem.W.mg_of X G a_BadTerm, k_BadTerm := kC_BadTerm, b_BadTerm := bC_BadTerm, t_BadTerm := tC_BadTerm, o_BadJournal := C_BadJournal, og_BadJournal := PySem.W.mg_of X G a_BadJournal, o_BadPaper := C_BadPaper, og_BadPaper := PySem.W.mg_of X G a_BadPaper, o_BadProgram := C_BadProgram, og_BadProgram := PySem.W.mg_of X G a_BadProgram, o_Refused := C_Refused, og_Refused := PySem.W.mg_of X G a_Refused, o_TooLarge := C_TooLarge, og_TooLarge := PySem.W.mg_of X G a_TooLarge, o_WrongPaper := C_WrongPaper, og_WrongPaper := PySem.W.mg_of X G a_WrongPaper, tx_BadTerm := exm_at bC_DriveFoldError iB_BadTerm tC_DriveFoldError sB_BadTerm, te_BadTerm := ⟨eX_BadTerm, eG_BadTerm, eH_BadTerm, eS_BadTerm, eK_BadTerm, eN_BadTerm, eT_BadTerm, eM_BadTerm⟩, tv_BadTerm := tv_BadTerm, ta_BadTerm := ta_BadTerm, f_applied := f0, fd_applied := _, d_applied := ⟨F0, b0, PySem.W.mg_of X G a0⟩, f_write_term := f1, fd_write_term := _, d_write_term := ⟨F1, b1, PySem.W.mg_of X G a1⟩, f_write_head := f2, fd_write_head := _, d_write_head := ⟨F2, b2, PySem.W.mg_of X G a2⟩, f_read_term := f3, fd_read_term := _, d_read_term := ⟨F3, b3, PySem.W.mg_of X G a3⟩, f_words := f4, fd_words := _, d_words := ⟨F4, b4, PySem.W.mg_of X G a4⟩, f_joined := f5, fd_joined := _, d_joined := ⟨F5, b5, PySem.W.mg_of X G a5⟩, f_read_head := f6, fd_read_head := _, d_read_head := ⟨F6, b6, PySem.W.mg_of X G a6⟩, f_is_name := f7, fd_is_name := _, d_is_name := ⟨F7, b7, PySem.W.mg_of X G a7⟩, f_is_number := f8, fd_is_number := _, d_is_number := ⟨F8, b8, PySem.W.mg_of X G a8⟩, f_consists_of := f9, fd_consists_of := _, d_consists_of := ⟨F9, b9, PySem.W.mg_of X G a9⟩, f_h_pick := f10, fd_h_pick := _, d_h_pick := ⟨F10, b10, PySem.W.mg_of X G a10⟩, f_h_same := f11, fd_h_same := _, d_h_same := ⟨F11, b11, PySem.W.mg_of X G a11⟩, f_h_name := f12, fd_h_name := _, d_h_name := ⟨F12, b12, PySem.W.mg_of X G a12⟩, f_h_head := f13, fd_h_head := _, d_h_head := ⟨F13, b13, PySem.W.mg_of X G a13⟩, f_h_pool := f14, fd_h_pool := _, d_h_pool := ⟨F14, b14, PySem.W.mg_of X G a14⟩, f_h_any := f15, fd_h_any := _, d_h_any := ⟨F15, b15, PySem.W.mg_of X G a15⟩, f_h_deep := f16, fd_h_deep := _, d_h_deep := ⟨F16, b16, PySem.W.mg_of X G a16⟩, f_h_term := f17, fd_h_term := _, d_h_term := ⟨F17, b17, PySem.W.mg_of X G a17⟩, f_h_written := f18, fd_h_written := _, d_h_written := ⟨F18, b18, PySem.W.mg_of X G a18⟩, f_h_is_name := f19, fd_h_is_name := _, d_h_is_name := ⟨F19, b19, PySem.W.mg_of X G a19⟩, f_h_is_head := f20, fd_h_is_head := _, d_h_is_head := ⟨F20, b20, PySem.W.mg_of X G a20⟩, f_h_pieces := f21, fd_h_pieces := _, d_h_pieces := ⟨F21, b21, PySem.W.mg_of X G a21⟩, f_h_is_term := f22, fd_h_is_term := _, d_h_is_term := ⟨F22, b22, PySem.W.mg_of X G a22⟩, f_h_spoiled := f23, fd_h_spoiled := _, d_h_spoiled := ⟨F23, b23, PySem.W.mg_of X G a23⟩, f_h_told := f24, fd_h_told := _, d_h_told := ⟨F24, b24, PySem.W.mg_of X G a24⟩, f_law := fa, fd_law := _, d_law := ⟨F25, b25, PySem.W.mg_of X G a25⟩, c_LETTERS := ⟨_, PySem.W.mg_of X G q_LETTERS⟩, c_DIGITS := ⟨_, PySem.W.mg_of X G q_DIGITS⟩, z_isinstance := PySem.W.mg_none_of X G z_isinstance, z_str := PySem.W.mg_none_of X G z_str, z_reversed := PySem.W.mg_none_of X G z_reversed, z_int := PySem.W.mg_none_of X G z_int, z_tuple := PySem.W.mg_none_of X G z_tuple, z_len := PySem.W.mg_none_of X G z_len, z_all := PySem.W.mg_none_of X G z_all, z_abs := PySem.W.mg_none_of X G z_abs, z_range := PySem.W.mg_none_of X G z_range, z_bool := PySem.W.mg_none_of X G z_bool, z_ValueError := PySem.W.mg_none_of X G z_ValueError }
  exact ((ok_law T 260).ok (by decide) (by decide)).imp (spScr_of (Z := ZT T) law_at)
end DM
open PySem PySem.W PyProof.Rows in
set_option maxRecDepth 100000 in
set_option maxHeartbeats 0 in
theorem PySem.Challenge.cw_drivefold_k04_texts_that_are_no_terms_holds : PySem.Challenge.rw_drivefold_k04_texts_that_are_no_terms.Holds := by
  w_on; o_law; k_head; (case hw => w_witness2)
  k_fill
  refine L2.walk_of (l := PySem.Challenge.rw_drivefold_k04_texts_that_are_no_terms) (n := 63) (k := 99) (x := "script") (CX := fun w => L2.CX (PySem.Challenge.rw_drivefold_k04_texts_that_are_no_terms).prog w) (sp := fun w => MD.spScr _) rfl (by decide) rfl ⟨rfl, by decide, by decide⟩ (fun w h Y => PySem.W.kIn_of Y) ?F (fun _ H a ns hl hO hS => ⟨a, ns, rfl, MD.scr_of hO hS, hl, fun _ => rfl⟩) (fun _ _ _ _ _ h => MD.law_cx h)
  case F =>
    intro w mg fa h KX G hmg
    refine' DM.all_mk KX G hmg ?a_DriveFoldError ?xE_DriveFoldError ?kC_DriveFoldError ?bC_DriveFoldError ?tC_DriveFoldError ?a_BadTerm ?xE_BadTerm ?kC_BadTerm ?bC_BadTerm ?tC_BadTerm ?a_BadJournal ?a_BadPaper ?a_BadProgram ?a_Refused ?a_TooLarge ?a_WrongPaper ?iB_BadTerm ?sB_BadTerm ?eX_BadTerm ?eG_BadTerm ?eH_BadTerm ?eS_BadTerm ?eK_BadTerm ?eN_BadTerm ?eT_BadTerm ?eM_BadTerm ?tv_BadTerm ?ta_BadTerm ?a0 ?l0 ?c0 ?k0 ?a1 ?l1 ?c1 ?k1 ?a2 ?l2 ?c2 ?k2 ?a3 ?l3 ?c3 ?k3 ?a4 ?l4 ?c4 ?k4 ?a5 ?l5 ?c5 ?k5 ?a6 ?l6 ?c6 ?k6 ?a7 ?l7 ?c7 ?k7 ?a8 ?l8 ?c8 ?k8 ?a9 ?l9 ?c9 ?k9 ?a10 ?l10 ?c10 ?k10 ?a11 ?l11 ?c11 ?k11 ?a12 ?l12 ?c12 ?k12 ?a13 ?l13 ?c13 ?k13 ?a14 ?l14 ?c14 ?k14 ?a15 ?l15 ?c15 ?k15 ?a16 ?l16 ?c16 ?k16 ?a17 ?l17 ?c17 ?k17 ?a18 ?l18 ?c18 ?k18 ?a19 ?l19 ?c19 ?k19 ?a20 ?l20 ?c20 ?k20 ?a21 ?l21 ?c21 ?k21 ?a22 ?l22 ?c22 ?k22 ?a23 ?l23 ?c23 ?k23 ?a24 ?l24 ?c24 ?k24 ?a25 ?l25 ?c25 ?k25 ?q_LETTERS ?q_DIGITS ?z_isinstance ?z_str ?z_reversed ?z_int ?z_tuple ?z_len ?z_all ?z_abs ?z_range ?z_bool ?z_ValueError
    (case a_DriveFoldError => k_is)
    (case xE_DriveFoldError => k_exc)
    (case kC_DriveFoldError => k_is)
    (case bC_DriveFoldError => k_is)
    (case tC_DriveFoldError => k_is)
    (case a_BadTerm => k_is)
    (case xE_BadTerm => k_exc)
    (case kC_BadTerm => k_is)
    (case bC_BadTerm => k_is)
    (case tC_BadTerm => k_is)
    (case a_BadJournal => k_is)
    (case a_BadPaper => k_is)
    (case a_BadProgram => k_is)
    (case a_Refused => k_is)
    (case a_TooLarge => k_is)
    (case a_WrongPaper => k_is)
    (case iB_BadTerm => k_is)
    (case sB_BadTerm => k_is)
    (case eX_BadTerm => k_is)
    (case eG_BadTerm => k_is)
    (case eH_BadTerm => k_is)
    (case eS_BadTerm => k_is)
    (case eK_BadTerm => k_is)
    (case eN_BadTerm => k_is)
    (case eT_BadTerm => k_is)
    (case eM_BadTerm => k_is)
    (case tv_BadTerm => first | kit_is | k_is | rfl)
    (case ta_BadTerm => first | kit_is | k_is | rfl)
    (case a0 => k_is)
    (case l0 => k_is)
    (case c0 => k_is)
    (case k0 => k_is)
    (case a1 => k_is)
    (case l1 => k_is)
    (case c1 => k_is)
    (case k1 => k_is)
    (case a2 => k_is)
    (case l2 => k_is)
    (case c2 => k_is)
    (case k2 => k_is)
    (case a3 => k_is)
    (case l3 => k_is)
    (case c3 => k_is)
    (case k3 => k_is)
    (case a4 => k_is)
    (case l4 => k_is)
    (case c4 => k_is)
    (case k4 => k_is)
    (case a5 => k_is)
    (case l5 => k_is)
    (case c5 => k_is)
    (case k5 => k_is)
    (case a6 => k_is)
    (case l6 => k_is)
    (case c6 => k_is)
    (case k6 => k_is)
    (case a7 => k_is)
    (case l7 => k_is)
    (case c7 => k_is)
    (case k7 => k_is)
    (case a8 => k_is)
    (case l8 => k_is)
    (case c8 => k_is)
    (case k8 => k_is)
    (case a9 => k_is)
    (case l9 => k_is)
    (case c9 => k_is)
    (case k9 => k_is)
    (case a10 => k_is)
    (case l10 => k_is)
    (case c10 => k_is)
    (case k10 => k_is)
    (case a11 => k_is)
    (case l11 => k_is)
    (case c11 => k_is)
    (case k11 => k_is)
    (case a12 => k_is)
    (case l12 => k_is)
    (case c12 => k_is)
    (case k12 => k_is)
    (case a13 => k_is)
    (case l13 => k_is)
    (case c13 => k_is)
    (case k13 => k_is)
    (case a14 => k_is)
    (case l14 => k_is)
    (case c14 => k_is)
    (case k14 => k_is)
    (case a15 => k_is)
    (case l15 => k_is)
    (case c15 => k_is)
    (case k15 => k_is)
    (case a16 => k_is)
    (case l16 => k_is)
    (case c16 => k_is)
    (case k16 => k_is)
    (case a17 => k_is)
    (case l17 => k_is)
    (case c17 => k_is)
    (case k17 => k_is)
    (case a18 => k_is)
    (case l18 => k_is)
    (case c18 => k_is)
    (case k18 => k_is)
    (case a19 => k_is)
    (case l19 => k_is)
    (case c19 => k_is)
    (case k19 => k_is)
    (case a20 => k_is)
    (case l20 => k_is)
    (case c20 => k_is)
    (case k20 => k_is)
    (case a21 => k_is)
    (case l21 => k_is)
    (case c21 => k_is)
    (case k21 => k_is)
    (case a22 => k_is)
    (case l22 => k_is)
    (case c22 => k_is)
    (case k22 => k_is)
    (case a23 => k_is)
    (case l23 => k_is)
    (case c23 => k_is)
    (case k23 => k_is)
    (case a24 => k_is)
    (case l24 => k_is)
    (case c24 => k_is)
    (case k24 => k_is)
    (case a25 => k_is)
    (case l25 => k_is)
    (case c25 => k_is)
    (case k25 => k_is)
    (case q_LETTERS => k_is)
    (case q_DIGITS => k_is)
    (case z_isinstance => k_is)
    (case z_str => k_is)
    (case z_reversed => k_is)
    (case z_int => k_is)
    (case z_tuple => k_is)
    (case z_len => k_is)
    (case z_all => k_is)
    (case z_abs => k_is)
    (case z_range => k_is)
    (case z_bool => k_is)
    (case z_ValueError => k_is)
