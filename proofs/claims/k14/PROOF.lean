import PyProof.Rows.All
import Wide.All
import OpenK.AllK
import Wide.FinOn
import HandS.ForMost
import HandS.IsInst
import KE.KRevSl
import KE.KDictSum
import HandS.Codes
import HandS.Conv
import HandS.DictComp
import HandS.TupAny
import HandS.Flow
import HandS.Rev
import HandS.SortInts
import HandS.Zip
import HandS.ListItems
import HandS.SetKeys
import KE.KItemsList
import KE.KDictZip
import KE.GoesEnum
import PySem.Challenge.RW_drivefold_k14_demands
set_option Elab.async false
set_option linter.all false
set_option maxRecDepth 100000
set_option maxHeartbeats 4000000
namespace DF
open PySem L2
/-! ### data: None, ints, texts, tuples of such -/
inductive Dt where
  | non
  | key (k : Key)
  | tup (l : List Dt)
mutual
inductive DAt (K : PySem.W.Frag) (H : Hp) : V → Dt → Prop
  | non : DAt K H .non .non
  | key {k : Key} : DAt K H (kV k) (.key k)
  | tup {a : Addr} {vs : List V} {ds : List Dt} : SqT K H a vs → DsAt K H vs ds → vs.length ≤ 1000000 → DAt K H (.ref a) (.tup ds)
inductive DsAt (K : PySem.W.Frag) (H : Hp) : List V → List Dt → Prop
  | nil : DsAt K H [] []
  | cons {v : V} {d : Dt} {vs : List V} {ds : List Dt} : DAt K H v d → DsAt K H vs ds → DsAt K H (v :: vs) (d :: ds)
end
/-- tuples stay -/
def TStay (K : PySem.W.Frag) (H H' : Hp) : Prop := ∀ a xs, SqT K H a xs → SqT K H' a xs
mutual
theorem DAt.mono {K : PySem.W.Frag} {H H' : Hp} (st : TStay K H H') : ∀ {v : V} {d : Dt}, DAt K H v d → DAt K H' v d
  | _, _, .non => .non
  | _, _, .key => .key
  | _, _, .tup h t z => .tup (st _ _ h) (DsAt.mono st t) z
theorem DsAt.mono {K : PySem.W.Frag} {H H' : Hp} (st : TStay K H H') : ∀ {vs : List V} {ds : List Dt}, DsAt K H vs ds → DsAt K H' vs ds
  | _, _, .nil => .nil
  | _, _, .cons h t => .cons (DAt.mono st h) (DsAt.mono st t)
end
theorem DAt.tup_inv {K : PySem.W.Frag} {H : Hp} {v : V} {ds : List Dt} (h : DAt K H v (.tup ds)) : ∃ a vs, v = .ref a ∧ SqT K H a vs ∧ DsAt K H vs ds ∧ vs.length ≤ 1000000 := by
  cases h with
  | tup h t z => exact ⟨_, _, rfl, h, t, z⟩
theorem DAt.key_inv {K : PySem.W.Frag} {H : Hp} {v : V} {k : Key} (h : DAt K H v (.key k)) : v = kV k := by
  cases h with
  | key => rfl
theorem DsAt.length {K : PySem.W.Frag} {H : Hp} : ∀ {vs : List V} {ds : List Dt}, DsAt K H vs ds → vs.length = ds.length
  | _, _, .nil => rfl
  | _, _, .cons _ t => by rw [List.length_cons, List.length_cons, DsAt.length t]
theorem DsAt.get {K : PySem.W.Frag} {H : Hp} : ∀ {vs : List V} {ds : List Dt} {i : Nat} {d : Dt}, DsAt K H vs ds → ds[i]? = some d → ∃ v, vs[i]? = some v ∧ DAt K H v d
  | _, _, _, _, .nil, e => by simp at e
  | _, _, 0, _, .cons h _, e => by
    have e := Option.some.inj e
    subst e
    exact ⟨_, rfl, h⟩
  | _, _, i + 1, _, .cons _ t, e => DsAt.get (i := i) t e
theorem DsAt.get' {K : PySem.W.Frag} {H : Hp} : ∀ {vs : List V} {ds : List Dt} {i : Nat} {v : V}, DsAt K H vs ds → vs[i]? = some v → ∃ d, ds[i]? = some d ∧ DAt K H v d
  | _, _, _, _, .nil, e => by simp at e
  | _, _, 0, _, .cons h _, e => by
    have e := Option.some.inj e
    subst e
    exact ⟨_, rfl, h⟩
  | _, _, i + 1, _, .cons _ t, e => DsAt.get' (i := i) t e
theorem DsAt.append {K : PySem.W.Frag} {H : Hp} : ∀ {vs ws : List V} {ds es : List Dt}, DsAt K H vs ds → DsAt K H ws es → DsAt K H (vs ++ ws) (ds ++ es)
  | _, _, _, _, .nil, h => h
  | _, _, _, _, .cons a t, h => .cons a (DsAt.append t h)
theorem DsAt.take {K : PySem.W.Frag} {H : Hp} : ∀ {vs : List V} {ds : List Dt}, DsAt K H vs ds → ∀ n : Nat, DsAt K H (vs.take n) (ds.take n)
  | _, _, _, 0 => .nil
  | _, _, .nil, _ + 1 => .nil
  | _, _, .cons a t, n + 1 => .cons a (DsAt.take t n)
theorem DsAt.drop {K : PySem.W.Frag} {H : Hp} : ∀ {vs : List V} {ds : List Dt}, DsAt K H vs ds → ∀ n : Nat, DsAt K H (vs.drop n) (ds.drop n)
  | _, _, h, 0 => h
  | _, _, .nil, _ + 1 => .nil
  | _, _, .cons _ t, n + 1 => DsAt.drop t n
theorem DsAt.reverse {K : PySem.W.Frag} {H : Hp} : ∀ {vs : List V} {ds : List Dt}, DsAt K H vs ds → DsAt K H vs.reverse ds.reverse
  | _, _, .nil => .nil
  | _, _, .cons a t => by
    rw [List.reverse_cons, List.reverse_cons]
    exact DsAt.append (DsAt.reverse t) (.cons a .nil)
theorem DsAt.keys {K : PySem.W.Frag} {H : Hp} : ∀ (ks : List Key), DsAt K H (ks.map kV) (ks.map .key)
  | [] => .nil
  | _ :: r => .cons .key (DsAt.keys r)
theorem DsAt.keys_inv {K : PySem.W.Frag} {H : Hp} : ∀ {ks : List Key} {vs : List V}, DsAt K H vs (ks.map .key) → vs = ks.map kV
  | [], _, .nil => rfl
  | k :: r, _, .cons a t => by
    rw [a.key_inv, DsAt.keys_inv t]
    rfl
mutual
def Dt.deep : Dt → Nat
  | .non => 0
  | .key _ => 0
  | .tup l => Dt.deepL l + 1
def Dt.deepL : List Dt → Nat
  | [] => 0
  | d :: r => max d.deep (Dt.deepL r)
end
theorem Dt.deep_mem : ∀ {l : List Dt} {d : Dt}, d ∈ l → d.deep ≤ Dt.deepL l
  | x :: r, d, h => by
    rw [Dt.deepL]
    rcases List.mem_cons.mp h with rfl | h
    · exact Nat.le_max_left _ _
    · exact Nat.le_trans (Dt.deep_mem h) (Nat.le_max_right _ _)
/-! ### terms -/
inductive Tm where
  | mk (h : Key) (ts : List Tm)
mutual
def Tm.dat : Tm → Dt
  | .mk h ts => .tup [.key h, .tup (Tm.datL ts)]
def Tm.datL : List Tm → List Dt
  | [] => []
  | t :: r => t.dat :: Tm.datL r
end
mutual
def Tm.heads : Tm → List Key
  | .mk h ts => h :: Tm.headsL ts
def Tm.headsL : List Tm → List Key
  | [] => []
  | t :: r => t.heads ++ Tm.headsL r
end
mutual
def Tm.size : Tm → Nat
  | .mk _ ts => Tm.sizeL ts + 1
def Tm.sizeL : List Tm → Nat
  | [] => 0
  | t :: r => t.size + Tm.sizeL r
end
mutual
def Tm.high : Tm → Nat
  | .mk _ ts => Tm.highL ts + 1
def Tm.highL : List Tm → Nat
  | [] => 0
  | t :: r => max t.high (Tm.highL r)
end
mutual
def Tm.pre : Tm → List Tm
  | .mk h ts => .mk h ts :: Tm.preL ts
def Tm.preL : List Tm → List Tm
  | [] => []
  | t :: r => t.pre ++ Tm.preL r
end
def Tm.hd : Tm → Key
  | .mk h _ => h
def Tm.args : Tm → List Tm
  | .mk _ ts => ts
theorem Tm.datL_map : ∀ ts : List Tm, Tm.datL ts = ts.map Tm.dat
  | [] => rfl
  | t :: r => by rw [Tm.datL, Tm.datL_map r, List.map_cons]
theorem Tm.sizeL_append : ∀ a b : List Tm, Tm.sizeL (a ++ b) = Tm.sizeL a + Tm.sizeL b
  | [], b => by rw [List.nil_append, Tm.sizeL, Nat.zero_add]
  | t :: r, b => by rw [List.cons_append, Tm.sizeL, Tm.sizeL, Tm.sizeL_append r b, Nat.add_assoc]
theorem Tm.preL_append : ∀ a b : List Tm, Tm.preL (a ++ b) = Tm.preL a ++ Tm.preL b
  | [], b => by rw [List.nil_append, Tm.preL, List.nil_append]
  | t :: r, b => by rw [List.cons_append, Tm.preL, Tm.preL, Tm.preL_append r b, List.append_assoc]
theorem Tm.headsL_append : ∀ a b : List Tm, Tm.headsL (a ++ b) = Tm.headsL a ++ Tm.headsL b
  | [], b => by rw [List.nil_append, Tm.headsL, List.nil_append]
  | t :: r, b => by rw [List.cons_append, Tm.headsL, Tm.headsL, Tm.headsL_append r b, List.append_assoc]
mutual
theorem Tm.heads_length : ∀ t : Tm, t.heads.length = t.size
  | .mk h ts => by rw [Tm.heads, Tm.size, List.length_cons, Tm.headsL_length ts]
theorem Tm.headsL_length : ∀ ts : List Tm, (Tm.headsL ts).length = Tm.sizeL ts
  | [] => rfl
  | t :: r => by rw [Tm.headsL, Tm.sizeL, List.length_append, Tm.heads_length t, Tm.headsL_length r]
end
mutual
theorem Tm.pre_length : ∀ t : Tm, t.pre.length = t.size
  | .mk h ts => by rw [Tm.pre, Tm.size, List.length_cons, Tm.preL_length ts]
theorem Tm.preL_length : ∀ ts : List Tm, (Tm.preL ts).length = Tm.sizeL ts
  | [] => rfl
  | t :: r => by rw [Tm.preL, Tm.sizeL, List.length_append, Tm.pre_length t, Tm.preL_length r]
end
mutual
theorem Tm.pre_heads : ∀ t : Tm, t.pre.map Tm.hd = t.heads
  | .mk h ts => by rw [Tm.pre, Tm.heads, List.map_cons, Tm.preL_heads ts, Tm.hd]
theorem Tm.preL_heads : ∀ ts : List Tm, (Tm.preL ts).map Tm.hd = Tm.headsL ts
  | [] => rfl
  | t :: r => by rw [Tm.preL, Tm.headsL, List.map_append, Tm.pre_heads t, Tm.preL_heads r]
end
mutual
theorem Tm.high_size : ∀ t : Tm, t.high ≤ t.size
  | .mk h ts => by
    rw [Tm.high, Tm.size]
    exact Nat.succ_le_succ (Tm.highL_size ts)
theorem Tm.highL_size : ∀ ts : List Tm, Tm.highL ts ≤ Tm.sizeL ts
  | [] => Nat.le_refl _
  | t :: r => by
    rw [Tm.highL, Tm.sizeL]
    have h1 := Tm.high_size t
    have h2 := Tm.highL_size r
    omega
end
theorem Tm.size_pos (t : Tm) : 0 < t.size := by
  cases t with
  | mk h ts => rw [Tm.size]; exact Nat.succ_pos _
theorem Tm.high_mem : ∀ {ts : List Tm} {t : Tm}, t ∈ ts → t.high ≤ Tm.highL ts
  | x :: r, t, h => by
    rw [Tm.highL]
    rcases List.mem_cons.mp h with rfl | h
    · exact Nat.le_max_left _ _
    · exact Nat.le_trans (Tm.high_mem h) (Nat.le_max_right _ _)
theorem Tm.size_mem : ∀ {ts : List Tm} {t : Tm}, t ∈ ts → t.size ≤ Tm.sizeL ts
  | x :: r, t, h => by
    rw [Tm.sizeL]
    rcases List.mem_cons.mp h with rfl | h
    · exact Nat.le_add_right _ _
    · exact Nat.le_trans (Tm.size_mem h) (Nat.le_add_left _ _)
theorem Tm.len_sizeL : ∀ ts : List Tm, ts.length ≤ Tm.sizeL ts
  | [] => Nat.le_refl _
  | t :: r => by
    rw [Tm.sizeL, List.length_cons]
    have h1 := Tm.size_pos t
    have h2 := Tm.len_sizeL r
    omega
mutual
theorem Tm.dat_deep : ∀ t : Tm, t.dat.deep ≤ 2 * t.size
  | .mk h ts => by
    rw [Tm.dat, Dt.deep, Dt.deepL, Dt.deepL, Dt.deepL, Dt.deep, Dt.deep, Tm.size]
    have h1 := Tm.datL_deep ts
    omega
theorem Tm.datL_deep : ∀ ts : List Tm, Dt.deepL (Tm.datL ts) ≤ 2 * Tm.sizeL ts
  | [] => Nat.le_refl _
  | t :: r => by
    rw [Tm.datL, Dt.deepL, Tm.sizeL]
    have h1 := Tm.dat_deep t
    have h2 := Tm.datL_deep r
    omega
end
abbrev TAt (K : PySem.W.Frag) (H : Hp) (v : V) (t : Tm) : Prop := DAt K H v t.dat
theorem TAt.inv {K : PySem.W.Frag} {H : Hp} {v : V} {t : Tm} (h : TAt K H v t) : ∃ a b vs, v = .ref a ∧ SqT K H a [kV t.hd, .ref b] ∧ SqT K H b vs ∧ DsAt K H vs (t.args.map Tm.dat) ∧ vs.length ≤ 1000000 := by
  cases t with
  | mk k ts =>
    have h : DAt K H v (Tm.dat (.mk k ts)) := h
    rw [Tm.dat] at h
    obtain ⟨a, vs, rfl, s, q, _⟩ := h.tup_inv
    cases q with
    | cons q1 q =>
      cases q with
      | cons q2 q =>
        cases q
        obtain ⟨b, ws, rfl, s2, q3, z3⟩ := q2.tup_inv
        rw [q1.key_inv] at s
        rw [Tm.datL_map] at q3
        exact ⟨a, b, ws, rfl, s, s2, q3, z3⟩
theorem TAt.of {K : PySem.W.Frag} {H : Hp} {a b : Addr} {k : Key} {vs : List V} {ts : List Tm} (h : SqT K H a [kV k, .ref b]) (h2 : SqT K H b vs) (h3 : DsAt K H vs (ts.map Tm.dat)) (z : vs.length ≤ 1000000) : TAt K H (.ref a) (.mk k ts) := by
  show DAt K H (.ref a) (Tm.dat (.mk k ts))
  rw [Tm.dat, Tm.datL_map]
  exact .tup h (.cons .key (.cons (.tup h2 h3 z) .nil)) (by show 2 ≤ 1000000; decide)
/-- all heads keep P -/
def Tm.All (P : Key → Prop) (t : Tm) : Prop := ∀ k ∈ t.heads, P k
/-! ### frames -/
/-- all but the object at st stands as it stood -/
def Keep (st : Addr) (H H' : Hp) : Prop := ∀ b o, b ≠ st → H b = some o → H' b = some o
theorem Keep.refl (st : Addr) (H : Hp) : Keep st H H := fun _ _ _ h => h
theorem Keep.trans {st : Addr} {H H1 H2 : Hp} (a : Keep st H H1) (b : Keep st H1 H2) : Keep st H H2 := fun c o n h => b c o n (a c o n h)
theorem Keep.of {st : Addr} {H H' : Hp} (a : Same H H') : Keep st H H' := fun c o _ h => a c o h
theorem Keep.new {st : Addr} {H : Hp} {p : Addr} (h : H p = none) (o : HO) : Keep st H (upd H p o) := fun b u _ q => by rw [upd_ne (ne_of_none q h)]; exact q
theorem Keep.put {st : Addr} {H : Hp} (o : HO) : Keep st H (upd H st o) := fun b u n q => by rw [upd_ne n]; exact q
theorem same_new {H : Hp} {p : Addr} (h : H p = none) (o : HO) : Same H (upd H p o) := fun b u q => by rw [upd_ne (ne_of_none q h)]; exact q
theorem TStay.of {K : PySem.W.Frag} {H H' : Hp} (e : Same H H') : TStay K H H' := fun a xs h => by
  rcases h with (h | ⟨o, h⟩) | h
  · exact .inl (.inl (e _ _ h))
  · exact .inl (.inr ⟨o, e _ _ h⟩)
  · exact .inr h
theorem TStay.refl {K : PySem.W.Frag} {H : Hp} : TStay K H H := fun _ _ h => h
theorem TStay.trans {K : PySem.W.Frag} {H H1 H2 : Hp} (a : TStay K H H1) (b : TStay K H1 H2) : TStay K H H2 := fun _ _ h => b _ _ (a _ _ h)
theorem Keep.tups {K : PySem.W.Frag} {st : Addr} {H H' : Hp} {xs : List V} (hs : H st = some (.lst xs)) (e : Keep st H H') : TStay K H H' := fun a ys h => by
  rcases h with (h | ⟨o, h⟩) | h
  · exact .inl (.inl (e _ _ (ne_of h hs (by intro z; cases z)) h))
  · exact .inl (.inr ⟨o, e _ _ (ne_of h hs (by intro z; cases z)) h⟩)
  · exact .inr h
/-- a list that stays whatever becomes of the object at st -/
def Scr (K : PySem.W.Frag) (H : Hp) (st sc : Addr) (xs : List V) : Prop := ∀ H', Keep st H H' → SqL K H' sc xs
theorem Scr.here {K : PySem.W.Frag} {H : Hp} {st sc : Addr} {xs : List V} (h : Scr K H st sc xs) : SqL K H sc xs := h H (Keep.refl _ _)
theorem Scr.keep {K : PySem.W.Frag} {H H' : Hp} {st sc : Addr} {xs : List V} (h : Scr K H st sc xs) (k : Keep st H H') : Scr K H' st sc xs := fun _ k' => h _ (k.trans k')
theorem Scr.of {K : PySem.W.Frag} {H : Hp} {st sc : Addr} {xs : List V} (h : H sc = some (.lst xs)) (n : sc ≠ st) : Scr K H st sc xs := fun _ k => .inl (.inl (k _ _ n h))
theorem Scr.new {K : PySem.W.Frag} {H : Hp} {st sc : Addr} {xs : List V} (h : SqL K H sc xs) (n : H st = none) (o : HO) : Scr K (upd H st o) st sc xs := fun H' k => by
  rcases h with (h | ⟨u, h⟩) | h
  · have ne := ne_of_none h n
    exact .inl (.inl (k _ _ ne (by rw [upd_ne ne]; exact h)))
  · have ne := ne_of_none h n
    exact .inl (.inr ⟨u, k _ _ ne (by rw [upd_ne ne]; exact h)⟩)
  · exact .inr h
/-! ### the law's state -/
def StAt (H : Hp) (st : Addr) (d : Int) : Prop := ∃ a b c : Int, H st = some (.lst [.int a, .int b, .int c, .int d]) ∧ 0 ≤ a ∧ 0 ≤ b ∧ 0 ≤ c ∧ c < 2147483647
structure SOk (K : PySem.W.Frag) (H : Hp) (st sc : Addr) (ns : List Int) (d : Int) : Prop where
  state : StAt H st d
  scr : Scr K H st sc (ns.map V.int)
theorem StAt.same {H H' : Hp} {st : Addr} {d : Int} (S : StAt H st d) (k : Same H H') : StAt H' st d := by
  obtain ⟨a, b, c, e, r⟩ := S
  exact ⟨a, b, c, k _ _ e, r⟩
theorem StAt.upd {H : Hp} {st p : Addr} {d : Int} (S : StAt H st d) (n : p ≠ st) (o : HO) : StAt (upd H p o) st d := by
  obtain ⟨a, b, c, e, r⟩ := S
  exact ⟨a, b, c, by rw [upd_ne n.symm]; exact e, r⟩
theorem StAt.ne {H : Hp} {st p : Addr} {d : Int} (S : StAt H st d) (h : H p = none) : p ≠ st := by
  obtain ⟨a, b, c, e, r⟩ := S
  exact (ne_of_none e h).symm
theorem StAt.ts {K : PySem.W.Frag} {H H' : Hp} {st : Addr} {d : Int} (S : StAt H st d) (k : Keep st H H') : TStay K H H' := by
  obtain ⟨a, b, c, e, r⟩ := S
  exact k.tups e
theorem SOk.go {K : PySem.W.Frag} {H H' : Hp} {st sc : Addr} {ns : List Int} {d d' : Int} (S : SOk K H st sc ns d) (k : Keep st H H') (h : StAt H' st d') : SOk K H' st sc ns d' := ⟨h, S.scr.keep k⟩
theorem SOk.same {K : PySem.W.Frag} {H H' : Hp} {st sc : Addr} {ns : List Int} {d : Int} (S : SOk K H st sc ns d) (k : Same H H') : SOk K H' st sc ns d := S.go (Keep.of k) (S.state.same k)
theorem SOk.new {K : PySem.W.Frag} {H : Hp} {st sc p : Addr} {ns : List Int} {d : Int} (S : SOk K H st sc ns d) (h : H p = none) (o : HO) : SOk K (upd H p o) st sc ns d := S.same (same_new h o)
theorem SOk.ts {K : PySem.W.Frag} {H H' : Hp} {st sc : Addr} {ns : List Int} {d : Int} (S : SOk K H st sc ns d) (k : Keep st H H') : TStay K H H' := S.state.ts k
theorem SOk.ne {K : PySem.W.Frag} {H : Hp} {st sc p : Addr} {ns : List Int} {d : Int} (S : SOk K H st sc ns d) (h : H p = none) : p ≠ st := S.state.ne h
/-- what is new behind H0 may be changed -/
theorem Keep.upd {st : Addr} {H0 H : Hp} {p : Addr} (k : Keep st H0 H) (h : H0 p = none) (o : HO) : Keep st H0 (upd H p o) := fun b u n q => by
  rw [upd_ne (ne_of_none q h)]
  exact k _ _ n q
theorem sameUpd {H0 H : Hp} {p : Addr} (k : Same H0 H) (h : H0 p = none) (o : HO) : Same H0 (upd H p o) := fun b u q => by
  rw [upd_ne (ne_of_none q h)]
  exact k _ _ q
theorem Keep.free {st : Addr} {H H' : Hp} {l : Addr} (k : Keep st H H') (n : l ≠ st) (h : H' l = none) : H l = none := by
  cases q : H l with
  | none => rfl
  | some o =>
    rw [k l o n q] at h
    cases h
/-- a tracked list changed: tuples stay -/
theorem TStay.lst {K : PySem.W.Frag} {H : Hp} {l : Addr} {xs : List V} (h : H l = some (.lst xs)) (o : HO) : TStay K H (upd H l o) := fun a ys q => by
  rcases q with (q | ⟨u, q⟩) | q
  · exact .inl (.inl (by rw [upd_ne (ne_of q h (by intro z; cases z))]; exact q))
  · exact .inl (.inr ⟨u, by rw [upd_ne (ne_of q h (by intro z; cases z))]; exact q⟩)
  · exact .inr q
theorem TStay.new {K : PySem.W.Frag} {H : Hp} {p : Addr} (h : H p = none) (o : HO) : TStay K H (upd H p o) := TStay.of (same_new h o)
theorem TAt.new {K : PySem.W.Frag} {H : Hp} {a b : Addr} {k : Key} {vs : List V} {ts : List Tm} (hb : SqT K H b vs) (h3 : DsAt K H vs (ts.map Tm.dat)) (z : vs.length ≤ 1000000) (ha : H a = none) : TAt K (upd H a (.tup [kV k, .ref b])) (.ref a) (.mk k ts) :=
  TAt.of (SqT.of upd_same) (TStay.new ha _ _ _ hb) (h3.mono (TStay.new ha _)) z
theorem TAt.leaf {K : PySem.W.Frag} {H : Hp} {a b : Addr} {k : Key} (hb : H b = none) (ha : (upd H b (.tup [])) a = none) : TAt K (upd (upd H b (.tup [])) a (.tup [kV k, .ref b])) (.ref a) (.mk k []) :=
  TAt.new (SqT.of upd_same) .nil (Nat.zero_le _) ha
/-! ### each once, in the order of the first places -/
instance decMemKey (k : Key) : (l : List Key) → Decidable (k ∈ l)
  | [] => .isFalse List.not_mem_nil
  | j :: r => match decEq k j with
    | .isTrue h => .isTrue (by rw [h]; exact List.mem_cons_self ..)
    | .isFalse h => match decMemKey k r with
      | .isTrue q => .isTrue (List.mem_cons_of_mem _ q)
      | .isFalse q => .isFalse fun z => by
        rcases List.mem_cons.mp z with z | z
        · exact h z
        · exact q z
def addK (l : List Key) (k : Key) : List Key := if k ∈ l then l else l ++ [k]
def dedup (ks : List Key) : List Key := ks.foldl addK []
theorem dedup_snoc (ks : List Key) (k : Key) : dedup (ks ++ [k]) = addK (dedup ks) k := by
  unfold dedup
  rw [List.foldl_append]
  rfl
theorem addK_length (l : List Key) (k : Key) : (addK l k).length ≤ l.length + 1 := by
  unfold addK
  split
  · omega
  · rw [List.length_append, List.length_singleton]
    exact Nat.le_refl _
theorem dedup_length_aux : ∀ (ks l : List Key), (ks.foldl addK l).length ≤ l.length + ks.length
  | [], l => Nat.le_refl _
  | k :: r, l => by
    rw [List.foldl_cons, List.length_cons]
    have h1 := dedup_length_aux r (addK l k)
    have h2 := addK_length l k
    omega
theorem dedup_length (ks : List Key) : (dedup ks).length ≤ ks.length := by
  have h := dedup_length_aux ks []
  rw [List.length_nil, Nat.zero_add] at h
  exact h
theorem addK_mem {l : List Key} {k j : Key} : j ∈ addK l k ↔ j ∈ l ∨ j = k := by
  unfold addK
  split
  · rename_i h
    constructor
    · exact .inl
    · rintro (h1 | rfl)
      · exact h1
      · exact h
  · rw [List.mem_append, List.mem_singleton]
theorem flat_kV (k : Key) : flatV (kV k) = true := by cases k <;> rfl
theorem flat_keys (ks : List Key) : (ks.map kV).all flatV = true := by
  rw [List.all_eq_true]
  intro v hv
  obtain ⟨k, _, rfl⟩ := List.mem_map.mp hv
  exact flat_kV k
theorem eqV_kV (a b : Key) : eqV (kV a) (kV b) = decide (a = b) := by
  cases a with
  | inl i =>
    cases b with
    | inl j =>
      show (i == j) = _
      exact (key_ll i j).symm
    | inr y => exact (key_lr i y).symm
  | inr x =>
    cases b with
    | inl j => exact (key_rl x j).symm
    | inr y =>
      show (x == y) = _
      rw [key_rr]
      by_cases h : x = y
      · subst h
        simp
      · rw [decide_eq_false h]
        exact beq_eq_false_iff_ne.mpr h
theorem inV_kV (k : Key) (ks : List Key) : inV (kV k) (ks.map kV) = decide (k ∈ ks) := by
  unfold inV
  rw [Bool.eq_iff_iff, List.any_eq_true, decide_eq_true_eq]
  constructor
  · rintro ⟨v, hv, h⟩
    obtain ⟨j, hj, rfl⟩ := List.mem_map.mp hv
    rw [eqV_kV, decide_eq_true_eq] at h
    rw [← h]
    exact hj
  · intro h
    exact ⟨kV k, List.mem_map.mpr ⟨k, h, rfl⟩, by rw [eqV_kV, decide_eq_true rfl]⟩
theorem putK_keys (kvs : List (Key × V)) (k : Key) (v : V) : (putK kvs k v).map (·.1) = addK (kvs.map (·.1)) k := by
  unfold putK addK
  by_cases h : k ∈ kvs.map (·.1)
  · rw [if_pos h]
    have e : (kvs.any fun kv => decide (kv.1 = k)) = true := by
      rw [List.any_eq_true]
      obtain ⟨p, hp, hk⟩ := List.mem_map.mp h
      exact ⟨p, hp, decide_eq_true hk⟩
    rw [if_pos e, List.map_map]
    apply List.map_congr_left
    intro p _
    show (if p.1 = k then (p.1, v) else p).1 = p.1
    split <;> rfl
  · rw [if_neg h]
    have e : ¬ (kvs.any fun kv => decide (kv.1 = k)) = true := by
      rw [List.any_eq_true]
      rintro ⟨p, hp, hk⟩
      exact h (List.mem_map.mpr ⟨p, hp, of_decide_eq_true hk⟩)
    rw [if_neg e, List.map_append]
    rfl
theorem map_set_of {l : List Tm} {P : Key → Prop} (h : ∀ t ∈ l, t.All P) : ∀ k ∈ Tm.headsL l, P k := by
  induction l with
  | nil =>
    intro k hk
    rw [Tm.headsL] at hk
    exact absurd hk List.not_mem_nil
  | cons t r ih =>
    intro k hk
    rw [Tm.headsL] at hk
    rcases List.mem_append.mp hk with hk | hk
    · exact h t (List.mem_cons_self ..) k hk
    · exact ih (fun u hu => h u (List.mem_cons_of_mem _ hu)) k hk
theorem Tm.All.mk {P : Key → Prop} {k : Key} {ts : List Tm} (h : P k) (hs : ∀ t ∈ ts, t.All P) : (Tm.mk k ts).All P := by
  intro j hj
  rw [Tm.heads] at hj
  rcases List.mem_cons.mp hj with rfl | hj
  · exact h
  · exact map_set_of hs j hj
theorem ty_tup {K : PySem.W.Frag} {H : Hp} {a : Addr} {xs : List V} (h : SqT K H a xs) : TyX K H (.ref a) (.type "tuple") := by
  rcases h with (h | ⟨o, h⟩) | ⟨o, its, n, h, c, _⟩
  · exact .base (.tup h)
  · exact .fTuple h
  · exact .kTuple h c
theorem fn_none {P : Program} {w : World} {K : PySem.W.Frag} {mg : Str → Option Value} {base : Heap} {k : Nat} {f : Addr} {fd : FuncData} {ps : List Str} {sp : Sp} (no : ∀ vs H Q E, ¬ sp vs H Q E) : FnOk P w K mg base CX0 k f fd ps sp :=
  ⟨fun vs H Q E h => absurd h (no vs H Q E), fun _ _ _ H _ _ vs Q E _ _ _ _ h => absurd h (no vs H Q E)⟩
end DF

namespace DF
open PySem PySem.Spec PyProof.Rows L2
section
variable {prog : Program} {w : World} {A : Around} {E : Value → Shared → Prop} {s : Shared}
theorem adjust_rev (n : Nat) : Builtin.Slice.sliceAdjust none none (-1) (n : Int) = ((n : Int) - 1, -1) := by
  unfold Builtin.Slice.sliceAdjust
  rfl
theorem places_rev (n : Nat) : Builtin.Slice.slicePlaces ((n : Int) - 1) (-1) (-1) = n := by
  unfold Builtin.Slice.slicePlaces
  have h1 : ¬ ((-1 : Int) > 0) := by decide
  simp only [h1, if_false]
  by_cases h : (n : Int) - 1 > -1
  · simp only [h, if_true]
    rw [show (- -1 : Int) = 1 by decide, Int.ediv_one]
    omega
  · simp only [h, if_false]
    omega
theorem sliceApplied_rev {sl : Addr} {vk : Value} {n : Nat} {Q : Int × Int × Nat → Shared → Prop} (hs : s.heap.IsSliceOf sl .none .none vk) (pk : IsPart vk (some (-1)))
    (h : Q ((n : Int) - 1, -1, n) s) : wpAny (model prog w) A (Builtin.Slice.sliceApplied (.ref sl) (pure (n : Int))) Q E s := by
  obtain ⟨os, hos, hcs, hds⟩ := id hs
  unfold Builtin.Slice.sliceApplied Builtin.Slice.sliceFields
  refine wpAny_bind (wpAny_bind (wpAny_field hos hds (x := .none) rfl (wpAny_bind (wpAny_field hos hds (x := .none) rfl (wpAny_bind (wpAny_field hos hds (x := vk) rfl (wpAny_pure ?_)))))))
  refine wpAny_bind (HT.slicePart_ pk ?_)
  show wpAny _ _ (if ((-1 : Int) == 0) = true then _ else _) _ _ s
  rw [if_neg (by decide)]
  refine wpAny_bind (HT.slicePart_ .none (wpAny_bind (HT.slicePart_ .none (wpAny_bind (wpAny_pure ?_)))))
  show wpAny _ _ (match Builtin.Slice.sliceAdjust none none (-1) (n : Int) with | (lo, hi) => pure (lo, (-1 : Int), Builtin.Slice.slicePlaces lo hi (-1))) _ _ s
  rw [adjust_rev n]
  show wpAny _ _ (pure (((n : Int) - 1), (-1 : Int), Builtin.Slice.slicePlaces ((n : Int) - 1) (-1) (-1))) _ _ s
  rw [places_rev]
  exact wpAny_pure h
theorem fm_congr {α β : Type} {f g : α → Option β} : ∀ {l : List α}, (∀ x ∈ l, f x = g x) → l.filterMap f = l.filterMap g
  | [], _ => rfl
  | x :: r, h => by
    rw [List.filterMap_cons, List.filterMap_cons, h x (List.mem_cons_self ..), fm_congr fun y hy => h y (List.mem_cons_of_mem _ hy)]
theorem pick_rev (xs : Array Value) : ((List.range xs.size).filterMap fun (m : Nat) => xs[((xs.size : Int) - 1 + (m : Int) * (-1)).toNat]?).toArray = xs.toList.reverse.toArray := by
  congr 1
  have e : (List.range xs.size).filterMap (fun (m : Nat) => xs[((xs.size : Int) - 1 + (m : Int) * (-1)).toNat]?) = ((List.range xs.size).map fun k => xs.size - 1 - k).filterMap (fun m => xs[m]?) := by
    rw [List.filterMap_map]
    refine fm_congr fun m hm => ?_
    have := List.mem_range.mp hm
    show _ = xs[xs.size - 1 - m]?
    congr 1
    omega
  rw [e, PySem.W.krv_range, List.filterMap_reverse]
  congr 1
  exact PySem.W.krv_all xs
theorem getItem_tuple_rev {t sl : Addr} {items : Array Value} {vk : Value} {Q : Value → Shared → Prop} (ht : IsTup s.heap t items) (hs : s.heap.IsSliceOf sl .none .none vk) (pk : IsPart vk (some (-1)))
    (h : Q (.ref s.heap.objs.size) { s with heap := s.heap.push { cls := .type "tuple", data := .seq items.toList.reverse.toArray } })
    (hsz : items.size ≤ sizeLine) : wpAny (model prog w) A (getItem (.ref t) (.ref sl)) Q E s := by
  have htake : sizeOk (.seq items.toList.reverse.toArray) := by
    show items.toList.reverse.toArray.size ≤ sizeLine
    rw [List.size_toArray, List.length_reverse, Array.length_toList]
    exact hsz
  obtain ⟨os, hos, hcs, hds⟩ := id hs
  have hTs : s.TypeIs (.ref sl) "slice" := ⟨os, hos, hcs⟩
  unfold getItem
  try with_reducible refine wpAny_holding ?_
  first | refine wpAny_bind (wpAny_pure ?_) | skip
  refine wpAny_bind (wpAny_sequenceKey ht.typeIs (by decide) ?_)
  refine wpAny_bind (wpAny_callSpecial?_slot (name := Str.ofString "__getitem__") ht.typeIs PyProof.Rows.slot_tuple_getitem
    (wpAny_call_entry PyProof.Rows.slot_tuple_getitem ht.typeIs entry_tuple_getitem ?_ (args_tuple_getitem _ _)))
  show wpAny _ _ (Builtin.Tuple.tupleItemsOf (.ref t) >>= _) _ _ s
  refine wpAny_bind (tupleItemsOf_ ht ?_)
  refine wpAny_bind (wpAny_typeOf hTs ?_)
  rw [if_pos (by decide)]
  refine wpAny_bind (sliceApplied_rev hs pk ?_)
  have hno : ¬ (((((items.size : Nat) : Int) - 1) == 0 && (-1 : Int) == 1 && items.size == items.size) = true) := by
    intro q
    rw [Bool.and_eq_true, Bool.and_eq_true] at q
    exact absurd q.1.2 (by decide)
  show wpAny _ _ (if ((((items.size : Nat) : Int) - 1) == 0 && (-1 : Int) == 1 && items.size == items.size) = true then _ else _) _ _ s
  rw [if_neg hno, pick_rev]
  first
    | exact wpAny_bind (m := Builtin.Tuple.tupleExact _) (wpAny_newObj_type (wpAny_pure ⟨_, rfl, wpAny_pure h⟩) htake)
    | exact wpAny_bind (m := Builtin.Tuple.tupleExact _) (wpAny_newObj_type (wpAny_bind (wpAny_pure (wpAny_pure ⟨_, rfl, wpAny_pure h⟩))) htake)
    | exact wpAny_bind (wpAny_bind (m := Builtin.Tuple.tupleExact _) (wpAny_newObj_type (wpAny_pure (wpAny_pure ⟨_, rfl, wpAny_pure h⟩)) htake))
    | exact wpAny_bind (wpAny_bind (m := Builtin.Tuple.tupleExact _) (wpAny_newObj_type (wpAny_pure ⟨_, rfl, wpAny_pure h⟩) htake))
end
section
variable {X : Cx} {e : Expr} {te : TE} {pos p1 p2 p3 : Pos} {i1 : Nat}
/-- t[::-1] of a tuple: a new tuple -/
def tRevT (K : PySem.W.Frag) (te : TE) : TE := fun σ H Q => te σ H fun x H1 => ∃ a xs, x = .ref a ∧ SqT K H1 a xs ∧ ∀ p, H1 p = none → Q (.ref p) (upd H1 p (.tup xs.reverse))
theorem pe_revT {st : Expr} {ts : TE} (he : PE X e te) (hs : PO X (some st) ts') (h1 : ∀ σ H Q, ts' σ H Q = Q (some (-1)) H) : PE X (.Subscript e (.Slice none none (some st) p2) pos) (tRevT X.K te) := by
  refine ⟨fun pins s σ H Q I h => ?_⟩
  refine Subscript_ (thn (he.run pins s σ H _ I h) fun v s1 ⟨x, H1, I1, r1, q1⟩ => ?_)
  refine wpAny_Slice ?_
  rw [evalPart_none]
  refine wpAny_pure (wpAny_pure (thn (hs.run pins s1 σ H1 (fun o H' => o = some (-1) ∧ H' = H1) I1 (by rw [h1]; exact ⟨rfl, rfl⟩)) fun vk s2 ⟨o, H2, I2, pk, eo, eH⟩ => ?_))
  subst eo eH
  obtain ⟨a, xs, rfl, ha, q⟩ := q1
  cases r1
  have I4 : Inv X pins σ H2 { s2 with heap := s2.heap.push { cls := .type "slice", data := .fields #[.none, .none, vk] } } := I2.kept (t' := s2.toks) fun b ob q => Heap.get?_push_of_some _ q
  obtain ⟨its, r, ht, hz⟩ := I4.tuple ha
  have hg : wpAny (model X.prog X.w) X.A (getItem (.ref a) (.ref s2.heap.objs.size)) (EP X pins σ Q) X.xe { s2 with heap := s2.heap.push { cls := .type "slice", data := .fields #[.none, .none, vk] } } := by
    refine getItem_tuple_rev ht (Heap.IsSliceOf.new ..) pk ?_ (by rw [List.size_toArray, ← r.length]; exact hz)
    refine ⟨.ref (s2.heap.push { cls := .type "slice", data := .fields #[.none, .none, vk] }).objs.size, _, I4.laid (t' := s2.toks) (o := .tup xs.reverse) (fun b ob q => Heap.get?_push_of_some _ q) (Nat.le_refl _) ?_, rfl, q _ (I4.hok.fresh (Nat.le_refl _))⟩
    exact ⟨by rw [List.length_reverse]; exact hz, _, r.reverse, IsTup.new _ _⟩
  show wpAny (model X.prog X.w) X.A (subscriptTail e (.Slice none none (some st) p2) (.ref a) (.ref s2.heap.objs.size)) (EP X pins σ Q) X.xe { s2 with heap := s2.heap.push { cls := .type "slice", data := .fields #[.none, .none, vk] } }
  exact tail_any (ops := [.ref a, .ref s2.heap.objs.size]) ht.typeIs PyProof.Rows.slot_tuple_getitem.lookup hg (by with_unfolding_all rfl)
theorem po_m1 : PO X (some (.UnaryOp .USub (.Constant (.int 1) i1 p1) p3)) (tPart (tUn (rU fun i => .int (-i)) (tC (.int 1)))) := po_some (pe_un un_neg pe_int)
theorem po_m1_eq (σ : L2.St) (H : Hp) (Q : Option Int → Hp → Prop) : (tPart (tUn (rU fun i => .int (-i)) (tC (.int 1)))) σ H Q = Q (some (-1)) H := by
  apply propext
  constructor
  · rintro ⟨i, ⟨rfl⟩, j, e, q⟩
    cases e
    exact q
  · intro q
    exact ⟨1, rfl, -1, rfl, q⟩
theorem pe_rT (he : PE X e te) : PE X (.Subscript e (.Slice none none (some (.UnaryOp .USub (.Constant (.int 1) i1 p1) p3)) p2) pos) (tRevT X.K te) := pe_revT (st := .UnaryOp .USub (.Constant (.int 1) i1 p1) p3) (ts := te) he po_m1 po_m1_eq
theorem extend_tuple_any (l : Addr) (items : Array Value) (n : Nat) (b : Addr) (items2 : Array Value) (n2 : Nat) (dd : Option Addr) (ss : Array (Option Value)) (hs0 : ¬(!items.isEmpty && Builtin.List.listTooLong (items.size + items2.size)) = true) (hs1 : items.size ≤ sizeLine) (hs2 : items.size + items2.size ≤ sizeLine + 1) :
    Meets (Builtin.«list.extend» ⟨[.ref l, .ref b], []⟩) (fun _ R s => s.heap.get? l = some { cls := .type "list", dict := none, data := .seq items n, slots := #[] } ∧ s.heap.get? b = some { cls := .type "tuple", dict := dd, data := .seq items2 n2, slots := ss } ∧ R (.ok (.ret Value.none)) { s with heap := s.heap.update l (Obj.mapSeq fun x => x ++ items2), toks := s.toks }) :=
  .of_wp fun prog w A R s h => by
    obtain ⟨hp, g, d, tk, os⟩ := s; obtain ⟨hl, hb, h⟩ := h; have f1 := PySem.AutoSeq1.idx_int; have f2 := PySem.AutoSeq1.sub_tuple_tuple; have f3 := PySem.AutoSeq1.sub_list_list; have f4 := PySem.AutoSeq1.sub_tuple_list; have f5 := PySem.AutoSeq1.sub_list_tuple;
    have hz' : (items ++ items2).size ≤ sizeLine + 1 := by rw [Array.size_append]; exact hs2
    wp_walk using (wpAny_updateSeq hl rfl (hz := hs1) (_hz' := hz')), PySem.AutoSeq1.wpAny_loadPart' hl, PySem.AutoSeq1.wpAny_loadPart' hb; exact ⟨_, rfl, h⟩
/-- xs.extend(t), t a tuple -/
def rExtendT : V → List V → Hp → VK → Prop := fun x vs H Q => ∃ l b xs zs, x = .ref l ∧ vs = [.ref b] ∧ H l = some (.lst xs) ∧ H b = some (.tup zs) ∧ xs.length + zs.length ≤ sizeLine ∧ Q .non (upd H l (.lst (xs ++ zs)))
theorem mt_extendT : MtM X "list.extend" rExtendT := by
  intro pins s σ H x vs v us Q I rx rv h
  obtain ⟨l, b, xs, zs, rfl, rfl, hH, hB, hz, q⟩ := h
  cases rx
  obtain ⟨u, rfl, ru⟩ := rv.one
  cases ru
  obtain ⟨z, its, n, r, hl, e⟩ := I.lstM hH
  obtain ⟨its2, r2, ⟨o, h1, h2, n2, h3⟩, z2⟩ := I.tuple (SqT.of hB)
  have hl2 : zs.length = its2.length := r2.length
  have hsz : its.toArray.size + its2.toArray.size ≤ sizeLine := by rw [List.size_toArray, List.size_toArray]; omega
  have hlong : ¬ (!its.toArray.isEmpty && Builtin.List.listTooLong (its.toArray.size + its2.toArray.size)) = true := by
    rw [notLongL hsz, Bool.and_false]
    exact Bool.false_ne_true
  obtain ⟨oc, od, dt, sl⟩ := o
  simp only at h2 h3
  subst h2 h3
  refine call_meets F.slot_list_extend ⟨_, e, rfl⟩ F.entry_list_extend (F.args_list_extend_2 _ _)
    (extend_tuple_any l its.toArray n b its2.toArray n2 od sl hlong (by rw [List.size_toArray]; omega) (by omega)) ⟨e, h1, ?_⟩
  refine ⟨.non, _, I.lset (its' := its ++ its2) hH e (by simp) (r.append r2) ?_, rfl, q⟩
  rw [List.length_append]
  omega
/-- tuple(d) of a dict with int and text keys: a new tuple of its keys -/
theorem code_tuple_new_kdl {prog : Program} {w : World} {A : Around} {E : Value → Shared → Prop} {s : Shared} {T : String} {r d : Addr} {n : Nat} {P : Nat → Value → Prop} {OK : Heap → Prop} {Q₁ : Value → Shared → Prop}
    (K : PySem.W.KdlSrc prog w T r d n P OK) (hh : A.handled = none) (hok : OK s.heap) (hn : n ≤ sizeLine)
    (h : ∀ (h' : Heap) (tk : Nat) (acc : Array Value), (∀ b o, s.heap.get? b = some o → h'.get? b = some o) → ItemsOf P acc n →
      Q₁ (.ref h'.objs.size) { s with heap := h'.push { cls := .type "tuple", data := .seq acc }, toks := tk }) :
    codeAny (model prog w) A (.call (.builtin "tuple.__new__") ⟨[.type "tuple", .ref r], []⟩) (wants Q₁ E) s := by
  refine codeAny_of_tree ?_
  show wpAny _ A.in1 (do checkBuiltinCall "tuple.__new__" ⟨[.type "tuple", .ref r], []⟩; again (.builtin "tuple.__new__" ⟨[.type "tuple", .ref r], []⟩)) _ _ s
  refine wpAny_bind (wpAny_of_eq (F.newCall_tuple_1 _) (wpAny_pure ⟨plainId_quiet F.plain_tuple_new _, codeAny_builtin F.entry_tuple_new ?_⟩))
  rw [Around.under_plainId F.plain_tuple_new _]
  have hsub := sub_tuple_self
  have hinit := init_tuple_lookup
  have hmh := madeHere_tuple
  have hTI : s.TypeIs (.ref r) T := K.type s hok
  have hnl := K.notList
  have hnt := K.notTuple
  have hh1 : A.in1.handled = none := hh
  wp_walk using wpAny_typeOf hTI, PySem.W.kdu_collect (A := A.in1) K hh1 hok hn
  intro h' tk acc hk hacc
  show wpAny _ _ (Builtin.Tuple.tupleExact acc.toList.toArray >>= fun v => ret v) _ _ _
  unfold Builtin.Tuple.tupleExact
  refine wpAny_bind (wpAny_newObj_type ?_ (by show acc.toList.toArray.size ≤ sizeLine; simp only [Array.toArray_toList]; rw [hacc.1]; exact hn))
  refine wpAny_pure ?_
  have e : acc.toList.toArray = acc := by simp
  rw [e]
  exact h h' tk acc hk hacc
theorem call_tuple_kdl {prog : Program} {w : World} {A : Around} {E : Value → Shared → Prop} {s : Shared} {T : String} {r d : Addr} {n : Nat} {P : Nat → Value → Prop} {OK : Heap → Prop} {Q : Value → Shared → Prop}
    (K : PySem.W.KdlSrc prog w T r d n P OK) (hh : A.handled = none) (hok : OK s.heap) (hn : n ≤ sizeLine)
    (hQ : ∀ (h' : Heap) (tk : Nat) (acc : Array Value), (∀ b o, s.heap.get? b = some o → h'.get? b = some o) → ItemsOf P acc n →
      Q (.ref h'.objs.size) { s with heap := h'.push { cls := .type "tuple", data := .seq acc }, toks := tk }) :
    wpAny (model prog w) A (call (.type "tuple") [.ref r]) Q E s := by
  refine callType_codes (Q₁ := fun obj s₁ => s₁.TypeIs obj "tuple" ∧ Q obj s₁) F.called_tuple (F.typeCall_tuple_1 _) F.entry_object_init
    (code_tuple_new_kdl (A := A.in1) K hh hok hn fun h' tk acc hk hacc => ⟨⟨_, Heap.get?_push_size _ rfl, rfl⟩, hQ h' tk acc hk hacc⟩) fun obj s₁ h₁ => ?_
  exact ⟨h₁.1, F.args_object_init_2 obj _, object_init_meets F.called_tuple.init.lookup F.called_tuple.made (by decide) prog w A.in1 _ s₁ ⟨h₁.1, rfl, h₁.2⟩⟩
def rTupD : List V → Hp → VK → Prop := fun xs H Q => ∃ p kvs, xs = [.ref p] ∧ H p = some (.dK kvs) ∧ ∀ q, H q = none → Q (.ref q) (upd H q (.tup (kvs.map fun kv => kV kv.1)))
theorem call_tuple_dK {X : Cx} (hc : X.calm = true) : CallR X (.type "tuple") rTupD := by
  intro pins s σ H xs us Q I r h
  obtain ⟨p, kvs, e, hk, q⟩ := h
  subst e
  obtain ⟨u, eu, rx⟩ := vals1 r
  subst eu
  obtain rfl : u = Value.ref p := rx
  obtain ⟨z, lo, vs, rk, hd⟩ := (show ObjOk X.prog X.w H s.heap p (.dK kvs) from I.hok p _ hk)
  obtain ⟨ep, hat⟩ := hd.dictAt
  have hl : kvs.length = vs.length := Paired.length rk
  refine call_tuple_kdl (PySem.W.kdl_dict (knd := mixKind X.prog X.w) (kvs := vs) (ep := ep) lo) (I.ok.hd hc) hat (by rw [← hl]; exact z) fun h' tk acc' hkeep hacc => ?_
  have I1 : Inv X pins σ H { s with heap := h', toks := tk } := I.kept (t' := tk) hkeep
  refine ⟨.ref h'.objs.size, upd H h'.objs.size (.tup (kvs.map fun kv => kV kv.1)), I1.laid (t' := tk) (fun b o e => Heap.get?_push_of_some _ e) (Nat.le_refl _) (show ObjOk X.prog X.w _ _ _ (.tup (kvs.map fun kv => kV kv.1)) from ⟨?_, acc'.toList, ?_, ?_⟩), rfl, q _ (I1.hok.fresh (Nat.le_refl _))⟩
  · rw [List.length_map]; exact z
  · have el : acc'.toList.length = acc'.size := by simp
    refine vals_of_at (by rw [List.length_map, el, hacc.1, hl]) fun j x w h1 h2 => ?_
    obtain ⟨k, y, hky, hi⟩ := hacc.2 j w (by rw [← Array.getElem?_toList]; exact h2)
    have e1 : (kvs.map (·.1))[j]? = some k := by
      rw [KV.keys rk, List.getElem?_map, hky] <;> rfl
    have e2 : (kvs.map fun kv => kV kv.1)[j]? = some (kV k) := by
      have e3 : (kvs.map fun kv => kV kv.1) = (kvs.map (·.1)).map kV := by rw [List.map_map] <;> rfl
      rw [e3, List.getElem?_map, e1] <;> rfl
    rw [e2] at h1
    cases h1
    exact keyIs_rel hi
  · rw [Array.toArray_toList]; exact IsTup.new _ _
theorem isi_at {X : Cx} {K : PySem.W.Frag} (h : X.K = K) : CallR X (.builtin "isinstance") (rIsi K) := by
  subst h
  exact call_isi
theorem ixt_at {X : Cx} {K : PySem.W.Frag} (h : X.K = K) : IxR X (rIxT K) := by
  subst h
  exact ix_tup
theorem ixl_at {X : Cx} {K : PySem.W.Frag} (h : X.K = K) : IxR X (rIxL K) := by
  subst h
  exact ix_list
theorem len_at {X : Cx} {K : PySem.W.Frag} (h : X.K = K) : CallR X (.builtin "len") (fun xs H Q => ∃ p ys, xs = [.ref p] ∧ (SqL K H p ys ∨ SqT K H p ys) ∧ Q (.int ys.length) H) := by
  subst h
  exact call_len_seq
theorem yesT {σ : L2.St} {H : Hp} {A B : Hp → Prop} (h : A H) : tYes σ H (fun b H3 => if b = true then A H3 else B H3) := by
  show if true = true then A H else B H
  rw [if_pos rfl]
  exact h
/-- a dict comprehension over a list that stays -/
theorem dc_list {K : PySem.W.Frag} {a : Addr} {xs : List V} {g : TG} {tt : TT} {tk tv : TE} {vs : List Nat} {σ : L2.St} {H1 : Hp} {D : Addr} {Qd : Hp → Prop} (Pv : Nat → Hp → Prop) (h0 : Pv 0 (upd H1 D (.dK []))) (hl : ∀ i H, i ≤ xs.length → Pv i H → SqL K H a xs)
    (hs : ∀ i x H, xs[i]? = some x → Pv i H → g x (wipe σ vs) H fun σ2 H2 => wipe σ2 vs = wipe σ vs ∧ tt σ2 H2 fun b H3 =>
      if b = true then tk σ2 H3 fun y H4 => tv σ2 H4 fun z H5 => ∃ kvs k, y = kV k ∧ H5 D = some (.dK kvs) ∧ kvs.length < sizeLine ∧ Pv (i + 1) (upd H5 D (.dK (putK kvs k z))) else Pv (i + 1) H3) (hd : ∀ H, Pv xs.length H → Qd H) :
    ∃ W : Nat → Nat → Hp → Prop, (∃ m, W 0 m (upd H1 D (.dK []))) ∧ ∀ i m H, W i m H →
      ((Itl K a).stop i H ∧ Qd H) ∨ ((Itl K a).go i H ∧ ∃ Nx : Hp → Prop, (∀ H', Nx H' → ∃ m', m' < m ∧ W (i + 1) m' H') ∧ ∀ x H', (Itl K a).yld i H x H' → g x (wipe σ vs) H' fun σ2 H2 => wipe σ2 vs = wipe σ vs ∧ tt σ2 H2 fun b H3 =>
        if b = true then tk σ2 H3 fun y H4 => tv σ2 H4 fun z H5 => ∃ kvs k, y = kV k ∧ H5 D = some (.dK kvs) ∧ kvs.length < sizeLine ∧ Nx (upd H5 D (.dK (putK kvs k z))) else Nx H3) := by
  refine ⟨fun i m H => m = xs.length - i ∧ i ≤ xs.length ∧ Pv i H, ⟨xs.length, by simp, Nat.zero_le _, h0⟩, ?_⟩
  rintro i m H ⟨rfl, hi, p⟩
  have q := hl i H hi p
  by_cases hlt : i < xs.length
  · refine .inr ⟨⟨xs, xs[i], q, by simp [hlt]⟩, Pv (i + 1), fun H' p' => ⟨xs.length - (i + 1), by omega, rfl, hlt, p'⟩, fun x H' y => ?_⟩
    obtain ⟨e, y⟩ := y
    subst e
    exact hs i x _ (y xs q) p
  · have e : i = xs.length := by omega
    subst e
    exact .inl ⟨⟨xs, q, Nat.le_refl _⟩, hd H p⟩
end
end DF

namespace DF
open PySem PySem.Spec PyProof.Rows L2
section
variable {prog : Program} {w : World} {A : Around} {E : Value → Shared → Prop} {s : Shared}
def selFrom (a n : Int) (k : Nat) : Bool := if (1 : Int) > 0 then decide (a ≤ (k : Int)) && decide ((k : Int) < n) && ((k : Int) - a) % 1 == 0 else decide (n < (k : Int)) && decide ((k : Int) ≤ a) && (a - (k : Int)) % (-1) == 0
theorem selFrom_eq (a n k : Nat) (h : k < n) : selFrom (a : Int) (n : Int) k = decide (a ≤ k) := by
  unfold selFrom
  rw [if_pos (by decide)]
  have h1 : decide ((k : Int) < (n : Int)) = true := decide_eq_true (by omega)
  have h2 : (((k : Int) - (a : Int)) % 1 == 0) = true := by rw [Int.emod_one]; rfl
  rw [h1, h2, Bool.and_true, Bool.and_true]
  by_cases h3 : a ≤ k
  · rw [decide_eq_true h3]
    exact decide_eq_true (by omega)
  · rw [decide_eq_false h3]
    exact decide_eq_false (by omega)
theorem cut_aux (a n : Nat) : ∀ (xs : List Value) (j : Nat), j + xs.length ≤ n → ((xs.zipIdx j).filterMap fun p => if selFrom (a : Int) (n : Int) p.2 = true then none else some p.1) = xs.take (a - j)
  | [], j, _ => by rw [List.zipIdx_nil, List.take_nil]; rfl
  | x :: r, j, h => by
    rw [List.length_cons] at h
    rw [List.zipIdx_cons, List.filterMap_cons, cut_aux a n r (j + 1) (by omega)]
    dsimp only
    rw [selFrom_eq a n j (by omega)]
    by_cases h3 : a ≤ j
    · rw [decide_eq_true h3, if_pos rfl, show a - j = 0 by omega, show a - (j + 1) = 0 by omega, List.take_zero, List.take_zero]
    · rw [decide_eq_false h3, if_neg Bool.false_ne_true, show a - j = (a - (j + 1)) + 1 by omega, List.take_succ_cons]
theorem bounds_from {a n : Nat} (h : a ≤ n) : sliceBounds (some (a : Int)) none none n = ((a : Int), (n : Int), 1) := by
  simp only [sliceBounds, Option.getD_none]
  have h1 : ¬ ((a : Int) < 0) := by omega
  simp only [h1, if_false, show (1 : Int) > 0 by decide, if_true]
  congr 1
  omega
theorem delItem_from {l sl : Addr} {items : Array Value} {n : Nat} {vl : Value} {a : Nat} {Q : Unit → Shared → Prop}
    (e : s.heap.get? l = some { cls := .type "list", data := .seq items n }) (hs : s.heap.IsSliceOf sl vl .none .none) (pl : IsPart vl (some (a : Int))) (ha : a ≤ items.size) (hsz : items.size ≤ sizeLine)
    (h : Q () { s with heap := s.heap.update l (Obj.mapSeq fun xs => (xs.toList.zipIdx.filterMap fun p => if selFrom (a : Int) (items.size : Int) p.2 = true then none else some p.1).toArray) }) :
    wpAny (model prog w) A (delItem (.ref l) (.ref sl)) Q E s := by
  have hl : s.heap.IsList l items := PySem.IsL.isList e
  obtain ⟨os, hos, hcs, hds⟩ := id hs
  have hTs : s.TypeIs (.ref sl) "slice" := ⟨os, hos, hcs⟩
  have hstep : ¬ ((rawPart none == rawInt 0) = true) := Bool.false_ne_true
  have hz' : ((fun xs : Array Value => (xs.toList.zipIdx.filterMap fun p => if selFrom (a : Int) (items.size : Int) p.2 = true then none else some p.1).toArray) items).size ≤ sizeLine + 1 := by
    show (items.toList.zipIdx.filterMap _).toArray.size ≤ _
    rw [List.size_toArray, cut_aux a items.size items.toList 0 (by rw [Array.length_toList]; omega), List.length_take, Array.length_toList]
    omega
  unfold delItem
  try with_reducible refine wpAny_holding ?_
  first | refine wpAny_bind (wpAny_pure ?_) | skip
  refine wpAny_bind (wpAny_sequenceKey hl.typeIs (by decide) ?_)
  refine wpAny_bind (wpAny_callSpecial?_slot (name := Str.ofString "__delitem__") hl.typeIs F.slot_list_delitem
    (wpAny_call_entry F.slot_list_delitem hl.typeIs F.entry_list_delitem ?_ (F.args_list_delitem_2 _ _)))
  show wpAny _ _ (Builtin.List.listSubscript? (.ref sl) >>= _) _ _ s
  refine wpAny_bind ?_
  unfold Builtin.List.listSubscript?
  refine wpAny_bind (wpAny_specialOf hTs slice_no_index ?_)
  simp only [Option.isNone_none, if_true]
  refine wpAny_pure ?_
  show wpAny _ _ (typeOf (.ref sl) >>= _) _ _ s
  refine wpAny_bind (wpAny_typeOf hTs ?_)
  first
    | rw [if_neg (by decide)]
    | refine PySem.W.KFB.if_not (by decide) ?_
  rw [listSliceParts_eq]
  refine wpAny_bind (wpAny_bind (wpAny_field hos hds (x := .none) rfl (wpAny_bind (wpAny_listPart .none ?_))))
  rw [if_neg hstep]
  refine wpAny_bind (wpAny_field hos hds (x := vl) rfl (wpAny_bind (wpAny_listPart pl ?_)))
  refine wpAny_bind (wpAny_field hos hds (x := .none) rfl (wpAny_bind (wpAny_listPart .none (wpAny_pure ?_))))
  dsimp only
  unfold Builtin.List.listItems
  refine wpAny_bind (wpAny_bind (wpAny_seqItems e rfl (wpAny_pure ?_)))
  refine wpAny_bind (wpAny_of_eq ((sliceIndices_raw (some (a : Int)) none none items.size (by simp)).trans (congrArg (pure : Int × Int × Int → Sem (Int × Int × Int)) (bounds_from ha))) ?_)
  refine wpAny_bind (wpAny_rule ?_)
  show wpAny _ _ (updateSeq l (fun xs => (xs.toList.zipIdx.filterMap fun p => if selFrom (a : Int) (items.size : Int) p.2 = true then none else some p.1).toArray) >>= _) _ _ s
  refine wpAny_bind (wpAny_updateSeq (hz := hsz) (_hz' := hz') e rfl ?_)
  refine wpAny_bind (wpAny_letGo ?_)
  first
    | exact wpAny_bind (wpAny_pure (wpAny_pure ⟨.none, rfl, wpAny_pure h⟩))
    | exact wpAny_pure ⟨.none, rfl, wpAny_pure h⟩
end
section
variable {X : Cx} {e o : Expr} {te to : TE} {pos p1 p2 p3 tpos : Pos} {i1 : Nat}
/-- del xs[a:] -/
def tDelFrom (to te : TE) : TS := fun D σ H => to σ H fun x H1 => te σ H1 fun y H2 => ∃ (l : Addr) (xs : List V) (a : Nat), x = .ref l ∧ y = .int (a : Int) ∧ H2 l = some (.lst xs) ∧ a ≤ xs.length ∧ D.nx σ (upd H2 l (.lst (xs.take a)))
theorem ps_delFrom (ho : PE X o to) (hi : PE X e te) : PS X (.Delete [.Subscript o (.Slice (some e) none none p2) tpos] pos) (tDelFrom to te) := by
  refine ⟨fun pins s σ H D I h => ?_⟩
  refine wpAny_Delete (wpAny_deleteEach_cons (wpAny_delete_Subscript (thn (ho.run pins s σ H _ I h) fun u s1 ⟨x, H1, I1, rx, q1⟩ => ?_)))
  refine wpAny_Slice ?_
  rw [evalPart_some]
  refine thn (hi.run pins s1 σ H1 _ I1 q1) fun iv s2 ⟨y, H2, I2, ry, q2⟩ => ?_
  rw [evalPart_none]
  refine wpAny_pure (wpAny_pure ?_)
  obtain ⟨l, xs, a, ex, ey, hH, ha, q2⟩ := q2
  subst ex
  subst ey
  cases (show u = Value.ref l from rx)
  obtain ⟨t, rfl⟩ := (show ∃ t, iv = Value.int (a : Int) t from ry)
  have I4 : Inv X pins σ H2 { s2 with heap := s2.heap.push { cls := .type "slice", data := .fields #[.int (a : Int) t, .none, .none] } } := I2.kept (t' := s2.toks) fun b ob q => Heap.get?_push_of_some _ q
  obtain ⟨z, its, n, r, hl, hg⟩ := I4.lstM hH
  refine delItem_from hg (Heap.IsSliceOf.new ..) (.int _ t) (by rw [List.size_toArray, ← hl]; exact ha) (by rw [List.size_toArray]; omega) ?_
  refine wpAny_deleteEach_nil ⟨σ, _, I4.lset (its' := its.take a) (t' := s2.toks) hH hg ?_ (r.take a) ?_, q2⟩
  · show (its.toArray.toList.zipIdx.filterMap _).toArray = (its.take a).toArray
    rw [List.size_toArray, cut_aux a its.length its 0 (by omega), Nat.sub_zero]
  · rw [List.length_take]
    omega
/-- xs[::-1] of a list: a new list -/
def tRevL (K : PySem.W.Frag) (te : TE) : TE := fun σ H Q => te σ H fun x H1 => ∃ a xs, x = .ref a ∧ SqL K H1 a xs ∧ ∀ p, H1 p = none → Q (.ref p) (upd H1 p (.lst xs.reverse))
theorem pe_revL {st : Expr} {ts' : TO} (he : PE X e te) (hs : PO X (some st) ts') (h1 : ∀ σ H Q, ts' σ H Q = Q (some (-1)) H) : PE X (.Subscript e (.Slice none none (some st) p2) pos) (tRevL X.K te) := by
  refine ⟨fun pins s σ H Q I h => ?_⟩
  refine Subscript_ (thn (he.run pins s σ H _ I h) fun v s1 ⟨x, H1, I1, r1, q1⟩ => ?_)
  refine wpAny_Slice ?_
  rw [evalPart_none]
  refine wpAny_pure (wpAny_pure (thn (hs.run pins s1 σ H1 (fun o H' => o = some (-1) ∧ H' = H1) I1 (by rw [h1]; exact ⟨rfl, rfl⟩)) fun vk s2 ⟨o, H2, I2, pk, eo, eH⟩ => ?_))
  subst eo eH
  obtain ⟨a, xs, rfl, ha, q⟩ := q1
  cases r1
  have I4 : Inv X pins σ H2 { s2 with heap := s2.heap.push { cls := .type "slice", data := .fields #[.none, .none, vk] } } := I2.kept (t' := s2.toks) fun b ob q => Heap.get?_push_of_some _ q
  obtain ⟨its, r, ht, hz⟩ := I4.list ha
  have hg : wpAny (model X.prog X.w) X.A (getItem (.ref a) (.ref s2.heap.objs.size)) (EP X pins σ Q) X.xe { s2 with heap := s2.heap.push { cls := .type "slice", data := .fields #[.none, .none, vk] } } := by
    refine wpAny_getItem_list_slice ht.isList (Heap.IsSliceOf.new ..) .none .none pk (by simp) ?_ (by rw [List.size_toArray, ← r.length]; exact hz)
    rw [PySem.W.krv_pick]
    refine ⟨.ref (s2.heap.push { cls := .type "slice", data := .fields #[.none, .none, vk] }).objs.size, _, I4.laid (t' := s2.toks) (o := .lst xs.reverse) (fun b ob q => Heap.get?_push_of_some _ q) (Nat.le_refl _) ?_, rfl, q _ (I4.hok.fresh (Nat.le_refl _))⟩
    exact ⟨by rw [List.length_reverse]; exact hz, _, 0, r.reverse, Heap.get?_push_size _ rfl⟩
  show wpAny (model X.prog X.w) X.A (subscriptTail e (.Slice none none (some st) p2) (.ref a) (.ref s2.heap.objs.size)) (EP X pins σ Q) X.xe { s2 with heap := s2.heap.push { cls := .type "slice", data := .fields #[.none, .none, vk] } }
  exact tail_any (ops := [.ref a, .ref s2.heap.objs.size]) ht.isList.typeIs slot_list_getitem.lookup hg (by with_unfolding_all rfl)
theorem pe_rL (he : PE X e te) : PE X (.Subscript e (.Slice none none (some (.UnaryOp .USub (.Constant (.int 1) i1 p1) p3)) p2) pos) (tRevL X.K te) := pe_revL (st := .UnaryOp .USub (.Constant (.int 1) i1 p1) p3) he po_m1 po_m1_eq
theorem notin_at {X : Cx} {K : PySem.W.Frag} (h : X.K = K) : OpR X (compareOp .NotIn) (rIn K true) := by
  subst h
  exact op_notIn_seq
end
end DF

namespace DF
open PySem L2
/-! ### put -/
def Tm.appl (t : Tm) (ts : List Tm) : Tm := .mk t.hd (t.args ++ ts)
def look (ps : List (Int × Tm)) : Key → Option Tm
  | .inl i => (ps.find? fun p => decide (p.1 = i)).map (·.2)
  | .inr _ => none
def sub (ps : List (Int × Tm)) (k : Key) : Tm := (look ps k).getD (.mk k [])
mutual
def Tm.put (ps : List (Int × Tm)) : Tm → Tm
  | .mk h ts => (sub ps h).appl (Tm.putL ps ts)
def Tm.putL (ps : List (Int × Tm)) : List Tm → List Tm
  | [] => []
  | t :: r => t.put ps :: Tm.putL ps r
end
theorem Tm.putL_map (ps : List (Int × Tm)) : ∀ ts : List Tm, Tm.putL ps ts = ts.map (Tm.put ps)
  | [] => rfl
  | t :: r => by rw [Tm.putL, Tm.putL_map ps r, List.map_cons]
theorem sub_nil (k : Key) : sub [] k = .mk k [] := by cases k <;> rfl
mutual
theorem Tm.put_nil : ∀ t : Tm, t.put [] = t
  | .mk h ts => by
    rw [Tm.put, Tm.putL_nil ts, sub_nil]
    rfl
theorem Tm.putL_nil : ∀ ts : List Tm, Tm.putL [] ts = ts
  | [] => rfl
  | t :: r => by rw [Tm.putL, Tm.put_nil t, Tm.putL_nil r]
end
/-! ### rows -/
def step (S : List Tm) (r : Tm × Nat) : List Tm := S.take (S.length - r.2) ++ [r.1.appl (S.drop (S.length - r.2)).reverse]
def run : List (Tm × Nat) → List Tm
  | [] => []
  | r :: rest => step (run rest) r
def Wf : List (Tm × Nat) → Prop
  | [] => True
  | r :: rest => r.2 ≤ (run rest).length ∧ Wf rest
theorem run_length : ∀ rows : List (Tm × Nat), (run rows).length ≤ rows.length
  | [] => Nat.le_refl _
  | r :: rest => by
    have h := run_length rest
    show (step (run rest) r).length ≤ rest.length + 1
    unfold step
    rw [List.length_append, List.length_take]
    show _ + 1 ≤ _
    omega
def rowsOf (f : Key → Tm) (ts : List Tm) : List (Tm × Nat) := ts.map fun t => (f t.hd, t.args.length)
theorem putL_length (ps : List (Int × Tm)) (ts : List Tm) : (Tm.putL ps ts).length = ts.length := by rw [Tm.putL_map, List.length_map]
theorem step_args (R : List Tm) (t : Tm) (as : List Tm) : step (R ++ as.reverse) (t, as.length) = R ++ [t.appl as] := by
  unfold step
  have e : (R ++ as.reverse).length - as.length = R.length := by rw [List.length_append, List.length_reverse]; omega
  rw [e, List.take_left, List.drop_left, List.reverse_reverse]
mutual
theorem run_pre (ps : List (Int × Tm)) : ∀ (t : Tm) (R : List (Tm × Nat)), Wf R → run (rowsOf (sub ps) t.pre ++ R) = run R ++ [t.put ps] ∧ Wf (rowsOf (sub ps) t.pre ++ R)
  | .mk h ts, R, hw => by
    have ih := run_preL ps ts R hw
    have e : rowsOf (sub ps) (Tm.mk h ts).pre ++ R = (sub ps h, ts.length) :: (rowsOf (sub ps) (Tm.preL ts) ++ R) := by
      rw [Tm.pre]
      rfl
    rw [e, run, ih.1, Tm.put]
    constructor
    · have := step_args (run R) (sub ps h) (Tm.putL ps ts)
      rw [putL_length] at this
      exact this
    · refine ⟨?_, ih.2⟩
      rw [ih.1, List.length_append, List.length_reverse, putL_length]
      exact Nat.le_add_left _ _
theorem run_preL (ps : List (Int × Tm)) : ∀ (ts : List Tm) (R : List (Tm × Nat)), Wf R → run (rowsOf (sub ps) (Tm.preL ts) ++ R) = run R ++ (Tm.putL ps ts).reverse ∧ Wf (rowsOf (sub ps) (Tm.preL ts) ++ R)
  | [], R, hw => by
    rw [Tm.preL, Tm.putL, List.reverse_nil, List.append_nil]
    exact ⟨rfl, hw⟩
  | t :: r, R, hw => by
    have ih := run_preL ps r R hw
    have ih2 := run_pre ps t (rowsOf (sub ps) (Tm.preL r) ++ R) ih.2
    have e : rowsOf (sub ps) (Tm.preL (t :: r)) ++ R = rowsOf (sub ps) t.pre ++ (rowsOf (sub ps) (Tm.preL r) ++ R) := by
      rw [Tm.preL]
      unfold rowsOf
      rw [List.map_append, List.append_assoc]
    rw [e, ih2.1, ih.1, Tm.putL, List.reverse_cons, List.append_assoc]
    exact ⟨rfl, ih2.2⟩
end
theorem run_all (ps : List (Int × Tm)) (t : Tm) : run (rowsOf (sub ps) t.pre) = [t.put ps] ∧ Wf (rowsOf (sub ps) t.pre) := by
  have h := run_pre ps t [] True.intro
  rw [List.append_nil] at h
  exact h
/-! ### depth -/
mutual
theorem Tm.dat_high : ∀ t : Tm, t.dat.deep ≤ 2 * t.high
  | .mk h ts => by
    rw [Tm.dat, Dt.deep, Dt.deepL, Dt.deepL, Dt.deepL, Dt.deep, Dt.deep, Tm.high]
    have h1 := Tm.datL_high ts
    omega
theorem Tm.datL_high : ∀ ts : List Tm, Dt.deepL (Tm.datL ts) ≤ 2 * Tm.highL ts
  | [] => Nat.le_refl _
  | t :: r => by
    rw [Tm.datL, Dt.deepL, Tm.highL]
    have h1 := Tm.dat_high t
    have h2 := Tm.datL_high r
    omega
end
theorem Tm.highL_append : ∀ a b : List Tm, Tm.highL (a ++ b) = max (Tm.highL a) (Tm.highL b)
  | [], b => by rw [List.nil_append, Tm.highL]; omega
  | t :: r, b => by rw [List.cons_append, Tm.highL, Tm.highL, Tm.highL_append r b]; omega
theorem Tm.appl_high (t : Tm) (ts : List Tm) : (t.appl ts).high ≤ max t.high (Tm.highL ts + 1) := by
  cases t with
  | mk h us =>
    show (Tm.mk h (us ++ ts)).high ≤ _
    rw [Tm.high, Tm.highL_append, Tm.high]
    omega
theorem sub_high {ps : List (Int × Tm)} {m : Nat} (h : ∀ p ∈ ps, p.2.high ≤ m) (hm : 1 ≤ m) (k : Key) : (sub ps k).high ≤ m := by
  unfold sub
  cases e : look ps k with
  | none =>
    show (Tm.mk k []).high ≤ m
    rw [Tm.high, Tm.highL]
    exact hm
  | some u =>
    cases k with
    | inr x => cases e
    | inl i =>
      have e : (ps.find? fun p => decide (p.1 = i)).map (·.2) = some u := e
      cases e2 : ps.find? fun p => decide (p.1 = i) with
      | none =>
        rw [e2] at e
        cases e
      | some p =>
        rw [e2] at e
        cases e
        exact h p (List.mem_of_find?_eq_some e2)
mutual
theorem Tm.put_high {ps : List (Int × Tm)} {m : Nat} (h : ∀ p ∈ ps, p.2.high ≤ m) (hm : 1 ≤ m) : ∀ t : Tm, (t.put ps).high ≤ t.high + m
  | .mk k ts => by
    rw [Tm.put, Tm.high]
    have h1 := Tm.appl_high (sub ps k) (Tm.putL ps ts)
    have h2 := sub_high h hm k
    have h3 := Tm.putL_high h hm ts
    omega
theorem Tm.putL_high {ps : List (Int × Tm)} {m : Nat} (h : ∀ p ∈ ps, p.2.high ≤ m) (hm : 1 ≤ m) : ∀ ts : List Tm, Tm.highL (Tm.putL ps ts) ≤ Tm.highL ts + m
  | [] => Nat.zero_le _
  | t :: r => by
    rw [Tm.putL, Tm.highL, Tm.highL]
    have h1 := Tm.put_high h hm t
    have h2 := Tm.putL_high h hm r
    omega
end
/-! ### parts and rows in the heap -/
def partD (p : Int × Tm) : Dt := .tup [.key (.inl p.1), p.2.dat]
def rowD (r : Tm × Nat) : Dt := .tup [r.1.dat, .key (.inl (r.2 : Int))]
theorem partD_inv {K : PySem.W.Frag} {H : Hp} {v : V} {p : Int × Tm} (h : DAt K H v (partD p)) : ∃ a u, v = .ref a ∧ SqT K H a [.int p.1, u] ∧ TAt K H u p.2 := by
  obtain ⟨a, vs, rfl, s, q, z⟩ := h.tup_inv
  cases q with
  | cons q1 q =>
    cases q with
    | cons q2 q =>
      cases q
      rw [q1.key_inv] at s
      exact ⟨a, _, rfl, s, q2⟩
theorem rowD_inv {K : PySem.W.Frag} {H : Hp} {v : V} {r : Tm × Nat} (h : DAt K H v (rowD r)) : ∃ a u, v = .ref a ∧ SqT K H a [u, .int (r.2 : Int)] ∧ TAt K H u r.1 := by
  obtain ⟨a, vs, rfl, s, q, z⟩ := h.tup_inv
  cases q with
  | cons q1 q =>
    cases q with
    | cons q2 q =>
      cases q
      rw [q2.key_inv] at s
      exact ⟨a, _, rfl, s, q1⟩
theorem partD_of {K : PySem.W.Frag} {H : Hp} {a : Addr} {u : V} {p : Int × Tm} (s : SqT K H a [.int p.1, u]) (h : TAt K H u p.2) : DAt K H (.ref a) (partD p) := .tup s (.cons (.key (k := .inl p.1)) (.cons h .nil)) (by show 2 ≤ 1000000; decide)
theorem rowD_of {K : PySem.W.Frag} {H : Hp} {a : Addr} {u : V} {r : Tm × Nat} (s : SqT K H a [u, .int (r.2 : Int)]) (h : TAt K H u r.1) : DAt K H (.ref a) (rowD r) := .tup s (.cons h (.cons (.key (k := .inl (r.2 : Int))) .nil)) (by show 2 ≤ 1000000; decide)
end DF

namespace DF
open PySem L2
/-! ### data as the model's own -/
mutual
def Dt.py : Dt → PyData
  | .non => .none
  | .key (.inl i) => .int i
  | .key (.inr x) => .str x
  | .tup l => .tuple (Dt.pyL l)
def Dt.pyL : List Dt → List PyData
  | [] => []
  | d :: r => d.py :: Dt.pyL r
end
mutual
theorem DAt.dp {K : PySem.W.Frag} {H : Hp} : ∀ {v : V} {d : Dt}, DAt K H v d → Dp K H v d.py
  | _, _, .non => .non
  | _, .key (.inl i), .key => .int i
  | _, .key (.inr x), .key => .str x
  | _, _, .tup h t _ => by
    rw [Dt.py]
    exact .tup h (DsAt.dp t)
theorem DsAt.dp {K : PySem.W.Frag} {H : Hp} : ∀ {vs : List V} {ds : List Dt}, DsAt K H vs ds → DpAll K H vs (Dt.pyL ds)
  | _, _, .nil => by
    rw [Dt.pyL]
    exact .nil
  | _, _, .cons a t => by
    rw [Dt.pyL]
    exact .cons (DAt.dp a) (DsAt.dp t)
end
mutual
theorem eqv_py : ∀ d e : Dt, PyData.eqv d.py e.py = true ↔ d = e
  | .non, .non => by simp [Dt.py, PyData.eqv]
  | .non, .key (.inl i) => by simp [Dt.py, PyData.eqv]
  | .non, .key (.inr i) => by simp [Dt.py, PyData.eqv]
  | .non, .tup l => by simp [Dt.py, PyData.eqv]
  | .key (.inl i), .non => by simp [Dt.py, PyData.eqv]
  | .key (.inl i), .key (.inl j) => by simp [Dt.py, PyData.eqv]
  | .key (.inl i), .key (.inr j) => by simp [Dt.py, PyData.eqv]
  | .key (.inl i), .tup l => by simp [Dt.py, PyData.eqv]
  | .key (.inr i), .non => by simp [Dt.py, PyData.eqv]
  | .key (.inr i), .key (.inl j) => by simp [Dt.py, PyData.eqv]
  | .key (.inr i), .key (.inr j) => by simp [Dt.py, PyData.eqv]
  | .key (.inr i), .tup l => by simp [Dt.py, PyData.eqv]
  | .tup l, .non => by simp [Dt.py, PyData.eqv]
  | .tup l, .key (.inl j) => by simp [Dt.py, PyData.eqv]
  | .tup l, .key (.inr j) => by simp [Dt.py, PyData.eqv]
  | .tup l, .tup m => by
    rw [Dt.py, Dt.py, PyData.eqv, eqv_pyL l m]
    constructor
    · intro h; rw [h]
    · intro h; cases h; rfl
theorem eqv_pyL : ∀ l m : List Dt, PyData.eqvAll (Dt.pyL l) (Dt.pyL m) = true ↔ l = m
  | [], [] => by simp [Dt.pyL, PyData.eqvAll]
  | [], e :: m => by simp [Dt.pyL, PyData.eqvAll]
  | d :: l, [] => by simp [Dt.pyL, PyData.eqvAll]
  | d :: l, e :: m => by
    rw [Dt.pyL, Dt.pyL, PyData.eqvAll, Bool.and_eq_true, eqv_py d e, eqv_pyL l m]
    constructor
    · rintro ⟨h1, h2⟩; rw [h1, h2]
    · intro h; cases h; exact ⟨rfl, rfl⟩
end
mutual
theorem Dt.py_depth : ∀ d : Dt, d.py.depth ≤ d.deep
  | .non => by
    rw [Dt.py, PyData.depth]
    exact Nat.zero_le _
  | .key (.inl i) => by
    rw [Dt.py, PyData.depth]
    exact Nat.zero_le _
  | .key (.inr x) => by
    rw [Dt.py, PyData.depth]
    exact Nat.zero_le _
  | .tup l => by
    rw [Dt.py, PyData.depth, Dt.deep]
    exact Nat.succ_le_succ (Dt.pyL_depth l)
theorem Dt.pyL_depth : ∀ l : List Dt, PyData.depthAll (Dt.pyL l) ≤ Dt.deepL l
  | [] => by
    rw [Dt.pyL, PyData.depthAll]
    exact Nat.zero_le _
  | d :: r => by
    rw [Dt.pyL, PyData.depthAll, Dt.deepL]
    have h1 := Dt.py_depth d
    have h2 := Dt.pyL_depth r
    omega
end
/-- a head that can be laid -/
def KOk : Key → Prop
  | .inl _ => True
  | .inr x => PyData.strOk x = true
mutual
def Dt.Ok : Dt → Prop
  | .non => True
  | .key k => KOk k
  | .tup l => Dt.OkL l
def Dt.OkL : List Dt → Prop
  | [] => True
  | d :: r => d.Ok ∧ Dt.OkL r
end
mutual
theorem Dt.can : ∀ d : Dt, d.Ok → d.py.canLay0 = true
  | .non, _ => by rw [Dt.py, PyData.canLay0]
  | .key (.inl i), _ => by rw [Dt.py, PyData.canLay0]
  | .key (.inr x), h => by
    rw [Dt.py, PyData.canLay0]
    rw [Dt.Ok] at h
    exact h
  | .tup l, h => by
    rw [Dt.Ok] at h
    rw [Dt.py, PyData.canLay0, Dt.canL l h]
theorem Dt.canL : ∀ l : List Dt, Dt.OkL l → PyData.canLayAll0 (Dt.pyL l) = true
  | [], _ => by rw [Dt.pyL, PyData.canLayAll0]
  | d :: r, h => by
    rw [Dt.OkL] at h
    rw [Dt.pyL, PyData.canLayAll0, Dt.can d h.1, Dt.canL r h.2]
    rfl
end
theorem Dt.okL_of : ∀ {l : List Dt}, (∀ d ∈ l, d.Ok) → Dt.OkL l
  | [], _ => by rw [Dt.OkL]; trivial
  | d :: r, h => by
    rw [Dt.OkL]
    exact ⟨h d (List.mem_cons_self ..), Dt.okL_of fun x hx => h x (List.mem_cons_of_mem _ hx)⟩
mutual
theorem Tm.dat_ok : ∀ t : Tm, t.All KOk → t.dat.Ok
  | .mk h ts, ha => by
    rw [Tm.dat, Dt.Ok, Dt.OkL, Dt.OkL, Dt.OkL, Dt.Ok, Dt.Ok]
    exact ⟨ha h (by rw [Tm.heads]; exact List.mem_cons_self ..), Tm.datL_ok ts (fun k hk => ha k (by rw [Tm.heads]; exact List.mem_cons_of_mem _ hk)), True.intro⟩
theorem Tm.datL_ok : ∀ ts : List Tm, (∀ k ∈ Tm.headsL ts, KOk k) → Dt.OkL (Tm.datL ts)
  | [], _ => by rw [Tm.datL, Dt.OkL]; trivial
  | t :: r, h => by
    rw [Tm.datL, Dt.OkL]
    exact ⟨Tm.dat_ok t (fun k hk => h k (by rw [Tm.headsL]; exact List.mem_append_left _ hk)), Tm.datL_ok r (fun k hk => h k (by rw [Tm.headsL]; exact List.mem_append_right _ hk))⟩
end
theorem Dt.shaped {d : Dt} (h : d.Ok) (hd : d.deep ≤ 64) : SeqAt.shaped d.py = true := by
  unfold SeqAt.shaped
  rw [Dt.can d h, Bool.true_and]
  exact decide_eq_true (Nat.le_trans (Dt.py_depth d) hd)
/-! ### the shape of a term -/
def shD (t : Tm) : Dt := .tup [.key t.hd, .key (.inl (t.args.length : Int))]
theorem sh_rows (f : Key → Tm) : ∀ {a b : List Tm}, a.map shD = b.map shD → rowsOf f a = rowsOf f b
  | [], [], _ => rfl
  | [], _ :: _, h => by cases h
  | _ :: _, [], h => by cases h
  | x :: a, y :: b, h => by
    rw [List.map_cons, List.map_cons] at h
    obtain ⟨h1, h2⟩ := List.cons.inj h
    unfold shD at h1
    have e1 : x.hd = y.hd := by
      have := h1
      simp only [Dt.tup.injEq, List.cons.injEq, Dt.key.injEq] at this
      exact this.1
    have e2 : x.args.length = y.args.length := by
      have := h1
      simp only [Dt.tup.injEq, List.cons.injEq, Dt.key.injEq, Sum.inl.injEq] at this
      omega
    have ih := sh_rows f h2
    unfold rowsOf at ih ⊢
    rw [List.map_cons, List.map_cons, ih, e1, e2]
theorem sh_inj {t u : Tm} (h : t.pre.map shD = u.pre.map shD) : t = u := by
  have h1 := sh_rows (sub []) h
  have a := (run_all [] t).1
  have b := (run_all [] u).1
  rw [h1, b, Tm.put_nil, Tm.put_nil] at a
  exact (List.cons.inj a).1.symm
mutual
theorem pre_heads : ∀ (t u : Tm), u ∈ t.pre → u.hd ∈ t.heads
  | t, u, hu => by
    rw [← Tm.pre_heads t]
    exact List.mem_map.mpr ⟨u, hu, rfl⟩
end
theorem sh_ok {t : Tm} (h : t.All KOk) : Dt.OkL (t.pre.map shD) := by
  refine Dt.okL_of fun d hd => ?_
  obtain ⟨u, hu, rfl⟩ := List.mem_map.mp hd
  unfold shD
  rw [Dt.Ok, Dt.OkL, Dt.OkL, Dt.OkL, Dt.Ok, Dt.Ok]
  exact ⟨h _ (pre_heads t u hu), True.intro, True.intro⟩
theorem sh_deep : ∀ l : List Tm, Dt.deepL (l.map shD) ≤ 1
  | [] => by rw [List.map_nil, Dt.deepL]; exact Nat.zero_le _
  | t :: r => by
    rw [List.map_cons, Dt.deepL]
    have h1 := sh_deep r
    have h2 : (shD t).deep ≤ 1 := by
      unfold shD
      rw [Dt.deep, Dt.deepL, Dt.deepL, Dt.deepL, Dt.deep, Dt.deep]
      omega
    omega
theorem sh_shaped {t : Tm} (h : t.All KOk) : SeqAt.shaped (.list (Dt.pyL (t.pre.map shD))) = true := by
  unfold SeqAt.shaped
  rw [PyData.canLay0, Dt.canL _ (sh_ok h), Bool.true_and, PyData.depth]
  have h1 := Dt.pyL_depth (t.pre.map shD)
  have h2 := sh_deep t.pre
  exact decide_eq_true (by omega)
/-! ### meetings -/
def Tm.front (t : Tm) (c : Nat) : Tm := .mk t.hd (t.args.take (t.args.length - c))
def cnt (p t : Tm) : Nat := min p.args.length t.args.length
def kids (p t : Tm) : List (Tm × Tm) := (p.args.drop (p.args.length - cnt p t)).zip (t.args.drop (t.args.length - cnt p t))
inductive Meets : List (Tm × Tm) → List (Tm × Tm) → Prop
  | nil : Meets [] []
  | cons {p t : Tm} {rest rows : List (Tm × Tm)} : Meets (kids p t ++ rest) rows → Meets ((p, t) :: rest) ((p.front (cnt p t), t.front (cnt p t)) :: rows)
def lone : Tm → Option Int
  | .mk (.inl i) [] => some i
  | _ => none
/-- the rows hold, from the parts ps to the parts ps' -/
inductive Runs : List (Tm × Tm) → List (Int × Tm) → List (Int × Tm) → Prop
  | nil {ps : List (Int × Tm)} : Runs [] ps ps
  | old {i : Int} {q : Tm} {rows : List (Tm × Tm)} {ps ps' : List (Int × Tm)} : look ps (.inl i) = some q → Runs rows ps ps' → Runs ((.mk (.inl i) [], q) :: rows) ps ps'
  | new {i : Int} {q : Tm} {rows : List (Tm × Tm)} {ps ps' : List (Int × Tm)} : look ps (.inl i) = none → Runs rows (ps ++ [(i, q)]) ps' → Runs ((.mk (.inl i) [], q) :: rows) ps ps'
  | same {q : Tm} {rows : List (Tm × Tm)} {ps ps' : List (Int × Tm)} : lone q = none → Runs rows ps ps' → Runs ((q, q) :: rows) ps ps'
theorem look_app (ps qs : List (Int × Tm)) (k : Key) (u : Tm) (h : look ps k = some u) : look (ps ++ qs) k = some u := by
  cases k with
  | inr x => cases h
  | inl i =>
    have h : (ps.find? fun p => decide (p.1 = i)).map (·.2) = some u := h
    show ((ps ++ qs).find? fun p => decide (p.1 = i)).map (·.2) = some u
    rw [List.find?_append]
    cases e : ps.find? fun p => decide (p.1 = i) with
    | none => rw [e] at h; cases h
    | some p => rw [e] at h; exact h
theorem look_new (ps : List (Int × Tm)) (i : Int) (q : Tm) (h : look ps (.inl i) = none) : look (ps ++ [(i, q)]) (.inl i) = some q := by
  have h : (ps.find? fun p => decide (p.1 = i)).map (·.2) = none := h
  show ((ps ++ [(i, q)]).find? fun p => decide (p.1 = i)).map (·.2) = some q
  rw [List.find?_append]
  cases e : ps.find? fun p => decide (p.1 = i) with
  | none =>
    rw [Option.none_or, List.find?_cons, decide_eq_true rfl]
    rfl
  | some p => rw [e] at h; cases h
theorem look_mem {ps : List (Int × Tm)} {i : Int} : look ps (.inl i) = none ↔ i ∉ ps.map (·.1) := by
  show (ps.find? fun p => decide (p.1 = i)).map (·.2) = none ↔ _
  rw [Option.map_eq_none_iff, List.find?_eq_none]
  constructor
  · intro h hm
    obtain ⟨p, hp, e⟩ := List.mem_map.mp hm
    exact h p hp (decide_eq_true e)
  · intro h p hp he
    exact h (List.mem_map.mpr ⟨p, hp, of_decide_eq_true he⟩)
theorem Runs.keep {rows : List (Tm × Tm)} {ps ps' : List (Int × Tm)} (h : Runs rows ps ps') : ∀ (k : Key) (u : Tm), look ps k = some u → look ps' k = some u := by
  induction h with
  | nil => exact fun _ _ h => h
  | old _ _ ih => exact ih
  | new h _ ih => exact fun k u e => ih k u (look_app _ _ k u e)
  | same _ _ ih => exact ih
theorem Runs.nodup {rows : List (Tm × Tm)} {ps ps' : List (Int × Tm)} (h : Runs rows ps ps') : (ps.map (·.1)).Nodup → (ps'.map (·.1)).Nodup := by
  induction h with
  | nil => exact id
  | old _ _ ih => exact ih
  | new h _ ih =>
    intro hn
    refine ih ?_
    rw [List.map_append]
    refine List.nodup_append.mpr ⟨hn, by simp, fun a ha b hb => ?_⟩
    rw [List.map_cons, List.map_nil, List.mem_singleton] at hb
    intro e
    rw [e, hb] at ha
    exact look_mem.mp h ha
  | same _ _ ih => exact ih
end DF

namespace DF
open PySem L2
def unkK : Key → Bool
  | .inl _ => true
  | .inr _ => false
def hdsS (st : List (Tm × Tm)) : List Key := Tm.headsL (st.map (·.1))
def keysP (ps : List (Int × Tm)) : List Key := ps.map fun p => .inl p.1
theorem zip_put (ps : List (Int × Tm)) : ∀ {ts ws : List Tm}, ts.length = ws.length → (∀ x ∈ ts.zip ws, x.1.put ps = x.2) → Tm.putL ps ts = ws
  | [], [], _, _ => rfl
  | [], _ :: _, h, _ => by cases h
  | _ :: _, [], h, _ => by cases h
  | t :: ts, w :: ws, h, hp => by
    rw [Tm.putL, hp (t, w) (List.mem_cons_self ..), zip_put ps (Nat.succ.inj h) fun x hx => hp x (List.mem_cons_of_mem _ hx)]
theorem zip_fst : ∀ {ts ws : List Tm}, ts.length = ws.length → (ts.zip ws).map (·.1) = ts
  | [], [], _ => rfl
  | [], _ :: _, h => by cases h
  | _ :: _, [], h => by cases h
  | t :: ts, w :: ws, h => by
    rw [List.zip_cons_cons, List.map_cons, zip_fst (Nat.succ.inj h)]
theorem mem_keys {ps : List (Int × Tm)} {i : Int} {q : Tm} (h : look ps (.inl i) = some q) : (Sum.inl i : Key) ∈ keysP ps := by
  by_cases hm : i ∈ ps.map (·.1)
  · obtain ⟨p, hp, e⟩ := List.mem_map.mp hm
    exact List.mem_map.mpr ⟨p, hp, by rw [e]⟩
  · rw [look_mem.mpr hm] at h
    cases h
theorem not_keys {ps : List (Int × Tm)} {i : Int} (h : look ps (.inl i) = none) : (Sum.inl i : Key) ∉ keysP ps := by
  intro hm
  obtain ⟨p, hp, e⟩ := List.mem_map.mp hm
  exact look_mem.mp h (List.mem_map.mpr ⟨p, hp, Sum.inl.inj e⟩)
theorem front_one {p t : Tm} {i : Int} (hm : p.front (cnt p t) = .mk (.inl i) []) : p.hd = .inl i ∧ p.args.length ≤ t.args.length ∧ cnt p t = p.args.length := by
  unfold Tm.front at hm
  simp only [Tm.mk.injEq] at hm
  obtain ⟨h1, h2⟩ := hm
  have h3 := congrArg List.length h2
  rw [List.length_take, List.length_nil] at h3
  unfold cnt at h3 ⊢
  refine ⟨h1, ?_, ?_⟩ <;> omega
theorem put_eq (ps : List (Int × Tm)) (p : Tm) : p.put ps = (sub ps p.hd).appl (Tm.putL ps p.args) := by
  cases p with
  | mk h ts => rw [Tm.put]; rfl
theorem sound {stack rows : List (Tm × Tm)} (h : Meets stack rows) : ∀ {ps ps' : List (Int × Tm)}, Runs rows ps ps' → (∀ x ∈ stack, x.1.put ps' = x.2) ∧ keysP ps' = ((hdsS stack).filter unkK).foldl addK (keysP ps) := by
  induction h with
  | nil =>
    intro ps ps' hr
    cases hr
    exact ⟨fun x hx => absurd hx List.not_mem_nil, rfl⟩
  | @cons p t rest rows hmeet ih =>
    intro ps ps' hr
    have hds : ∀ {ts ws : List Tm}, ts.length = ws.length → hdsS (ts.zip ws ++ rest) = Tm.headsL ts ++ hdsS rest := by
      intro ts ws hl
      unfold hdsS
      rw [List.map_append, Tm.headsL_append, zip_fst hl]
    have hd0 : hdsS ((p, t) :: rest) = p.hd :: (Tm.headsL p.args ++ hdsS rest) := by
      unfold hdsS
      rw [List.map_cons, Tm.headsL]
      cases p with
      | mk h ts => rw [Tm.heads]; rfl
    generalize hm : p.front (cnt p t) = m at hr
    generalize hq : t.front (cnt p t) = q at hr
    have unk : ∀ (i : Int) (ps0 : List (Int × Tm)), p.front (cnt p t) = .mk (.inl i) [] → look ps' (.inl i) = some q → Runs rows ps0 ps' → keysP ps0 = addK (keysP ps) (.inl i) →
        (∀ x ∈ (p, t) :: rest, x.1.put ps' = x.2) ∧ keysP ps' = ((hdsS ((p, t) :: rest)).filter unkK).foldl addK (keysP ps) := by
      intro i ps0 hm hl hr2 hk
      obtain ⟨e1, e2, e3⟩ := front_one hm
      obtain ⟨i1, i2⟩ := ih hr2
      have hkid : kids p t = p.args.zip (t.args.drop (t.args.length - p.args.length)) := by
        unfold kids
        rw [e3, Nat.sub_self, List.drop_zero]
      have hlen : p.args.length = (t.args.drop (t.args.length - p.args.length)).length := by
        rw [List.length_drop]
        omega
      constructor
      · intro x hx
        rcases List.mem_cons.mp hx with rfl | hx
        · show p.put ps' = t
          have hz := zip_put ps' hlen fun x hx => i1 x (by rw [hkid]; exact List.mem_append_left _ hx)
          rw [put_eq, hz, e1]
          unfold sub
          rw [hl, Option.getD_some, ← hq, e3]
          unfold Tm.appl Tm.front
          show Tm.mk t.hd (t.args.take (t.args.length - p.args.length) ++ t.args.drop (t.args.length - p.args.length)) = t
          rw [List.take_append_drop]
          cases t with
          | mk g us => rfl
        · exact i1 x (List.mem_append_right _ hx)
      · rw [i2, hkid, hds hlen, hd0, e1, List.filter_cons_of_pos (by rfl), List.foldl_cons, hk]
    cases hr with
    | old hl hr2 =>
      rename_i i
      refine unk i ps hm (hr2.keep _ _ hl) hr2 ?_
      unfold addK
      rw [if_pos (mem_keys hl)]
    | new hl hr2 =>
      rename_i i
      refine unk i _ hm (hr2.keep _ _ (look_new _ _ _ hl)) hr2 ?_
      unfold addK
      rw [if_neg (not_keys hl)]
      unfold keysP
      rw [List.map_append]
      rfl
    | same hlone hr2 =>
      obtain ⟨i1, i2⟩ := ih hr2
      have hh : p.hd = t.hd ∧ p.args.take (p.args.length - cnt p t) = t.args.take (t.args.length - cnt p t) := by
        have := hm.trans hq.symm
        unfold Tm.front at this
        simp only [Tm.mk.injEq] at this
        exact this
      obtain ⟨h1, h2⟩ := hh
      have h3 := congrArg List.length h2
      rw [List.length_take, List.length_take] at h3
      have hc : cnt p t = min p.args.length t.args.length := rfl
      have e1 : p.args.length = t.args.length := by omega
      have e3 : cnt p t = p.args.length := by omega
      have hkid : kids p t = p.args.zip t.args := by
        unfold kids
        rw [e3, ← e1, Nat.sub_self, List.drop_zero, List.drop_zero]
      have hm2 : Tm.mk p.hd [] = m := by
        rw [← hm, e3]
        unfold Tm.front
        rw [Nat.sub_self, List.take_zero]
      obtain ⟨x, hx⟩ : ∃ x, p.hd = .inr x := by
        cases hp : p.hd with
        | inr x => exact ⟨x, rfl⟩
        | inl i =>
          rw [← hm2, hp] at hlone
          cases hlone
      constructor
      · intro y hy
        rcases List.mem_cons.mp hy with rfl | hy
        · show p.put ps' = t
          have hz := zip_put ps' e1 fun x hx => i1 x (by rw [hkid]; exact List.mem_append_left _ hx)
          rw [put_eq, hz, hx]
          show Tm.mk (.inr x) ([] ++ t.args) = t
          rw [List.nil_append, ← hx, h1]
          cases t with
          | mk g us => rfl
        · exact i1 y (List.mem_append_right _ hy)
      · rw [i2, hkid, hds e1, hd0, hx, List.filter_cons_of_neg (by intro z; cases z)]
def RowOk (θ : List (Int × Tm)) (r : Tm × Tm) : Prop := (∀ i, r.1 = .mk (.inl i) [] → r.2 = sub θ (.inl i)) ∧ (lone r.1 = none → r.1 = r.2)
theorem complete {stack rows : List (Tm × Tm)} {θ : List (Int × Tm)} (h : Meets stack rows) : (∀ x ∈ stack, x.2 = x.1.put θ) → ∀ r ∈ rows, RowOk θ r := by
  induction h with
  | nil => exact fun _ r hr => absurd hr List.not_mem_nil
  | @cons p t rest rows hmeet ih =>
    intro hs r hr
    have ht : t = p.put θ := hs (p, t) (List.mem_cons_self ..)
    have ht2 : t.args = (sub θ p.hd).args ++ Tm.putL θ p.args := by
      rw [ht, put_eq]
      rfl
    have ht1 : t.hd = (sub θ p.hd).hd := by
      rw [ht, put_eq]
      rfl
    have hl : t.args.length = (sub θ p.hd).args.length + p.args.length := by rw [ht2, List.length_append, putL_length]
    have hc : cnt p t = p.args.length := by
      unfold cnt
      omega
    have hsub : t.args.length - p.args.length = (sub θ p.hd).args.length := by omega
    rcases List.mem_cons.mp hr with rfl | hr
    · have f1 : p.front (cnt p t) = .mk p.hd [] := by
        rw [hc]
        unfold Tm.front
        rw [Nat.sub_self, List.take_zero]
      have f2 : t.front (cnt p t) = sub θ p.hd := by
        rw [hc]
        unfold Tm.front
        rw [hsub, ht1, ht2, List.take_left]
        cases sub θ p.hd with
        | mk g us => rfl
      refine ⟨fun i e => ?_, fun hlone => ?_⟩
      · show t.front (cnt p t) = _
        have e : p.front (cnt p t) = .mk (.inl i) [] := e
        rw [f1] at e
        simp only [Tm.mk.injEq] at e
        rw [f2, e.1]
      · show p.front (cnt p t) = t.front (cnt p t)
        have hlone : lone (p.front (cnt p t)) = none := hlone
        rw [f1] at hlone
        rw [f1, f2]
        cases hp : p.hd with
        | inl i =>
          rw [hp] at hlone
          cases hlone
        | inr x => rfl
    · refine ih (fun x hx => ?_) r hr
      rcases List.mem_append.mp hx with hx | hx
      · have hk : kids p t = p.args.zip (Tm.putL θ p.args) := by
          unfold kids
          rw [hc, Nat.sub_self, List.drop_zero, hsub, ht2, List.drop_left]
        rw [hk, Tm.putL_map, List.zip_map_right] at hx
        obtain ⟨y, hy, rfl⟩ := List.mem_map.mp hx
        have hy2 : ∀ {l : List Tm} {y : Tm × Tm}, y ∈ l.zip l → y.1 = y.2 := by
          intro l
          induction l with
          | nil => intro y hy; exact absurd hy List.not_mem_nil
          | cons a l ih =>
            intro y hy
            rw [List.zip_cons_cons] at hy
            rcases List.mem_cons.mp hy with rfl | hy
            · rfl
            · exact ih hy
        show y.2.put θ = y.1.put θ
        rw [hy2 hy]
      · exact hs x (List.mem_cons_of_mem _ hx)
theorem look_snoc {ps : List (Int × Tm)} {i j : Int} {q u : Tm} (h : look (ps ++ [(i, q)]) (.inl j) = some u) : look ps (.inl j) = some u ∨ (j = i ∧ u = q) := by
  have h : ((ps ++ [(i, q)]).find? fun p => decide (p.1 = j)).map (·.2) = some u := h
  rw [List.find?_append] at h
  show (ps.find? fun p => decide (p.1 = j)).map (·.2) = some u ∨ _
  cases e : ps.find? fun p => decide (p.1 = j) with
  | some p =>
    rw [e] at h
    exact .inl h
  | none =>
    rw [e, Option.none_or, List.find?_cons] at h
    by_cases hij : i = j
    · rw [decide_eq_true hij] at h
      exact .inr ⟨hij.symm, (Option.some.inj h).symm⟩
    · rw [decide_eq_false hij] at h
      cases h
theorem runs_con {θ : List (Int × Tm)} {rows : List (Tm × Tm)} {ps ps' : List (Int × Tm)} (h : Runs rows ps ps') : (∀ r ∈ rows, RowOk θ r) → (∀ i u, look ps (.inl i) = some u → u = sub θ (.inl i)) → ∀ i u, look ps' (.inl i) = some u → u = sub θ (.inl i) := by
  induction h with
  | nil => exact fun _ h => h
  | old _ _ ih => exact fun h => ih fun r hr => h r (List.mem_cons_of_mem _ hr)
  | new hn _ ih =>
    intro h hc
    refine ih (fun r hr => h r (List.mem_cons_of_mem _ hr)) fun i u e => ?_
    rcases look_snoc e with e | ⟨rfl, rfl⟩
    · exact hc i u e
    · exact (h _ (List.mem_cons_self ..)).1 _ rfl
  | same _ _ ih => exact fun h => ih fun r hr => h r (List.mem_cons_of_mem _ hr)
theorem Runs.app {r1 r2 : List (Tm × Tm)} {a b c : List (Int × Tm)} (h : Runs r1 a b) : Runs r2 b c → Runs (r1 ++ r2) a c := by
  induction h with
  | nil => exact id
  | old h _ ih => exact fun x => .old h (ih x)
  | new h _ ih => exact fun x => .new h (ih x)
  | same h _ ih => exact fun x => .same h (ih x)
end DF

namespace DF
open PySem L2
theorem zip_app {α β : Type} : ∀ {a : List α} {b : List β} {c : List α} {d : List β}, a.length = b.length → (a ++ c).zip (b ++ d) = a.zip b ++ c.zip d
  | [], [], _, _, _ => rfl
  | [], _ :: _, _, _, h => by cases h
  | _ :: _, [], _, _, h => by cases h
  | x :: a, y :: b, c, d, h => by
    rw [List.cons_append, List.cons_append, List.zip_cons_cons, zip_app (Nat.succ.inj h), List.zip_cons_cons, List.cons_append]
theorem rev_zip {α β : Type} : ∀ {a : List α} {b : List β}, a.length = b.length → a.reverse.zip b.reverse = (a.zip b).reverse
  | [], [], _ => rfl
  | [], _ :: _, h => by cases h
  | _ :: _, [], h => by cases h
  | x :: a, y :: b, h => by
    have h := Nat.succ.inj h
    rw [List.reverse_cons, List.reverse_cons, zip_app (by rw [List.length_reverse, List.length_reverse]; exact h), rev_zip h]
    show (a.zip b).reverse ++ [(x, y)] = ((x, y) :: a.zip b).reverse
    rw [List.reverse_cons]
theorem zip_rev {α β : Type} (a : List α) (b : List β) : (a.reverse.zip b.reverse).reverse = (a.drop (a.length - min a.length b.length)).zip (b.drop (b.length - min a.length b.length)) := by
  rw [List.zip_eq_zip_take_min, List.length_reverse, List.length_reverse, List.take_reverse, List.take_reverse, rev_zip, List.reverse_reverse]
  rw [List.length_drop, List.length_drop]
  omega
def pairD (p : Tm × Tm) : Dt := .tup [p.1.dat, p.2.dat]
def mrD (r : (Tm × Tm) × Nat) : Dt := .tup [r.1.1.dat, r.1.2.dat, .key (.inl (r.2 : Int))]
theorem pairD_inv {K : PySem.W.Frag} {H : Hp} {v : V} {p : Tm × Tm} (h : DAt K H v (pairD p)) : ∃ a u x, v = .ref a ∧ SqT K H a [u, x] ∧ TAt K H u p.1 ∧ TAt K H x p.2 := by
  obtain ⟨a, vs, rfl, s, q, z⟩ := h.tup_inv
  cases q with
  | cons q1 q =>
    cases q with
    | cons q2 q =>
      cases q
      exact ⟨a, _, _, rfl, s, q1, q2⟩
theorem mrD_inv {K : PySem.W.Frag} {H : Hp} {v : V} {r : (Tm × Tm) × Nat} (h : DAt K H v (mrD r)) : ∃ a u x, v = .ref a ∧ SqT K H a [u, x, .int (r.2 : Int)] ∧ TAt K H u r.1.1 ∧ TAt K H x r.1.2 := by
  obtain ⟨a, vs, rfl, s, q, z⟩ := h.tup_inv
  cases q with
  | cons q1 q =>
    cases q with
    | cons q2 q =>
      cases q with
      | cons q3 q =>
        cases q
        rw [q3.key_inv] at s
        exact ⟨a, _, _, rfl, s, q1, q2⟩
theorem pairs_at {K : PySem.W.Frag} {H : Hp} : ∀ {ps qs : List Tm} {ts : List Addr} {xs ys : List V}, Paired (fun (t : Addr) (q : V × V) => H t = some (.tup [q.1, q.2])) ts (xs.zip ys) → DsAt K H xs (ps.map Tm.dat) → DsAt K H ys (qs.map Tm.dat) → DsAt K H (ts.map V.ref) ((ps.zip qs).map pairD)
  | [], qs, ts, xs, ys, hp, h1, h2 => by
    cases h1
    cases hp
    exact .nil
  | _ :: _, [], ts, xs, ys, hp, h1, h2 => by
    cases h2
    cases h1
    cases hp
    exact .nil
  | p :: ps, q :: qs, ts, xs, ys, hp, h1, h2 => by
    rw [List.map_cons] at h1 h2
    cases h1 with
    | cons a1 a2 =>
      cases h2 with
      | cons b1 b2 =>
        rw [List.zip_cons_cons] at hp
        cases hp with
        | cons c1 c2 =>
          rw [List.zip_cons_cons, List.map_cons, List.map_cons]
          exact .cons (.tup (SqT.of c1) (.cons a1 (.cons b1 .nil)) (by show 2 ≤ 1000000; decide)) (pairs_at c2 a2 b2)
theorem paired_len {α β : Type} {F : α → β → Prop} : ∀ {xs : List α} {ys : List β}, Paired F xs ys → xs.length = ys.length
  | _, _, .nil => rfl
  | _, _, .cons _ t => by rw [List.length_cons, List.length_cons, paired_len t]
theorem sizeL_drop : ∀ (ts : List Tm) (n : Nat), Tm.sizeL (ts.drop n) ≤ Tm.sizeL ts
  | ts, 0 => Nat.le_refl _
  | [], _ + 1 => Nat.le_refl _
  | t :: r, n + 1 => by
    rw [List.drop_succ_cons, Tm.sizeL]
    have := sizeL_drop r n
    omega
theorem sizeL_zip : ∀ (ts ws : List Tm), Tm.sizeL ((ts.zip ws).map (·.1)) ≤ Tm.sizeL ts
  | [], _ => Nat.le_refl _
  | _ :: _, [] => Nat.zero_le _
  | t :: ts, w :: ws => by
    rw [List.zip_cons_cons, List.map_cons, Tm.sizeL, Tm.sizeL]
    have := sizeL_zip ts ws
    show t.size + Tm.sizeL ((ts.zip ws).map (·.1)) ≤ t.size + Tm.sizeL ts
    omega
theorem size_args (p : Tm) : p.size = Tm.sizeL p.args + 1 := by
  cases p with
  | mk h ts => rw [Tm.size]; rfl
theorem kids_size (p t : Tm) : Tm.sizeL ((kids p t).map (·.1)) + 1 ≤ p.size := by
  have h1 := sizeL_zip (p.args.drop (p.args.length - cnt p t)) (t.args.drop (t.args.length - cnt p t))
  have h2 := sizeL_drop p.args (p.args.length - cnt p t)
  rw [size_args p]
  unfold kids
  omega
theorem Meets.all {Pr : Tm → Prop} (hf : ∀ t c, Pr t → Pr (t.front c)) (ha : ∀ t, Pr t → ∀ x ∈ t.args, Pr x) {stack rows : List (Tm × Tm)} (h : Meets stack rows) : (∀ x ∈ stack, Pr x.1 ∧ Pr x.2) → ∀ r ∈ rows, Pr r.1 ∧ Pr r.2 := by
  induction h with
  | nil => exact fun _ r hr => absurd hr List.not_mem_nil
  | @cons p t rest rows hm ih =>
    intro hs r hr
    have h0 := hs (p, t) (List.mem_cons_self ..)
    rcases List.mem_cons.mp hr with rfl | hr
    · exact ⟨hf _ _ h0.1, hf _ _ h0.2⟩
    · refine ih (fun x hx => ?_) r hr
      rcases List.mem_append.mp hx with hx | hx
      · unfold kids at hx
        have hz := List.of_mem_zip (show (x.1, x.2) ∈ _ from hx)
        exact ⟨ha _ h0.1 _ (List.mem_of_mem_drop hz.1), ha _ h0.2 _ (List.mem_of_mem_drop hz.2)⟩
      · exact hs x (List.mem_cons_of_mem _ hx)
theorem headsL_sub : ∀ {a b : List Tm}, (∀ x ∈ a, x ∈ b) → ∀ k ∈ Tm.headsL a, k ∈ Tm.headsL b := by
  have mem : ∀ {b : List Tm} {x : Tm}, x ∈ b → ∀ k ∈ x.heads, k ∈ Tm.headsL b := by
    intro b
    induction b with
    | nil => intro x hx; exact absurd hx List.not_mem_nil
    | cons y b ih =>
      intro x hx k hk
      rw [Tm.headsL]
      rcases List.mem_cons.mp hx with rfl | hx
      · exact List.mem_append_left _ hk
      · exact List.mem_append_right _ (ih hx k hk)
  intro a
  induction a with
  | nil => intro b _ k hk; rw [Tm.headsL] at hk; exact absurd hk List.not_mem_nil
  | cons x a ih =>
    intro b h k hk
    rw [Tm.headsL] at hk
    rcases List.mem_append.mp hk with hk | hk
    · exact mem (h x (List.mem_cons_self ..)) k hk
    · exact ih (fun y hy => h y (List.mem_cons_of_mem _ hy)) k hk
theorem sizeL_take : ∀ (ts : List Tm) (n : Nat), Tm.sizeL (ts.take n) ≤ Tm.sizeL ts
  | ts, 0 => Nat.zero_le _
  | [], _ + 1 => Nat.le_refl _
  | t :: r, n + 1 => by
    rw [List.take_succ_cons, Tm.sizeL, Tm.sizeL]
    have := sizeL_take r n
    omega
/-- what every part of the terms keeps -/
def Sm (N : Nat) (t : Tm) : Prop := t.size ≤ N ∧ t.All KOk
theorem Sm.front {N : Nat} (t : Tm) (c : Nat) (h : Sm N t) : Sm N (t.front c) := by
  cases t with
  | mk k ts =>
    obtain ⟨h1, h2⟩ := h
    rw [Tm.size] at h1
    constructor
    · show (Tm.mk k (ts.take (ts.length - c))).size ≤ N
      rw [Tm.size]
      have := sizeL_take ts (ts.length - c)
      omega
    · intro j hj
      have hj : j ∈ (Tm.mk k (ts.take (ts.length - c))).heads := hj
      rw [Tm.heads] at hj
      refine h2 j ?_
      rw [Tm.heads]
      rcases List.mem_cons.mp hj with rfl | hj
      · exact List.mem_cons_self ..
      · exact List.mem_cons_of_mem _ (headsL_sub (fun x hx => List.mem_of_mem_take hx) j hj)
theorem Sm.args {N : Nat} (t : Tm) (h : Sm N t) : ∀ x ∈ t.args, Sm N x := by
  intro x hx
  cases t with
  | mk k ts =>
    obtain ⟨h1, h2⟩ := h
    rw [Tm.size] at h1
    have hx : x ∈ ts := hx
    refine ⟨?_, fun j hj => h2 j ?_⟩
    · have := Tm.size_mem hx
      omega
    · rw [Tm.heads]
      refine List.mem_cons_of_mem _ ?_
      exact headsL_sub (a := [x]) (fun y hy => by rw [List.mem_singleton.mp hy]; exact hx) j (by rw [Tm.headsL, Tm.headsL, List.append_nil]; exact hj)
end DF

namespace ZL
open PySem PySem.W PySem.Calls PyProof.Rows PyProof.V PySem.Spec
section
variable {prog : Program} {w : World} {A : Around} {E : Value → Shared → Prop} {s : Shared}
theorem item_held {z TI TO T i1 i2 l1 l2 : Addr} {f : Bool} {oT : Obj} {k1 k2 : Nat} {xs ys : Array Value} {x y : Value} {Q : Value → Shared → Prop} (D : ZipApart z TI TO i1 i2 l1 l2)
    (hz : IsZipHeld s.heap z TI TO T f) (hT : s.heap.get? T = some oT) (hTI : IsPair s.heap TI (.ref i1) (.ref i2))
    (h1 : s.heap.IsTupleIter i1 l1 k1) (h2 : s.heap.IsTupleIter i2 l2 k2) (hl1 : s.heap.IsTuple l1 xs) (hl2 : s.heap.IsTuple l2 ys) (hx : xs[k1]? = some x) (hy : ys[k2]? = some y)
    (hQ : ∀ h', IsZipHeld h' z TI TO T true → h'.IsTupleIter i1 l1 (k1 + 1) → h'.IsTupleIter i2 l2 (k2 + 1) → IsPair h' s.heap.objs.size x y → h'.objs.size = s.heap.objs.size + 1 →
      (∀ c o, c ≠ z → c ≠ i1 → c ≠ i2 → s.heap.get? c = some o → h'.get? c = some o) → Q (.ref s.heap.objs.size) { s with heap := h' }) :
    wpAny (model prog w) A (Builtin.«zip.__next__» ⟨[.ref z], []⟩) (fun fin s' => ∃ v, fin = .done (.ret v) ∧ Q v s') E s := by
  show wpAny _ _ (field (.ref z) 2 >>= _) _ _ _
  refine wpAny_bind (wpAny_field hz rfl (x := .bool false) rfl ?_)
  show wpAny _ _ (field (.ref z) 3 >>= _) _ _ _
  refine wpAny_bind (wpAny_field hz rfl (x := .ref TI) rfl ?_)
  refine wpAny_bind (wpAny_seqItems hTI rfl ?_)
  show wpAny _ _ (Builtin.SmallTypes.ownedTupleIsFree (.ref z) >>= _) _ _ _
  refine wpAny_bind (wpAny_tupleHeld_zip hz hT fun h₁ hz₁ hs₁ => ?_)
  simp only [Bool.false_eq_true, if_false]
  refine wpAny_bind ?_
  rw [← Array.forIn_toList]
  simp only [List.forIn_cons, List.forIn_nil]
  refine wpAny_bind (wpAny_bind (wpAny_holding ?_))
  show wpAny _ _ (Builtin.SmallTypes.nextOf (.ref i1) >>= _) _ _ _
  refine wpAny_bind (RZ.nextOf_tuple_item (s := { s with heap := h₁ }) (h1.extBut hs₁.extBut D.i1z) (hl1.extBut hs₁.extBut D.l1z) hx fun h₂ h1₂ hs₂ => wpAny_pure ?_)
  refine wpAny_pure ?_
  refine wpAny_bind (wpAny_bind (wpAny_holding ?_))
  show wpAny _ _ (Builtin.SmallTypes.nextOf (.ref i2) >>= _) _ _ _
  refine wpAny_bind (RZ.nextOf_tuple_item (s := { s with heap := h₂ }) ((h2.extBut hs₁.extBut D.i2z).extBut hs₂.extBut D.i12.symm) ((hl2.extBut hs₁.extBut D.l2z).extBut hs₂.extBut D.l2i1) hy fun h₃ h2₃ hs₃ => wpAny_pure ?_)
  refine wpAny_pure (wpAny_pure ?_)
  show wpAny _ _ (newTuple [x, y] >>= _) _ _ _
  refine wpAny_bind (wpAny_newTuple ?_)
  have hsz : h₃.objs.size = s.heap.objs.size := by rw [hs₃.1, hs₂.1, hs₁.1]
  have hz₃ : IsZipHeld h₃ z TI TO T true := hs₃.extBut _ _ D.i2z.symm (hs₂.extBut _ _ D.i1z.symm hz₁)
  have hk : ∀ c o, c ≠ z → c ≠ i1 → c ≠ i2 → s.heap.get? c = some o → h₃.get? c = some o := fun c o c1 c2 c3 e => hs₃.extBut _ _ c3 (hs₂.extBut _ _ c2 (hs₁.extBut _ _ c1 e))
  have h1₃ : h₃.IsTupleIter i1 l1 (k1 + 1) := h1₂.extBut hs₃.extBut D.i12
  refine wpAny_pure ⟨_, rfl, ?_⟩
  show Q (.ref h₃.objs.size) _
  have hp : IsPair (h₃.push { cls := .type "tuple", data := .seq #[x, y] }) h₃.objs.size x y := Heap.get?_push_size _ rfl
  have hz4 : (h₃.push { cls := .type "tuple", data := .seq #[x, y] }).objs.size = h₃.objs.size + 1 := Heap.size_push ..
  rw [hsz] at hp hz4 ⊢
  exact hQ _ (Heap.get?_push_of_some _ hz₃) (h1₃.at fun o e => Heap.get?_push_of_some _ e) (h2₃.at fun o e => Heap.get?_push_of_some _ e) hp hz4 fun c o c1 c2 c3 e => Heap.get?_push_of_some _ (hk c o c1 c2 c3 e)
theorem end_held {z TI TO T i1 i2 l1 l2 : Addr} {f : Bool} {oT : Obj} {k1 k2 : Nat} {xs ys : Array Value} {Q : Fin → Shared → Prop} (hh : A.handled = none) (D : ZipApart z TI TO i1 i2 l1 l2)
    (hz : IsZipHeld s.heap z TI TO T f) (hT : s.heap.get? T = some oT) (hTI : IsPair s.heap TI (.ref i1) (.ref i2))
    (h1 : s.heap.IsTupleIter i1 l1 k1) (h2 : s.heap.IsTupleIter i2 l2 k2) (hl1 : s.heap.IsTuple l1 xs) (hl2 : s.heap.IsTuple l2 ys) (hend : xs[k1]? = none ∨ ys[k2]? = none)
    (hE : ∀ h' e, (∀ c o, c ≠ z → c ≠ i1 → c ≠ i2 → s.heap.get? c = some o → h'.get? c = some o) → (∃ o, h'.get? e = some o ∧ o.cls = .type "StopIteration") → E (.ref e) { s with heap := h' }) :
    wpAny (model prog w) A (Builtin.«zip.__next__» ⟨[.ref z], []⟩) Q E s := by
  show wpAny _ _ (field (.ref z) 2 >>= _) _ _ _
  refine wpAny_bind (wpAny_field hz rfl (x := .bool false) rfl ?_)
  show wpAny _ _ (field (.ref z) 3 >>= _) _ _ _
  refine wpAny_bind (wpAny_field hz rfl (x := .ref TI) rfl ?_)
  refine wpAny_bind (wpAny_seqItems hTI rfl ?_)
  show wpAny _ _ (Builtin.SmallTypes.ownedTupleIsFree (.ref z) >>= _) _ _ _
  refine wpAny_bind (wpAny_tupleHeld_zip hz hT fun h₁ hz₁ hs₁ => ?_)
  simp only [Bool.false_eq_true, if_false]
  refine wpAny_bind ?_
  rw [← Array.forIn_toList]
  simp only [List.forIn_cons, List.forIn_nil]
  refine wpAny_bind (wpAny_bind (wpAny_holding ?_))
  show wpAny _ _ (Builtin.SmallTypes.nextOf (.ref i1) >>= _) _ _ _
  cases hx : xs[k1]? with
  | none =>
    refine wpAny_bind (RZ.nextOf_tuple_end (s := { s with heap := h₁ }) hh (h1.extBut hs₁.extBut D.i1z) (hl1.extBut hs₁.extBut D.l1z) hx fun h₂ e hs₂ he => ?_)
    exact hE h₂ e (fun c o c1 c2 _ x => hs₂ _ _ c2 (hs₁.extBut _ _ c1 x)) he
  | some x =>
    have hy : ys[k2]? = none := by rcases hend with h | h; rw [hx] at h; cases h; exact h
    refine wpAny_bind (RZ.nextOf_tuple_item (s := { s with heap := h₁ }) (h1.extBut hs₁.extBut D.i1z) (hl1.extBut hs₁.extBut D.l1z) hx fun h₂ h1₂ hs₂ => wpAny_pure ?_)
    refine wpAny_pure ?_
    refine wpAny_bind (wpAny_bind (wpAny_holding ?_))
    show wpAny _ _ (Builtin.SmallTypes.nextOf (.ref i2) >>= _) _ _ _
    refine wpAny_bind (RZ.nextOf_tuple_end (s := { s with heap := h₂ }) hh ((h2.extBut hs₁.extBut D.i2z).extBut hs₂.extBut D.i12.symm) ((hl2.extBut hs₁.extBut D.l2z).extBut hs₂.extBut D.l2i1) hy fun h₃ e hs₃ he => ?_)
    exact hE h₃ e (fun c o c1 c2 c3 x => hs₃ _ _ c3 (hs₂.extBut _ _ c2 (hs₁.extBut _ _ c1 x))) he
theorem pyNext_item_held {z TI TO T i1 i2 l1 l2 : Addr} {f : Bool} {oT : Obj} {k1 k2 : Nat} {xs ys : Array Value} {x y : Value} {Q : Option Value → Shared → Prop} (D : ZipApart z TI TO i1 i2 l1 l2)
    (hz : IsZipHeld s.heap z TI TO T f) (hT : s.heap.get? T = some oT) (hTI : IsPair s.heap TI (.ref i1) (.ref i2))
    (h1 : s.heap.IsTupleIter i1 l1 k1) (h2 : s.heap.IsTupleIter i2 l2 k2) (hl1 : s.heap.IsTuple l1 xs) (hl2 : s.heap.IsTuple l2 ys) (hx : xs[k1]? = some x) (hy : ys[k2]? = some y)
    (hQ : ∀ h', IsZipHeld h' z TI TO T true → h'.IsTupleIter i1 l1 (k1 + 1) → h'.IsTupleIter i2 l2 (k2 + 1) → IsPair h' s.heap.objs.size x y → h'.objs.size = s.heap.objs.size + 1 →
      (∀ c o, c ≠ z → c ≠ i1 → c ≠ i2 → s.heap.get? c = some o → h'.get? c = some o) → Q (some (.ref s.heap.objs.size)) { s with heap := h' }) :
    wpAny (model prog w) A (pyNext (.ref z)) Q E s := by
  have hTy : s.TypeIs (.ref z) "zip" := ⟨_, hz, rfl⟩
  unfold pyNext
  exact wpAny_bind (wpAny_attempt (wpAny_callSpecial?_slot (name := Str.ofString "__next__") hTy F.slot_zip_next
    (wpAny_call_entry F.slot_zip_next hTy F.entry_zip_next
      (item_held D hz hT hTI h1 h2 hl1 hl2 hx hy fun h' a1 a3 a4 a5 a6 a7 => wpAny_pure (hQ h' a1 a3 a4 a5 a6 a7)) (F.args_zip_next_1 _))))
theorem pyNext_end_held {z TI TO T i1 i2 l1 l2 : Addr} {f : Bool} {oT : Obj} {k1 k2 : Nat} {xs ys : Array Value} {Q : Option Value → Shared → Prop} (hh : A.handled = none) (D : ZipApart z TI TO i1 i2 l1 l2)
    (hz : IsZipHeld s.heap z TI TO T f) (hT : s.heap.get? T = some oT) (hTI : IsPair s.heap TI (.ref i1) (.ref i2))
    (h1 : s.heap.IsTupleIter i1 l1 k1) (h2 : s.heap.IsTupleIter i2 l2 k2) (hl1 : s.heap.IsTuple l1 xs) (hl2 : s.heap.IsTuple l2 ys) (hend : xs[k1]? = none ∨ ys[k2]? = none)
    (hQ : ∀ h', (∀ c o, c ≠ z → c ≠ i1 → c ≠ i2 → s.heap.get? c = some o → h'.get? c = some o) → Q none { s with heap := h' }) : wpAny (model prog w) A (pyNext (.ref z)) Q E s := by
  have hTy : s.TypeIs (.ref z) "zip" := ⟨_, hz, rfl⟩
  unfold pyNext
  refine wpAny_bind (wpAny_attempt (wpAny_callSpecial?_slot (name := Str.ofString "__next__") hTy F.slot_zip_next
    (wpAny_call_entry F.slot_zip_next hTy F.entry_zip_next (end_held hh D hz hT hTI h1 h2 hl1 hl2 hend fun h' e hk he => ?_) (F.args_zip_next_1 _))))
  obtain ⟨o, ho, hc⟩ := he
  refine wpAny_bind (wpAny_isInstance (T := "StopIteration") (b := true) ⟨o, ho, hc⟩ isSubtype_stop ?_)
  exact wpAny_pure (hQ _ hk)
/-- the zip before its turn i; S: the list that is filled -/
structure St (h : Heap) (z TI TO i1 i2 l1 l2 S : Addr) (xs ys : Array Value) (i : Nat) : Prop where
  ti : IsPair h TI (.ref i1) (.ref i2)
  h1 : h.IsTupleIter i1 l1 i
  h2 : h.IsTupleIter i2 l2 i
  l1 : h.IsTuple l1 xs
  l2 : h.IsTuple l2 ys
  zz : (IsZip h z TI TO .none ∧ ∃ a b, IsPair h TO a b) ∨ ∃ T f oT, IsZipHeld h z TI TO T f ∧ h.get? T = some oT ∧ T ≠ z ∧ T ≠ i1 ∧ T ≠ i2 ∧ T ≠ S
theorem St.keep {h h' : Heap} {z TI TO i1 i2 l1 l2 S : Addr} {xs ys : Array Value} {i : Nat} (x : St h z TI TO i1 i2 l1 l2 S xs ys i) (k : ∀ b o, b ≠ S → h.get? b = some o → h'.get? b = some o) (a1 : z ≠ S) (a2 : TI ≠ S) (a3 : TO ≠ S) (a4 : i1 ≠ S) (a5 : i2 ≠ S) (a6 : l1 ≠ S) (a7 : l2 ≠ S) : St h' z TI TO i1 i2 l1 l2 S xs ys i := by
  refine ⟨k _ _ a2 x.ti, x.h1.at fun o e => k _ o a4 e, x.h2.at fun o e => k _ o a5 e, x.l1.at fun o e => k _ o a6 e, x.l2.at fun o e => k _ o a7 e, ?_⟩
  rcases x.zz with ⟨e, a, b, p⟩ | ⟨T, f, oT, e, t, b1, b2, b3, b4⟩
  · exact .inl ⟨k _ _ a1 e, a, b, k _ _ a3 p⟩
  · exact .inr ⟨T, f, oT, k _ _ a1 e, k _ _ b4 t, b1, b2, b3, b4⟩
theorem St.item {z TI TO i1 i2 l1 l2 S : Addr} {xs ys : Array Value} {x y : Value} {i : Nat} {Q : Option Value → Shared → Prop} (D : ZipApart z TI TO i1 i2 l1 l2) (st : St s.heap z TI TO i1 i2 l1 l2 S xs ys i) (hS : S < s.heap.objs.size) (hx : xs[i]? = some x) (hy : ys[i]? = some y)
    (hQ : ∀ h', St h' z TI TO i1 i2 l1 l2 S xs ys (i + 1) → IsPair h' s.heap.objs.size x y → h'.objs.size = s.heap.objs.size + 1 → (∀ c o, c ≠ z → c ≠ TO → c ≠ i1 → c ≠ i2 → s.heap.get? c = some o → h'.get? c = some o) → Q (some (.ref s.heap.objs.size)) { s with heap := h' }) :
    wpAny (model prog w) A (pyNext (.ref z)) Q E s := by
  have lt : ∀ {a : Addr} {o : Obj}, s.heap.get? a = some o → s.heap.objs.size ≠ a := fun e => Nat.ne_of_gt (Heap.lt_size e)
  obtain ⟨o1, ho1, _⟩ := id st.h1
  obtain ⟨o2, ho2, _⟩ := id st.h2
  rcases st.zz with ⟨hz, a, b, hTO⟩ | ⟨T, f, oT, hz, hT, n1, n2, n3, n4⟩
  · refine RZ.pyNext_zipT_item D hz st.ti hTO st.h1 st.h2 st.l1 st.l2 hx hy fun h' a1 a2 a3 a4 a5 a6 a7 => hQ h' ⟨a7 _ _ D.TIz D.TITO D.TIi1 D.TIi2 st.ti, a3, a4, st.l1.at fun o e => a7 _ o D.l1z D.l1TO D.l1i1 D.l1i2 e, st.l2.at fun o e => a7 _ o D.l2z D.l2TO D.l2i1 D.l2i2 e, .inr ⟨_, false, _, a1, a5, lt hz, lt ho1, lt ho2, Nat.ne_of_gt hS⟩⟩ a5 a6 a7
  · refine pyNext_item_held D hz hT st.ti st.h1 st.h2 st.l1 st.l2 hx hy fun h' a1 a3 a4 a5 a6 a7 => hQ h' ⟨a7 _ _ D.TIz D.TIi1 D.TIi2 st.ti, a3, a4, st.l1.at fun o e => a7 _ o D.l1z D.l1i1 D.l1i2 e, st.l2.at fun o e => a7 _ o D.l2z D.l2i1 D.l2i2 e, .inr ⟨T, true, oT, a1, a7 _ _ n1 n2 n3 hT, n1, n2, n3, n4⟩⟩ a5 a6 fun c o c1 _ c3 c4 e => a7 c o c1 c3 c4 e
theorem St.done {z TI TO i1 i2 l1 l2 S : Addr} {xs ys : Array Value} {i : Nat} {Q : Option Value → Shared → Prop} (hh : A.handled = none) (D : ZipApart z TI TO i1 i2 l1 l2) (st : St s.heap z TI TO i1 i2 l1 l2 S xs ys i) (hend : xs[i]? = none ∨ ys[i]? = none)
    (hQ : ∀ h', (∀ c o, c ≠ z → c ≠ TO → c ≠ i1 → c ≠ i2 → s.heap.get? c = some o → h'.get? c = some o) → Q none { s with heap := h' }) : wpAny (model prog w) A (pyNext (.ref z)) Q E s := by
  rcases st.zz with ⟨hz, a, b, hTO⟩ | ⟨T, f, oT, hz, hT, n1, n2, n3, n4⟩
  · exact RZ.pyNext_zipT_end hh D hz st.ti hTO st.h1 st.h2 st.l1 st.l2 hend hQ
  · exact pyNext_end_held hh D hz hT st.ti st.h1 st.h2 st.l1 st.l2 hend fun h' k => hQ h' fun c o c1 _ c3 c4 e => k c o c1 c3 c4 e
/-- the tuples given out -/
structure G (xs ys : Array Value) (lo : Addr) (h : Heap) (as : List Addr) : Prop where
  rise : as.Pairwise (· < ·)
  above : ∀ a ∈ as, lo < a
  pairs : ∀ (j : Nat) (a : Addr), as[j]? = some a → ∃ x y, xs[j]? = some x ∧ ys[j]? = some y ∧ IsPair h a x y
theorem G.there {xs ys : Array Value} {lo : Addr} {h : Heap} {as : List Addr} (g : G xs ys lo h as) {a : Addr} (ha : a ∈ as) : a < h.objs.size := by
  obtain ⟨j, hj⟩ := List.mem_iff_getElem?.mp ha
  obtain ⟨_, _, _, _, e⟩ := g.pairs j a hj
  exact Heap.lt_size e
theorem loop {R : Result → Shared → Prop} {z TI TO i1 i2 l1 l2 S lo : Addr} {xs ys : Array Value} {n : Nat} (hh : A.handled = none) (D : ZipApart z TI TO i1 i2 l1 l2) (b1 : z < S) (b2 : TI < S) (b3 : TO < S) (b4 : i1 < S) (b5 : i2 < S) (b6 : l1 < lo) (b7 : l2 < lo)
    (c1 : lo ≤ z) (c3 : lo ≤ TO) (c4 : lo ≤ i1) (c5 : lo ≤ i2) (cS : lo ≤ S) (hn : n = min xs.size ys.size) (hsz : n ≤ sizeLine) (res : Value) {h₁ : Heap}
    (hR : ∀ h' tk acc c as, (∀ b o, b < lo → h₁.get? b = some o → h'.get? b = some o) → h'.get? S = some { cls := .type "list", dict := none, data := .seq acc c, slots := #[] } → as.length = n → G xs ys S h' as → acc.toList = as.map Value.ref → R (.ok (.ret res)) { s with heap := h', toks := tk }) :
    ∀ (k i : Nat) (h : Heap) (tk c : Nat) (acc : Array Value) (as : List Addr), n - i = k → i ≤ n → St h z TI TO i1 i2 l1 l2 S xs ys i → (∀ b o, b < lo → h₁.get? b = some o → h.get? b = some o) →
      h.get? S = some { cls := .type "list", dict := none, data := .seq acc c, slots := #[] } → acc.toList = as.map Value.ref → as.length = i → G xs ys S h as →
      codeAny (model prog w) A (.builtin "list.extend.loop" ⟨[.ref S, .ref z, res], []⟩) R { s with heap := h, toks := tk } := by
  have nS : ∀ {a : Addr}, a < S → S ≠ a := fun h => Nat.ne_of_gt h
  intro k
  induction k with
  | zero =>
    intro i h tk c acc as hk hi hst hkeep hS hacc hal hG
    have hin : i = n := by omega
    refine codeAny_builtin PySem.F.entry_extend_loop ?_
    rw [Around.under_plainId PySem.F.plain_extend_loop _]
    show wpAny _ A.in1 (pyNext (.ref z) >>= _) _ _ _
    have hend : xs[i]? = none ∨ ys[i]? = none := by
      rcases Nat.le_total xs.size ys.size with h | h
      · exact .inl (Array.getElem?_eq_none (by omega))
      · exact .inr (Array.getElem?_eq_none (by omega))
    refine wpAny_bind (St.done (s := { s with heap := h, toks := tk }) (A := A.in1) hh D hst hend fun h' he => ?_)
    have up : ∀ b o, b < lo → h.get? b = some o → h'.get? b = some o := fun b o hb e => he b o (Nat.ne_of_lt (Nat.lt_of_lt_of_le hb c1)) (Nat.ne_of_lt (Nat.lt_of_lt_of_le hb c3)) (Nat.ne_of_lt (Nat.lt_of_lt_of_le hb c4)) (Nat.ne_of_lt (Nat.lt_of_lt_of_le hb c5)) e
    refine wpAny_pure (hR h' tk acc c as (fun b o hb e => up b o hb (hkeep b o hb e)) (he S _ (nS b1) (nS b3) (nS b4) (nS b5) hS) (by omega) ⟨hG.rise, hG.above, fun j a hj => ?_⟩ hacc)
    obtain ⟨x, y, e1, e2, e3⟩ := hG.pairs j a hj
    have ha := hG.above a (List.mem_of_getElem? hj)
    exact ⟨x, y, e1, e2, he a _ (Nat.ne_of_gt (Nat.lt_trans b1 ha)) (Nat.ne_of_gt (Nat.lt_trans b3 ha)) (Nat.ne_of_gt (Nat.lt_trans b4 ha)) (Nat.ne_of_gt (Nat.lt_trans b5 ha)) e3⟩
  | succ k ih =>
    intro i h tk c acc as hk hi hst hkeep hS hacc hal hG
    have hlt : i < n := by omega
    have hx : xs[i]? = some xs[i] := Array.getElem?_eq_getElem (by omega)
    have hy : ys[i]? = some ys[i] := Array.getElem?_eq_getElem (by omega)
    have hsz' : acc.size = i := by rw [← Array.length_toList, hacc, List.length_map, hal]
    have hSl : S < h.objs.size := Heap.lt_size hS
    refine codeAny_builtin PySem.F.entry_extend_loop ?_
    rw [Around.under_plainId PySem.F.plain_extend_loop _]
    show wpAny _ A.in1 (pyNext (.ref z) >>= _) _ _ _
    refine wpAny_bind (St.item (s := { s with heap := h, toks := tk }) (S := S) D hst hSl hx hy fun h' hst' ht hz hkp => ?_)
    dsimp only at ht hz hkp ⊢
    have hS' := hkp S _ (nS b1) (nS b3) (nS b4) (nS b5) hS
    have up : ∀ b o, b ≠ S → h'.get? b = some o → (h'.update S (Obj.mapSeq (·.push (Value.ref h.objs.size)))).get? b = some o := fun b o hb e => (Heap.get?_update_other _ _ (Ne.symm hb)).trans e
    have low : ∀ b o, b < lo → h.get? b = some o → h'.get? b = some o := fun b o hb e => hkp b o (Nat.ne_of_lt (Nat.lt_of_lt_of_le hb c1)) (Nat.ne_of_lt (Nat.lt_of_lt_of_le hb c3)) (Nat.ne_of_lt (Nat.lt_of_lt_of_le hb c4)) (Nat.ne_of_lt (Nat.lt_of_lt_of_le hb c5)) e
    show wpAny _ A.in1 (updateSeq S (·.push (Value.ref h.objs.size)) >>= _) _ _ _
    refine wpAny_bind ?_
    refine wpAny_updateSeq hS' rfl (wpAny_pure ⟨plainId_quiet PySem.F.plain_extend_loop _, ih (i + 1) _ tk _ (acc.push (Value.ref h.objs.size)) (as ++ [h.objs.size]) (by omega) hlt
      (hst'.keep up (Nat.ne_of_lt b1) (Nat.ne_of_lt b2) (Nat.ne_of_lt b3) (Nat.ne_of_lt b4) (Nat.ne_of_lt b5) (Nat.ne_of_lt (Nat.lt_of_lt_of_le b6 cS)) (Nat.ne_of_lt (Nat.lt_of_lt_of_le b7 cS)))
      (fun b o hb e => up b o (Nat.ne_of_lt (Nat.lt_of_lt_of_le hb cS)) (low b o hb (hkeep b o hb e))) (Heap.get?_update_self _ hS' rfl) (by rw [Array.toList_push, hacc, List.map_append]; rfl) (by rw [List.length_append, hal]; rfl) ⟨?_, ?_, ?_⟩⟩) (by rw [hsz']; omega) (by show (acc.push (Value.ref h.objs.size)).size ≤ sizeLine + 1; rw [Array.size_push, hsz']; omega)
    · refine List.pairwise_append.mpr ⟨hG.rise, List.pairwise_singleton _ _, fun a ha b hb => ?_⟩
      rw [List.mem_singleton.mp hb]
      exact hG.there ha
    · intro a ha
      rcases List.mem_append.mp ha with ha | ha
      · exact hG.above a ha
      · rw [List.mem_singleton.mp ha]; exact hSl
    · intro j b hj
      rcases Nat.lt_trichotomy j as.length with q1 | q1 | q1
      · rw [List.getElem?_append_left q1] at hj
        obtain ⟨x, y, e1, e2, e3⟩ := hG.pairs j b hj
        have hb := hG.above b (List.mem_of_getElem? hj)
        exact ⟨x, y, e1, e2, up b _ (Nat.ne_of_gt hb) (hkp b _ (Nat.ne_of_gt (Nat.lt_trans b1 hb)) (Nat.ne_of_gt (Nat.lt_trans b3 hb)) (Nat.ne_of_gt (Nat.lt_trans b4 hb)) (Nat.ne_of_gt (Nat.lt_trans b5 hb)) e3)⟩
      · subst q1
        have hb : h.objs.size = b := by simpa using hj
        subst hb
        exact ⟨xs[i], ys[i], by rw [hal]; exact hx, by rw [hal]; exact hy, up _ _ (Nat.ne_of_gt hSl) ht⟩
      · have hnone : (as ++ [h.objs.size])[j]? = none := List.getElem?_eq_none (by rw [List.length_append, List.length_singleton]; omega)
        rw [hnone] at hj; cases hj
end
end ZL

namespace ZL
open PySem PySem.W PySem.Calls PyProof.Rows PyProof.V PySem.Spec
section
variable {prog : Program} {w : World} {A : Around} {E : Value → Shared → Prop} {s : Shared}
theorem zip_no_len : typeLookup (.type "zip") "__len__" = pure none := am_miss_of_fast (by decide +kernel)
theorem zip_no_hint : typeLookup (.type "zip") "__length_hint__" = pure none := am_miss_of_fast (by decide +kernel)
theorem hint {z : Addr} (hT : s.TypeIs (.ref z) "zip") {Q : Bool → Shared → Prop} (h : Q true s) : wpAny (model prog w) A (Builtin.List.listLengthHint (.ref z)) Q E s := by
  unfold Builtin.List.listLengthHint
  refine wpAny_bind (wpAny_specialOf hT zip_no_len ?_)
  refine wpAny_ite_split (fun hab => absurd hab (by decide)) (fun _ => ?_)
  refine wpAny_ite_split (fun hab => absurd hab (by decide)) (fun _ => ?_)
  refine wpAny_bind (wpAny_specialOf hT zip_no_hint ?_)
  exact wpAny_pure h
theorem extend {R : Result → Shared → Prop} {z TI TO i1 i2 l1 l2 S lo : Addr} {xs ys : Array Value} {n : Nat} (hh : A.handled = none) (D : ZipApart z TI TO i1 i2 l1 l2) (hz : IsZip s.heap z TI TO .none) (st : St s.heap z TI TO i1 i2 l1 l2 S xs ys 0) (b1 : z < S) (b2 : TI < S) (b3 : TO < S) (b4 : i1 < S) (b5 : i2 < S) (b6 : l1 < lo) (b7 : l2 < lo)
    (c1 : lo ≤ z) (c3 : lo ≤ TO) (c4 : lo ≤ i1) (c5 : lo ≤ i2) (cS : lo ≤ S) (hn : n = min xs.size ys.size) (hsz : n ≤ sizeLine) (res : Value) (c₀ : Nat) (hS : s.heap.get? S = some { cls := .type "list", data := .seq #[] c₀ })
    (hR : ∀ h' tk acc c as, (∀ b o, b < lo → s.heap.get? b = some o → h'.get? b = some o) → h'.get? S = some { cls := .type "list", dict := none, data := .seq acc c, slots := #[] } → as.length = n → G xs ys S h' as → acc.toList = as.map Value.ref → R (.ok (.ret res)) { s with heap := h', toks := tk }) :
    wpAny (model prog w) A.in1 (Builtin.List.listExtendWith (.ref S) (.ref z) res)
      (fun fin s' => match fin with | .done f => R (.ok f) s' | .again c' => c'.quiet = true ∧ codeAny (model prog w) A c' R s') (fun e s' => R (.error e) s') s := by
  have key : ∀ (h : Heap) (c₁ tk : Nat), (∀ b o, b ≠ S → s.heap.get? b = some o → h.get? b = some o) → h.get? S = some { cls := .type "list", data := .seq #[] c₁ } →
      codeAny (model prog w) A (.builtin "list.extend.loop" ⟨[.ref S, .ref z, res], []⟩) R { s with heap := h, toks := tk } := by
    intro h c₁ tk hk hS₁
    exact loop (s := s) (h₁ := s.heap) hh D b1 b2 b3 b4 b5 b6 b7 c1 c3 c4 c5 cS hn hsz res hR n 0 h tk c₁ #[] [] (Nat.sub_zero _) (Nat.zero_le _)
      (st.keep hk (Nat.ne_of_lt b1) (Nat.ne_of_lt b2) (Nat.ne_of_lt b3) (Nat.ne_of_lt b4) (Nat.ne_of_lt b5) (Nat.ne_of_lt (Nat.lt_of_lt_of_le b6 cS)) (Nat.ne_of_lt (Nat.lt_of_lt_of_le b7 cS)))
      (fun b o hb e => hk b o (Nat.ne_of_lt (Nat.lt_of_lt_of_le hb cS)) e) hS₁ rfl rfl ⟨List.Pairwise.nil, (fun _ ha => nomatch ha), (fun j a hj => by simp at hj)⟩
  have hTy : s.TypeIs (.ref z) "zip" := ⟨_, hz, rfl⟩
  unfold Builtin.List.listExtendWith
  refine wpAny_bind (wpAny_typeOf (T := "zip") hTy ?_)
  have h1 : Builtin.List.listSameRef (.ref S) (.ref z) = false := by simp [Builtin.List.listSameRef, Nat.ne_of_gt b1]
  have h2 : (Value.type "zip" == Value.type "list") = false := by decide
  have h3 : (Value.type "zip" == Value.type "tuple") = false := by decide
  simp only [h1, h2, h3, Bool.or_false, Bool.false_eq_true, if_false]
  refine wpAny_bind (wpAny_pyIter_zip hz ?_)
  refine wpAny_bind (wpAny_holding (hint hTy ?_))
  refine wpAny_ite_split (fun _ => ?_) (fun _ => wpAny_pure ⟨plainId_quiet PySem.F.plain_extend_loop _, key _ c₀ _ (fun b o _ e => e) hS⟩)
  refine wpAny_bind (wpAny_rule ?_)
  refine wpAny_bind ?_
  show wpAny _ _ (updateSeq S (·.push .none) >>= fun _ => updateSeq S (·.pop)) _ _ _
  refine wpAny_bind (wpAny_updateSeq hS rfl ?_)
  have hS₂ := Heap.get?_update_self (Obj.mapSeq (·.push Value.none)) hS rfl
  refine wpAny_updateSeq (hz := by seq_fits) hS₂ rfl ?_
  have hS₃ := Heap.get?_update_self (Obj.mapSeq (·.pop)) hS₂ rfl
  refine wpAny_pure ⟨plainId_quiet PySem.F.plain_extend_loop _, key _ _ _ (fun b o hb e => ?_) hS₃⟩
  exact (Heap.get?_update_other _ _ (Ne.symm hb)).trans ((Heap.get?_update_other _ _ (Ne.symm hb)).trans e)
theorem init {R : Result → Shared → Prop} {z TI TO i1 i2 l1 l2 S lo : Addr} {xs ys : Array Value} {n : Nat} (hh : A.handled = none) (D : ZipApart z TI TO i1 i2 l1 l2) (hz : IsZip s.heap z TI TO .none) (st : St s.heap z TI TO i1 i2 l1 l2 S xs ys 0) (b1 : z < S) (b2 : TI < S) (b3 : TO < S) (b4 : i1 < S) (b5 : i2 < S) (b6 : l1 < lo) (b7 : l2 < lo)
    (c1 : lo ≤ z) (c3 : lo ≤ TO) (c4 : lo ≤ i1) (c5 : lo ≤ i2) (cS : lo ≤ S) (hn : n = min xs.size ys.size) (hsz : n ≤ sizeLine) (hS : s.heap.get? S = some { cls := .type "list", data := .seq #[] })
    (hR : ∀ h' tk acc c as, (∀ b o, b < lo → s.heap.get? b = some o → h'.get? b = some o) → h'.get? S = some { cls := .type "list", dict := none, data := .seq acc c, slots := #[] } → as.length = n → G xs ys S h' as → acc.toList = as.map Value.ref → R (.ok (.ret .none)) { s with heap := h', toks := tk }) :
    wpAny (model prog w) A.in1 (Builtin.«list.__init__» ⟨[.ref S, .ref z], []⟩)
      (fun fin s' => match fin with | .done f => R (.ok f) s' | .again c' => c'.quiet = true ∧ codeAny (model prog w) A c' R s') (fun e s' => R (.error e) s') s := by
  show wpAny _ _ (do let old ← Builtin.List.listItems (.ref S); Builtin.List.listUpdate (.ref S) (fun _ => #[]); letGo old.toList.reverse; Builtin.List.listExtendWith (.ref S) (.ref z) .none) _ _ s
  refine wpAny_bind ?_
  unfold Builtin.List.listItems
  refine wpAny_bind (wpAny_seqItems hS rfl (wpAny_pure ?_))
  show wpAny _ _ (updateSeq S (fun _ => #[]) >>= fun _ => letGo (#[] : Array Value).toList.reverse >>= fun _ => Builtin.List.listExtendWith (.ref S) (.ref z) .none) _ _ s
  refine wpAny_bind (wpAny_updateSeq hS rfl ?_)
  have hS₂ := Heap.get?_update_self (Obj.mapSeq (fun _ => (#[] : Array Value))) hS rfl
  have oth : ∀ b o, b ≠ S → s.heap.get? b = some o → (s.heap.update S (Obj.mapSeq (fun _ => (#[] : Array Value)))).get? b = some o :=
    fun b o hb e => (Heap.get?_update_other _ _ (Ne.symm hb)).trans e
  refine wpAny_bind (wpAny_letGo ?_)
  have st2 := st.keep oth (Nat.ne_of_lt b1) (Nat.ne_of_lt b2) (Nat.ne_of_lt b3) (Nat.ne_of_lt b4) (Nat.ne_of_lt b5) (Nat.ne_of_lt (Nat.lt_of_lt_of_le b6 cS)) (Nat.ne_of_lt (Nat.lt_of_lt_of_le b7 cS))
  exact extend hh D (oth _ _ (Nat.ne_of_lt b1) hz) st2 b1 b2 b3 b4 b5 b6 b7 c1 c3 c4 c5 cS hn hsz .none _ hS₂ (fun h' tk acc c as hk hS' hl hG hacc => hR h' tk acc c as (fun b o hb e => hk b o hb (oth b o (Nat.ne_of_lt (Nat.lt_of_lt_of_le hb cS)) e)) hS' hl hG hacc)
theorem call_list {Q : Value → Shared → Prop} {z TI TO i1 i2 l1 l2 lo : Addr} {xs ys : Array Value} {n : Nat} (hh : A.handled = none) (D : ZipApart z TI TO i1 i2 l1 l2) (hz : IsZip s.heap z TI TO .none) (hTO : ∃ a b, IsPair s.heap TO a b) (ti : IsPair s.heap TI (.ref i1) (.ref i2)) (h1 : s.heap.IsTupleIter i1 l1 0) (h2 : s.heap.IsTupleIter i2 l2 0) (hl1 : s.heap.IsTuple l1 xs) (hl2 : s.heap.IsTuple l2 ys)
    (b6 : l1 < lo) (b7 : l2 < lo) (c1 : lo ≤ z) (c3 : lo ≤ TO) (c4 : lo ≤ i1) (c5 : lo ≤ i2) (hn : n = min xs.size ys.size) (hsz : n ≤ sizeLine)
    (hQ : ∀ h' tk acc c as, (∀ b o, b < lo → s.heap.get? b = some o → h'.get? b = some o) → h'.get? s.heap.objs.size = some { cls := .type "list", dict := none, data := .seq acc c, slots := #[] } → as.length = n → G xs ys s.heap.objs.size h' as → acc.toList = as.map Value.ref → Q (.ref s.heap.objs.size) { s with heap := h', toks := tk }) :
    wpAny (model prog w) A (call (.type "list") [.ref z]) Q E s := by
  refine callType_codes (Q₁ := fun obj s₁ => obj = .ref s.heap.objs.size ∧ s₁ = { s with heap := s.heap.push { cls := .type "list", data := .seq #[] } }) PySem.F.called_list (PySem.F.typeCall_list_1 _) PySem.F.entry_list_init
    (code_list_new _ ⟨rfl, rfl⟩) fun obj s₁ h₁ => ?_
  obtain ⟨rfl, rfl⟩ := h₁
  have hS : (s.heap.push { cls := .type "list", data := .seq #[] }).get? s.heap.objs.size = some { cls := .type "list", data := .seq #[] } := Heap.get?_push_size _ rfl
  have up : ∀ b o, s.heap.get? b = some o → (s.heap.push { cls := .type "list", data := .seq #[] }).get? b = some o := fun b o e => Heap.get?_push_of_some _ e
  obtain ⟨a, b, hTO⟩ := hTO
  obtain ⟨o1, ho1, x1⟩ := id h1
  obtain ⟨o2, ho2, x2⟩ := id h2
  have st : St (s.heap.push { cls := .type "list", data := .seq #[] }) z TI TO i1 i2 l1 l2 s.heap.objs.size xs ys 0 :=
    ⟨up _ _ ti, h1.at fun o e => up _ o e, h2.at fun o e => up _ o e, hl1.at fun o e => up _ o e, hl2.at fun o e => up _ o e, .inl ⟨up _ _ hz, a, b, up _ _ hTO⟩⟩
  refine ⟨⟨_, hS, rfl⟩, PySem.F.args_list_init_2 _ _, init (A := A.in1) (s := { s with heap := s.heap.push { cls := .type "list", data := .seq #[] } }) hh D (up _ _ hz) st (Heap.lt_size hz) (Heap.lt_size ti) (Heap.lt_size hTO) (Heap.lt_size ho1) (Heap.lt_size ho2) b6 b7 c1 c3 c4 c5 (Nat.le_trans c1 (Nat.le_of_lt (Heap.lt_size hz))) hn hsz hS (fun h' tk acc c as hk hS' hl hG hacc => ?_)⟩
  exact ⟨rfl, hQ h' tk acc c as (fun b o hb e => hk b o hb (up b o e)) hS' hl hG hacc⟩
end
end ZL

namespace ZL
open PySem PySem.Spec PyProof.Rows L2
/-- the pairs tracked at their addresses -/
def putP : Hp → List Addr → List (V × V) → Hp
  | H, a :: as, p :: kvs => putP (upd H a (.tup [p.1, p.2])) as kvs
  | H, _, _ => H
theorem putP_off {b : Addr} : ∀ (as : List Addr) (kvs : List (V × V)) (H : Hp), b ∉ as → putP H as kvs b = H b
  | [], _, _, _ => rfl
  | _ :: _, [], _, _ => rfl
  | a :: as, p :: kvs, H, h => by
    show putP (upd H a (.tup [p.1, p.2])) as kvs b = H b
    rw [putP_off as kvs _ (fun z => h (List.mem_cons_of_mem _ z)), upd_ne (fun z => h (by rw [z]; exact List.mem_cons_self))]
theorem putP_at : ∀ (as : List Addr) (kvs : List (V × V)) (H : Hp), as.length = kvs.length → as.Nodup → Paired (fun (t : Addr) (p : V × V) => putP H as kvs t = some (.tup [p.1, p.2])) as kvs
  | [], [], _, _, _ => .nil
  | [], _ :: _, _, h, _ => by cases h
  | _ :: _, [], _, h, _ => by cases h
  | a :: as, p :: kvs, H, h, hn => by
    have hn' := List.nodup_cons.mp hn
    have ih := putP_at as kvs (upd H a (.tup [p.1, p.2])) (Nat.succ.inj h) hn'.2
    refine .cons ?_ ih
    show putP (upd H a (.tup [p.1, p.2])) as kvs a = some (.tup [p.1, p.2])
    rw [putP_off as kvs _ hn'.1, upd_same]
def tListZip (K : PySem.W.Frag) (ta : TA) : TE := fun σ H Q => ta σ H fun vs H1 => ∃ (a b : Addr) (xs ys : List V), vs = [.ref a, .ref b] ∧ SqT K H1 a xs ∧ SqT K H1 b ys ∧
  ∀ (H' : Hp) (p : Addr) (ts : List Addr), (∀ b o, H1 b = some o → H' b = some o) → H1 p = none → H' p = some (.lst (ts.map V.ref)) → Paired (fun (t : Addr) (q : V × V) => H' t = some (.tup [q.1, q.2])) ts (xs.zip ys) → Q (.ref p) H'
section
variable {X : Cx} {e e2 : Expr} {ta : TA} {p p2 cpos pos : Pos}
theorem zip_laid {pins : List (Addr × Obj)} {σ : L2.St} {H : Hp} {s : Shared} {h' : Heap} {tk : Nat} {xs ys : List V} {its its2 : List Value} {acc : Array Value} {c : Nat} {as : List Addr} {S : Addr} (I : Inv X pins σ H s) (r1 : Vals xs its) (r2 : Vals ys its2) (hz : its.length ≤ sizeLine) (hSl : s.heap.objs.size ≤ S)
    (hk : ∀ b o, s.heap.get? b = some o → h'.get? b = some o) (hS : h'.get? S = some { cls := .type "list", dict := none, data := .seq acc c, slots := #[] }) (hl : as.length = min its.length its2.length) (hG : G its.toArray its2.toArray S h' as) (hacc : acc.toList = as.map Value.ref) :
    ∃ H' : Hp, (∀ b o, H b = some o → H' b = some o) ∧ H S = none ∧ H' S = some (.lst (as.map V.ref)) ∧ Paired (fun (t : Addr) (q : V × V) => H' t = some (.tup [q.1, q.2])) as (xs.zip ys) ∧ Inv X pins σ H' { s with heap := h', toks := tk } := by
  have l1 := r1.length
  have l2 := r2.length
  have lz : as.length = (xs.zip ys).length := by rw [List.length_zip, l1, l2]; exact hl
  have hSn : S ∉ as := fun z => Nat.lt_irrefl _ (hG.above _ z)
  have nd : as.Nodup := List.Pairwise.imp (fun {a b} (h : a < b) => Nat.ne_of_lt h) hG.rise
  have new : ∀ t ∈ as, H t = none := fun t ht => I.hok.fresh (Nat.le_trans hSl (Nat.le_of_lt (hG.above t ht)))
  have newS : H S = none := I.hok.fresh hSl
  have atP := putP_at as (xs.zip ys) (upd H S (.lst (as.map V.ref))) lz nd
  have off : ∀ b, b ∉ as → b ≠ S → putP (upd H S (.lst (as.map V.ref))) as (xs.zip ys) b = H b := fun b h1 h2 => by rw [putP_off as _ _ h1, upd_ne h2]
  have low : ∀ b o, s.heap.get? b = some o → b ∉ as ∧ b ≠ S := fun b o e => ⟨fun z => absurd (Heap.lt_size e) (Nat.not_lt.mpr (Nat.le_trans hSl (Nat.le_of_lt (hG.above b z)))), Nat.ne_of_lt (Nat.lt_of_lt_of_le (Heap.lt_size e) hSl)⟩
  have kp : ∀ b u, H b = some u → (putP (upd H S (.lst (as.map V.ref))) as (xs.zip ys)) b = some u := fun b u e => by
    rw [off b (fun z => by rw [new b z] at e; cases e) (fun z => by rw [z, newS] at e; cases e)]
    exact e
  have eS : putP (upd H S (.lst (as.map V.ref))) as (xs.zip ys) S = some (.lst (as.map V.ref)) := by rw [putP_off as _ _ hSn, upd_same]
  refine ⟨putP (upd H S (.lst (as.map V.ref))) as (xs.zip ys), kp, newS, eS, atP, ?_⟩
  refine I.call' (ch := []) rfl ⟨fun b o q _ _ _ => hk b o q, fun b o q _ _ _ => ⟨o.slots, hk b o q⟩, fun b o q n _ => ?_, fun b o q _ => ⟨o, hk b o q⟩, fun b xs q => kp b _ q, fun b o u q => kp b _ q, fun b ps q => ⟨#[], by rw [kp b _ q]; simp⟩⟩ (fun b u q => ?_) I.bare fun b z => by simp at z
  · obtain ⟨z1, z2⟩ := low b o q
    rw [off b z1 z2]
    exact n
  · by_cases hb : b ∈ as
    · obtain ⟨j, pk, e1, e2, e3⟩ := LiI.paired_ix atP hb
      rw [e3] at q
      cases q
      obtain ⟨x, y, f1, f2, f3⟩ := hG.pairs j b e1
      rw [List.getElem?_zip_eq_some] at e2
      obtain ⟨g1, g2⟩ := e2
      have f1 : its[j]? = some x := by simpa using f1
      have f2 : its2[j]? = some y := by simpa using f2
      obtain ⟨u1, h1, k1⟩ := LiI.paired_get r1 g1
      obtain ⟨u2, h2, k2⟩ := LiI.paired_get r2 g2
      rw [f1] at h1
      rw [f2] at h2
      cases h1
      cases h2
      exact ⟨by show 2 ≤ sizeLine; decide, [x, y], .cons k1 (.cons k2 .nil), ⟨_, f3, rfl, _, rfl⟩⟩
    · by_cases hb2 : b = S
      · rw [hb2] at q ⊢
        rw [eS] at q
        cases q
        refine ⟨by rw [List.length_map]; omega, acc.toList, c, by rw [hacc]; exact LiI.vals_refs as, ?_⟩
        rw [Array.toArray_toList]
        exact hS
      · rw [off b hb hb2] at q
        exact (I.hok b u q).stay (fun d v _ y => hk d v y) (fun d y => kp d _ y) fun d xs y => kp d _ y
/-- list(zip(t1, t2)) of two tuples -/
theorem pe_listZip (hc : X.calm = true) (ha : PA X [e, e2] ta) (hg : Gl X "list") (hm : X.mg "list" = none) (hg2 : Gl X "zip") (hm2 : X.mg "zip" = none)
    (hs : starEach [.Call (.Name "zip" p2) [e, e2] [] cpos] X.env = (false, eval (.Call (.Name "zip" p2) [e, e2] [] cpos) X.env) :: starEach [] X.env := by rfl)
    (hs2 : starEach [e, e2] X.env = (false, eval e X.env) :: starEach [e2] X.env := by rfl) (hpl : (backTo cpos (starEach [e2] X.env)).any (·.1) = false := by rfl) :
    PE X (.Call (.Name "list" p) [.Call (.Name "zip" p2) [e, e2] [] cpos] [] pos) (tListZip X.K ta) := by
  refine ⟨fun pins s σ H Q I hq => ?_⟩
  refine wpAny_Call_Name_kw (ld_blt I hg hm boot_list ?_)
  refine PyProof.Rows.callWith_type1 ?_ hs rfl
  rw [hs]
  show wpAny _ _ (spliced ((false, eval (.Call (.Name "zip" p2) [e, e2] [] cpos) X.env) :: backTo pos (starEach [] X.env))) _ _ s
  refine Calls.spliced_cons ?_
  refine wpAny_Call_Name_kw (ld_blt I hg2 hm2 PyProof.Rows.boot_zip (PyProof.Rows.callWith_type1 (thn (ha.run cpos pins s σ H _ I hq) fun us s1 ⟨vs, H1, I1, r1, q1⟩ => ?_) hs2 hpl))
  obtain ⟨a, b, xs, ys, ex, hqx, hqy, q1⟩ := q1
  subst ex
  cases r1 with
  | cons r rr =>
    cases rr with
    | cons r' rr =>
      cases rr
      cases r
      cases r'
      obtain ⟨its, rv, p1, z1⟩ := I1.tuple hqx
      obtain ⟨its2, rv2, p2, z2⟩ := I1.tuple hqy
      obtain ⟨o1, ho1, _⟩ := id p1
      obtain ⟨o2, ho2, _⟩ := id p2
      refine RZ.call_zipT (show s1.heap.IsTuple a its.toArray from p1) (show s1.heap.IsTuple b its2.toArray from p2) fun h' hz hTI hTO h1 h2 hsz hk => ?_
      refine Calls.spliced_nil ?_
      have up1 : h'.IsTuple a its.toArray := (show s1.heap.IsTuple a its.toArray from p1).at fun o e => hk _ o e
      have up2 : h'.IsTuple b its2.toArray := (show s1.heap.IsTuple b its2.toArray from p2).at fun o e => hk _ o e
      have zl : its.length ≤ sizeLine := by rw [← rv.length]; exact z1
      refine call_list (s := { s1 with heap := h' }) (lo := s1.heap.objs.size) (n := min its.length its2.length) (I1.ok.hd hc) (PySem.W.ktu_apart s1.heap.objs.size a b (Heap.lt_size ho1) (Heap.lt_size ho2)) hz ⟨_, _, hTO⟩ hTI h1 h2 up1 up2 (Heap.lt_size ho1) (Heap.lt_size ho2)
        (Nat.le_add_right _ _) (Nat.le_add_right _ _) (Nat.le_refl _) (Nat.le_add_right _ _) (by rw [List.size_toArray, List.size_toArray]) (Nat.le_trans (Nat.min_le_left _ _) zl) fun h2' tk acc c as hk2 hS hl hG hacc => ?_
      obtain ⟨H', k1, k2, k3, k4, J⟩ := zip_laid (tk := tk) I1 rv rv2 zl (by show s1.heap.objs.size ≤ h'.objs.size; rw [hsz]; exact Nat.le_add_right _ _) (fun b o e => hk2 b o (Heap.lt_size e) (hk b o e)) hS hl hG hacc
      exact ⟨.ref _, H', J, rfl, q1 H' _ as k1 k2 k3 k4⟩
end
end ZL

namespace TI
open PySem PySem.Spec PyProof.Rows L2
theorem code_tuple_new_items {prog : Program} {w : World} {A : Around} {E : Value → Shared → Prop} {s : Shared} {K : Type} [DecidableEq K] {knd : KeyKind prog w K} {r d : Addr} {kvs : List (K × Value)} {ep : Nat} {Q₁ : Value → Shared → Prop}
    (hh : A.handled = none) (hv : s.heap.IsItemsView r d) (hm : s.heap.DictAt knd d kvs ep) (hn : kvs.length ≤ sizeLine)
    (h : ∀ (h' : Heap) (tk : Nat) (as : List Addr), (∀ b o, s.heap.get? b = some o → h'.get? b = some o) → as.length = kvs.length → PySem.W.KdxG knd kvs s.heap.objs.size h' as →
      Q₁ (.ref h'.objs.size) { s with heap := h'.push { cls := .type "tuple", data := .seq (as.map Value.ref).toArray }, toks := tk }) :
    codeAny (model prog w) A (.call (.builtin "tuple.__new__") ⟨[.type "tuple", .ref r], []⟩) (wants Q₁ E) s := by
  refine codeAny_of_tree ?_
  show wpAny _ A.in1 (do checkBuiltinCall "tuple.__new__" ⟨[.type "tuple", .ref r], []⟩; again (.builtin "tuple.__new__" ⟨[.type "tuple", .ref r], []⟩)) _ _ s
  refine wpAny_bind (wpAny_of_eq (F.newCall_tuple_1 _) (wpAny_pure ⟨plainId_quiet F.plain_tuple_new _, codeAny_builtin F.entry_tuple_new ?_⟩))
  rw [Around.under_plainId F.plain_tuple_new _]
  have hsub := sub_tuple_self
  have hinit := init_tuple_lookup
  have hmh := madeHere_tuple
  have hTI : s.TypeIs (.ref r) "dict_items" := let ⟨o, ho, hc, _⟩ := hv; ⟨o, ho, hc⟩
  have hh1 : A.in1.handled = none := hh
  wp_walk using wpAny_typeOf hTI, PySem.W.kdx_collect (A := A.in1) (knd := knd) (kvs := kvs) (ep := ep) hh1 hv hm hn
  intro h' tk as hk hl hG
  show wpAny _ _ (Builtin.Tuple.tupleExact (as.map Value.ref).toArray >>= fun v => ret v) _ _ _
  unfold Builtin.Tuple.tupleExact
  refine wpAny_bind (wpAny_newObj_type ?_ (by show (as.map Value.ref).toArray.size ≤ sizeLine; rw [List.size_toArray, List.length_map, hl]; exact hn))
  exact wpAny_pure (h h' tk as hk hl hG)
theorem call_tuple_items {prog : Program} {w : World} {A : Around} {E : Value → Shared → Prop} {s : Shared} {K : Type} [DecidableEq K] {knd : KeyKind prog w K} {r d : Addr} {kvs : List (K × Value)} {ep : Nat} {Q : Value → Shared → Prop}
    (hh : A.handled = none) (hv : s.heap.IsItemsView r d) (hm : s.heap.DictAt knd d kvs ep) (hn : kvs.length ≤ sizeLine)
    (hQ : ∀ (h' : Heap) (tk : Nat) (as : List Addr), (∀ b o, s.heap.get? b = some o → h'.get? b = some o) → as.length = kvs.length → PySem.W.KdxG knd kvs s.heap.objs.size h' as →
      Q (.ref h'.objs.size) { s with heap := h'.push { cls := .type "tuple", data := .seq (as.map Value.ref).toArray }, toks := tk }) :
    wpAny (model prog w) A (call (.type "tuple") [.ref r]) Q E s := by
  refine callType_codes (Q₁ := fun obj s₁ => s₁.TypeIs obj "tuple" ∧ Q obj s₁) F.called_tuple (F.typeCall_tuple_1 _) F.entry_object_init
    (code_tuple_new_items (A := A.in1) hh hv hm hn fun h' tk as hk hl hG => ⟨⟨_, Heap.get?_push_size _ rfl, rfl⟩, hQ h' tk as hk hl hG⟩) fun obj s₁ h₁ => ?_
  exact ⟨h₁.1, F.args_object_init_2 obj _, object_init_meets F.called_tuple.init.lookup F.called_tuple.made (by decide) prog w A.in1 _ s₁ ⟨h₁.1, rfl, h₁.2⟩⟩
theorem pim {α β : Type} {F F' : α → β → Prop} (h : ∀ x y, F x y → F' x y) : ∀ {xs : List α} {ys : List β}, Paired F xs ys → Paired F' xs ys
  | _, _, .nil => .nil
  | _, _, .cons a t => .cons (h _ _ a) (pim h t)
def rItemsT : V → Hp → VK → Prop := fun x H Q => ∃ (d : Addr) (kvs : List (Key × V)), x = .ref d ∧ H d = some (.dK kvs) ∧
  ∀ (H' : Hp) (p : Addr) (ts : List Addr), Same H H' → H' p = some (.tup (ts.map V.ref)) → Paired (fun (t : Addr) (q : Key × V) => H' t = some (.tup [kV q.1, q.2])) ts kvs → Q (.ref p) H'
def tTupItems (te : TE) : TE := fun σ H Q => te σ H fun x H1 => rItemsT x H1 Q
section
variable {X : Cx} {e : Expr} {te : TE} {p apos cpos pos : Pos}
theorem pairs_laid {pins : List (Addr × Obj)} {σ : L2.St} {H : Hp} {s : Shared} {h' : Heap} {tk : Nat} {kvs : List (Key × V)} {vs : List (Key × Value)} {as : List Addr} {lo : Addr} (I : Inv X pins σ H s) (kv : KV kvs vs) (hlo : s.heap.objs.size ≤ lo + 1)
    (hk : ∀ b o, s.heap.get? b = some o → h'.get? b = some o) (hl : as.length = vs.length) (hG : PySem.W.KdxG (mixKind X.prog X.w) vs lo h' as) :
    ∃ H' : Hp, Same H H' ∧ Paired (fun (t : Addr) (q : Key × V) => H' t = some (.tup [kV q.1, q.2])) as kvs ∧ Inv X pins σ H' { s with heap := h', toks := tk } := by
  have lk : kvs.length = vs.length := Paired.length kv
  have nd : as.Nodup := List.Pairwise.imp (fun {a b} (h : a < b) => Nat.ne_of_lt h) hG.rise
  have ge : ∀ t ∈ as, s.heap.objs.size ≤ t := fun t ht => Nat.le_trans hlo (hG.above t ht)
  have new : ∀ t ∈ as, H t = none := fun t ht => I.hok.fresh (ge t ht)
  have atP := LiI.putT_at as kvs H (by omega) nd
  have off : ∀ b, b ∉ as → LiI.putT H as kvs b = H b := fun b h1 => by rw [LiI.putT_off as kvs _ h1]
  have low : ∀ b o, s.heap.get? b = some o → b ∉ as := fun b o e => fun z => absurd (Heap.lt_size e) (Nat.not_lt.mpr (ge b z))
  have kp : ∀ b u, H b = some u → (LiI.putT H as kvs) b = some u := fun b u e => by
    rw [off b (fun z => by rw [new b z] at e; cases e)]
    exact e
  refine ⟨LiI.putT H as kvs, kp, atP, ?_⟩
  refine I.call' (ch := []) rfl ⟨fun b o q _ _ _ => hk b o q, fun b o q _ _ _ => ⟨o.slots, hk b o q⟩, fun b o q n _ => ?_, fun b o q _ => ⟨o, hk b o q⟩, fun b xs q => kp b _ q, fun b o u q => kp b _ q, fun b ps q => ⟨#[], by rw [kp b _ q]; simp⟩⟩ (fun b u q => ?_) I.bare fun b z => by simp at z
  · rw [off b (low b o q)]
    exact n
  · by_cases hb : b ∈ as
    · obtain ⟨j, pk, e1, e2, e3⟩ := LiI.paired_ix atP hb
      rw [e3] at q
      cases q
      obtain ⟨key, k, x, f1, f2, f3⟩ := hG.pairs j b e1
      obtain ⟨qv, g1, g2, g3⟩ := LiI.paired_get kv e2
      rw [f1] at g1
      cases g1
      have rk : RelV (kV pk.1) key := by
        rw [g2]
        exact relV_key (show keyIs k key = true from f2)
      exact ⟨by show 2 ≤ sizeLine; decide, [key, x], .cons rk (.cons g3 .nil), ⟨_, f3, rfl, _, rfl⟩⟩
    · rw [off b hb] at q
      exact (I.hok b u q).stay (fun d v _ y => hk d v y) (fun d y => kp d _ y) fun d xs y => kp d _ y
/-- tuple(e.items()) -/
theorem pe_tupItems (hc : X.calm = true) (he : PE X e te) (hg : Gl X "tuple") (hm : X.mg "tuple" = none) (hv : bootBuiltins "tuple" = some (.type "tuple")) (hbase : attributeBase e "items" X.env (eval e X.env) = eval e X.env := by rfl) (hline : (apos.endLine == cpos.line) = true := by rfl)
    (hs : starEach [.Call (.Attribute e "items" apos) [] [] cpos] X.env = (false, eval (.Call (.Attribute e "items" apos) [] [] cpos) X.env) :: starEach [] X.env := by rfl) :
    PE X (.Call (.Name "tuple" p) [.Call (.Attribute e "items" apos) [] [] cpos] [] pos) (tTupItems te) := by
  refine ⟨fun pins s σ H Q I hq => ?_⟩
  refine wpAny_Call_Name_kw (ld_blt I hg hm hv ?_)
  refine PyProof.Rows.callWith_type1 ?_ hs rfl
  rw [hs]
  show wpAny _ _ (spliced ((false, eval (.Call (.Attribute e "items" apos) [] [] cpos) X.env) :: backTo pos (starEach [] X.env))) _ _ s
  refine Calls.spliced_cons ?_
  refine wpAny_Call_method (T := "dict") (id := "dict.items") hbase rfl hline F.plainAttrs_dict F.slot_dict_items F.type_dict_items (thn (he.run pins s σ H _ I hq) fun u s1 ⟨x, H1, I1, rx, d, kvs, ex, hd, q⟩ => ?_)
  subst ex
  obtain rfl : u = Value.ref d := rx
  obtain ⟨hz, hs0, vs, kv, hdo⟩ := I1.hok d _ hd
  obtain ⟨ep, hat⟩ := hdo.dictAt
  have lk : kvs.length = vs.length := Paired.length kv
  have I2 : Inv X pins σ H1 { s1 with heap := s1.heap.push { cls := .type "dict_items", data := .fields #[.ref d] } } := I1.kept (t' := s1.toks) fun b ob q => Heap.get?_push_of_some _ q
  refine ⟨hdo.typeIs, hdo.mapOf.noDict, ?_⟩
  show wpAny _ _ (callWith cpos (.builtin "dict.items") [.ref d] [] []) _ X.xe s1
  refine method_meetsIn F.slot_dict_items F.entry_dict_items rfl (PySem.evalArgs_none ⟨rfl, hdo.typeIs, F.args_dict_items_1 _, _, meets_dict_items (mixKind X.prog X.w) d hs0, ⟨vs, hdo⟩, ?_⟩)
  refine Calls.spliced_nil ?_
  refine call_tuple_items (knd := mixKind X.prog X.w) (kvs := vs) (ep := ep) (I1.ok.hd hc) ⟨_, Heap.get?_push_size _ rfl, rfl, rfl⟩ (hat.push _) (by omega) fun h' tk as hk hl hG => ?_
  obtain ⟨H', k1, k5, J⟩ := pairs_laid (tk := tk) I2 kv (Nat.le_succ _) hk hl hG
  have fr : H' h'.objs.size = none := J.hok.fresh (Nat.le_refl _)
  refine ⟨.ref h'.objs.size, upd H' h'.objs.size (.tup (as.map V.ref)), J.laid (t' := tk) (fun b o e => Heap.get?_push_of_some _ e) (Nat.le_refl _) (show ObjOk X.prog X.w _ _ _ (.tup (as.map V.ref)) from ⟨?_, as.map Value.ref, LiI.vals_refs as, IsTup.new _ _⟩), rfl, q _ _ as (k1.trans (DF.same_new fr _)) upd_same ?_⟩
  · rw [List.length_map, hl, ← lk]; exact hz
  · exact pim (fun t q h => DF.same_new fr _ _ _ h) k5
end
end TI

namespace DF
open PySem L2
theorem sIx_to {n d k : Nat} {o : Option Int} (h : o = some (k : Int)) (hk : k ≤ n) : HT.sIx n d o = k := by
  rw [h, show HT.sIx n d (some (k : Int)) = min k n from HT.sIx_nat n d k]
  omega
theorem cut_take {us : List V} {n : Nat} {i : Int} (h : i = (n : Int)) (hn : n ≤ us.length) : cutV us none (some i) = us.take n := by
  subst h
  unfold cutV
  rw [sIx_to (k := n) rfl hn, HT.sIx_none, List.drop_zero, Nat.sub_zero]
theorem cut_drop {us : List V} {n : Nat} {i : Int} (h : i = (n : Int)) (hn : n ≤ us.length) : cutV us (some i) none = us.drop n := by
  subst h
  unfold cutV
  rw [show HT.sIx us.length us.length none = us.length from HT.sIx_none us.length us.length, sIx_to (k := n) (d := 0) (o := some (n : Int)) rfl hn]
  exact List.take_of_length_le (by rw [List.length_drop]; exact Nat.le_refl _)
/-- a slice of a tuple, by what it holds -/
theorem slA_of {K : PySem.W.Frag} {H : Hp} {a : Addr} {us zs : List V} {lo hi : Option Int} {Q : VK} (sa : SqT K H a us) (e : cutV us lo hi = zs) (h : ∀ (H' : Hp) (c : Addr), Same H H' → SqT K H' c zs → Q (.ref c) H') : rSlA K (.ref a) lo hi H Q := by
  subst e
  refine ⟨a, us, rfl, sa, fun hw => ?_, fun hw p hp => h _ p (same_new hp _) (SqT.of upd_same)⟩
  have e : cutV us lo hi = us := by
    unfold cutV
    rw [hw.1, hw.2, List.drop_zero, Nat.sub_zero, List.take_length]
  refine h H a (fun _ _ q => q) ?_
  rw [e]
  exact sa
theorem slA_take {K : PySem.W.Frag} {H : Hp} {a : Addr} {us : List V} {i : Int} {n : Nat} {Q : VK} (sa : SqT K H a us) (e : i = (n : Int)) (hn : n ≤ us.length) (h : ∀ (H' : Hp) (c : Addr), Same H H' → SqT K H' c (us.take n) → Q (.ref c) H') : rSlA K (.ref a) none (some i) H Q := slA_of sa (cut_take e hn) h
theorem slA_drop {K : PySem.W.Frag} {H : Hp} {a : Addr} {us : List V} {i : Int} {n : Nat} {Q : VK} (sa : SqT K H a us) (e : i = (n : Int)) (hn : n ≤ us.length) (h : ∀ (H' : Hp) (c : Addr), Same H H' → SqT K H' c (us.drop n) → Q (.ref c) H') : rSlA K (.ref a) (some i) none H Q := slA_of sa (cut_drop e hn) h
/-- t + u of tuples, by what it holds -/
theorem catA_of {K : PySem.W.Frag} {H : Hp} {a b : Addr} {us ws : List V} {Q : VK} (sa : SqT K H a us) (sb : SqT K H b ws) (hz : us.length + ws.length ≤ 2000000) (h : ∀ (H' : Hp) (c : Addr), Same H H' → SqT K H' c (us ++ ws) → Q (.ref c) H') : rCatA K (.ref a) (.ref b) H Q := by
  refine ⟨a, b, us, ws, rfl, rfl, sa, sb, by rw [sizeLine_eq]; omega, fun e => ?_, fun e1 e2 => ?_, fun e1 e2 p hp => h _ p (same_new hp _) (SqT.of upd_same)⟩
  · subst e
    exact h H b (fun _ _ q => q) sb
  · subst e2
    refine h H a (fun _ _ q => q) ?_
    rw [List.append_nil]
    exact sa
theorem Same.rfl' {H : Hp} : Same H H := fun _ _ h => h
theorem not_lt_dec {a b : Int} (h : ¬ (decide (a < b) = true)) : b ≤ a := by
  have : ¬ a < b := fun q => h (decide_eq_true q)
  omega
theorem int_of_dec {a b : Int} (h : decide (V.int a = V.int b) = true) : a = b := (V.int.injEq _ _).mp (of_decide_eq_true h)
theorem int_of_ndec {a b : Int} (h : ¬ (decide (V.int a = V.int b) = true)) : a ≠ b := fun e => h (decide_eq_true (by rw [e]))
theorem noPart_of {σ : L2.St} {H : Hp} {Q : Option Int → Hp → Prop} (h : Q none H) : tNoPart σ H Q := h
end DF

namespace EN
open PySem PySem.W PySem.Calls PyProof.Rows PyProof.V PySem.Spec
section
variable {prog : Program} {w : World} {A : Around} {E : Value → Shared → Prop} {s : Shared}
/-- an own row for a tuple given out: the place of the turn and its item -/
abbrev Pr (j : Nat) (tk : Tok) (x : Value) : Obj := { cls := .type "tuple", data := .seq #[.int (j : Int) tk, x] }
theorem held_item {ev itr T : Addr} {fp : List Addr} {n i : Nat} {P : Nat → Value → Prop} {Si : Nat → Heap → Prop} {old : Value} {f : Bool} {oT : Obj} {Q : Value → Shared → Prop} (D : Draws prog w A itr fp n P Si)
    (hev : IsEnumHeld s.heap ev itr i old T f) (hT : s.heap.get? T = some oT) (n1 : T ≠ ev) (n2 : T ≠ itr) (hst : Si i s.heap) (hi : i < n) (hne : ev ≠ itr) (hef : ev ∉ fp) (hfp : ∀ b ∈ fp, b < s.heap.objs.size)
    (hQ : ∀ x g' tk, P i x → IsEnumHeld g' ev itr ((i : Int) + 1) old T true → Si (i + 1) g' → g'.get? s.heap.objs.size = some (Pr i tk x) → g'.objs.size = s.heap.objs.size + 1 →
      (∀ b o, b ≠ ev → b ≠ itr → s.heap.get? b = some o → g'.get? b = some o) → Q (.ref s.heap.objs.size) { s with heap := g', toks := tk + 1 }) :
    wpAny (model prog w) A (Builtin.«enumerate.__next__» ⟨[.ref ev], []⟩) (fun fin s' => ∃ v, fin = .done (.ret v) ∧ Q v s') E s := by
  obtain ⟨hp, gn, d, tk₀, os⟩ := s
  show wpAny _ _ (field (.ref ev) 2 >>= _) _ _ _
  refine wpAny_bind (wpAny_field hev rfl (x := .ref itr) rfl ?_)
  refine wpAny_bind (D.item i _ _ _ hi hst fun x g₁ tk hPx st₁ sb₁ => ?_)
  replace sb₁ : Heap.SameBut itr hp g₁ := sb₁
  have a₁ : IsEnumHeld g₁ ev itr i old T f := (sb₁.2 ev hne).trans hev
  show wpAny _ _ (field (.ref ev) 3 >>= _) _ _ ⟨g₁, gn, d, tk, os⟩
  refine wpAny_bind (wpAny_field a₁ rfl (x := rawInt i) rfl ?_)
  show wpAny _ _ (field (.ref ev) 4 >>= _) _ _ ⟨g₁, gn, d, tk, os⟩
  refine wpAny_bind (wpAny_field a₁ rfl (x := .none) rfl ?_)
  show wpAny _ _ (mkInt i >>= _) _ _ ⟨g₁, gn, d, tk, os⟩
  refine wpAny_bind (wpAny_mkInt ?_)
  show wpAny _ _ (setField (.ref ev) 3 (rawInt ((i : Int) + 1)) >>= _) _ _ ⟨g₁, gn, d, tk + 1, os⟩
  refine wpAny_bind (wpAny_setField_rec a₁ (by simp) fun g₂ a₂ sb₂ => ?_)
  replace sb₂ : Heap.SameBut ev g₁ g₂ := sb₂
  replace a₂ : IsEnumHeld g₂ ev itr ((i : Int) + 1) old T f := a₂
  show wpAny _ _ (setField (.ref ev) 4 .none >>= _) _ _ ⟨g₂, gn, d, tk + 1, os⟩
  refine wpAny_bind (wpAny_setField_rec a₂ (by simp) fun g₃ a₃ sb₃ => ?_)
  replace sb₃ : Heap.SameBut ev g₂ g₃ := sb₃
  replace a₃ : IsEnumHeld g₃ ev itr ((i : Int) + 1) old T f := a₃
  show wpAny _ _ (newTuple [.int i tk, x] >>= _) _ _ ⟨g₃, gn, d, tk + 1, os⟩
  refine wpAny_bind (wpAny_newTuple ?_)
  have a₄ : IsEnumHeld (g₃.push (Pr i tk x)) ev itr ((i : Int) + 1) old T f := Heap.get?_push_of_some _ a₃
  have zs : g₃.objs.size = hp.objs.size := by rw [sb₃.1, sb₂.1, sb₁.1]
  have lev : ev < hp.objs.size := Heap.lt_size hev
  have t₄ : (g₃.push (Pr i tk x)).get? hp.objs.size = some (Pr i tk x) := by rw [← zs]; exact Heap.get?_push_size _ rfl
  have z₄ : (g₃.push (Pr i tk x)).objs.size = hp.objs.size + 1 := by rw [Heap.size_push, zs]
  have k₄ : ∀ b o, b ≠ ev → b ≠ itr → hp.get? b = some o → (g₃.push (Pr i tk x)).get? b = some o := fun b o hb1 hb2 hb =>
    Heap.get?_push_of_some _ (sb₃.extBut b o hb1 (sb₂.extBut b o hb1 (sb₁.extBut b o hb2 hb)))
  have st₄ : Si (i + 1) (g₃.push (Pr i tk x)) := D.frame _ _ _ st₁ fun b hb o y => by
    have hb1 : b ≠ ev := fun q => hef (q ▸ hb)
    exact Heap.get?_push_of_some _ (sb₃.extBut b o hb1 (sb₂.extBut b o hb1 y))
  show wpAny _ _ (Builtin.SmallTypes.ownedTupleIsFree (.ref ev) >>= _) _ _ ⟨g₃.push (Pr i tk x), gn, d, tk + 1, os⟩
  rw [zs]
  refine wpAny_bind (wpAny_tupleHeld_enum (s := ⟨g₃.push (Pr i tk x), gn, d, tk + 1, os⟩) a₄ (k₄ T oT n1 n2 hT) fun g₅ a₅ sb₅ => ?_)
  replace sb₅ : Heap.SameBut ev (g₃.push (Pr i tk x)) g₅ := sb₅
  simp only [Bool.false_eq_true, if_false]
  refine wpAny_pure ⟨_, rfl, hQ x g₅ tk hPx a₅ (D.frame _ _ _ st₄ fun b hb o y => sb₅.extBut b o (fun q => hef (q ▸ hb)) y) (sb₅.extBut _ _ (Nat.ne_of_gt lev) t₄) ?_ fun b o hb1 hb2 hb => sb₅.extBut b o hb1 (k₄ b o hb1 hb2 hb)⟩
  show g₅.objs.size = hp.objs.size + 1
  rw [sb₅.1, z₄]
theorem next_held {ev itr T : Addr} {fp : List Addr} {n i : Nat} {P : Nat → Value → Prop} {Si : Nat → Heap → Prop} {old : Value} {f : Bool} {oT : Obj} {Q : Option Value → Shared → Prop} (D : Draws prog w A.in1 itr fp n P Si)
    (hev : IsEnumHeld s.heap ev itr i old T f) (hT : s.heap.get? T = some oT) (n1 : T ≠ ev) (n2 : T ≠ itr) (hst : Si i s.heap) (hi : i < n) (hne : ev ≠ itr) (hef : ev ∉ fp) (hfp : ∀ b ∈ fp, b < s.heap.objs.size)
    (hQ : ∀ x g' tk, P i x → IsEnumHeld g' ev itr ((i : Int) + 1) old T true → Si (i + 1) g' → g'.get? s.heap.objs.size = some (Pr i tk x) → g'.objs.size = s.heap.objs.size + 1 →
      (∀ b o, b ≠ ev → b ≠ itr → s.heap.get? b = some o → g'.get? b = some o) → Q (some (.ref s.heap.objs.size)) { s with heap := g', toks := tk + 1 }) :
    wpAny (model prog w) A (pyNext (.ref ev)) Q E s := by
  have ty : s.TypeIs (.ref ev) "enumerate" := ⟨_, hev, rfl⟩
  unfold pyNext
  exact wpAny_bind (wpAny_attempt (wpAny_callSpecial?_slot (name := Str.ofString "__next__") ty F.slot_enumerate_next
    (wpAny_call_entry F.slot_enumerate_next ty F.entry_enumerate_next (held_item D hev hT n1 n2 hst hi hne hef hfp fun x g' tk b1 b2 b3 b4 b5 b6 => wpAny_pure (hQ x g' tk b1 b2 b3 b4 b5 b6)) (F.args_enumerate_next_1 _))))
theorem end_held {ev itr T : Addr} {fp : List Addr} {n : Nat} {i : Int} {P : Nat → Value → Prop} {Si : Nat → Heap → Prop} {old : Value} {f : Bool} {Q : Option Value → Shared → Prop} (D : Draws prog w A.in1 itr fp n P Si)
    (hev : IsEnumHeld s.heap ev itr i old T f) (hst : Si n s.heap) (hQ : ∀ g', Heap.ExtBut itr s.heap g' → Q none { s with heap := g' }) : wpAny (model prog w) A (pyNext (.ref ev)) Q E s := by
  have ty : s.TypeIs (.ref ev) "enumerate" := ⟨_, hev, rfl⟩
  unfold pyNext
  refine wpAny_bind (wpAny_attempt (wpAny_callSpecial?_slot (name := Str.ofString "__next__") ty F.slot_enumerate_next
    (wpAny_call_entry F.slot_enumerate_next ty F.entry_enumerate_next ?_ (F.args_enumerate_next_1 _))))
  show wpAny _ _ (field (.ref ev) 2 >>= _) _ _ _
  refine wpAny_bind (wpAny_field hev rfl (x := .ref itr) rfl ?_)
  refine wpAny_bind (D.done _ _ _ hst fun g' e₁ he hx => ?_)
  obtain ⟨o, ho, hc⟩ := hx
  refine wpAny_bind (wpAny_isInstance (T := "StopIteration") (b := true) ⟨o, ho, hc⟩ isSubtype_stop ?_)
  exact wpAny_pure (hQ _ he)
/-- the enumerate before its turn i; S: the list that is filled -/
structure Es (h : Heap) (ev itr t S : Addr) (its : Array Value) (i : Nat) : Prop where
  it : h.IsTupleIter itr t i
  tt : h.IsTuple t its
  ee : (∃ old, IsEnum h ev itr i old) ∨ ∃ T f oT old, IsEnumHeld h ev itr i old T f ∧ h.get? T = some oT ∧ T ≠ ev ∧ T ≠ itr ∧ T ≠ S
theorem Es.keep {h h' : Heap} {ev itr t S : Addr} {its : Array Value} {i : Nat} (x : Es h ev itr t S its i) (k : ∀ b o, b ≠ S → h.get? b = some o → h'.get? b = some o) (a1 : ev ≠ S) (a2 : itr ≠ S) (a3 : t ≠ S) : Es h' ev itr t S its i := by
  refine ⟨x.it.at fun o e => k _ o a2 e, x.tt.at fun o e => k _ o a3 e, ?_⟩
  rcases x.ee with ⟨old, e⟩ | ⟨T, f, oT, old, e, q, b1, b2, b3⟩
  · exact .inl ⟨old, k _ _ a1 e⟩
  · exact .inr ⟨T, f, oT, old, k _ _ a1 e, k _ _ b3 q, b1, b2, b3⟩
theorem Es.item {ev itr t S : Addr} {its : Array Value} {i : Nat} {Q : Option Value → Shared → Prop} (hh : A.handled = none) (hne : ev ≠ itr) (hte : t ≠ ev) (hti : t ≠ itr) (st : Es s.heap ev itr t S its i) (hS : S < s.heap.objs.size) (hi : i < its.size)
    (hQ : ∀ x g' tk tk', its[i]? = some x → Es g' ev itr t S its (i + 1) → g'.get? s.heap.objs.size = some (Pr i tk x) → g'.objs.size = s.heap.objs.size + 1 → (∀ b o, b ≠ ev → b ≠ itr → s.heap.get? b = some o → g'.get? b = some o) → Q (some (.ref s.heap.objs.size)) { s with heap := g', toks := tk' }) :
    wpAny (model prog w) A (pyNext (.ref ev)) Q E s := by
  have D := Draws.tuple (prog := prog) (w := w) (A := A.in1) hh itr t hti its
  have hef : ev ∉ [itr, t] := by
    intro hm
    rcases List.mem_cons.mp hm with q | hm
    · exact hne q
    · exact hte (List.mem_singleton.mp hm).symm
  obtain ⟨o1, ho1, _⟩ := id st.it
  obtain ⟨o2, ho2, _⟩ := id st.tt
  have lt : ∀ {a : Addr} {o : Obj}, s.heap.get? a = some o → s.heap.objs.size ≠ a := fun e => Nat.ne_of_gt (Heap.lt_size e)
  have ci : ((i : Nat) : Int) + 1 = ((i + 1 : Nat) : Int) := by omega
  rcases st.ee with ⟨old, he⟩ | ⟨T, f, oT, old, he, hT, n1, n2, n3⟩
  · refine wpAny_pyNext_enum_itemD D he ⟨st.it, st.tt⟩ hi hne hef fun x g' tk b1 b2 b3 b4 b5 b6 => hQ x g' tk _ b1 ⟨b3.1, b3.2, .inr ⟨_, false, _, _, by rw [← ci]; exact b2, b4, lt he, lt ho1, Nat.ne_of_gt hS⟩⟩ b4 b5 b6
  · refine next_held D he hT n1 n2 ⟨st.it, st.tt⟩ hi hne hef (fun b hb => ?_) fun x g' tk b1 b2 b3 b4 b5 b6 => hQ x g' tk _ b1 ⟨b3.1, b3.2, .inr ⟨T, true, oT, old, by rw [← ci]; exact b2, b6 _ _ n1 n2 hT, n1, n2, n3⟩⟩ b4 b5 b6
    rcases List.mem_cons.mp hb with rfl | hb
    · exact Heap.lt_size ho1
    · rw [List.mem_singleton.mp hb]
      exact Heap.lt_size ho2
theorem Es.done {ev itr t S : Addr} {its : Array Value} {Q : Option Value → Shared → Prop} (hh : A.handled = none) (hti : t ≠ itr) (st : Es s.heap ev itr t S its its.size)
    (hQ : ∀ g', (∀ b o, b ≠ itr → s.heap.get? b = some o → g'.get? b = some o) → Q none { s with heap := g' }) : wpAny (model prog w) A (pyNext (.ref ev)) Q E s := by
  have D := Draws.tuple (prog := prog) (w := w) (A := A.in1) hh itr t hti its
  rcases st.ee with ⟨old, he⟩ | ⟨T, f, oT, old, he, hT, n1, n2, n3⟩
  · exact wpAny_pyNext_enum_endD D he ⟨st.it, st.tt⟩ hQ
  · exact end_held D he ⟨st.it, st.tt⟩ hQ
/-- the rows given out -/
structure Gv (its : Array Value) (lo : Addr) (h : Heap) (as : List Addr) : Prop where
  rise : as.Pairwise (· < ·)
  above : ∀ a ∈ as, lo < a
  rows : ∀ (j : Nat) (a : Addr), as[j]? = some a → ∃ x tk, its[j]? = some x ∧ h.get? a = some (Pr j tk x)
theorem Gv.there {its : Array Value} {lo : Addr} {h : Heap} {as : List Addr} (g : Gv its lo h as) {a : Addr} (ha : a ∈ as) : a < h.objs.size := by
  obtain ⟨j, hj⟩ := List.mem_iff_getElem?.mp ha
  obtain ⟨_, _, _, e⟩ := g.rows j a hj
  exact Heap.lt_size e
theorem fill {R : Result → Shared → Prop} {ev itr t S lo : Addr} {its : Array Value} (hh : A.handled = none) (hne : ev ≠ itr) (hte : t ≠ ev) (hti : t ≠ itr) (b1 : ev < S) (b2 : itr < S) (b3 : t < lo) (c1 : lo ≤ ev) (c2 : lo ≤ itr) (cS : lo ≤ S) (hsz : its.size ≤ sizeLine) (res : Value) {h₁ : Heap}
    (hR : ∀ g' tk acc c as, (∀ b o, b < lo → h₁.get? b = some o → g'.get? b = some o) → g'.get? S = some { cls := .type "list", dict := none, data := .seq acc c, slots := #[] } → as.length = its.size → Gv its S g' as → acc.toList = as.map Value.ref → R (.ok (.ret res)) { s with heap := g', toks := tk }) :
    ∀ (k i : Nat) (h : Heap) (tk c : Nat) (acc : Array Value) (as : List Addr), its.size - i = k → i ≤ its.size → Es h ev itr t S its i → (∀ b o, b < lo → h₁.get? b = some o → h.get? b = some o) →
      h.get? S = some { cls := .type "list", dict := none, data := .seq acc c, slots := #[] } → acc.toList = as.map Value.ref → as.length = i → Gv its S h as →
      codeAny (model prog w) A (.builtin "list.extend.loop" ⟨[.ref S, .ref ev, res], []⟩) R { s with heap := h, toks := tk } := by
  have nS : ∀ {a : Addr}, a < S → S ≠ a := fun h => Nat.ne_of_gt h
  have nlo : ∀ {a b : Addr}, b < lo → lo ≤ a → b ≠ a := fun h1 h2 => Nat.ne_of_lt (Nat.lt_of_lt_of_le h1 h2)
  intro k
  induction k with
  | zero =>
    intro i h tk c acc as hk hi hst hkeep hS hacc hal hG
    have hin : i = its.size := by omega
    subst hin
    refine codeAny_builtin PySem.F.entry_extend_loop ?_
    rw [Around.under_plainId PySem.F.plain_extend_loop _]
    show wpAny _ A.in1 (pyNext (.ref ev) >>= _) _ _ _
    refine wpAny_bind (Es.done (s := { s with heap := h, toks := tk }) (A := A.in1) hh hti hst fun g' he => ?_)
    refine wpAny_pure (hR g' tk acc c as (fun b o hb e => he b o (nlo hb c2) (hkeep b o hb e)) (he S _ (nS b2) hS) hal ⟨hG.rise, hG.above, fun j a hj => ?_⟩ hacc)
    obtain ⟨x, tk', e1, e2⟩ := hG.rows j a hj
    exact ⟨x, tk', e1, he a _ (Nat.ne_of_gt (Nat.lt_trans b2 (hG.above a (List.mem_of_getElem? hj)))) e2⟩
  | succ k ih =>
    intro i h tk c acc as hk hi hst hkeep hS hacc hal hG
    have hlt : i < its.size := by omega
    have hsz' : acc.size = i := by rw [← Array.length_toList, hacc, List.length_map, hal]
    have hSl : S < h.objs.size := Heap.lt_size hS
    refine codeAny_builtin PySem.F.entry_extend_loop ?_
    rw [Around.under_plainId PySem.F.plain_extend_loop _]
    show wpAny _ A.in1 (pyNext (.ref ev) >>= _) _ _ _
    refine wpAny_bind (Es.item (s := { s with heap := h, toks := tk }) (A := A.in1) (S := S) hh hne hte hti hst hSl hlt fun x g' tk1 tk2 hx hst' ht hz hkp => ?_)
    dsimp only at ht hz hkp ⊢
    have hS' := hkp S _ (nS b1) (nS b2) hS
    have up : ∀ b o, b ≠ S → g'.get? b = some o → (g'.update S (Obj.mapSeq (·.push (Value.ref h.objs.size)))).get? b = some o := fun b o hb e => (Heap.get?_update_other _ _ (Ne.symm hb)).trans e
    show wpAny _ A.in1 (updateSeq S (·.push (Value.ref h.objs.size)) >>= _) _ _ _
    refine wpAny_bind ?_
    refine wpAny_updateSeq hS' rfl (wpAny_pure ⟨plainId_quiet PySem.F.plain_extend_loop _, ih (i + 1) _ tk2 _ (acc.push (Value.ref h.objs.size)) (as ++ [h.objs.size]) (by omega) hlt
      (hst'.keep up (Nat.ne_of_lt b1) (Nat.ne_of_lt b2) (nlo b3 cS)) (fun b o hb e => up b o (nlo hb cS) (hkp b o (nlo hb c1) (nlo hb c2) (hkeep b o hb e))) (Heap.get?_update_self _ hS' rfl) (by rw [Array.toList_push, hacc, List.map_append]; rfl) (by rw [List.length_append, hal]; rfl) ⟨?_, ?_, ?_⟩⟩) (by rw [hsz']; omega) (by show (acc.push (Value.ref h.objs.size)).size ≤ sizeLine + 1; rw [Array.size_push, hsz']; omega)
    · refine List.pairwise_append.mpr ⟨hG.rise, List.pairwise_singleton _ _, fun a ha b hb => ?_⟩
      rw [List.mem_singleton.mp hb]
      exact hG.there ha
    · intro a ha
      rcases List.mem_append.mp ha with ha | ha
      · exact hG.above a ha
      · rw [List.mem_singleton.mp ha]; exact hSl
    · intro j b hj
      rcases Nat.lt_trichotomy j as.length with q1 | q1 | q1
      · rw [List.getElem?_append_left q1] at hj
        obtain ⟨x', tk', e1, e2⟩ := hG.rows j b hj
        have hb := hG.above b (List.mem_of_getElem? hj)
        exact ⟨x', tk', e1, up b _ (Nat.ne_of_gt hb) (hkp b _ (Nat.ne_of_gt (Nat.lt_trans b1 hb)) (Nat.ne_of_gt (Nat.lt_trans b2 hb)) e2)⟩
      · subst q1
        have hb : h.objs.size = b := by simpa using hj
        subst hb
        exact ⟨x, tk1, by rw [hal]; exact hx, up _ _ (Nat.ne_of_gt hSl) (by rw [hal]; exact ht)⟩
      · have hnone : (as ++ [h.objs.size])[j]? = none := List.getElem?_eq_none (by rw [List.length_append, List.length_singleton]; omega)
        rw [hnone] at hj; cases hj
theorem no_len : typeLookup (.type "enumerate") "__len__" = pure none := am_miss_of_fast (by decide +kernel)
theorem no_hint : typeLookup (.type "enumerate") "__length_hint__" = pure none := am_miss_of_fast (by decide +kernel)
theorem hint {ev : Addr} (hT : s.TypeIs (.ref ev) "enumerate") {Q : Bool → Shared → Prop} (h : Q true s) : wpAny (model prog w) A (Builtin.List.listLengthHint (.ref ev)) Q E s := by
  unfold Builtin.List.listLengthHint
  refine wpAny_bind (wpAny_specialOf hT no_len ?_)
  refine wpAny_ite_split (fun hab => absurd hab (by decide)) (fun _ => ?_)
  refine wpAny_ite_split (fun hab => absurd hab (by decide)) (fun _ => ?_)
  refine wpAny_bind (wpAny_specialOf hT no_hint ?_)
  exact wpAny_pure h
end
end EN

namespace EN
open PySem PySem.W PySem.Calls PyProof.Rows PyProof.V PySem.Spec
section
variable {prog : Program} {w : World} {A : Around} {E : Value → Shared → Prop} {s : Shared}
theorem extend {R : Result → Shared → Prop} {ev itr t S lo : Addr} {its : Array Value} {old : Value} (hh : A.handled = none) (hne : ev ≠ itr) (hte : t ≠ ev) (hti : t ≠ itr) (he : IsEnum s.heap ev itr (0 : Nat) old) (st : Es s.heap ev itr t S its 0) (b1 : ev < S) (b2 : itr < S) (b3 : t < lo) (c1 : lo ≤ ev) (c2 : lo ≤ itr) (cS : lo ≤ S) (hsz : its.size ≤ sizeLine)
    (res : Value) (c₀ : Nat) (hS : s.heap.get? S = some { cls := .type "list", data := .seq #[] c₀ })
    (hR : ∀ g' tk acc c as, (∀ b o, b < lo → s.heap.get? b = some o → g'.get? b = some o) → g'.get? S = some { cls := .type "list", dict := none, data := .seq acc c, slots := #[] } → as.length = its.size → Gv its S g' as → acc.toList = as.map Value.ref → R (.ok (.ret res)) { s with heap := g', toks := tk }) :
    wpAny (model prog w) A.in1 (Builtin.List.listExtendWith (.ref S) (.ref ev) res)
      (fun fin s' => match fin with | .done f => R (.ok f) s' | .again c' => c'.quiet = true ∧ codeAny (model prog w) A c' R s') (fun e s' => R (.error e) s') s := by
  have n1 := Nat.ne_of_lt b1
  have n2 := Nat.ne_of_lt b2
  have n3 := Nat.ne_of_lt (Nat.lt_of_lt_of_le b3 cS)
  have key : ∀ (h : Heap) (c₁ tk : Nat), (∀ b o, b ≠ S → s.heap.get? b = some o → h.get? b = some o) → h.get? S = some { cls := .type "list", data := .seq #[] c₁ } →
      codeAny (model prog w) A (.builtin "list.extend.loop" ⟨[.ref S, .ref ev, res], []⟩) R { s with heap := h, toks := tk } := by
    intro h c₁ tk hk hS₁
    exact fill (s := s) (h₁ := s.heap) hh hne hte hti b1 b2 b3 c1 c2 cS hsz res hR its.size 0 h tk c₁ #[] [] (Nat.sub_zero _) (Nat.zero_le _) (st.keep hk n1 n2 n3)
      (fun b o hb e => hk b o (Nat.ne_of_lt (Nat.lt_of_lt_of_le hb cS)) e) hS₁ rfl rfl ⟨List.Pairwise.nil, (fun _ ha => nomatch ha), (fun j a hj => by simp at hj)⟩
  have hTy : s.TypeIs (.ref ev) "enumerate" := ⟨_, he, rfl⟩
  unfold Builtin.List.listExtendWith
  refine wpAny_bind (wpAny_typeOf (T := "enumerate") hTy ?_)
  have h1 : Builtin.List.listSameRef (.ref S) (.ref ev) = false := by simp [Builtin.List.listSameRef, Nat.ne_of_gt b1]
  have h2 : (Value.type "enumerate" == Value.type "list") = false := by decide
  have h3 : (Value.type "enumerate" == Value.type "tuple") = false := by decide
  simp only [h1, h2, h3, Bool.or_false, Bool.false_eq_true, if_false]
  refine wpAny_bind (wpAny_pyIter_enum he ?_)
  refine wpAny_bind (wpAny_holding (hint hTy ?_))
  refine wpAny_ite_split (fun _ => ?_) (fun _ => wpAny_pure ⟨plainId_quiet PySem.F.plain_extend_loop _, key _ c₀ _ (fun b o _ e => e) hS⟩)
  refine wpAny_bind (wpAny_rule ?_)
  refine wpAny_bind ?_
  show wpAny _ _ (updateSeq S (·.push .none) >>= fun _ => updateSeq S (·.pop)) _ _ _
  refine wpAny_bind (wpAny_updateSeq hS rfl ?_)
  have hS₂ := Heap.get?_update_self (Obj.mapSeq (·.push Value.none)) hS rfl
  refine wpAny_updateSeq (hz := by seq_fits) hS₂ rfl ?_
  have hS₃ := Heap.get?_update_self (Obj.mapSeq (·.pop)) hS₂ rfl
  refine wpAny_pure ⟨plainId_quiet PySem.F.plain_extend_loop _, key _ _ _ (fun b o hb e => ?_) hS₃⟩
  exact (Heap.get?_update_other _ _ (Ne.symm hb)).trans ((Heap.get?_update_other _ _ (Ne.symm hb)).trans e)
theorem gather {R : List Value → Shared → Prop} {ev itr t lo : Addr} {its : Array Value} {old : Value} (hh : A.handled = none) (hne : ev ≠ itr) (hte : t ≠ ev) (hti : t ≠ itr) (he : IsEnum s.heap ev itr (0 : Nat) old) (hi : s.heap.IsTupleIter itr t 0) (ht : s.heap.IsTuple t its) (b3 : t < lo) (c1 : lo ≤ ev) (c2 : lo ≤ itr) (hsz : its.size ≤ sizeLine)
    (hR : ∀ (g' : Heap) (tk : Nat) (as : List Addr), (∀ b o, b < lo → s.heap.get? b = some o → g'.get? b = some o) → as.length = its.size → Gv its s.heap.objs.size g' as → R (as.map Value.ref) { s with heap := g', toks := tk }) :
    wpAny (model prog w) A (collect (.ref ev)) R E s := by
  obtain ⟨o1, ho1, x1⟩ := id hi
  have up : ∀ b o, s.heap.get? b = some o → (s.heap.push { cls := .type "list", data := .seq ([] : List Value).toArray }).get? b = some o := fun b o e => Heap.get?_push_of_some _ e
  unfold collect
  refine wpAny_bind (wpAny_runValue (codeAny_builtin entry_proto_collect' ?_))
  rw [Around.under_plainId PySem.F.plain_proto_collect _]
  show wpAny _ A.in1 (newList [] >>= fun l => again (.builtin "list.__iadd__" ⟨[l, .ref ev], []⟩)) _ _ s
  refine wpAny_bind (wpAny_newObj_type ?_)
  refine wpAny_pure ⟨plainId_quiet PySem.F.plain_list_iadd _, codeAny_builtin entry_list_iadd' ?_⟩
  rw [Around.under_plainId PySem.F.plain_list_iadd _]
  have hS₁ : (s.heap.push { cls := .type "list", data := .seq ([] : List Value).toArray }).get? s.heap.objs.size = some { cls := .type "list", data := .seq #[] } := Heap.get?_push_size _ rfl
  show wpAny _ A.in1 (Builtin.List.listExtendWith (.ref s.heap.objs.size) (.ref ev) (.ref s.heap.objs.size)) _ _ _
  have st : Es (s.heap.push { cls := .type "list", data := .seq ([] : List Value).toArray }) ev itr t s.heap.objs.size its 0 := ⟨hi.at fun o e => up _ o e, ht.at fun o e => up _ o e, .inl ⟨old, up _ _ he⟩⟩
  have key := extend (prog := prog) (w := w) (A := A) (s := { s with heap := s.heap.push { cls := .type "list", data := .seq ([] : List Value).toArray } }) (S := s.heap.objs.size) (lo := lo) (its := its) (old := old)
    (R := fun (q : Result) (s' : Shared) => ∃ (g' : Heap) (tk : Nat) (acc' : Array Value) (c' : Nat) (as : List Addr), q = .ok (.ret (.ref s.heap.objs.size)) ∧ s' = { s with heap := g', toks := tk } ∧
      (∀ b o, b < lo → s.heap.get? b = some o → g'.get? b = some o) ∧ g'.get? s.heap.objs.size = some { cls := .type "list", dict := none, data := .seq acc' c', slots := #[] } ∧ as.length = its.size ∧ Gv its s.heap.objs.size g' as ∧ acc'.toList = as.map Value.ref)
    hh hne hte hti (up _ _ he) st (Heap.lt_size he) (Heap.lt_size ho1) b3 c1 c2 (Nat.le_trans c1 (Nat.le_of_lt (Heap.lt_size he))) hsz (.ref s.heap.objs.size) 0 hS₁
    (fun g' tk acc' c' as hk hS' hl hG hacc => ⟨g', tk, acc', c', as, rfl, rfl, fun b o hb e => hk b o hb (up b o e), hS', hl, hG, hacc⟩)
  refine wpAny_mono key (fun fin s' x => ?_) fun e s' x => ?_
  · cases fin with
    | done f =>
      obtain ⟨g', tk, acc', c', as, e, rfl, hk, hS', hl, hG, hacc⟩ := x
      cases e
      show wpAny _ A (load s.heap.objs.size >>= _) _ _ _
      refine wpAny_bind (wpAny_load hS' (wpAny_pure ?_))
      show R acc'.toList _
      rw [hacc]
      exact hR g' tk as hk hl hG
    | again c₁ =>
      refine ⟨x.1, codeAny_mono x.2 fun q s₂ y => ?_⟩
      obtain ⟨g', tk, acc', c', as, rfl, rfl, hk, hS', hl, hG, hacc⟩ := y
      show wpAny _ A (load s.heap.objs.size >>= _) _ _ _
      refine wpAny_bind (wpAny_load hS' (wpAny_pure ?_))
      show R acc'.toList _
      rw [hacc]
      exact hR g' tk as hk hl hG
  · obtain ⟨_, _, _, _, _, e', _⟩ := x
    cases e'
theorem newT {Q₁ : Value → Shared → Prop} {ev itr t lo : Addr} {its : Array Value} {old : Value} (hh : A.handled = none) (hne : ev ≠ itr) (hte : t ≠ ev) (hti : t ≠ itr) (he : IsEnum s.heap ev itr (0 : Nat) old) (hi : s.heap.IsTupleIter itr t 0) (ht : s.heap.IsTuple t its) (b3 : t < lo) (c1 : lo ≤ ev) (c2 : lo ≤ itr) (hsz : its.size ≤ sizeLine)
    (hQ : ∀ (g' : Heap) (tk : Nat) (as : List Addr), (∀ b o, b < lo → s.heap.get? b = some o → g'.get? b = some o) → as.length = its.size → Gv its s.heap.objs.size g' as →
      Q₁ (.ref g'.objs.size) { s with heap := g'.push { cls := .type "tuple", data := .seq (as.map Value.ref).toArray }, toks := tk }) :
    codeAny (model prog w) A (.call (.builtin "tuple.__new__") ⟨[.type "tuple", .ref ev], []⟩) (wants Q₁ E) s := by
  refine codeAny_of_tree ?_
  show wpAny _ A.in1 (do checkBuiltinCall "tuple.__new__" ⟨[.type "tuple", .ref ev], []⟩; again (.builtin "tuple.__new__" ⟨[.type "tuple", .ref ev], []⟩)) _ _ s
  refine wpAny_bind (wpAny_of_eq (F.newCall_tuple_1 _) (wpAny_pure ⟨plainId_quiet F.plain_tuple_new _, codeAny_builtin F.entry_tuple_new ?_⟩))
  rw [Around.under_plainId F.plain_tuple_new _]
  have hsub := sub_tuple_self
  have hinit := init_tuple_lookup
  have hmh := madeHere_tuple
  have hTI : s.TypeIs (.ref ev) "enumerate" := ⟨_, he, rfl⟩
  have hh1 : A.in1.handled = none := hh
  wp_walk using wpAny_typeOf hTI, gather (A := A.in1) hh1 hne hte hti he hi ht b3 c1 c2 hsz
  intro g' tk as hk hl hG
  show wpAny _ _ (Builtin.Tuple.tupleExact (as.map Value.ref).toArray >>= fun v => ret v) _ _ _
  unfold Builtin.Tuple.tupleExact
  refine wpAny_bind (wpAny_newObj_type ?_ (by show (as.map Value.ref).toArray.size ≤ sizeLine; rw [List.size_toArray, List.length_map, hl]; exact hsz))
  exact wpAny_pure (hQ g' tk as hk hl hG)
theorem callT {Q : Value → Shared → Prop} {ev itr t lo : Addr} {its : Array Value} {old : Value} (hh : A.handled = none) (hne : ev ≠ itr) (hte : t ≠ ev) (hti : t ≠ itr) (he : IsEnum s.heap ev itr (0 : Nat) old) (hi : s.heap.IsTupleIter itr t 0) (ht : s.heap.IsTuple t its) (b3 : t < lo) (c1 : lo ≤ ev) (c2 : lo ≤ itr) (hsz : its.size ≤ sizeLine)
    (hQ : ∀ (g' : Heap) (tk : Nat) (as : List Addr), (∀ b o, b < lo → s.heap.get? b = some o → g'.get? b = some o) → as.length = its.size → Gv its s.heap.objs.size g' as →
      Q (.ref g'.objs.size) { s with heap := g'.push { cls := .type "tuple", data := .seq (as.map Value.ref).toArray }, toks := tk }) :
    wpAny (model prog w) A (call (.type "tuple") [.ref ev]) Q E s := by
  refine callType_codes (Q₁ := fun obj s₁ => s₁.TypeIs obj "tuple" ∧ Q obj s₁) F.called_tuple (F.typeCall_tuple_1 _) F.entry_object_init
    (newT (A := A.in1) hh hne hte hti he hi ht b3 c1 c2 hsz fun g' tk as hk hl hG => ⟨⟨_, Heap.get?_push_size _ rfl, rfl⟩, hQ g' tk as hk hl hG⟩) fun obj s₁ h₁ => ?_
  exact ⟨h₁.1, F.args_object_init_2 obj _, object_init_meets F.called_tuple.init.lookup F.called_tuple.made (by decide) prog w A.in1 _ s₁ ⟨h₁.1, rfl, h₁.2⟩⟩
theorem meets_newT (t : Addr) (its : Array Value) : Meets (Builtin.«enumerate.__new__» ⟨[.type "enumerate", .ref t], []⟩) (fun _ R s => s.heap.IsTuple t its ∧
      R (.ok (.ret (.ref (s.heap.push { cls := .type "tuple_iterator", data := .fields #[.ref t, .int 0 0] }).objs.size)))
        { s with heap := (s.heap.push { cls := .type "tuple_iterator", data := .fields #[.ref t, .int 0 0] }).push { cls := .type "enumerate", data := .fields #[.none, .bool false, .ref s.heap.objs.size, rawInt 0, .none, .none] } }) :=
  .of_wp fun prog w A R s h => by
    obtain ⟨hp, gn, d, tk, os⟩ := s; obtain ⟨hl, h⟩ := h
    have hsub := sub_enumerate
    have q1 : ∀ {A' : Around} {E : Value → Shared → Prop} {Q : Value → Shared → Prop}, Q (.ref hp.objs.size) ⟨hp.push { cls := .type "tuple_iterator", data := .fields #[.ref t, .int 0 0] }, gn, d, tk, os⟩ → wpAny (model prog w) A' (pyIter (.ref t)) Q E ⟨hp, gn, d, tk, os⟩ :=
      fun q => wpAny_pyIter_tuple (s := ⟨hp, gn, d, tk, os⟩) hl q
    wp_walk using q1
    refine wpAny_stack_any fun st => wpAny_pure ?_
    split
    · rename_i c _ _ _ _ _
      cases (c == Value.type "enumerate")
      · wp_walk using q1
        exact ⟨_, rfl, h⟩
      · wp_walk using q1
        exact ⟨_, rfl, h⟩
    · wp_walk using q1
      exact ⟨_, rfl, h⟩
theorem callE {t : Addr} {its : Array Value} {Q : Value → Shared → Prop} (ht : s.heap.IsTuple t its)
    (hQ : ∀ g', IsEnum g' (s.heap.objs.size + 1) s.heap.objs.size (0 : Nat) .none → g'.IsTupleIter s.heap.objs.size t 0 → (∀ b o, s.heap.get? b = some o → g'.get? b = some o) → Q (.ref (s.heap.objs.size + 1)) { s with heap := g' }) :
    wpAny (model prog w) A (call (.type "enumerate") [.ref t]) Q E s := by
  refine callType_new F.called_enumerate (by decide) (F.typeCall_enumerate_1 _) (F.newCall_enumerate_1 _) (fun obj => F.args_object_init_2 obj _) F.entry_enumerate_new (meets_newT t its) ⟨ht, ?_⟩
  have hz : (s.heap.push { cls := .type "tuple_iterator", data := .fields #[.ref t, .int 0 0] }).objs.size = s.heap.objs.size + 1 := Heap.size_push ..
  show _ ∧ _
  rw [hz]
  have he : IsEnum ((s.heap.push { cls := .type "tuple_iterator", data := .fields #[.ref t, .int 0 0] }).push { cls := .type "enumerate", data := .fields #[.none, .bool false, .ref s.heap.objs.size, rawInt 0, .none, .none] }) (s.heap.objs.size + 1) s.heap.objs.size (0 : Nat) .none := by
    have e1 := Heap.get?_push_size (s.heap.push { cls := .type "tuple_iterator", data := .fields #[.ref t, .int 0 0] }) (o := { cls := .type "enumerate", data := .fields #[.none, .bool false, .ref s.heap.objs.size, rawInt 0, .none, .none] }) rfl
    rw [hz] at e1
    exact e1
  exact ⟨⟨_, he, rfl⟩, hQ _ he ⟨_, Heap.get?_push_of_some _ (Heap.get?_push_size _ rfl), rfl, rfl⟩ fun b o x => Heap.get?_push_of_some _ (Heap.get?_push_of_some _ x)⟩
end
end EN

namespace EN
open PySem PySem.Spec PyProof.Rows L2
/-- the pairs of places and items -/
def enumV (xs : List V) : List (V × V) := ((List.range xs.length).map fun (n : Nat) => V.int (n : Int)).zip xs
theorem enumV_get {xs : List V} {j : Nat} {p : V × V} (h : (enumV xs)[j]? = some p) : p.1 = .int (j : Int) ∧ xs[j]? = some p.2 := by
  unfold enumV at h
  rw [List.getElem?_zip_eq_some] at h
  obtain ⟨h1, h2⟩ := h
  rw [List.getElem?_map] at h1
  have hj : j < xs.length := by
    by_cases hj : j < xs.length
    · exact hj
    · rw [List.getElem?_eq_none (by omega)] at h2
      cases h2
  rw [List.getElem?_range hj] at h1
  exact ⟨(Option.some.inj h1).symm, h2⟩
theorem enumV_length (xs : List V) : (enumV xs).length = xs.length := by
  unfold enumV
  rw [List.length_zip, List.length_map, List.length_range, Nat.min_self]
/-- tuple(enumerate(t)) of a tuple -/
def tTupEnum (K : PySem.W.Frag) (te : TE) : TE := fun σ H Q => te σ H fun x H1 => ∃ (a : Addr) (xs : List V), x = .ref a ∧ SqT K H1 a xs ∧
  ∀ (H' : Hp) (p : Addr) (ts : List Addr), Same H1 H' → H' p = some (.tup (ts.map V.ref)) → Paired (fun (t : Addr) (q : V × V) => H' t = some (.tup [q.1, q.2])) ts (enumV xs) → Q (.ref p) H'
section
variable {X : Cx} {e : Expr} {te : TE} {p p2 cpos pos : Pos}
theorem enum_laid {pins : List (Addr × Obj)} {σ : L2.St} {H : Hp} {s : Shared} {h' : Heap} {tk : Nat} {xs : List V} {its : List Value} {as : List Addr} {lo : Addr} (I : Inv X pins σ H s) (r1 : Vals xs its) (hlo : s.heap.objs.size ≤ lo + 1)
    (hk : ∀ b o, s.heap.get? b = some o → h'.get? b = some o) (hl : as.length = its.length) (hG : Gv its.toArray lo h' as) :
    ∃ H' : Hp, Same H H' ∧ Paired (fun (t : Addr) (q : V × V) => H' t = some (.tup [q.1, q.2])) as (enumV xs) ∧ Inv X pins σ H' { s with heap := h', toks := tk } := by
  have l1 := r1.length
  have lz : as.length = (enumV xs).length := by rw [enumV_length, l1]; exact hl
  have nd : as.Nodup := List.Pairwise.imp (fun {a b} (h : a < b) => Nat.ne_of_lt h) hG.rise
  have ge : ∀ t ∈ as, s.heap.objs.size ≤ t := fun t ht => Nat.le_trans hlo (hG.above t ht)
  have new : ∀ t ∈ as, H t = none := fun t ht => I.hok.fresh (ge t ht)
  have atP := ZL.putP_at as (enumV xs) H lz nd
  have off : ∀ b, b ∉ as → ZL.putP H as (enumV xs) b = H b := fun b h1 => by rw [ZL.putP_off as _ _ h1]
  have low : ∀ b o, s.heap.get? b = some o → b ∉ as := fun b o e => fun z => absurd (Heap.lt_size e) (Nat.not_lt.mpr (ge b z))
  have kp : ∀ b u, H b = some u → (ZL.putP H as (enumV xs)) b = some u := fun b u e => by
    rw [off b (fun z => by rw [new b z] at e; cases e)]
    exact e
  refine ⟨ZL.putP H as (enumV xs), kp, atP, ?_⟩
  refine I.call' (ch := []) rfl ⟨fun b o q _ _ _ => hk b o q, fun b o q _ _ _ => ⟨o.slots, hk b o q⟩, fun b o q n _ => ?_, fun b o q _ => ⟨o, hk b o q⟩, fun b xs q => kp b _ q, fun b o u q => kp b _ q, fun b ps q => ⟨#[], by rw [kp b _ q]; simp⟩⟩ (fun b u q => ?_) I.bare fun b z => by simp at z
  · rw [off b (low b o q)]
    exact n
  · by_cases hb : b ∈ as
    · obtain ⟨j, pk, e1, e2, e3⟩ := LiI.paired_ix atP hb
      rw [e3] at q
      cases q
      obtain ⟨x, tk', f1, f2⟩ := hG.rows j b e1
      obtain ⟨g1, g2⟩ := enumV_get e2
      have f1 : its[j]? = some x := by simpa using f1
      obtain ⟨u1, h1, k1⟩ := LiI.paired_get r1 g2
      rw [f1] at h1
      cases h1
      exact ⟨by show 2 ≤ sizeLine; decide, [.int (j : Int) tk', x], .cons (by rw [g1]; exact ⟨tk', rfl⟩) (.cons k1 .nil), ⟨_, f2, rfl, _, rfl⟩⟩
    · rw [off b hb] at q
      exact (I.hok b u q).stay (fun d v _ y => hk d v y) (fun d y => kp d _ y) fun d xs y => kp d _ y
theorem pe_tupEnum (hc : X.calm = true) (he : PE X e te) (hg : Gl X "tuple") (hm : X.mg "tuple" = none) (hv : bootBuiltins "tuple" = some (.type "tuple")) (hg2 : Gl X "enumerate") (hm2 : X.mg "enumerate" = none) (hv2 : bootBuiltins "enumerate" = some (.type "enumerate"))
    (hs : starEach [.Call (.Name "enumerate" p2) [e] [] cpos] X.env = (false, eval (.Call (.Name "enumerate" p2) [e] [] cpos) X.env) :: starEach [] X.env := by rfl)
    (hs2 : starEach [e] X.env = (false, eval e X.env) :: starEach [] X.env := by rfl) :
    PE X (.Call (.Name "tuple" p) [.Call (.Name "enumerate" p2) [e] [] cpos] [] pos) (tTupEnum X.K te) := by
  refine ⟨fun pins s σ H Q I hq => ?_⟩
  refine wpAny_Call_Name_kw (ld_blt I hg hm hv ?_)
  refine PyProof.Rows.callWith_type1 ?_ hs rfl
  rw [hs]
  show wpAny _ _ (spliced ((false, eval (.Call (.Name "enumerate" p2) [e] [] cpos) X.env) :: backTo pos (starEach [] X.env))) _ _ s
  refine Calls.spliced_cons ?_
  refine wpAny_Call_Name_kw (ld_blt I hg2 hm2 hv2 (PyProof.Rows.callWith_type1 ?_ hs2 rfl))
  rw [hs2]
  show wpAny _ _ (spliced ((false, eval e X.env) :: backTo cpos (starEach [] X.env))) _ _ s
  refine Calls.spliced_cons (thn (he.run pins s σ H _ I hq) fun u s1 ⟨x, H1, I1, rx, a, xs, ex, hqx, q1⟩ => ?_)
  subst ex
  obtain rfl : u = Value.ref a := rx
  refine Calls.spliced_nil ?_
  obtain ⟨its, rv, p1, z1⟩ := I1.tuple hqx
  obtain ⟨o1, ho1, _⟩ := id p1
  have la := Heap.lt_size ho1
  refine callE (show s1.heap.IsTuple a its.toArray from p1) fun g' he' hi' hk => ?_
  refine Calls.spliced_nil ?_
  have up1 : g'.IsTuple a its.toArray := (show s1.heap.IsTuple a its.toArray from p1).at fun o e => hk _ o e
  have zl : its.length ≤ sizeLine := by rw [← rv.length]; exact z1
  refine callT (s := { s1 with heap := g' }) (lo := s1.heap.objs.size) (I1.ok.hd hc) (Nat.succ_ne_self _) (Nat.ne_of_lt (Nat.lt_succ_of_lt la)) (Nat.ne_of_lt la) he' hi' up1 la (Nat.le_succ _) (Nat.le_refl _) (by rw [List.size_toArray]; exact zl) fun h2' tk as hk2 hl hG => ?_
  have hk3 : ∀ b o, s1.heap.get? b = some o → h2'.get? b = some o := fun b o e => hk2 b o (Heap.lt_size e) (hk b o e)
  have hsz : s1.heap.objs.size ≤ g'.objs.size + 1 := by
    obtain ⟨_, q, _⟩ := id hi'
    exact Nat.le_succ_of_le (Nat.le_of_lt (Heap.lt_size q))
  obtain ⟨H', k1, k5, J⟩ := enum_laid (tk := tk) I1 rv hsz hk3 (by rw [hl, List.size_toArray]) hG
  have fr : H' h2'.objs.size = none := J.hok.fresh (Nat.le_refl _)
  refine ⟨.ref h2'.objs.size, upd H' h2'.objs.size (.tup (as.map V.ref)), J.laid (t' := tk) (fun b o e => Heap.get?_push_of_some _ e) (Nat.le_refl _) (show ObjOk X.prog X.w _ _ _ (.tup (as.map V.ref)) from ⟨?_, as.map Value.ref, LiI.vals_refs as, IsTup.new _ _⟩), rfl, q1 _ _ as (k1.trans (DF.same_new fr _)) upd_same ?_⟩
  · rw [List.length_map, hl, List.size_toArray]; exact zl
  · exact TI.pim (fun t q h => DF.same_new fr _ _ _ h) k5
end
end EN

namespace DF
open PySem L2
/-! ### programs and what terms demand -/
inductive Fn where
  | plain (x : Str) (n : Nat) (b : Tm)
  | cases (x : Str) (n : Nat) (rs : List (Str × Nat × Tm))
def Fn.name : Fn → Str
  | .plain x _ _ => x
  | .cases x _ _ => x
def Fn.arity : Fn → Nat
  | .plain _ n _ => n
  | .cases _ n _ => n
def ruleD (r : Str × Nat × Tm) : Dt := .tup [.key (.inr r.1), .key (.inl (r.2.1 : Int)), r.2.2.dat]
def Fn.dat : Fn → Dt
  | .plain x n b => .tup [.key (.inr "plain"), .key (.inr x), .key (.inl (n : Int)), b.dat]
  | .cases x n rs => .tup [.key (.inr "cases"), .key (.inr x), .key (.inl (n : Int)), .tup (rs.map ruleD)]
def getF (fs : List Fn) : Key → Option Fn
  | .inl _ => none
  | .inr x => fs.find? fun f => decide (f.name = x)
def enumP (as : List Tm) : List (Int × Tm) := ((List.range as.length).map fun (n : Nat) => (n : Int)).zip as
/-- a body with its arguments -/
def unf (b : Tm) (as : List Tm) (n : Nat) : Tm := (b.put (enumP (as.take n))).appl (as.drop n)
inductive Dem where
  | val
  | step (t : Tm)
  | err
  | unk (i : Int)
  | needs (i : Int) (x : Str)
  | stuck (i : Int)
def Dem.dat : Dem → Dt
  | .val => .tup [.key (.inr "value")]
  | .step t => .tup [.key (.inr "step"), t.dat]
  | .err => .tup [.key (.inr "error")]
  | .unk i => .tup [.key (.inr "unknown"), .key (.inl i)]
  | .needs i x => .tup [.key (.inr "needs"), .key (.inl i), .key (.inr x)]
  | .stuck i => .tup [.key (.inr "stuck"), .key (.inl i)]
def Tm.fst (t : Tm) : Tm := match t.args with
  | [] => t
  | a :: _ => a
/-- the rules of the function by cases whose first argument decides -/
def byCs (fs : List Fn) (t : Tm) : Option (Nat × List (Str × Nat × Tm)) := match getF fs t.hd with
  | some (.cases _ n rs) => if n ≤ t.args.length then some (n, rs) else none
  | _ => none
def findR (rs : List (Str × Nat × Tm)) (u : Tm) : Option (Str × Nat × Tm) := rs.find? fun r => decide (u.hd = .inr r.1) && decide (r.2.1 = u.args.length)
/-- the rule that holds of the value u, with the other arguments -/
def ruleS (rs : List (Str × Nat × Tm)) (n : Nat) (u : Tm) (rest : List Tm) : Dem := match findR rs u with
  | some r => .step (unf r.2.2 (u.args ++ rest) (r.2.1 + n - 1))
  | none => .err
def keyS : Key → Str
  | .inr x => x
  | .inl _ => ""
def byC (rs : List (Str × Nat × Tm)) (n : Nat) (t : Tm) : Dem → Dem
  | .step u => .step (.mk t.hd (u :: t.args.drop 1))
  | .unk i => .needs i (keyS t.hd)
  | .val => ruleS rs n t.fst (t.args.drop 1)
  | d => d
/-- what a term demands of which no argument decides -/
def dem0 (fs : List Fn) (t : Tm) : Dem := match t.hd with
  | .inl i => if t.args = [] then .unk i else .stuck i
  | .inr x => match getF fs (.inr x) with
    | none => .val
    | some f => if t.args.length < f.arity then .val else match f with
      | .plain _ n b => .step (unf b t.args n)
      | .cases _ _ _ => .err
instance decNil (l : List Tm) : Decidable (l = []) := match l with
  | [] => .isTrue rfl
  | _ :: _ => .isFalse (fun h => by cases h)
theorem fst_size {t : Tm} (h : t.args ≠ []) : t.fst.size < t.size := by
  cases t with
  | mk k ts =>
    cases ts with
    | nil => exact absurd rfl h
    | cons a r =>
      show a.size < (Tm.mk k (a :: r)).size
      rw [Tm.size, Tm.sizeL]
      omega
def dem (fs : List Fn) (t : Tm) : Dem := match byCs fs t with
  | some (n, rs) => if h : t.args = [] then .err else byC rs n t (dem fs t.fst)
  | none => dem0 fs t
termination_by t.size
decreasing_by exact fst_size h
theorem dem_cases {fs : List Fn} {t : Tm} {n : Nat} {rs : List (Str × Nat × Tm)} (h : byCs fs t = some (n, rs)) (hn : t.args ≠ []) : dem fs t = byC rs n t (dem fs t.fst) := by
  rw [dem, h]
  simp only [dif_neg hn]
theorem dem_plain {fs : List Fn} {t : Tm} (h : byCs fs t = none) : dem fs t = dem0 fs t := by
  rw [dem, h]
/-- what is asked of a program -/
structure FnOk' (f : Fn) : Prop where
  ar : f.arity ≤ 1000
  pos : ∀ x n rs, f = .cases x n rs → 1 ≤ n
  bd : ∀ x n b, f = .plain x n b → b.size ≤ 1000 ∧ b.All KOk
  rl : ∀ x n rs, f = .cases x n rs → rs.length ≤ 1000 ∧ ∀ r ∈ rs, r.2.1 ≤ 1000 ∧ KOk (.inr r.1) ∧ r.2.2.size ≤ 1000 ∧ r.2.2.All KOk
  nm : KOk (.inr f.name)
def FsOk (fs : List Fn) : Prop := (fs.map Fn.name).Nodup ∧ fs.length ≤ 1000 ∧ ∀ f ∈ fs, FnOk' f
theorem getF_mem {fs : List Fn} {k : Key} {f : Fn} (h : getF fs k = some f) : f ∈ fs ∧ k = .inr f.name := by
  cases k with
  | inl i => cases h
  | inr x =>
    have h : (fs.find? fun f => decide (f.name = x)) = some f := h
    refine ⟨List.mem_of_find?_eq_some h, ?_⟩
    have e := List.find?_some h
    have e2 : f.name = x := of_decide_eq_true e
    rw [e2]
/-! ### a dict of the functions -/
def FsAt (K : PySem.W.Frag) (H : Hp) (D : Addr) (fs : List Fn) : Prop := ∃ kvs : List (Key × V), H D = some (.dK kvs) ∧ kvs.map (·.1) = fs.map (fun f => .inr f.name) ∧ DsAt K H (kvs.map (·.2)) (fs.map Fn.dat)
theorem fn_look {K : PySem.W.Frag} {H : Hp} (x : Str) : ∀ {kvs : List (Key × V)} {fs : List Fn}, kvs.map (·.1) = fs.map (fun f => Sum.inr f.name) → DsAt K H (kvs.map (·.2)) (fs.map Fn.dat) → (valV kvs (.inr x) = none ∧ getF fs (.inr x) = none) ∨ ∃ v f, valV kvs (.inr x) = some v ∧ getF fs (.inr x) = some f ∧ DAt K H v f.dat
  | [], [], _, _ => .inl ⟨rfl, rfl⟩
  | [], _ :: _, h, _ => by cases h
  | _ :: _, [], h, _ => by cases h
  | kv :: kvs, f :: fs, h, hd => by
    rw [List.map_cons, List.map_cons] at h hd
    obtain ⟨e1, e2⟩ := List.cons.inj h
    cases hd with
    | cons d1 d2 =>
      by_cases hx : f.name = x
      · refine .inr ⟨kv.2, f, ?_, ?_, d1⟩
        · unfold valV
          rw [List.find?_cons, e1, hx, decide_eq_true rfl]
          rfl
        · show ((f :: fs).find? fun f => decide (f.name = x)) = some f
          rw [List.find?_cons, decide_eq_true hx]
      · have hk : ¬ (kv.1 = .inr x) := fun q => hx (by rw [e1] at q; exact Sum.inr.inj q)
        have g1 : valV (kv :: kvs) (.inr x) = valV kvs (.inr x) := by
          unfold valV
          rw [List.find?_cons, decide_eq_false hk]
        have g2 : getF (f :: fs) (.inr x) = getF fs (.inr x) := by
          show ((f :: fs).find? fun f => decide (f.name = x)) = _
          rw [List.find?_cons, decide_eq_false hx]
          rfl
        rw [g1, g2]
        exact fn_look x e2 d2
theorem valV_key {kvs : List (Key × V)} {fs : List Fn} (h : kvs.map (·.1) = fs.map (fun f => Sum.inr f.name)) (i : Int) : valV kvs (.inl i) = none := by
  unfold valV
  rw [Option.map_eq_none_iff, List.find?_eq_none]
  intro p hp hd
  have e := of_decide_eq_true hd
  have : p.1 ∈ fs.map (fun f => (Sum.inr f.name : Key)) := by
    rw [← h]
    exact List.mem_map.mpr ⟨p, hp, rfl⟩
  obtain ⟨f, _, hf⟩ := List.mem_map.mp this
  rw [e] at hf
  cases hf
theorem FsAt.get {K : PySem.W.Frag} {H : Hp} {D : Addr} {fs : List Fn} (h : FsAt K H D fs) (k : Key) : ∃ o, DGet H D (kV k) o ∧ ((o = none ∧ getF fs k = none) ∨ ∃ v f, o = some v ∧ getF fs k = some f ∧ DAt K H v f.dat) := by
  obtain ⟨kvs, e, h1, h2⟩ := h
  refine ⟨valV kvs k, DGet.k e, ?_⟩
  cases k with
  | inl i => exact .inl ⟨valV_key h1 i, rfl⟩
  | inr x => exact fn_look x h1 h2
theorem FsAt.mono {K : PySem.W.Frag} {H H' : Hp} {D : Addr} {fs : List Fn} (h : FsAt K H D fs) (s : Same H H') : FsAt K H' D fs := by
  obtain ⟨kvs, e, h1, h2⟩ := h
  exact ⟨kvs, s _ _ e, h1, h2.mono (TStay.of s)⟩
theorem FsAt.isD {K : PySem.W.Frag} {H : Hp} {D : Addr} {fs : List Fn} (h : FsAt K H D fs) : IsD H D := by
  obtain ⟨kvs, e, h1, h2⟩ := h
  exact .inl ⟨kvs, .inl e⟩
/-! ### what an expression of tuples, texts and numbers gives -/
def Gives (K : PySem.W.Frag) (σ : L2.St) (H : Hp) (te : TE) (d : Dt) : Prop := ∀ H1, Same H H1 → ∀ Q : VK, (∀ H2 v, Same H1 H2 → DAt K H2 v d → Q v H2) → te σ H1 Q
def GivesL (K : PySem.W.Frag) (σ : L2.St) (H : Hp) (ta : TA) (ds : List Dt) : Prop := ∀ H1, Same H H1 → ∀ Q : List V → Hp → Prop, (∀ H2 vs, Same H1 H2 → DsAt K H2 vs ds → Q vs H2) → ta σ H1 Q
section
variable {K : PySem.W.Frag} {σ : L2.St} {H : Hp}
theorem Gives.int {n : Int} : Gives K σ H (tC (.int n)) (.key (.inl n)) := fun H1 s Q q => q H1 _ (fun _ _ h => h) (.key (k := .inl n))
theorem Gives.str {x : Str} : Gives K σ H (tC (.str x)) (.key (.inr x)) := fun H1 s Q q => q H1 _ (fun _ _ h => h) (.key (k := .inr x))
theorem Gives.var {i : Nat} {v : V} {d : Dt} (h : σ[i]? = some (some v)) (hv : DAt K H v d) : Gives K σ H (tVar i) d := fun H1 s Q q => ⟨v, h, q H1 _ (fun _ _ h => h) (hv.mono (TStay.of s))⟩
theorem GivesL.nil : GivesL K σ H tNil [] := fun H1 s Q q => q H1 _ (fun _ _ h => h) .nil
theorem GivesL.cons {te : TE} {ta : TA} {d : Dt} {ds : List Dt} (h1 : Gives K σ H te d) (h2 : GivesL K σ H ta ds) : GivesL K σ H (tCons te ta) (d :: ds) := fun H1 s Q q =>
  h1 H1 s _ fun H2 v s2 dv => h2 H2 (s.trans s2) _ fun H3 vs s3 dvs => q H3 _ (s2.trans s3) (.cons (dv.mono (TStay.of s3)) dvs)
theorem Gives.tup {ta : TA} {ds : List Dt} (h : GivesL K σ H ta ds) (hl : ds.length ≤ 1000) : Gives K σ H (tTup ta) (.tup ds) := fun H1 s Q q =>
  h H1 s _ fun H2 vs s2 dvs => ⟨by rw [dvs.length, sizeLine_eq]; omega, fun p hp => q _ _ (s2.trans (same_new hp _)) (.tup (SqT.of upd_same) (dvs.mono (TStay.new hp _)) (by rw [dvs.length]; omega))⟩
end
theorem dkStay {K : PySem.W.Frag} {H : Hp} {D : Addr} {kvs : List (Key × V)} (e2 : H D = some (.dK kvs)) (o : HO) : TStay K H (upd H D o) := fun b ys h => by
  rcases h with (h | ⟨o, h⟩) | h
  · exact .inl (.inl (by rw [upd_ne (ne_of h e2 (by intro z; cases z))]; exact h))
  · exact .inl (.inr ⟨o, by rw [upd_ne (ne_of h e2 (by intro z; cases z))]; exact h⟩)
  · exact .inr h
end DF

namespace DF
open PySem L2
def topS (i : Nat) : Stmt := PySem.Challenge.pw_drivefold_k14_demands.main.body.getD i (.Pass ⟨0, 0, 0, 0⟩)
abbrev s_places : Stmt := topS 1
abbrev s_assembled : Stmt := topS 2
abbrev s_applied : Stmt := topS 3
abbrev s_put : Stmt := topS 4
abbrev s_by_name : Stmt := topS 6
abbrev s_demand : Stmt := topS 7
abbrev s_demand_of : Stmt := topS 8
abbrev s_is_by_cases : Stmt := topS 9
abbrev s_demand_at_once : Stmt := topS 10
abbrev s_demand_by_cases : Stmt := topS 11
abbrev s_demand_of_rules : Stmt := topS 12
abbrev s_unfolded : Stmt := topS 13
abbrev s_g_tape : Stmt := topS 15
abbrev s_g_next : Stmt := topS 16
abbrev s_g_term : Stmt := topS 17
abbrev s_g_heads : Stmt := topS 18
abbrev s_g_program : Stmt := topS 19
abbrev s_g_put : Stmt := topS 20
abbrev s_g_functions : Stmt := topS 21
abbrev s_g_opened : Stmt := topS 22
abbrev s_g_demand : Stmt := topS 23
abbrev s_law : Stmt := topS 24
theorem sc_places : FnScope ["term", "found", "waiting", "part"] ["term"] (defScope s_places) := ⟨rfl, rfl, rfl, by decide +kernel, rfl, by decide +kernel, by decide +kernel⟩
theorem sc_assembled : FnScope ["rows", "built", "part", "count", "at", "arguments"] ["rows"] (defScope s_assembled) := ⟨rfl, rfl, rfl, by decide +kernel, rfl, by decide +kernel, by decide +kernel⟩
theorem sc_applied : FnScope ["term", "arguments"] ["term", "arguments"] (defScope s_applied) := ⟨rfl, rfl, rfl, by decide +kernel, rfl, by decide +kernel, by decide +kernel⟩
theorem sc_put : FnScope ["term", "parts", "unknown", "part", "part_of", "head", "arguments"] ["term", "parts"] (defScope s_put) := ⟨rfl, rfl, rfl, by decide +kernel, rfl, by decide +kernel, by decide +kernel⟩
theorem sc_by_name : FnScope ["program", "function"] ["program"] (defScope s_by_name) := ⟨rfl, rfl, rfl, by decide +kernel, rfl, by decide +kernel, by decide +kernel⟩
theorem sc_demand : FnScope ["program", "term"] ["program", "term"] (defScope s_demand) := ⟨rfl, rfl, rfl, by decide +kernel, rfl, by decide +kernel, by decide +kernel⟩
theorem sc_demand_of : FnScope ["functions", "term", "inner", "around", "found", "outer"] ["functions", "term"] (defScope s_demand_of) := ⟨rfl, rfl, rfl, by decide +kernel, rfl, by decide +kernel, by decide +kernel⟩
theorem sc_is_by_cases : FnScope ["functions", "term", "function"] ["functions", "term"] (defScope s_is_by_cases) := ⟨rfl, rfl, rfl, by decide +kernel, rfl, by decide +kernel, by decide +kernel⟩
theorem sc_demand_at_once : FnScope ["functions", "term", "head", "arguments", "function"] ["functions", "term"] (defScope s_demand_at_once) := ⟨rfl, rfl, rfl, by decide +kernel, rfl, by decide +kernel, by decide +kernel⟩
theorem sc_demand_by_cases : FnScope ["function", "term", "found"] ["function", "term", "found"] (defScope s_demand_by_cases) := ⟨rfl, rfl, rfl, by decide +kernel, rfl, by decide +kernel, by decide +kernel⟩
theorem sc_demand_of_rules : FnScope ["function", "term", "head", "fields", "constructor", "count", "body"] ["function", "term"] (defScope s_demand_of_rules) := ⟨rfl, rfl, rfl, by decide +kernel, rfl, by decide +kernel, by decide +kernel⟩
theorem sc_unfolded : FnScope ["body", "arguments", "count"] ["body", "arguments", "count"] (defScope s_unfolded) := ⟨rfl, rfl, rfl, by decide +kernel, rfl, by decide +kernel, by decide +kernel⟩
theorem sc_g_tape : FnScope ["script", "numbers", "total", "cell", "rest", "k"] ["script"] (defScope s_g_tape) := ⟨rfl, rfl, rfl, by decide +kernel, rfl, by decide +kernel, by decide +kernel⟩
theorem sc_g_next : FnScope ["tape", "many", "at"] ["tape", "many"] (defScope s_g_next) := ⟨rfl, rfl, rfl, by decide +kernel, rfl, by decide +kernel, by decide +kernel⟩
theorem sc_g_term : FnScope ["tape", "heads", "most", "depth", "choice", "head", "count", "k"] ["tape", "heads", "most", "depth"] (defScope s_g_term) := ⟨rfl, rfl, rfl, by decide +kernel, rfl, by decide +kernel, by decide +kernel⟩
theorem sc_g_heads : FnScope ["heads"] [] (defScope s_g_heads) := ⟨rfl, rfl, rfl, by decide +kernel, rfl, by decide +kernel, by decide +kernel⟩
theorem sc_g_program : FnScope ["tape", "x", "y", "z", "zero", "add", "app", "rev", "mapped", "maps", "even", "odd", "plain", "loop", "heads", "first", "rules", "second"] ["tape"] (defScope s_g_program) := ⟨rfl, rfl, rfl, by decide +kernel, rfl, by decide +kernel, by decide +kernel⟩
theorem sc_g_put : FnScope ["term", "parts", "part", "arguments", "other"] ["term", "parts"] (defScope s_g_put) := ⟨rfl, rfl, rfl, by decide +kernel, rfl, by decide +kernel, by decide +kernel⟩
theorem sc_g_functions : FnScope ["program", "found", "function"] ["program"] (defScope s_g_functions) := ⟨rfl, rfl, rfl, by decide +kernel, rfl, by decide +kernel, by decide +kernel⟩
theorem sc_g_opened : FnScope ["body", "values", "rest", "parts", "k", "result"] ["body", "values", "rest"] (defScope s_g_opened) := ⟨rfl, rfl, rfl, by decide +kernel, rfl, by decide +kernel, by decide +kernel⟩
theorem sc_g_demand : FnScope ["functions", "term", "head", "function", "many", "first", "inner", "rule"] ["functions", "term"] (defScope s_g_demand) := ⟨rfl, rfl, rfl, by decide +kernel, rfl, by decide +kernel, by decide +kernel⟩
theorem sc_law : FnScope ["script", "tape", "program", "functions", "heads", "k", "term"] ["script"] (defScope s_law) := ⟨rfl, rfl, rfl, by decide +kernel, rfl, by decide +kernel, by decide +kernel⟩
structure DefAt (K : PySem.W.Frag) (mg : Str → Option Value) (x : Str) (st : Stmt) (ps : List Str) (f : Addr) (fd : FuncData) : Prop where
  F : Fun K x x st f fd
  b : Binds K fd ps []
  m : mg x = some (.ref f)
structure Txt (K : PySem.W.Frag) (mg : Str → Option Value) where
  f_places : Addr
  fd_places : FuncData
  d_places : DefAt K mg "places" s_places ["term"] f_places fd_places
  f_assembled : Addr
  fd_assembled : FuncData
  d_assembled : DefAt K mg "assembled" s_assembled ["rows"] f_assembled fd_assembled
  f_applied : Addr
  fd_applied : FuncData
  d_applied : DefAt K mg "applied" s_applied ["term", "arguments"] f_applied fd_applied
  f_put : Addr
  fd_put : FuncData
  d_put : DefAt K mg "put" s_put ["term", "parts"] f_put fd_put
  f_by_name : Addr
  fd_by_name : FuncData
  d_by_name : DefAt K mg "by_name" s_by_name ["program"] f_by_name fd_by_name
  f_demand : Addr
  fd_demand : FuncData
  d_demand : DefAt K mg "demand" s_demand ["program", "term"] f_demand fd_demand
  f_demand_of : Addr
  fd_demand_of : FuncData
  d_demand_of : DefAt K mg "demand_of" s_demand_of ["functions", "term"] f_demand_of fd_demand_of
  f_is_by_cases : Addr
  fd_is_by_cases : FuncData
  d_is_by_cases : DefAt K mg "is_by_cases" s_is_by_cases ["functions", "term"] f_is_by_cases fd_is_by_cases
  f_demand_at_once : Addr
  fd_demand_at_once : FuncData
  d_demand_at_once : DefAt K mg "demand_at_once" s_demand_at_once ["functions", "term"] f_demand_at_once fd_demand_at_once
  f_demand_by_cases : Addr
  fd_demand_by_cases : FuncData
  d_demand_by_cases : DefAt K mg "demand_by_cases" s_demand_by_cases ["function", "term", "found"] f_demand_by_cases fd_demand_by_cases
  f_demand_of_rules : Addr
  fd_demand_of_rules : FuncData
  d_demand_of_rules : DefAt K mg "demand_of_rules" s_demand_of_rules ["function", "term"] f_demand_of_rules fd_demand_of_rules
  f_unfolded : Addr
  fd_unfolded : FuncData
  d_unfolded : DefAt K mg "unfolded" s_unfolded ["body", "arguments", "count"] f_unfolded fd_unfolded
  f_g_tape : Addr
  fd_g_tape : FuncData
  d_g_tape : DefAt K mg "_law_tape" s_g_tape ["script"] f_g_tape fd_g_tape
  f_g_next : Addr
  fd_g_next : FuncData
  d_g_next : DefAt K mg "_law_next" s_g_next ["tape", "many"] f_g_next fd_g_next
  f_g_term : Addr
  fd_g_term : FuncData
  d_g_term : DefAt K mg "_law_term" s_g_term ["tape", "heads", "most", "depth"] f_g_term fd_g_term
  f_g_heads : Addr
  fd_g_heads : FuncData
  d_g_heads : DefAt K mg "_law_heads" s_g_heads [] f_g_heads fd_g_heads
  f_g_program : Addr
  fd_g_program : FuncData
  d_g_program : DefAt K mg "_law_program" s_g_program ["tape"] f_g_program fd_g_program
  f_g_put : Addr
  fd_g_put : FuncData
  d_g_put : DefAt K mg "_law_put" s_g_put ["term", "parts"] f_g_put fd_g_put
  f_g_functions : Addr
  fd_g_functions : FuncData
  d_g_functions : DefAt K mg "_law_functions" s_g_functions ["program"] f_g_functions fd_g_functions
  f_g_opened : Addr
  fd_g_opened : FuncData
  d_g_opened : DefAt K mg "_law_opened" s_g_opened ["body", "values", "rest"] f_g_opened fd_g_opened
  f_g_demand : Addr
  fd_g_demand : FuncData
  d_g_demand : DefAt K mg "_law_demand" s_g_demand ["functions", "term"] f_g_demand fd_g_demand
  f_law : Addr
  fd_law : FuncData
  d_law : DefAt K mg "law" s_law ["script"] f_law fd_law
  z_len : mg "len" = none
  z_tuple : mg "tuple" = none
  z_isinstance : mg "isinstance" = none
  z_int : mg "int" = none
  z_abs : mg "abs" = none
  z_range : mg "range" = none
  z_list : mg "list" = none
  z_reversed : mg "reversed" = none
  z_enumerate : mg "enumerate" = none
/-! ### the tape -/
structure TpOk (K : PySem.W.Frag) (H : Hp) (t n : Addr) (zs : List Int) : Prop where
  st : ∃ (a sd : Int), H t = some (.lst [.int a, .ref n, .int sd]) ∧ 0 ≤ a
  s : Scr K H t n (zs.map V.int)
  l : zs.length ≤ 10000
theorem TpOk.go {K : PySem.W.Frag} {H H' : Hp} {t n : Addr} {zs : List Int} (h : TpOk K H t n zs) (k : Same H H') : TpOk K H' t n zs := by
  obtain ⟨⟨a, sd, e, a0⟩, s, l⟩ := h
  exact ⟨⟨a, sd, k _ _ e, a0⟩, s.keep (Keep.of k), l⟩
theorem TpOk.ts {K : PySem.W.Frag} {H H' : Hp} {t n : Addr} {zs : List Int} (h : TpOk K H t n zs) (k : Keep t H H') : TStay K H H' := by
  obtain ⟨⟨a, sd, e, a0⟩, s, l⟩ := h
  exact k.tups e
theorem TpOk.ne {K : PySem.W.Frag} {H : Hp} {t n p : Addr} {zs : List Int} (h : TpOk K H t n zs) (hp : H p = none) : p ≠ t := by
  obtain ⟨⟨a, sd, e, a0⟩, s, l⟩ := h
  exact (ne_of_none e hp).symm
theorem TpOk.new {K : PySem.W.Frag} {H : Hp} {t n p : Addr} {zs : List Int} (h : TpOk K H t n zs) (hp : H p = none) (o : HO) : TpOk K (upd H p o) t n zs := h.go (same_new hp o)
/-- an own object changed: the tape stays -/
theorem TpOk.upd {K : PySem.W.Frag} {H0 H : Hp} {t n p : Addr} {zs : List Int} (h0 : TpOk K H0 t n zs) (h : TpOk K H t n zs) (k : Keep t H0 H) (hp : H0 p = none) (o : HO) : TpOk K (upd H p o) t n zs := by
  obtain ⟨⟨a, sd, e, a0⟩, s, l⟩ := h
  exact ⟨⟨a, sd, by rw [upd_ne (h0.ne hp).symm]; exact e, a0⟩, h0.s.keep (k.upd hp o), l⟩
def spNext (K : PySem.W.Frag) : Sp := fun vs H Q _ => ∃ (t n : Addr) (zs : List Int) (many : Int), vs = [.ref t, .int many] ∧ TpOk K H t n zs ∧ 0 < many ∧ many < 1073741824 ∧
  ∀ (H' : Hp) (r : Int), Keep t H H' → TpOk K H' t n zs → 0 ≤ r → r < many → Q (.int r) H'
section
variable {P : Program} {w : World} {K : PySem.W.Frag} {mg : Str → Option Value} {base : Heap}
theorem ok_g_next (T : Txt K mg) : FnOk P w K mg base CX0 1 T.f_g_next T.fd_g_next ["tape", "many"] (spNext K) := by
  refine T.d_g_next.F.ok sc_g_next (fun vs H Q E h => ?_) (fun cdv A outer s H vs Q E hr h => ?_)
  · obtain ⟨t, n, zs, many, rfl, _⟩ := h
    rfl
  obtain ⟨t, n, zs, many, rfl, ⟨⟨a, sd, e, a0⟩, S, lz⟩, m0, m1, q⟩ := h
  have nd := sc_g_next.nd
  refine ⟨_, pss_cons (ps_set (i := 2) nd rfl (.inl rfl) (pe_ix ix_list (pv 0) pe_int (fun _ _ => rfl)))
    (pss_cons (ps_asg (pe_op op_add (pv 2) pe_int) (pg_sub (pv 0) pe_int set_list))
    (pss_cons (ps_if (pt_cmpR op_lt (pv 2) (pe_callB call_len_seq (by rfl) T.z_len PySem.boot_len (pa_cons (pe_ix ix_list (pv 0) pe_int (fun _ _ => rfl)) pa_nil)) (nomark _))
      (pss_one (ps_ret (pe_op op_mod (pe_callTy call_int1 (by rfl) T.z_int (by decide +kernel) (pa_cons (pe_ix ix_list (pe_ix ix_list (pv 0) pe_int (fun _ _ => rfl)) (pv 2) (fun _ _ => rfl)) pa_nil)) (pv 1)))) pss_nil)
    (pss_one (ps_ret (pe_op op_mod (pe_op op_fdiv (pe_op op_mod (pe_callTy call_int1 (by rfl) T.z_int (by decide +kernel) (pa_cons (pe_op op_add (pe_op op_mul (pe_op op_add (pv 2) pe_int) pe_int) (pe_op op_mul (pe_ix ix_list (pv 0) pe_int (fun _ _ => rfl)) pe_int)) pa_nil)) pe_int) pe_int) (pv 1)))))), ?_⟩
  refine ⟨_, rfl, t, _, _, _, rfl, rfl, SqL.of e, atI_nat (j := 0) rfl, ?_⟩
  refine ⟨_, rfl, _, _, rfl, rfl, _, rfl, t, _, _, 0, rfl, rfl, e, rfl, ?_⟩
  have k1 : Keep t H (upd H t (.lst [.int (a + 1), .ref n, .int sd])) := Keep.put _
  have e1 : (upd H t (.lst [.int (a + 1), .ref n, .int sd])) t = some (.lst [.int (a + 1), .ref n, .int sd]) := upd_same
  show _
  generalize hH1 : upd H t (.lst [.int (a + 1), .ref n, .int sd]) = H1 at k1 e1
  have hx : upd H t (HO.lst (List.set [V.int a, .ref n, .int sd] 0 (.int (a + 1)))) = H1 := hH1
  rw [hx]
  have S1 := S.keep k1
  have tp : TpOk K H1 t n zs := ⟨⟨_, _, e1, by omega⟩, S1, lz⟩
  have p2 : (0 : Int) < 2147483647 := by decide
  refine ⟨_, rfl, _, rfl, t, _, _, _, rfl, rfl, SqL.of e1, atI_nat (j := 1) rfl, n, _, rfl, .inl S1.here, _, _, rfl, rfl, _, rfl, ite2 (fun hlt => ?_) (fun hlt => ?_)⟩
  · have hl : a < ((zs.map V.int).length : Int) := of_decide_eq_true hlt
    rw [List.length_map] at hl
    have hk : a.toNat < zs.length := by omega
    have hat : atI (zs.map V.int) a = some (.int zs[a.toNat]) := at_of (j := a.toNat) (by omega) (by rw [List.getElem?_map, List.getElem?_eq_getElem hk]; rfl)
    generalize zs[a.toNat] = z at hat
    refine ⟨_, rfl, t, _, _, _, rfl, rfl, SqL.of e1, atI_nat (j := 1) rfl, _, rfl, n, _, _, _, rfl, rfl, S1.here, hat, .inl ⟨_, rfl, _, rfl, _, _, rfl, rfl, m0, ?_⟩⟩
    exact q _ _ k1 tp (Int.emod_nonneg _ (Int.ne_of_gt m0)) (Int.emod_lt_of_pos _ m0)
  · refine ⟨_, rfl, _, _, rfl, rfl, _, _, rfl, rfl, .inr ⟨by decide, by decide⟩, _, rfl, t, _, _, _, rfl, rfl, SqL.of e1, atI_nat (j := 2) rfl, _, _, rfl, rfl, .inr ⟨by decide, by decide⟩, _, _, rfl, rfl, .inl ⟨_, rfl, _, _, rfl, rfl, p2, _, _, rfl, rfl, ⟨by decide, by decide⟩, _, rfl, _, _, rfl, rfl, m0, ?_⟩⟩
    exact q _ _ k1 tp (Int.emod_nonneg _ (Int.ne_of_gt m0)) (Int.emod_lt_of_pos _ m0)
end

/-! ### _law_tape -/
def spTape (K : PySem.W.Frag) : Sp := fun vs H Q _ => ∃ (a : Addr) (ns : List Int), vs = [.ref a] ∧ SqL K H a (ns.map V.int) ∧ ns.length ≤ 63 ∧
  ∀ (H' : Hp) (t n : Addr) (zs : List Int), Same H H' → TpOk K H' t n zs → Q (.ref t) H'
theorem cut_first {us : List V} (h : us.length ≤ 63) : cutV us none (some 63) = us := by
  unfold cutV
  rw [HT.sIx_none, show HT.sIx us.length us.length (some (63 : Int)) = min 63 us.length from HT.sIx_nat us.length us.length 63, Nat.min_eq_right h, List.drop_zero, Nat.sub_zero]
  exact List.take_of_length_le (Nat.le_refl _)
section
variable {P : Program} {w : World} {K : PySem.W.Frag} {mg : Str → Option Value} {base : Heap}
theorem ok_g_tape (T : Txt K mg) : FnOk P w K mg base CX0 1 T.f_g_tape T.fd_g_tape ["script"] (spTape K) := by
  refine T.d_g_tape.F.ok sc_g_tape (fun vs H Q E h => ?_) (fun cdv A outer s H vs Q E hr h => ?_)
  · obtain ⟨a, ns, rfl, _⟩ := h
    rfl
  obtain ⟨a, ns, rfl, sa, hl, q⟩ := h
  have nd := sc_g_tape.nd
  refine ⟨_, pss_cons (ps_set (i := 1) nd rfl (.inl rfl) (pe_lst pa_nil))
    (pss_cons (ps_set (i := 2) nd rfl (.inl rfl) pe_int)
    (pss_cons (ps_for PassesOwn.never rfl (pi_list (pe_slice sl_list (pv 0) po_none (po_some pe_int))) (pg_name (i := 3) nd rfl (.inl rfl))
      (pss_cons (ps_set (i := 4) nd rfl (.inl rfl) (pe_callB call_abs (by rfl) T.z_abs (by decide +kernel) (pa_cons (pe_callTy call_int1 (by rfl) T.z_int (by decide +kernel) (pa_cons (pv 3) pa_nil)) pa_nil)))
      (pss_cons (ps_set (i := 2) nd rfl (.inl rfl) (pe_op op_add (pv 2) (pv 4)))
      (pss_one (ps_for PassesOwn.never rfl (pi_range1 (by rfl) T.z_range (pa_cons pe_int pa_nil)) (pg_name (i := 5) nd rfl (.inl rfl))
        (pss_cons (ps_expr (pe_bm PySem.F.plainAttrs_list PySem.F.slot_list_append PySem.F.type_list_append mt_append (pv 1) (pa_cons (pe_op op_mod (pe_callTy call_int1 (by rfl) T.z_int (by decide +kernel) (pa_cons (pv 4) pa_nil)) pe_int) pa_nil)))
        (pss_cons (ps_set (i := 4) nd rfl (.inl rfl) (pe_op op_fdiv (pv 4) pe_int))
        (pss_one (ps_if (pt_cmpR op_eq (pv 4) pe_int (nomark _)) (pss_one ps_break) pss_nil)))))))))
    (pss_one (ps_ret (pe_lst (pa_cons pe_int (pa_cons (pv 1) (pa_cons (pe_op op_mod (pe_callTy call_int1 (by rfl) T.z_int (by decide +kernel) (pa_cons (pv 2) pa_nil)) pe_int) pa_nil)))))))), ?_⟩
  refine ⟨Nat.zero_le _, fun l hn => ?_⟩
  have s1 : Same H (upd H l (.lst [])) := same_new hn _
  refine ⟨_, rfl, ?_⟩
  refine ⟨63, rfl, a, _, rfl, s1.seq sa, fun p hp => ?_⟩
  rw [cut_first (by rw [List.length_map]; exact hl)]
  have hp0 : H p = none := s1.free hp
  have nlp : l ≠ p := ne_of_none upd_same hp
  have s2 := s1.trans (same_new hp (.lst (ns.map V.int)))
  have dc : (0 : Int) < 60 := by decide
  have dm : (0 : Int) < 1000003 := by decide
  refine ⟨p, rfl, ⟨_, SqL.of upd_same⟩, for_list (K := K) (a := p) (xs := ns.map V.int) (fun i σ H' => ∃ (tot : Int) (zs : List Int) (z3 z4 z5 : Option V), σ = [some (.ref a), some (.ref l), some (.int tot), z3, z4, z5] ∧ Same H H' ∧ H' p = some (.lst (ns.map V.int)) ∧ H' l = some (.lst (zs.map V.int)) ∧ zs.length ≤ 24 * i)
    ⟨1, [], none, none, none, rfl, s2, upd_same, by rw [upd_ne nlp]; exact upd_same, Nat.zero_le _⟩ (fun i σ H' _ ⟨_, _, _, _, _, _, _, h, _⟩ => SqL.of h) ?_ ?_⟩
  · rintro i x σ H3 hx ⟨tot, zs, z3, z4, z5, rfl, s3, ep, el, lz⟩
    rw [List.getElem?_map] at hx
    have hi : i < ns.length := by
      by_cases h : i < ns.length
      · exact h
      · rw [List.getElem?_eq_none (by omega)] at hx
        cases hx
    rw [List.getElem?_eq_getElem hi] at hx
    have hx : V.int ns[i] = x := Option.some.inj hx
    subst hx
    generalize ns[i] = z
    refine ⟨_, rfl, .inl ⟨_, rfl, _, rfl, ?_⟩⟩
    generalize (if z < 0 then -z else z) = rest0
    refine ⟨_, rfl, _, rfl, _, _, rfl, rfl, ?_⟩
    refine ⟨_, rfl, by decide, by decide, for_range (lo := 0) (n := 24) (fun j σ H' => ∃ (rest : Int) (zs : List Int) (z5 : Option V), σ = [some (.ref a), some (.ref l), some (.int (tot + rest0)), some (.int z), some (.int rest), z5] ∧ Same H H' ∧ H' p = some (.lst (ns.map V.int)) ∧ H' l = some (.lst (zs.map V.int)) ∧ zs.length ≤ 24 * i + j)
      ⟨rest0, zs, _, rfl, s3, ep, el, lz⟩ ?_ ?_⟩
    · rintro j σ H4 hj ⟨rest, zs, z5, rfl, s4, ep4, el4, lz4⟩
      refine ⟨_, rfl, .inl ⟨rfl, _, SqL.of el4⟩, _, rfl, .inl ⟨_, rfl, _, _, rfl, rfl, dc, l, _, _, rfl, rfl, el4, by rw [List.length_map, sizeLine_eq]; omega, ?_⟩⟩
      have e5 : (upd H4 l (.lst (zs.map V.int ++ [.int (rest % 60)]))) l = some (.lst ((zs ++ [rest % 60]).map V.int)) := by
        rw [upd_same, List.map_append]
        rfl
      have p5 : (upd H4 l (.lst (zs.map V.int ++ [.int (rest % 60)]))) p = some (.lst (ns.map V.int)) := by
        rw [upd_ne nlp.symm]
        exact ep4
      have s5 := sameUpd s4 hn (.lst (zs.map V.int ++ [.int (rest % 60)]))
      refine ⟨_, rfl, _, _, rfl, rfl, ⟨by decide, by decide⟩, ?_⟩
      have l5 : (zs ++ [rest % 60]).length ≤ 24 * i + (j + 1) := by
        rw [List.length_append, List.length_singleton]
        omega
      refine ⟨_, rfl, rfl, _, rfl, ite2 (fun _ => ?_) (fun _ => ?_)⟩
      · exact ⟨_, _, _, _, _, rfl, s5, p5, e5, by omega⟩
      · exact ⟨_, _, _, rfl, s5, p5, e5, l5⟩
    · rintro σ H4 ⟨rest, zs, z5, rfl, s4, ep4, el4, lz4⟩
      exact ⟨_, zs, _, _, _, rfl, s4, ep4, el4, by omega⟩
  · rintro σ H3 ⟨tot, zs, z3, z4, z5, rfl, s3, ep, el, lz⟩
    rw [List.length_map] at lz
    refine ⟨_, rfl, _, rfl, .inl ⟨_, rfl, _, _, rfl, rfl, dm, (by show 3 ≤ sizeLine; decide), fun t ht => ?_⟩⟩
    have s4 := same_new ht (.lst [.int 0, .ref l, .int (tot % 1000003)])
    exact q _ t l zs (s3.trans s4) ⟨⟨0, _, upd_same, by decide⟩, Scr.new (SqL.of el) ht _, by omega⟩
end

/-! ### places -/
def spPlaces (K : PySem.W.Frag) : Sp := fun vs H Q _ => ∃ (v : V) (t : Tm), vs = [v] ∧ TAt K H v t ∧ t.size ≤ 100000 ∧
  ∀ (H' : Hp) (p : Addr) (us : List V), Same H H' → H p = none → H' p = some (.lst us) → DsAt K H' us (t.pre.map Tm.dat) → Q (.ref p) H'
section
variable {P : Program} {w : World} {K : PySem.W.Frag} {mg : Str → Option Value} {base : Heap}
theorem ok_places (T : Txt K mg) : FnOk P w K mg base CX0 1 T.f_places T.fd_places ["term"] (spPlaces K) := by
  refine T.d_places.F.ok sc_places (fun vs H Q E h => ?_) (fun cdv A outer s H vs Q E hr h => ?_)
  · obtain ⟨v, t, rfl, _⟩ := h
    rfl
  obtain ⟨v, t, rfl, hv, hs, q⟩ := h
  have nd := sc_places.nd
  refine ⟨_, pss_cons (ps_set (i := 1) nd rfl (.inl rfl) (pe_lst pa_nil))
    (pss_cons (ps_set (i := 2) nd rfl (.inl rfl) (pe_lst (pa_cons (pv 0) pa_nil)))
    (pss_cons (ps_while PassesOwn.never (pt_truth (pv 2) (by intro _; rfl))
      (pss_cons (ps_set (i := 3) nd rfl (.inl rfl) (pe_bm0 PySem.F.plainAttrs_list PySem.F.slot_list_pop PySem.F.type_list_pop mt_pop (pv 2)))
      (pss_cons (ps_expr (pe_bm PySem.F.plainAttrs_list PySem.F.slot_list_append PySem.F.type_list_append mt_append (pv 1) (pa_cons (pv 3) pa_nil)))
      (pss_one (ps_expr (pe_bm PySem.F.plainAttrs_list PySem.F.slot_list_extend PySem.F.type_list_extend mt_extendT (pv 2) (pa_cons (pe_rT (pe_ix ix_tup (pv 3) pe_int (fun _ _ => rfl))) pa_nil)))))))
    (pss_one (ps_ret (pv 1))))), ?_⟩
  refine ⟨Nat.zero_le _, fun f hf => ?_⟩
  refine ⟨_, rfl, (by show 1 ≤ sizeLine; decide), fun l hl => ?_⟩
  have s1 : Same H (upd H f (.lst [])) := same_new hf _
  have s2 : Same H (upd (upd H f (.lst [])) l (.lst [v])) := s1.trans (same_new hl _)
  have hl0 : H l = none := s1.free hl
  have nfl : f ≠ l := ne_of_none upd_same hl
  refine ⟨fun m σ H' => ∃ (ts done : List Tm) (us ws : List V) (z : Option V), σ = [some v, some (.ref f), some (.ref l), z] ∧ Same H H' ∧ H' f = some (.lst us) ∧ H' l = some (.lst ws) ∧ DsAt K H' us (done.map Tm.dat) ∧ DsAt K H' ws.reverse (ts.map Tm.dat) ∧ done ++ Tm.preL ts = t.pre ∧ m = Tm.sizeL ts,
    ⟨_, [t], [], [], [v], none, rfl, s2, ?_, upd_same, .nil, .cons (hv.mono (TStay.of s2)) .nil, ?_, rfl⟩, ?_⟩
  · rw [upd_ne nfl]
    exact upd_same
  · rw [Tm.preL, Tm.preL, List.nil_append, List.append_nil]
  · rintro m σ H' ⟨ts, done, us, ws, z, rfl, s3, ef, el, dd, dt, ep, rfl⟩
    have hsz : done.length + Tm.sizeL ts = t.size := by rw [← Tm.pre_length t, ← ep, List.length_append, Tm.preL_length]
    have lus : us.length = done.length := by rw [dd.length, List.length_map]
    have lws : ws.length = ts.length := by rw [← List.length_reverse, dt.length, List.length_map]
    refine ⟨_, rfl, _, .inl ⟨ws, SqL.of el, rfl⟩, ?_⟩
    cases ts with
    | nil =>
      have hw : ws = [] := List.eq_nil_of_length_eq_zero lws
      subst hw
      refine iteF ⟨_, rfl, q H' f us s3 hf ef ?_⟩
      rw [Tm.preL, List.append_nil] at ep
      rw [← ep]
      exact dd
    | cons x r =>
      cases x with
      | mk k args =>
        have hne : ws ≠ [] := fun e => by
          rw [e] at lws
          cases lws
        have ht : (!ws.isEmpty) = true := by
          cases ws with
          | nil => exact absurd rfl hne
          | cons _ _ => rfl
        rw [ht]
        refine iteT ⟨_, fun _ _ h => h, ?_⟩
        obtain ⟨y, wr, ew⟩ : ∃ y wr, ws = wr ++ [y] := ⟨ws.getLast hne, ws.dropLast, (List.dropLast_concat_getLast hne).symm⟩
        subst ew
        rw [List.reverse_append] at dt
        have dt : DsAt K H' (y :: wr.reverse) ((Tm.mk k args :: r).map Tm.dat) := dt
        rw [List.map_cons] at dt
        cases dt with
        | cons dy dr =>
          have dy : TAt K H' y (.mk k args) := dy
          refine ⟨_, rfl, .inl ⟨rfl, _, SqL.of el⟩, l, _, y, rfl, rfl, el, ?_, ?_⟩
          · rw [List.length_append, List.length_singleton, Nat.add_sub_cancel, List.getElem?_append_right (Nat.le_refl _), Nat.sub_self]
            rfl
          rw [List.dropLast_concat]
          have s4 : Same H (upd H' l (.lst wr)) := sameUpd s3 hl0 _
          have t4 : TStay K H' (upd H' l (.lst wr)) := TStay.lst el _
          have ef4 : (upd H' l (.lst wr)) f = some (.lst us) := by
            rw [upd_ne nfl]
            exact ef
          have lr : (Tm.sizeL r : Nat) + (Tm.sizeL args + 1) = Tm.sizeL (Tm.mk k args :: r) := by
            rw [Tm.sizeL, Tm.size]
            omega
          have hargs := Tm.len_sizeL args
          have hr' := Tm.len_sizeL r
          refine ⟨_, rfl, .inl ⟨rfl, _, SqL.of ef4⟩, _, rfl, f, us, y, rfl, rfl, ef4, by rw [lus, sizeLine_eq]; omega, ?_⟩
          have s5 : Same H (upd (upd H' l (.lst wr)) f (.lst (us ++ [y]))) := sameUpd s4 hf _
          have t5 : TStay K H' (upd (upd H' l (.lst wr)) f (.lst (us ++ [y]))) := t4.trans (TStay.lst ef4 _)
          have el5 : (upd (upd H' l (.lst wr)) f (.lst (us ++ [y]))) l = some (.lst wr) := by
            rw [upd_ne nfl.symm]
            exact upd_same
          have ef5 : (upd (upd H' l (.lst wr)) f (.lst (us ++ [y]))) f = some (.lst (us ++ [y])) := upd_same
          have dy5 := dy.mono t5
          obtain ⟨a, b, as, rfl, sa, sb, da, za⟩ := TAt.inv dy5
          have da : DsAt K _ as (args.map Tm.dat) := da
          have las : as.length = args.length := by rw [da.length, List.length_map]
          refine ⟨_, rfl, .inl ⟨rfl, _, SqL.of el5⟩, _, rfl, a, _, _, _, rfl, rfl, sa, atI_nat (j := 1) rfl, b, as, rfl, sb, fun p hp => ?_⟩
          have lwr : wr.length = r.length := by
            rw [List.length_append, List.length_cons] at lws
            exact Nat.succ.inj lws
          have s6 : Same (upd (upd H' l (.lst wr)) f (.lst (us ++ [.ref a]))) (upd (upd (upd H' l (.lst wr)) f (.lst (us ++ [.ref a]))) p (.tup as.reverse)) := same_new hp _
          have t6 : TStay K (upd (upd H' l (.lst wr)) f (.lst (us ++ [.ref a]))) (upd (upd (upd H' l (.lst wr)) f (.lst (us ++ [.ref a]))) p (.tup as.reverse)) := TStay.new hp _
          refine ⟨l, p, wr, as.reverse, rfl, rfl, s6 _ _ el5, upd_same, by rw [List.length_reverse, lwr, las, sizeLine_eq]; omega, ?_⟩
          have t7 := t6.trans (TStay.lst (K := K) (s6 _ _ el5) (.lst (wr ++ as.reverse)))
          refine ⟨Tm.sizeL (args ++ r), by rw [Tm.sizeL_append]; omega, args ++ r, done ++ [.mk k args], us ++ [.ref a], wr ++ as.reverse, _, rfl, sameUpd (s5.trans s6) hl0 _, ?_, upd_same, ?_, ?_, ?_, rfl⟩
          · rw [upd_ne nfl]
            exact s6 _ _ ef5
          · rw [List.map_append]
            exact DsAt.append ((dd.mono t5).mono t7) (.cons (dy5.mono t7) .nil)
          · rw [List.reverse_append, List.reverse_reverse, List.map_append]
            exact DsAt.append (da.mono t7) ((dr.mono t5).mono t7)
          · rw [← ep, Tm.preL_append, Tm.preL, Tm.pre, List.append_assoc, List.cons_append]
            rfl
end

/-! ### applied, assembled, put -/
def spApplied (K : PySem.W.Frag) : Sp := fun vs H Q _ => ∃ (v : V) (b : Addr) (t : Tm) (ws : List V) (ts : List Tm), vs = [v, .ref b] ∧ TAt K H v t ∧ SqT K H b ws ∧ DsAt K H ws (ts.map Tm.dat) ∧ t.args.length ≤ 400000 ∧ ts.length ≤ 400000 ∧
  ∀ (H' : Hp) (u : V), Same H H' → TAt K H' u (t.appl ts) → Q u H'
def spAssembled (K : PySem.W.Frag) : Sp := fun vs H Q _ => ∃ (a : Addr) (us : List V) (rows : List (Tm × Nat)) (t : Tm), vs = [.ref a] ∧ SqL K H a us ∧ DsAt K H us (rows.map rowD) ∧ Wf rows ∧ rows.length ≤ 300000 ∧ (∀ r ∈ rows, r.1.args.length ≤ 100000) ∧ run rows = [t] ∧
  ∀ (H' : Hp) (u : V), Same H H' → TAt K H' u t → Q u H'
section
variable {P : Program} {w : World} {K : PySem.W.Frag} {mg : Str → Option Value} {base : Heap}
theorem ok_applied (T : Txt K mg) : FnOk P w K mg base CX0 1 T.f_applied T.fd_applied ["term", "arguments"] (spApplied K) := by
  refine T.d_applied.F.ok sc_applied (fun vs H Q E h => ?_) (fun cdv A outer s H vs Q E hr h => ?_)
  · obtain ⟨v, b, t, ws, ts, rfl, _⟩ := h
    rfl
  obtain ⟨v, b, t, ws, ts, rfl, hv, sb, db, z1, z2, q⟩ := h
  refine ⟨_, pss_one (ps_ret (pe_tup (pa_cons (pe_ix ix_tup (pv 0) pe_int (fun _ _ => rfl)) (pa_cons (pe_op op_catA (pe_ix ix_tup (pv 0) pe_int (fun _ _ => rfl)) (pv 1)) pa_nil)))), ?_⟩
  obtain ⟨a, c, us, rfl, sa, sc, dc, zc⟩ := hv.inv
  have lus : us.length = t.args.length := by rw [dc.length, List.length_map]
  have lws : ws.length = ts.length := by rw [db.length, List.length_map]
  refine ⟨_, rfl, a, _, _, _, rfl, rfl, sa, atI_nat (j := 0) rfl, _, rfl, a, _, _, _, rfl, rfl, sa, atI_nat (j := 1) rfl, _, rfl, c, b, us, ws, rfl, rfl, sc, sb, ?_, fun e1 => ?_, fun e1 e2 => ?_, fun e1 e2 p hp => ?_⟩
  · rw [lus, lws, sizeLine_eq]
    omega
  · have e3 : t.args = [] := List.eq_nil_of_length_eq_zero (by rw [← lus, e1]; rfl)
    refine ⟨(by show 2 ≤ sizeLine; decide), fun x hx => q _ _ (same_new hx _) ?_⟩
    unfold Tm.appl
    rw [e3, List.nil_append]
    exact TAt.new sb db (by omega) hx
  · have e3 : ts = [] := List.eq_nil_of_length_eq_zero (by rw [← lws, e2]; rfl)
    refine ⟨(by show 2 ≤ sizeLine; decide), fun x hx => q _ _ (same_new hx _) ?_⟩
    unfold Tm.appl
    rw [e3, List.append_nil]
    exact TAt.new sc dc zc hx
  · refine ⟨(by show 2 ≤ sizeLine; decide), fun x hx => q _ _ ((same_new hp _).trans (same_new hx _)) ?_⟩
    unfold Tm.appl
    refine TAt.new (SqT.of upd_same) ?_ (by rw [List.length_append]; omega) hx
    rw [List.map_append]
    exact (DsAt.append dc db).mono (TStay.new hp _)
theorem ok_assembled (T : Txt K mg) : FnOk P w K mg base CX0 2 T.f_assembled T.fd_assembled ["rows"] (spAssembled K) := by
  have G : FnOk P w K mg base CX0 1 T.f_applied T.fd_applied ["term", "arguments"] (spApplied K) := ok_applied T
  refine T.d_assembled.F.ok sc_assembled (fun vs H Q E h => ?_) (fun cdv A outer s H vs Q E hr h => ?_)
  · obtain ⟨a, us, rows, t, rfl, _⟩ := h
    rfl
  obtain ⟨a, us, rows, t, rfl, sa, da, hw, hl, hz, er, q⟩ := h
  have nd := sc_assembled.nd
  refine ⟨_, pss_cons (ps_set (i := 1) nd rfl (.inl rfl) (pe_lst pa_nil))
    (pss_cons (ps_for PassesOwn.never rfl (pi_reversed (by rfl) T.z_reversed (pa_cons (pv 0) pa_nil)) (pg_tup rfl (pgs_cons (pg_name (i := 2) nd rfl (.inl rfl)) (pgs_cons (pg_name (i := 3) nd rfl (.inl rfl)) pgs_nil)))
      (pss_cons (ps_set (i := 4) nd rfl (.inl rfl) (pe_op op_sub (pe_callB call_len_seq (by rfl) T.z_len PySem.boot_len (pa_cons (pv 1) pa_nil)) (pv 3)))
      (pss_cons (ps_set (i := 5) nd rfl (.inl rfl) (pe_callTy call_tuple_of (by rfl) T.z_tuple (by decide +kernel) (pa_cons (pe_rL (pe_slice sl_list (pv 1) (po_some (pv 4)) po_none)) pa_nil)))
      (pss_cons (ps_delFrom (pv 1) (pv 4))
      (pss_one (ps_expr (pe_bm PySem.F.plainAttrs_list PySem.F.slot_list_append PySem.F.type_list_append mt_append (pv 1) (pa_cons (pe_call G hr (by rfl) T.d_applied.m T.d_applied.F.kp T.d_applied.b .nil pass0 (pa_cons (pv 2) (pa_cons (pv 5) pa_nil))) pa_nil))))))))
    (pss_one (ps_ret (pe_ix ix_list (pv 1) pe_int (fun _ _ => rfl))))), ?_⟩
  have lus : us.length = rows.length := by rw [da.length, List.length_map]
  refine ⟨Nat.zero_le _, fun l hn => ?_⟩
  have s1 : Same H (upd H l (.lst [])) := same_new hn _
  refine ⟨_, rfl, a, us, rfl, s1.seq sa, RT.for_Itv (K := K) (a := a) (xs := us) (fun i σ H' => ∃ (ws : List V) (z2 z3 z4 z5 : Option V), σ = [some (.ref a), some (.ref l), z2, z3, z4, z5] ∧ Same H H' ∧ H' l = some (.lst ws) ∧ DsAt K H' ws ((run (rows.drop (rows.length - i))).map Tm.dat))
    ⟨[], none, none, none, none, rfl, s1, upd_same, ?_⟩ (fun i σ H' ⟨_, _, _, _, _, _, s2, _⟩ => s2.seq sa) ?_ ?_⟩
  · rw [Nat.sub_zero, List.drop_length]
    exact .nil
  · rintro i x σ H2 hi hx ⟨ws, z2, z3, z4, z5, rfl, s2, e2, d2⟩
    obtain ⟨d, hd, dx⟩ := da.get' hx
    have hj : rows.length - 1 - i < rows.length := by omega
    rw [lus, List.getElem?_map, List.getElem?_eq_getElem hj] at hd
    have hd : rowD rows[rows.length - 1 - i] = d := Option.some.inj hd
    subst hd
    have hsp : rows.drop (rows.length - (i + 1)) = rows[rows.length - 1 - i] :: rows.drop (rows.length - i) := by
      have h1 := List.drop_eq_getElem_cons hj
      rw [show rows.length - 1 - i + 1 = rows.length - i by omega] at h1
      rw [show rows.length - (i + 1) = rows.length - 1 - i by omega]
      exact h1
    have hwf : ∀ (n : Nat) (rs : List (Tm × Nat)), Wf rs → Wf (rs.drop n) := by
      intro n
      induction n with
      | zero => intro rs h; exact h
      | succ n ih =>
        intro rs h
        cases rs with
        | nil => exact h
        | cons r rest => exact ih rest h.2
    have hw2 := hwf (rows.length - (i + 1)) rows hw
    rw [hsp] at hw2
    have hrow := List.getElem_mem hj
    generalize rows[rows.length - 1 - i] = row at hsp hw2 dx hrow
    obtain ⟨r, u, rfl, sr, tu⟩ := rowD_inv (dx.mono (TStay.of s2))
    have hc : row.2 ≤ (run (rows.drop (rows.length - i))).length := hw2.1
    have lws : ws.length = (run (rows.drop (rows.length - i))).length := by rw [d2.length, List.length_map]
    have lrun : (run (rows.drop (rows.length - i))).length ≤ 300000 := by
      have h1 := run_length (rows.drop (rows.length - i))
      rw [List.length_drop] at h1
      omega
    rw [hsp, run]
    generalize run (rows.drop (rows.length - i)) = S at d2 hc lws lrun
    -- part, count = row
    refine ⟨r, _, rfl, sr, rfl, _, _, rfl, _, _, rfl, rfl, ?_⟩
    -- at = len(built) - count
    refine ⟨_, rfl, l, _, rfl, .inl (SqL.of e2), _, rfl, _, _, rfl, rfl, ?_⟩
    have ea : (ws.length : Int) - (row.2 : Int) = (((ws.length - row.2 : Nat)) : Int) := by omega
    -- arguments = tuple(built[at:][::-1])
    have hcut : cutV ws (some ((ws.length : Int) - (row.2 : Int))) none = ws.drop (ws.length - row.2) := by
      rw [ea]
      unfold cutV
      rw [HT.sIx_none, show HT.sIx ws.length 0 (some (((ws.length - row.2 : Nat)) : Int)) = min (ws.length - row.2) ws.length from HT.sIx_nat ws.length 0 _, Nat.min_eq_left (Nat.sub_le _ _)]
      exact List.take_of_length_le (by rw [List.length_drop]; exact Nat.le_refl _)
    refine ⟨_, rfl, _, rfl, (ws.length : Int) - (row.2 : Int), rfl, l, ws, rfl, SqL.of e2, fun p hp => ?_⟩
    rw [hcut]
    refine ⟨p, _, rfl, SqL.of upd_same, fun p2 hp2 => ⟨p2, _, rfl, .inl ⟨SqL.of upd_same, fun b hb => ?_⟩⟩⟩
    have k3 : Same H2 (upd (upd (upd H2 p (.lst (ws.drop (ws.length - row.2)))) p2 (.lst (ws.drop (ws.length - row.2)).reverse)) b (.tup (ws.drop (ws.length - row.2)).reverse)) := ((same_new hp _).trans (same_new hp2 _)).trans (same_new hb _)
    generalize hH3 : upd (upd (upd H2 p (.lst (ws.drop (ws.length - row.2)))) p2 (.lst (ws.drop (ws.length - row.2)).reverse)) b (.tup (ws.drop (ws.length - row.2)).reverse) = H3 at k3
    have eb : SqT K H3 b (ws.drop (ws.length - row.2)).reverse := by
      rw [← hH3]
      exact SqT.of upd_same
    have e3 : H3 l = some (.lst ws) := k3 _ _ e2
    have d3 := d2.mono (TStay.of k3)
    have tu3 := tu.mono (TStay.of (K := K) k3)
    -- del built[at:]
    refine ⟨_, rfl, _, rfl, l, ws, ws.length - row.2, rfl, congrArg V.int ea, e3, Nat.sub_le _ _, ?_⟩
    have s4 := sameUpd (s2.trans k3) hn (.lst (ws.take (ws.length - row.2)))
    have t4 : TStay K H3 (upd H3 l (.lst (ws.take (ws.length - row.2)))) := TStay.lst e3 _
    -- built.append(applied(part, arguments))
    have dargs : DsAt K (upd H3 l (.lst (ws.take (ws.length - row.2)))) (ws.drop (ws.length - row.2)).reverse (((S.drop (S.length - row.2)).reverse).map Tm.dat) := by
      rw [List.map_reverse, List.map_drop, ← lws]
      exact (d3.mono t4).drop _ |>.reverse
    refine ⟨_, rfl, .inl ⟨rfl, _, SqL.of upd_same⟩, _, rfl, _, rfl, u, b, row.1, _, (S.drop (S.length - row.2)).reverse, rfl, tu3.mono t4, t4 _ _ eb, dargs, Nat.le_trans (hz row hrow) (by decide), ?_, fun H5 v5 s5 t5 => ?_⟩
    · rw [List.length_reverse, List.length_drop]
      omega
    · have e5 : H5 l = some (.lst (ws.take (ws.length - row.2))) := s5 _ _ upd_same
      refine ⟨l, _, v5, rfl, rfl, e5, ?_, _, _, _, _, _, rfl, sameUpd (s4.trans s5) hn _, upd_same, ?_⟩
      · rw [List.length_take, sizeLine_eq]
        omega
      · unfold step
        have hh : ws.length - row.2 = S.length - row.2 := by rw [lws]
        rw [← hh] at t5 ⊢
        rw [List.map_append, List.map_take]
        exact (DsAt.append (((d3.mono t4).mono (TStay.of s5)).take _) (.cons t5 .nil)).mono (TStay.lst e5 _)
  · rintro σ H2 ⟨ws, z2, z3, z4, z5, rfl, s2, e2, d2⟩
    rw [lus, Nat.sub_self, List.drop_zero, er] at d2
    cases d2 with
    | cons d2 dn =>
      cases dn
      exact ⟨_, rfl, l, _, _, _, rfl, rfl, SqL.of e2, atI_nat (j := 0) rfl, q _ _ s2 d2⟩
end

/-! ### put -/
def spPut (K : PySem.W.Frag) : Sp := fun vs H Q _ => ∃ (v : V) (pa : Addr) (t : Tm) (us : List V) (ps : List (Int × Tm)), vs = [v, .ref pa] ∧ TAt K H v t ∧ t.size ≤ 100000 ∧ SqT K H pa us ∧ DsAt K H us (ps.map partD) ∧ (ps.map (·.1)).Nodup ∧ ps.length ≤ 100000 ∧ (∀ p ∈ ps, p.2.size ≤ 100000) ∧
  ∀ (H' : Hp) (u : V), Same H H' → TAt K H' u (t.put ps) → Q u H'
/-- the dict holds the parts -/
def KvOk (K : PySem.W.Frag) (H : Hp) (kvs : List (Key × V)) (ps : List (Int × Tm)) : Prop := kvs.map (·.1) = ps.map (fun p => Sum.inl p.1) ∧ DsAt K H (kvs.map (·.2)) (ps.map (·.2.dat))
theorem KvOk.look {K : PySem.W.Frag} {H : Hp} (k : Key) : ∀ {kvs : List (Key × V)} {ps : List (Int × Tm)}, KvOk K H kvs ps → (valV kvs k = none ∧ look ps k = none) ∨ ∃ v u, valV kvs k = some v ∧ look ps k = some u ∧ TAt K H v u
  | [], [], _ => .inl ⟨rfl, by cases k <;> rfl⟩
  | [], _ :: _, h => by cases h.1
  | _ :: _, [], h => by cases h.1
  | kv :: kvs, p :: ps, ⟨h1, h2⟩ => by
    rw [List.map_cons, List.map_cons] at h1 h2
    obtain ⟨e1, e2⟩ := List.cons.inj h1
    cases h2 with
    | cons d1 d2 =>
      by_cases hk : kv.1 = k
      · refine .inr ⟨kv.2, p.2, valV_pos hk, ?_, d1⟩
        rw [← hk, e1]
        show ((p :: ps).find? fun q => decide (q.1 = p.1)).map (·.2) = some p.2
        rw [List.find?_cons, decide_eq_true rfl]
        rfl
      · rw [valV_neg hk]
        have e : DF.look (p :: ps) k = DF.look ps k := by
          cases k with
          | inr x => rfl
          | inl i =>
            show ((p :: ps).find? fun q => decide (q.1 = i)).map (·.2) = (ps.find? fun q => decide (q.1 = i)).map (·.2)
            rw [List.find?_cons, decide_eq_false (fun z => hk (by rw [e1, z]))]
        rw [e]
        exact KvOk.look k ⟨e2, d2⟩
theorem KvOk.mono {K : PySem.W.Frag} {H H' : Hp} {kvs : List (Key × V)} {ps : List (Int × Tm)} (h : KvOk K H kvs ps) (s : TStay K H H') : KvOk K H' kvs ps := ⟨h.1, h.2.mono s⟩
theorem find_mem {ps : List (Int × Tm)} {k : Key} {u : Tm} (h : look ps k = some u) : ∃ p ∈ ps, p.2 = u := by
  cases k with
  | inr x => cases h
  | inl i =>
    have e : (ps.find? fun p => decide (p.1 = i)).map (·.2) = some u := h
    cases e2 : ps.find? fun p => decide (p.1 = i) with
    | none =>
      rw [e2] at e
      cases e
    | some p =>
      rw [e2] at e
      cases e
      exact ⟨p, List.mem_of_find?_eq_some e2, rfl⟩
theorem sub_args {ps : List (Int × Tm)} {m : Nat} (h : ∀ p ∈ ps, p.2.size ≤ m) (k : Key) : (sub ps k).args.length ≤ m := by
  unfold sub
  cases e : look ps k with
  | none => exact Nat.zero_le _
  | some u =>
    obtain ⟨p, hp, rfl⟩ := find_mem e
    have h1 := h p hp
    show p.2.args.length ≤ m
    generalize p.2 = u at h1
    cases u with
    | mk a as =>
      rw [Tm.size] at h1
      have h2 := Tm.len_sizeL as
      show as.length ≤ m
      omega
mutual
theorem pre_args : ∀ (t u : Tm), u ∈ t.pre → u.args.length ≤ t.size
  | .mk h ts, u, hu => by
    rw [Tm.pre] at hu
    rw [Tm.size]
    rcases List.mem_cons.mp hu with rfl | hu
    · have h2 := Tm.len_sizeL ts
      show ts.length ≤ _
      omega
    · have := preL_args ts u hu
      omega
theorem preL_args : ∀ (ts : List Tm) (u : Tm), u ∈ Tm.preL ts → u.args.length ≤ Tm.sizeL ts
  | [], u, hu => by
    rw [Tm.preL] at hu
    exact absurd hu List.not_mem_nil
  | t :: r, u, hu => by
    rw [Tm.preL] at hu
    rw [Tm.sizeL]
    rcases List.mem_append.mp hu with hu | hu
    · have := pre_args t u hu
      omega
    · have := preL_args r u hu
      omega
end
section
variable {P : Program} {w : World} {K : PySem.W.Frag} {mg : Str → Option Value} {base : Heap}
theorem ok_put (T : Txt K mg) : FnOk P w K mg base CX0 3 T.f_put T.fd_put ["term", "parts"] (spPut K) := by
  have GA : FnOk P w K mg base CX0 2 T.f_assembled T.fd_assembled ["rows"] (spAssembled K) := ok_assembled T
  have GP : FnOk P w K mg base CX0 1 T.f_places T.fd_places ["term"] (spPlaces K) := ok_places T
  refine T.d_put.F.ok sc_put (fun vs H Q E h => ?_) (fun cdv A outer s H vs Q E hr h => ?_)
  · obtain ⟨v, pa, t, us, ps, rfl, _⟩ := h
    rfl
  obtain ⟨v, pa, t, us, ps, rfl, hv, hs, sp, dp, hnd, hl, hz, q⟩ := h
  have nd := sc_put.nd
  have hr1 : Room 1 _ := hr.mono (by decide)
  refine ⟨_, pss_cons (ps_set (i := 4) nd rfl (.inr rfl) (pe_dc (own := [("unknown", 2), ("part", 3)]) (g := gTup K 2 (gCons (gName 2) (gCons (gName 3) gNil))) (tt := tYes) rfl nd (pi_tup (pv 1)) (blkOk_by (own := [("unknown", 2), ("part", 3)]) (N := ["term", "parts", "unknown", "part", "part_of", "head", "arguments"]) (sc := defScope s_put) (by decide +kernel))
      (fun _ _ _ _ _ => pg_tup rfl (pgs_cons (pg_name (i := 2) nd rfl (.inl rfl)) (pgs_cons (pg_name (i := 3) nd rfl (.inl rfl)) pgs_nil))) (fun _ _ _ _ _ => pts_nil) (fun _ _ _ _ _ => pv 2) (fun _ _ _ _ _ => pv 3)))
    (pss_one (ps_ret (pe_call GA hr (by rfl) T.d_assembled.m T.d_assembled.F.kp T.d_assembled.b .nil pass0 (pa_cons
      (pe_lc (own := [("head", 5), ("arguments", 6)]) (g := gTup K 2 (gCons (gName 5) (gCons (gName 6) gNil))) (tt := tYes) rfl nd (pi_list (pe_call GP hr1 (by rfl) T.d_places.m T.d_places.F.kp T.d_places.b .nil pass0 (pa_cons (pv 0) pa_nil))) (blkOk_by (own := [("head", 5), ("arguments", 6)]) (N := ["term", "parts", "unknown", "part", "part_of", "head", "arguments"]) (sc := defScope s_put) (by decide +kernel))
        (fun _ _ _ _ _ => pg_tup rfl (pgs_cons (pg_name (i := 5) nd rfl (.inl rfl)) (pgs_cons (pg_name (i := 6) nd rfl (.inl rfl)) pgs_nil))) (fun _ _ _ _ _ => pts_nil)
        (fun _ _ _ _ _ => pe_tup (pa_cons (pe_dget2 (hu_of hr) (pv 4) (pv 5) (pe_tup (pa_cons (pv 5) (pa_cons (pe_tup pa_nil) pa_nil))) ⟨rfl, rfl, rfl, rfl⟩)
          (pa_cons (pe_callB (len_at (K := K) rfl) (by rfl) T.z_len PySem.boot_len (pa_cons (pv 6) pa_nil)) pa_nil)))) pa_nil)))), ?_⟩
  have lus : us.length = ps.length := by rw [dp.length, List.length_map]
  refine ⟨_, rfl, pa, rfl, ⟨_, sp⟩, fun D hD => dc_tup (K := K) (a := pa) (xs := us) (fun i H' => ∃ kvs, H' D = some (.dK kvs) ∧ KvOk K H' kvs (ps.take i) ∧ Same H H')
    ⟨[], upd_same, ⟨rfl, .nil⟩, same_new hD _⟩ (fun i H' _ ⟨_, _, _, s2⟩ => TStay.of s2 _ _ sp) ?_ ?_⟩
  · rintro i x H2 hx ⟨kvs, e2, ok, s2⟩
    obtain ⟨d, hd, dx⟩ := dp.get' hx
    have hi : i < ps.length := by
      have := (List.getElem?_eq_some_iff.mp hx).1
      omega
    rw [List.getElem?_map, List.getElem?_eq_getElem hi] at hd
    have hd : partD ps[i] = d := Option.some.inj hd
    subst hd
    obtain ⟨a, u, rfl, sa, tu⟩ := partD_inv (dx.mono (TStay.of s2))
    have hk : valV kvs (.inl (ps[i]).1) = none := by
      rcases ok.look (.inl (ps[i]).1) with ⟨h, _⟩ | ⟨v', u', _, h2, _⟩
      · exact h
      · exfalso
        have e : ((ps.take i).find? fun p => decide (p.1 = (ps[i]).1)).map (·.2) = some u' := h2
        cases e2 : (ps.take i).find? fun p => decide (p.1 = (ps[i]).1) with
        | none =>
          rw [e2] at e
          cases e
        | some p =>
          have hp := List.mem_of_find?_eq_some e2
          have hq := List.find?_some e2
          obtain ⟨j, hj, ej⟩ := List.getElem_of_mem hp
          have hj' : j < i := by
            rw [List.length_take] at hj
            omega
          rw [List.getElem_take] at ej
          have h5 : (ps[j]).1 = (ps[i]).1 := by
            rw [ej]
            exact of_decide_eq_true hq
          have h6 : (ps.map (·.1))[j]'(by rw [List.length_map]; omega) = (ps.map (·.1))[i]'(by rw [List.length_map]; omega) := by
            rw [List.getElem_map, List.getElem_map]
            exact h5
          have := (List.getElem_inj hnd).mp h6
          omega
    have lk : kvs.length = i := by
      have := congrArg List.length ok.1
      rw [List.length_map, List.length_map, List.length_take] at this
      omega
    have tD : TStay K H2 (upd H2 D (.dK (kvs ++ [(.inl (ps[i]).1, u)]))) := fun b ys h => by
      rcases h with (h | ⟨o, h⟩) | h
      · exact .inl (.inl (by rw [upd_ne (ne_of h e2 (by intro z; cases z))]; exact h))
      · exact .inl (.inr ⟨o, by rw [upd_ne (ne_of h e2 (by intro z; cases z))]; exact h⟩)
      · exact .inr h
    refine ⟨a, _, rfl, sa, rfl, _, _, rfl, _, _, rfl, rfl, rfl, ?_⟩
    refine yesT ?_
    refine ⟨_, rfl, _, rfl, kvs, .inl (ps[i]).1, rfl, e2, by rw [lk, sizeLine_eq]; omega, _, upd_same, ?_, sameUpd s2 hD _⟩
    rw [putK_new _ hk, List.take_add_one, List.getElem?_eq_getElem hi]
    constructor
    · rw [List.map_append, List.map_append, ok.1]
      rfl
    · rw [List.map_append, List.map_append]
      exact (DsAt.append ok.2 (.cons tu .nil)).mono tD
  · rintro H2 ⟨kvs, e2, ok, s2⟩
    rw [lus, List.take_length] at ok
    refine ⟨_, rfl, v, t, rfl, hv.mono (TStay.of (K := K) s2), hs, fun H3 p us3 s3 hp e3 ds3 => ⟨p, rfl, ⟨_, SqL.of e3⟩, fun D2 hD2 => lc_list (K := K) (a := p) (xs := us3) (fun i H' => Same H3 H' ∧ ∃ rs, H' D2 = some (.lst rs) ∧ DsAt K H' rs ((rowsOf (sub ps) (t.pre.take i)).map rowD))
      ⟨same_new hD2 _, [], upd_same, .nil⟩ (fun i H' _ ⟨s4, _⟩ => s4.seq (SqL.of e3)) ?_ ?_⟩⟩
    · rintro i x H4 hx ⟨s4, rs, e4, d4⟩
      obtain ⟨d, hd, dx⟩ := ds3.get' hx
      have hi : i < t.pre.length := by
        have h1 := (List.getElem?_eq_some_iff.mp hx).1
        have h2 := ds3.length
        rw [List.length_map] at h2
        omega
      rw [List.getElem?_map, List.getElem?_eq_getElem hi] at hd
      have hd : (t.pre[i]).dat = d := Option.some.inj hd
      subst hd
      have hm := pre_args t _ (List.getElem_mem hi)
      have stp : rowsOf (sub ps) (t.pre.take (i + 1)) = rowsOf (sub ps) (t.pre.take i) ++ [(sub ps (t.pre[i]).hd, (t.pre[i]).args.length)] := by
        rw [List.take_add_one, List.getElem?_eq_getElem hi]
        unfold rowsOf
        rw [List.map_append]
        rfl
      rw [stp]
      have lrs : rs.length ≤ i := by
        have := d4.length
        unfold rowsOf at this
        rw [List.length_map, List.length_map, List.length_take] at this
        omega
      have hi2 : i < 100000 := by
        rw [Tm.pre_length] at hi
        omega
      obtain ⟨a, b, as, rfl, sa, sb, da, za⟩ := TAt.inv (dx.mono (TStay.of s4))
      have las : as.length = (t.pre[i]).args.length := by rw [da.length, List.length_map]
      generalize t.pre[i] = x at sa da las hm stp
      refine ⟨a, _, rfl, sa, rfl, _, _, rfl, _, _, rfl, rfl, rfl, ?_⟩
      refine yesT ?_
      have s24 := s3.trans s4
      have eD : H4 D = some (.dK kvs) := s24 _ _ e2
      have ok4 := ok.mono (TStay.of s24)
      refine ⟨_, rfl, D, rfl, .inl ⟨kvs, .inl eD⟩, _, rfl, _, rfl, Nat.zero_le _, fun b' hb' => ⟨(by show 2 ≤ sizeLine; decide), fun a' ha' => ?_⟩⟩
      have s5 : Same H4 (upd (upd H4 b' (.tup [])) a' (.tup [kV x.hd, .ref b'])) := (same_new hb' _).trans (same_new ha' _)
      have t5 := TAt.leaf (K := K) (k := x.hd) hb' ha'
      refine ⟨valV kvs x.hd, DGet.k (s5 _ _ eD), ?_⟩
      have hval : TAt K (upd (upd H4 b' (.tup [])) a' (.tup [kV x.hd, .ref b'])) ((valV kvs x.hd).getD (.ref a')) (sub ps x.hd) := by
        unfold sub
        rcases ok4.look x.hd with ⟨h1, h2⟩ | ⟨v', u', h1, h2, h3⟩
        · rw [h1, h2]
          exact t5
        · rw [h1, h2]
          exact h3.mono (TStay.of s5)
      have e5 := s5 _ _ e4
      have sb5 := TStay.of (K := K) s5 _ _ sb
      have d5 := d4.mono (TStay.of s5)
      have s35 := s4.trans s5
      generalize upd (upd H4 b' (.tup [])) a' (.tup [kV x.hd, .ref b']) = H5 at hval e5 sb5 d5 s35
      generalize (valV kvs x.hd).getD (.ref a') = v' at hval
      refine ⟨_, rfl, b, as, rfl, .inr sb5, (by show 2 ≤ sizeLine; decide), fun c hc => ?_⟩
      refine ⟨rs, same_new hc _ _ _ e5, by rw [sizeLine_eq]; omega, sameUpd (s35.trans (same_new hc _)) hD2 _, _, upd_same, ?_⟩
      rw [List.map_append]
      have dr : DAt K (upd H5 c (.tup [v', .int (as.length : Int)])) (.ref c) (rowD (sub ps x.hd, x.args.length)) := rowD_of (r := (sub ps x.hd, x.args.length)) (by rw [← las]; exact SqT.of upd_same) (hval.mono (TStay.new hc _))
      exact (DsAt.append (d5.mono (TStay.new hc _)) (.cons dr .nil)).mono (TStay.lst (same_new hc _ _ _ e5) _)
    · rintro H4 ⟨s4, rs, e4, d4⟩
      have l3 : us3.length = t.pre.length := by rw [ds3.length, List.length_map]
      rw [l3, List.take_length] at d4
      have hrun := run_all ps t
      refine ⟨D2, rs, rowsOf (sub ps) t.pre, t.put ps, rfl, SqL.of e4, d4, hrun.2, ?_, fun r hr2 => ?_, hrun.1, fun H5 u s5 tu => q H5 u (((s2.trans s3).trans s4).trans s5) tu⟩
      · unfold rowsOf
        rw [List.length_map, Tm.pre_length]
        omega
      · unfold rowsOf at hr2
        obtain ⟨x, _, rfl⟩ := List.mem_map.mp hr2
        exact sub_args hz _
end

/-! ### the heads of the generator -/
def hdD (x : Str × Int) : Dt := .tup [.key (.inr x.1), .key (.inl x.2)]
def tHd (x : Str × Int) : TE := tTup (tCons (tC (.str x.1)) (tCons (tC (.int x.2)) tNil))
def tHds : List (Str × Int) → TA
  | [] => tNil
  | x :: r => tCons (tHd x) (tHds r)
theorem hds_ok {K : PySem.W.Frag} : ∀ (hs : List (Str × Int)) (σ : L2.St) (H : Hp) (Q : List V → Hp → Prop), (∀ H' us, Same H H' → DsAt K H' us (hs.map hdD) → Q us H') → tHds hs σ H Q
  | [], σ, H, Q, q => q H [] (fun _ _ h => h) .nil
  | x :: r, σ, H, Q, q => by
    refine ⟨(by show 2 ≤ sizeLine; decide), fun p hp => ?_⟩
    have s1 := same_new hp (.tup [.str x.1, .int x.2])
    refine hds_ok (K := K) r σ _ _ fun H' us s2 d => ?_
    refine q H' _ (s1.trans s2) (.cons ?_ d)
    have a1 : DAt K (upd H p (.tup [.str x.1, .int x.2])) (.ref p) (hdD x) := .tup (SqT.of upd_same) (.cons (.key (k := .inr x.1)) (.cons (.key (k := .inl x.2)) .nil)) (by show 2 ≤ 1000000; decide)
    exact a1.mono (TStay.of s2)
/-- the names that terms of the tape have -/
def lawNames : List Str := ["add", "S", "app", "Cons", "rev", "map", "twice", "even", "k", "f", "g", "Z", "one", "loop", "Nil", "T"]
/-- the heads of terms of the tape -/
def LK (most : Int) : Key → Prop
  | .inl i => 0 ≤ i ∧ i < most
  | .inr x => x ∈ lawNames
theorem LK.ok {most : Int} : ∀ {k : Key}, LK most k → KOk k
  | .inl _, _ => True.intro
  | .inr x, h => by
    have : ∀ x ∈ lawNames, PyData.strOk x = true := by decide +kernel
    exact this x h
theorem LK.all {most : Int} {t : Tm} (h : t.All (LK most)) : t.All KOk := fun k hk => (h k hk).ok
theorem LK.up {m n : Int} (hmn : m ≤ n) {t : Tm} (h : t.All (LK m)) : t.All (LK n) := fun k hk => by
  have := h k hk
  cases k with
  | inl i => exact ⟨this.1, Int.lt_of_lt_of_le this.2 hmn⟩
  | inr x => exact this
def HsOk (hs : List (Str × Int)) : Prop := (∀ x ∈ hs, (x.1 = "?" ∨ x.1 ∈ lawNames) ∧ 0 ≤ x.2 ∧ x.2 ≤ 3) ∧ 0 < hs.length ∧ hs.length ≤ 1000
def spHds (K : PySem.W.Frag) : Sp := fun vs H Q _ => vs = [] ∧
  ∀ (H' : Hp) (p : Addr) (us : List V) (hs : List (Str × Int)), Same H H' → H p = none → H' p = some (.lst us) → DsAt K H' us (hs.map hdD) → HsOk hs → Q (.ref p) H'
section
variable {P : Program} {w : World} {K : PySem.W.Frag} {mg : Str → Option Value} {base : Heap}
theorem pa_hd {X : Cx} {a : Str} {n : Int} {j j2 : Nat} {pos p2 p3 : Pos} {k : Nat} : PE X (.Tuple [.Constant (.str a) j p2, .Constant (.int n) j2 p3] k pos) (tHd (a, n)) := pe_tup (pa_cons pe_str (pa_cons pe_int pa_nil))
theorem pa_hd0 {X : Cx} : PA X [] (tHds []) := pa_nil
theorem pa_hdc {X : Cx} {a : Str} {n : Int} {j j2 : Nat} {pos p2 p3 : Pos} {k : Nat} {es : List Expr} {r : List (Str × Int)} (h : PA X es (tHds r)) : PA X (.Tuple [.Constant (.str a) j p2, .Constant (.int n) j2 p3] k pos :: es) (tHds ((a, n) :: r)) := pa_cons pa_hd h
theorem hsok_of (l : List (Str × Int)) (h : (l.all (fun x => decide (x.1 = "?" ∨ x.1 ∈ lawNames) && decide (0 ≤ x.2) && decide (x.2 ≤ 3)) && (decide (0 < l.length) && decide (l.length ≤ 1000))) = true) : HsOk l := by
  rw [Bool.and_eq_true, Bool.and_eq_true] at h
  refine ⟨fun x hx => ?_, of_decide_eq_true h.2.1, of_decide_eq_true h.2.2⟩
  have h := List.all_eq_true.mp h.1 x hx
  rw [Bool.and_eq_true, Bool.and_eq_true] at h
  exact ⟨of_decide_eq_true h.1.1, of_decide_eq_true h.1.2, of_decide_eq_true h.2⟩
theorem ok_g_heads (T : Txt K mg) : FnOk P w K mg base CX0 1 T.f_g_heads T.fd_g_heads [] (spHds K) := by
  refine T.d_g_heads.F.ok sc_g_heads (fun vs H Q E h => ?_) (fun cdv A outer s H vs Q E hr h => ?_)
  · rw [h.1]
    rfl
  obtain ⟨rfl, q⟩ := h
  have nd := sc_g_heads.nd
  refine ⟨_, pss_cons (ps_set (i := 0) nd rfl (.inl rfl) (pe_lst (pa_hdc (pa_hdc (pa_hdc (pa_hdc (pa_hdc (pa_hdc (pa_hdc (pa_hdc pa_hd0))))))))))
    (pss_one (ps_ret (pe_op op_cat (pv 0) (pe_lst (pa_hdc (pa_hdc (pa_hdc (pa_hdc (pa_hdc (pa_hdc (pa_hdc (pa_hdc (pa_hdc pa_hd0))))))))))))), ?_⟩
  refine hds_ok (K := K) _ _ _ _ fun H1 us s1 d1 => ?_
  have l1 : us.length = 8 := by
    rw [d1.length]
    rfl
  refine ⟨by rw [l1, sizeLine_eq]; decide, fun l hl => ⟨_, rfl, ?_⟩⟩
  have s2 := same_new hl (.lst us)
  refine hds_ok (K := K) _ _ _ _ fun H2 ws s3 d2 => ?_
  have l2 : ws.length = 9 := by
    rw [d2.length]
    rfl
  refine ⟨by rw [l2, sizeLine_eq]; decide, fun m hm => ⟨l, m, us, ws, rfl, rfl, same_new hm _ _ _ (s3 _ _ upd_same), upd_same, by rw [l1, l2, sizeLine_eq]; decide, fun p hp => ?_⟩⟩
  have sf := (same_new hm (.lst ws)).trans (same_new hp (.lst (us ++ ws)))
  have dd := DsAt.append (d1.mono (TStay.of ((s2.trans s3).trans sf))) (d2.mono (TStay.of sf))
  rw [← List.map_append] at dd
  exact q _ p (us ++ ws) _ (((s1.trans s2).trans s3).trans sf) ((((s1.trans s2).trans s3).trans (same_new hm (.lst ws))).free hp) upd_same dd (hsok_of _ (by decide +kernel))
end

/-! ### _law_term of the tape -/
structure HdsAt (K : PySem.W.Frag) (H : Hp) (tp hp : Addr) (hs : List (Str × Int)) : Prop where
  ex : ∃ us, Scr K H tp hp us ∧ DsAt K H us (hs.map hdD)
  ok : HsOk hs
theorem HdsAt.keep {K : PySem.W.Frag} {H H' : Hp} {tp hp n : Addr} {hs : List (Str × Int)} {zs : List Int} (h : HdsAt K H tp hp hs) (t : TpOk K H tp n zs) (k : Keep tp H H') : HdsAt K H' tp hp hs := by
  obtain ⟨⟨us, s, d⟩, o⟩ := h
  exact ⟨⟨us, s.keep k, d.mono (t.ts k)⟩, o⟩
def spTm (K : PySem.W.Frag) (m : Nat) : Sp := fun vs H Q _ => ∃ (tp hp n : Addr) (zs : List Int) (hs : List (Str × Int)) (most : Int) (dep : Nat), vs = [.ref tp, .ref hp, .int most, .int (dep : Int)] ∧ TpOk K H tp n zs ∧ HdsAt K H tp hp hs ∧ 0 ≤ most ∧ most ≤ 1000 ∧ dep < m ∧
  ∀ (H' : Hp) (v : V) (t : Tm), Keep tp H H' → TpOk K H' tp n zs → TAt K H' v t → t.All (LK most) → t.size ≤ 4 ^ dep → t.high ≤ dep + 1 → Q v H'
theorem all_leafP {Pr : Key → Prop} {k : Key} (h : Pr k) : (Tm.mk k []).All Pr := Tm.All.mk h fun _ hx => absurd hx List.not_mem_nil
theorem all_leaf {k : Key} (h : KOk k) : (Tm.mk k []).All KOk := all_leafP h
theorem size_leaf (k : Key) : (Tm.mk k []).size = 1 := by
  rw [Tm.size, Tm.sizeL]
theorem high_leaf (k : Key) : (Tm.mk k []).high = 1 := by
  rw [Tm.high, Tm.highL]
theorem three10 {r : Int} (h0 : 0 ≤ r) (h1 : r < 3) : ∃ x : Str, atI [V.str "Z", .str "Nil", .str "T"] r = some (.str x) ∧ x ∈ lawNames := by
  have h : r = 0 ∨ r = 1 ∨ r = 2 := by omega
  rcases h with rfl | rfl | rfl
  · exact ⟨"Z", rfl, by decide +kernel⟩
  · exact ⟨"Nil", rfl, by decide +kernel⟩
  · exact ⟨"T", rfl, by decide +kernel⟩
section
variable {P : Program} {w : World} {K : PySem.W.Frag} {mg : Str → Option Value} {base : Heap}
theorem ok_g_term_step (T : Txt K mg) {m : Nat} (G : FnOk P w K mg base CX0 (m + 1) T.f_g_term T.fd_g_term ["tape", "heads", "most", "depth"] (spTm K m)) : FnOk P w K mg base CX0 (m + 1 + 1) T.f_g_term T.fd_g_term ["tape", "heads", "most", "depth"] (spTm K (m + 1)) := by
  have GN : FnOk P w K mg base CX0 1 T.f_g_next T.fd_g_next ["tape", "many"] (spNext K) := ok_g_next T
  refine T.d_g_term.F.ok sc_g_term (fun vs H Q E h => ?_) (fun cdv A outer s H vs Q E hr h => ?_)
  · obtain ⟨tp, hp, n, zs, hs, most, dep, rfl, _⟩ := h
    rfl
  obtain ⟨tp, hp, n, zs, hs, most, dep, rfl, tk, hk, m0, m1, hd, q⟩ := h
  have nd := sc_g_term.nd
  have hr1 : Room 1 _ := hr.mono (by omega)
  refine ⟨_, pss_cons (ps_set (i := 4) nd rfl (.inl rfl) (pe_call GN hr1 (by rfl) T.d_g_next.m T.d_g_next.F.kp T.d_g_next.b .nil pass0 (pa_cons (pv 0) (pa_cons pe_int pa_nil))))
    (pss_cons (ps_if (PW.pt (pw_or (pt_cmpR op_eq (pv 3) pe_int (nomark _)) (pw_or1 (pt_cmpR op_eq (pv 4) pe_int (nomark _)))))
      (pss_cons (ps_if (PW.pt (pw_and (pt_cmpR op_gt (pv 2) pe_int (nomark _)) (pw_and1 (pt_cmpR op_gt (pe_call GN hr1 (by rfl) T.d_g_next.m T.d_g_next.F.kp T.d_g_next.b .nil pass0 (pa_cons (pv 0) (pa_cons pe_int pa_nil))) pe_int (nomark _)))))
        (pss_one (ps_ret (pe_tup (pa_cons (pe_call GN hr1 (by rfl) T.d_g_next.m T.d_g_next.F.kp T.d_g_next.b .nil pass0 (pa_cons (pv 0) (pa_cons (pv 2) pa_nil))) (pa_cons (pe_tup pa_nil) pa_nil))))) pss_nil)
      (pss_one (ps_ret (pe_tup (pa_cons (pe_ix ix_list (pe_lst (pa_cons pe_str (pa_cons pe_str (pa_cons pe_str pa_nil)))) (pe_call GN hr1 (by rfl) T.d_g_next.m T.d_g_next.F.kp T.d_g_next.b .nil pass0 (pa_cons (pv 0) (pa_cons pe_int pa_nil))) (fun _ _ => rfl)) (pa_cons (pe_tup pa_nil) pa_nil)))))) pss_nil)
    (pss_cons (ps_set (i := 5) nd rfl (.inl rfl) (pe_ix ix_list (pv 1) (pe_call GN hr1 (by rfl) T.d_g_next.m T.d_g_next.F.kp T.d_g_next.b .nil pass0 (pa_cons (pv 0) (pa_cons (pe_callB call_len_seq (by rfl) T.z_len PySem.boot_len (pa_cons (pv 1) pa_nil)) pa_nil))) (fun _ _ => rfl)))
    (pss_cons (ps_if (pt_cmpR op_eq (pe_ix ix_tup (pv 5) pe_int (fun _ _ => rfl)) pe_str (nomark _))
      (pss_cons (ps_if (pt_cmpR op_eq (pv 2) pe_int (nomark _)) (pss_one (ps_ret (pe_tup (pa_cons pe_str (pa_cons (pe_tup pa_nil) pa_nil))))) pss_nil)
      (pss_one (ps_ret (pe_tup (pa_cons (pe_call GN hr1 (by rfl) T.d_g_next.m T.d_g_next.F.kp T.d_g_next.b .nil pass0 (pa_cons (pv 0) (pa_cons (pv 2) pa_nil)))
        (pa_cons (pe_tup (pa_cons (pe_call G hr (by rfl) T.d_g_term.m T.d_g_term.F.kp T.d_g_term.b .nil pass0 (pa_cons (pv 0) (pa_cons (pv 1) (pa_cons (pv 2) (pa_cons (pe_op op_sub (pv 3) pe_int) pa_nil))))) pa_nil)) pa_nil)))))) pss_nil)
    (pss_cons (ps_set (i := 6) nd rfl (.inl rfl) (pe_ix ix_tup (pv 5) pe_int (fun _ _ => rfl)))
    (C8.pss_cut (ps_if (pt_cmpR op_eq (pe_call GN hr1 (by rfl) T.d_g_next.m T.d_g_next.F.kp T.d_g_next.b .nil pass0 (pa_cons (pv 0) (pa_cons pe_int pa_nil))) pe_int (nomark _))
      (pss_one (ps_set (i := 6) nd rfl (.inl rfl) (pe_call GN hr1 (by rfl) T.d_g_next.m T.d_g_next.F.kp T.d_g_next.b .nil pass0 (pa_cons (pv 0) (pa_cons pe_int pa_nil))))) pss_nil)
    (pss_one (ps_ret (pe_tup (pa_cons (pe_ix ix_tup (pv 5) pe_int (fun _ _ => rfl)) (pa_cons
      (pe_callTy call_tuple_of (by rfl) T.z_tuple (by decide +kernel) (pa_cons
        (pe_lc (own := [("k", 7)]) (g := gName 7) (tt := tYes) rfl nd (pi_range1 (by rfl) T.z_range (pa_cons (pv 6) pa_nil)) (blkOk_by (own := [("k", 7)]) (N := ["tape", "heads", "most", "depth", "choice", "head", "count", "k"]) (sc := defScope s_g_term) (by decide +kernel))
          (fun _ _ _ _ _ => pg_name (i := 7) nd rfl (Or.inl rfl)) (fun _ _ _ _ _ => pts_nil)
          (fun _ _ _ _ _ => pe_call G hr (by rfl) T.d_g_term.m T.d_g_term.F.kp T.d_g_term.b .nil pass0 (pa_cons (pv 0) (pa_cons (pv 1) (pa_cons (pv 2) (pa_cons (pe_op op_sub (pv 3) pe_int) pa_nil)))))) pa_nil)) pa_nil)))))))))), ?_⟩
  have pow1 : 1 ≤ 4 ^ dep := Nat.pow_pos (by decide)
  refine ⟨_, rfl, tp, n, zs, 4, rfl, tk, by decide, by decide, fun H1 c k1 t1 c0 c1 => ?_⟩
  have h1 := hk.keep tk k1
  have zl : ∀ (H2 : Hp), TpOk K H2 tp n zs → Keep tp H H2 → ∀ l, H2 l = none → ∀ (H3 : Hp) (r : Int), Keep tp (upd H2 l (.lst [.str "Z", .str "Nil", .str "T"])) H3 → TpOk K H3 tp n zs → 0 ≤ r → r < 3 →
      ∃ x : Str, SqL K H3 l [.str "Z", .str "Nil", .str "T"] ∧ atI [V.str "Z", .str "Nil", .str "T"] r = some (.str x) ∧ ∀ b, H3 b = none → ∀ a, (upd H3 b (.tup [])) a = none → Q (.ref a) (upd (upd H3 b (.tup [])) a (.tup [.str x, .ref b])) := by
    intro H2 t2 k2 l hl H3 r k3 t3 r0 r1
    obtain ⟨x, ex, ox⟩ := three10 r0 r1
    refine ⟨x, SqL.of (k3 _ _ (t2.ne hl) upd_same), ex, fun b hb a ha => ?_⟩
    exact q _ _ (.mk (.inr x) []) (((k2.trans (Keep.new hl _)).trans k3).trans ((Keep.new hb _).trans (Keep.new ha _))) ((t3.new hb _).new ha _) (TAt.leaf (k := .inr x) hb ha) (all_leafP (Pr := LK most) ox) (by rw [size_leaf]; exact pow1) (by rw [high_leaf]; omega)
  refine ⟨_, rfl, rfl, _, rfl, ite2 (fun hq => iteT ?_) (fun hq => ⟨_, rfl, rfl, _, rfl, ite2 (fun _ => ?_) (fun _ => ?_)⟩)⟩
  · refine ⟨_, rfl, _, _, rfl, rfl, _, rfl, ite2 (fun hm => ?_) (fun hm => iteF ?_)⟩
    · have hm : 0 < most := of_decide_eq_true hm
      refine ⟨_, rfl, tp, n, zs, 3, rfl, t1, by decide, by decide, fun H2 r k2 t2 r0 r1 => ⟨_, _, rfl, rfl, _, rfl, ite2 (fun _ => ?_) (fun _ => ?_)⟩⟩
      · refine ⟨_, rfl, _, rfl, tp, n, zs, most, rfl, t2, hm, by omega, fun H3 r3 k3 t3 w0 w1 => ⟨Nat.zero_le _, fun b hb => ⟨(by show 2 ≤ sizeLine; decide), fun a ha => ?_⟩⟩⟩
        exact q _ _ (.mk (.inl r3) []) (((k1.trans k2).trans k3).trans ((Keep.new hb _).trans (Keep.new ha _))) ((t3.new hb _).new ha _) (TAt.leaf (k := .inl r3) hb ha) (all_leafP (Pr := LK most) ⟨w0, w1⟩) (by rw [size_leaf]; exact pow1) (by rw [high_leaf]; omega)
      · refine ⟨(by show 3 ≤ sizeLine; decide), fun l hl => ⟨_, rfl, tp, n, zs, 3, rfl, t2.new hl _, by decide, by decide, fun H3 r k3 t3 r0 r1 => ?_⟩⟩
        obtain ⟨x, sx, ex, qx⟩ := zl H2 t2 (k1.trans k2) l hl H3 r k3 t3 r0 r1
        exact ⟨l, _, _, _, rfl, rfl, sx, ex, Nat.zero_le _, fun b hb => ⟨(by show 2 ≤ sizeLine; decide), fun a ha => qx b hb a ha⟩⟩
    · refine ⟨(by show 3 ≤ sizeLine; decide), fun l hl => ⟨_, rfl, tp, n, zs, 3, rfl, t1.new hl _, by decide, by decide, fun H3 r k3 t3 r0 r1 => ?_⟩⟩
      obtain ⟨x, sx, ex, qx⟩ := zl H1 t1 k1 l hl H3 r k3 t3 r0 r1
      exact ⟨l, _, _, _, rfl, rfl, sx, ex, Nat.zero_le _, fun b hb => ⟨(by show 2 ≤ sizeLine; decide), fun a ha => qx b hb a ha⟩⟩
  · refine ⟨_, rfl, _, _, rfl, rfl, _, rfl, ite2 (fun hm => ?_) (fun hm => iteF ?_)⟩
    · have hm : 0 < most := of_decide_eq_true hm
      refine ⟨_, rfl, tp, n, zs, 3, rfl, t1, by decide, by decide, fun H2 r k2 t2 r0 r1 => ⟨_, _, rfl, rfl, _, rfl, ite2 (fun _ => ?_) (fun _ => ?_)⟩⟩
      · refine ⟨_, rfl, _, rfl, tp, n, zs, most, rfl, t2, hm, by omega, fun H3 r3 k3 t3 w0 w1 => ⟨Nat.zero_le _, fun b hb => ⟨(by show 2 ≤ sizeLine; decide), fun a ha => ?_⟩⟩⟩
        exact q _ _ (.mk (.inl r3) []) (((k1.trans k2).trans k3).trans ((Keep.new hb _).trans (Keep.new ha _))) ((t3.new hb _).new ha _) (TAt.leaf (k := .inl r3) hb ha) (all_leafP (Pr := LK most) ⟨w0, w1⟩) (by rw [size_leaf]; exact pow1) (by rw [high_leaf]; omega)
      · refine ⟨(by show 3 ≤ sizeLine; decide), fun l hl => ⟨_, rfl, tp, n, zs, 3, rfl, t2.new hl _, by decide, by decide, fun H3 r k3 t3 r0 r1 => ?_⟩⟩
        obtain ⟨x, sx, ex, qx⟩ := zl H2 t2 (k1.trans k2) l hl H3 r k3 t3 r0 r1
        exact ⟨l, _, _, _, rfl, rfl, sx, ex, Nat.zero_le _, fun b hb => ⟨(by show 2 ≤ sizeLine; decide), fun a ha => qx b hb a ha⟩⟩
    · refine ⟨(by show 3 ≤ sizeLine; decide), fun l hl => ⟨_, rfl, tp, n, zs, 3, rfl, t1.new hl _, by decide, by decide, fun H3 r k3 t3 r0 r1 => ?_⟩⟩
      obtain ⟨x, sx, ex, qx⟩ := zl H1 t1 k1 l hl H3 r k3 t3 r0 r1
      exact ⟨l, _, _, _, rfl, rfl, sx, ex, Nat.zero_le _, fun b hb => ⟨(by show 2 ≤ sizeLine; decide), fun a ha => qx b hb a ha⟩⟩
  · have hq : ¬ ((dep : Int) = 0) := by
      intro e
      rw [e] at hq
      exact hq (decide_eq_true rfl)
    have hd1 : 1 ≤ dep := by omega
    have ed : (((dep - 1 : Nat)) : Int) = (dep : Int) - 1 := by omega
    have evs : [V.ref tp, .ref hp, .int most, .int ((dep : Int) - 1)] = [V.ref tp, .ref hp, .int most, .int (((dep - 1 : Nat)) : Int)] := by rw [ed]
    have pw : 4 ^ dep = 4 ^ (dep - 1) * 4 := by
      rw [← Nat.pow_succ]
      congr 1
      omega
    have pow0 : 1 ≤ 4 ^ (dep - 1) := Nat.pow_pos (by decide)
    obtain ⟨⟨us, S1, d1⟩, oh⟩ := h1
    obtain ⟨oh1, oh2, oh3⟩ := oh
    have lus : us.length = hs.length := by rw [d1.length, List.length_map]
    refine ⟨_, rfl, _, rfl, _, rfl, hp, us, rfl, .inl S1.here, tp, n, zs, _, rfl, t1, by omega, by omega, fun H2 r k2 t2 r0 r1 => ?_⟩
    have d2 := d1.mono (t1.ts k2)
    have k12 := k1.trans k2
    have hr2 : r.toNat < us.length := by omega
    obtain ⟨d, hd2, dx⟩ := d2.get' (List.getElem?_eq_getElem hr2)
    have hr3 : r.toNat < hs.length := by omega
    rw [List.getElem?_map, List.getElem?_eq_getElem hr3] at hd2
    have hd2 : hdD hs[r.toNat] = d := Option.some.inj hd2
    subst hd2
    have hox := oh1 _ (List.getElem_mem hr3)
    have hat : atI us r = some us[r.toNat] := at_of (j := r.toNat) (by omega) (List.getElem?_eq_getElem hr2)
    generalize hs[r.toNat] = x at dx hox
    obtain ⟨ox, x0, x3⟩ := hox
    obtain ⟨a, vs, ea, sa, q0, _⟩ := dx.tup_inv
    cases q0 with
    | cons q1 q0 =>
      cases q0 with
      | cons q2 q0 =>
        cases q0
        rw [q1.key_inv, q2.key_inv] at sa
        have sa : SqT K H2 a [.str x.1, .int x.2] := sa
        rw [ea] at hat
        refine ⟨hp, us, r, .ref a, rfl, rfl, (S1.keep k2).here, hat, ?_⟩
        refine ⟨_, rfl, a, _, _, _, rfl, rfl, sa, atI_nat (j := 0) rfl, rfl, _, rfl, ite2 (fun _ => ?_) (fun hnq => ?_)⟩
        · refine ⟨_, rfl, rfl, _, rfl, ite2 (fun _ => ?_) (fun hm => ?_)⟩
          · refine ⟨Nat.zero_le _, fun b hb => ⟨(by show 2 ≤ sizeLine; decide), fun a' ha' => ?_⟩⟩
            exact q _ _ (.mk (.inr "Z") []) (k12.trans ((Keep.new hb _).trans (Keep.new ha' _))) ((t2.new hb _).new ha' _) (TAt.leaf (k := .inr "Z") hb ha') (all_leafP (Pr := LK most) (by show ("Z" : Str) ∈ lawNames; decide +kernel)) (by rw [size_leaf]; exact pow1) (by rw [high_leaf]; omega)
          · have hm : ¬ (most = 0) := by
              intro e
              rw [e] at hm
              exact hm (decide_eq_true rfl)
            refine ⟨_, rfl, _, rfl, tp, n, zs, most, rfl, t2, by omega, by omega, fun H3 r3 k3 t3 w0 w1 => ?_⟩
            refine ⟨_, rfl, _, rfl, _, rfl, _, rfl, _, _, rfl, rfl, tp, hp, n, zs, hs, most, dep - 1, evs, t3, hk.keep tk (k12.trans k3), m0, m1, by omega, fun H4 v4 u4 k4 t4 tv4 ak4 z4 g4 => ?_⟩
            refine ⟨(by show 1 ≤ sizeLine; decide), fun b hb => ⟨(by show 2 ≤ sizeLine; decide), fun a' ha' => ?_⟩⟩
            refine q _ _ (.mk (.inl r3) [u4]) (((k12.trans k3).trans k4).trans ((Keep.new hb _).trans (Keep.new ha' _))) ((t4.new hb _).new ha' _) (TAt.new (k := .inl r3) (SqT.of upd_same) (.cons (tv4.mono (TStay.new hb _)) .nil) (by show 1 ≤ 1000000; decide) ha') (Tm.All.mk (P := LK most) ⟨w0, w1⟩ fun y hy => by rw [List.mem_singleton.mp hy]; exact ak4) ?_ ?_
            · rw [Tm.size, Tm.sizeL, Tm.sizeL]
              omega
            · rw [Tm.high, Tm.highL, Tm.highL]
              omega
        · have hxn : x.1 ∈ lawNames := by
            rcases ox with e | e
            · exact absurd (decide_eq_true (by rw [e])) hnq
            · exact e
          refine ⟨_, rfl, a, _, _, _, rfl, rfl, sa, atI_nat (j := 1) rfl, ?_⟩
          refine ⟨fun σ H' => ∃ cn : Int, 0 ≤ cn ∧ cn ≤ 3 ∧ σ = [some (.ref tp), some (.ref hp), some (.int most), some (.int (dep : Int)), some (.int c), some (.ref a), some (.int cn), none] ∧ Keep tp H2 H' ∧ TpOk K H' tp n zs, ?_, ?_⟩
          · refine ⟨_, rfl, tp, n, zs, 8, rfl, t2, by decide, by decide, fun H3 r3 k3 t3 _ _ => ⟨rfl, _, rfl, ite2 (fun _ => ?_) (fun _ => ⟨x.2, x0, x3, rfl, k3, t3⟩)⟩⟩
            exact ⟨_, rfl, tp, n, zs, 4, rfl, t3, by decide, by decide, fun H4 r4 k4 t4 a0 a1 => ⟨r4, a0, by omega, rfl, k3.trans k4, t4⟩⟩
          · rintro σ H3 ⟨cn, c0', c3, rfl, k3, t3⟩
            have sa3 := (t2.ts k3) _ _ sa
            have k13 := k12.trans k3
            refine ⟨_, rfl, a, _, _, _, rfl, rfl, sa3, atI_nat (j := 0) rfl, _, rfl, cn, rfl, by omega, by omega, fun D hD => lc_range (lo := 0) (n := cn.toNat) (fun i H' => ∃ (ws : List V) (ts : List Tm), H' D = some (.lst ws) ∧ DsAt K H' ws (ts.map Tm.dat) ∧ Keep tp H3 H' ∧ TpOk K H' tp n zs ∧ ts.length = i ∧ Tm.sizeL ts ≤ i * 4 ^ (dep - 1) ∧ Tm.highL ts ≤ dep ∧ ∀ u ∈ ts, u.All (LK most))
              ⟨[], [], upd_same, .nil, Keep.new hD _, t3.new hD _, rfl, Nat.zero_le _, Nat.zero_le _, fun _ h => absurd h List.not_mem_nil⟩ ?_ ?_⟩
            · rintro i H4 hi ⟨ws, ts, e4, d4, k4, t4, len4, z4, g4, all4⟩
              have Dt := t3.ne hD
              refine ⟨rfl, ?_⟩
              refine yesT ?_
              refine ⟨_, rfl, _, rfl, _, rfl, _, rfl, _, _, rfl, rfl, tp, hp, n, zs, hs, most, dep - 1, evs, t4, hk.keep tk (k13.trans k4), m0, m1, by omega, fun H5 v5 u5 k5 t5 tv5 ak5 z5 g5 => ?_⟩
              have e5 := k5 _ _ Dt e4
              have lws : ws.length = ts.length := by rw [d4.length, List.length_map]
              refine ⟨ws, e5, by rw [lws, len4, sizeLine_eq]; omega, ws ++ [v5], ts ++ [u5], upd_same, ?_, (k4.trans k5).upd hD _, t3.upd t5 (k4.trans k5) hD _, ?_, ?_, ?_, ?_⟩
              · rw [List.map_append]
                exact (DsAt.append (d4.mono (t4.ts k5)) (.cons tv5 .nil)).mono (TStay.lst e5 _)
              · rw [List.length_append, len4]
                rfl
              · rw [Tm.sizeL_append, Tm.sizeL, Tm.sizeL, Nat.succ_mul]
                omega
              · rw [Tm.highL_append, Tm.highL, Tm.highL]
                omega
              · intro y hy
                rcases List.mem_append.mp hy with hy | hy
                · exact all4 y hy
                · rw [List.mem_singleton.mp hy]
                  exact ak5
            · rintro H4 ⟨ws, ts, e4, d4, k4, t4, len4, z4, g4, all4⟩
              have lws : ws.length = ts.length := by rw [d4.length, List.length_map]
              refine ⟨D, ws, rfl, .inl ⟨SqL.of e4, fun b hb => ⟨(by show 2 ≤ sizeLine; decide), fun a' ha' => ?_⟩⟩⟩
              refine q _ _ (.mk (.inr x.1) ts) ((k13.trans k4).trans ((Keep.new hb _).trans (Keep.new ha' _))) ((t4.new hb _).new ha' _) (TAt.new (k := .inr x.1) (SqT.of upd_same) (d4.mono (TStay.new hb _)) (by omega) ha') (Tm.All.mk (P := LK most) hxn all4) ?_ ?_
              · rw [Tm.size]
                have : cn.toNat * 4 ^ (dep - 1) ≤ 3 * 4 ^ (dep - 1) := Nat.mul_le_mul_right _ (by omega)
                omega
              · rw [Tm.high]
                omega
theorem ok_g_term (T : Txt K mg) : ∀ m, FnOk P w K mg base CX0 (m + 1) T.f_g_term T.fd_g_term ["tape", "heads", "most", "depth"] (spTm K m)
  | 0 => fn_none fun vs H Q E ⟨_, _, _, _, _, _, _, _, _, _, _, _, h, _⟩ => absurd h (Nat.not_lt_zero _)
  | m + 1 => ok_g_term_step T (ok_g_term T m)
end

/-! ### functions in the heap -/
theorem plain_at {K : PySem.W.Frag} {H : Hp} {v : V} {x : Str} {n : Nat} {b : Tm} (h : DAt K H v (Fn.plain x n b).dat) : ∃ a u, v = .ref a ∧ SqT K H a [.str "plain", .str x, .int (n : Int), u] ∧ TAt K H u b := by
  rw [Fn.dat] at h
  obtain ⟨a, vs, rfl, s, q, _⟩ := h.tup_inv
  cases q with
  | cons q1 q =>
    cases q with
    | cons q2 q =>
      cases q with
      | cons q3 q =>
        cases q with
        | cons q4 q =>
          cases q
          rw [q1.key_inv, q2.key_inv, q3.key_inv] at s
          exact ⟨a, _, rfl, s, q4⟩
theorem cases_at {K : PySem.W.Frag} {H : Hp} {v : V} {x : Str} {n : Nat} {rs : List (Str × Nat × Tm)} (h : DAt K H v (Fn.cases x n rs).dat) : ∃ a c us, v = .ref a ∧ SqT K H a [.str "cases", .str x, .int (n : Int), .ref c] ∧ SqT K H c us ∧ DsAt K H us (rs.map ruleD) := by
  rw [Fn.dat] at h
  obtain ⟨a, vs, rfl, s, q, _⟩ := h.tup_inv
  cases q with
  | cons q1 q =>
    cases q with
    | cons q2 q =>
      cases q with
      | cons q3 q =>
        cases q with
        | cons q4 q =>
          cases q
          rw [q1.key_inv, q2.key_inv, q3.key_inv] at s
          obtain ⟨c, us, rfl, s2, q5, _⟩ := q4.tup_inv
          exact ⟨a, c, us, rfl, s, s2, q5⟩
def Fn.kind : Fn → Str
  | .plain _ _ _ => "plain"
  | .cases _ _ _ => "cases"
theorem fn_at {K : PySem.W.Frag} {H : Hp} {v : V} {f : Fn} (h : DAt K H v f.dat) : ∃ a u, v = .ref a ∧ SqT K H a [.str f.kind, .str f.name, .int (f.arity : Int), u] := by
  cases f with
  | plain x n b =>
    obtain ⟨a, u, e, s, _⟩ := plain_at h
    exact ⟨a, u, e, s⟩
  | cases x n rs =>
    obtain ⟨a, c, us, e, s, _⟩ := cases_at h
    exact ⟨a, _, e, s⟩
theorem rule_at {K : PySem.W.Frag} {H : Hp} {v : V} {r : Str × Nat × Tm} (h : DAt K H v (ruleD r)) : ∃ a u, v = .ref a ∧ SqT K H a [.str r.1, .int (r.2.1 : Int), u] ∧ TAt K H u r.2.2 := by
  obtain ⟨a, vs, rfl, s, q, _⟩ := h.tup_inv
  cases q with
  | cons q1 q =>
    cases q with
    | cons q2 q =>
      cases q with
      | cons q3 q =>
        cases q
        rw [q1.key_inv, q2.key_inv] at s
        exact ⟨a, _, rfl, s, q3⟩
/-! ### parts by place -/
theorem enum_parts {K : PySem.W.Frag} {H : Hp} : ∀ {is : List Int} {as : List Tm} {ts : List Addr} {xs : List V}, Paired (fun (t : Addr) (q : V × V) => H t = some (.tup [q.1, q.2])) ts ((is.map V.int).zip xs) → DsAt K H xs (as.map Tm.dat) → DsAt K H (ts.map V.ref) ((is.zip as).map partD)
  | [], as, ts, xs, hp, _ => by
    rw [List.map_nil, List.zip_nil_left] at hp
    cases hp
    exact .nil
  | i :: is, [], ts, xs, hp, h => by
    cases h
    rw [List.zip_nil_right] at hp
    cases hp
    exact .nil
  | i :: is, a :: as, ts, xs, hp, h => by
    rw [List.map_cons] at h
    cases h with
    | cons h1 h2 =>
      rw [List.map_cons, List.zip_cons_cons] at hp
      cases hp with
      | cons c1 c2 =>
        rw [List.zip_cons_cons, List.map_cons, List.map_cons]
        exact .cons (partD_of (p := (i, a)) (SqT.of c1) h1) (enum_parts c2 h2)
theorem enumP_nd (as : List Tm) : ((enumP as).map (·.1)).Nodup := by
  unfold enumP
  have : ∀ (l : List Int) (as : List Tm), l.Nodup → ((l.zip as).map (·.1)).Nodup := by
    intro l
    induction l with
    | nil => intro as _; rw [List.zip_nil_left]; exact List.nodup_nil
    | cons i l ih =>
      intro as h
      cases as with
      | nil => exact List.nodup_nil
      | cons a as =>
        rw [List.zip_cons_cons, List.map_cons, List.nodup_cons]
        rw [List.nodup_cons] at h
        refine ⟨fun hm => h.1 ?_, ih as h.2⟩
        obtain ⟨p, hp, e⟩ := List.mem_map.mp hm
        have hz := (List.of_mem_zip (show (p.1, p.2) ∈ _ from hp)).1
        have e : p.1 = i := e
        rw [← e]
        exact hz
  refine this _ as ?_
  exact List.Pairwise.map _ (fun a b h e => h (Int.ofNat.inj e)) List.nodup_range
theorem enumP_mem {as : List Tm} {p : Int × Tm} (h : p ∈ enumP as) : p.2 ∈ as := (List.of_mem_zip (show (p.1, p.2) ∈ _ from h)).2
theorem enumP_length (as : List Tm) : (enumP as).length = as.length := by
  unfold enumP
  rw [List.length_zip, List.length_map, List.length_range, Nat.min_self]
def spUnf (K : PySem.W.Frag) : Sp := fun vs H Q _ => ∃ (v : V) (a : Addr) (b : Tm) (us : List V) (as : List Tm) (n : Nat), vs = [v, .ref a, .int (n : Int)] ∧ TAt K H v b ∧ SqT K H a us ∧ DsAt K H us (as.map Tm.dat) ∧ n ≤ as.length ∧ b.size ≤ 1000 ∧ as.length ≤ 50000 ∧ (∀ x ∈ as, x.size ≤ 50000) ∧
  ∀ (H' : Hp) (u : V), Same H H' → TAt K H' u (unf b as n) → Q u H'
section
variable {P : Program} {w : World} {K : PySem.W.Frag} {mg : Str → Option Value} {base : Heap}
theorem ok_unfolded (T : Txt K mg) : FnOk P w K mg base CX0 4 T.f_unfolded T.fd_unfolded ["body", "arguments", "count"] (spUnf K) := by
  have G_applied : FnOk P w K mg base CX0 1 T.f_applied T.fd_applied ["term", "arguments"] (spApplied K) := ok_applied T
  have G_put : FnOk P w K mg base CX0 3 T.f_put T.fd_put ["term", "parts"] (spPut K) := ok_put T
  refine T.d_unfolded.F.ok sc_unfolded (fun vs H Q E h => ?_) (fun cdv A outer s H vs Q E hr h => ?_)
  · obtain ⟨_, _, _, _, _, _, rfl, _⟩ := h
    rfl
  obtain ⟨v, a, b, us, as, n, rfl, hv, sa, da, hn, hb, hl, hz, q⟩ := h
  have hr_applied : Room 1 _ := hr.mono (by decide)
  refine ⟨_, pss_one (ps_ret (pe_call G_applied hr_applied (by rfl) T.d_applied.m T.d_applied.F.kp T.d_applied.b .nil pass0 (pa_cons (pe_call G_put hr (by rfl) T.d_put.m T.d_put.F.kp T.d_put.b .nil pass0 (pa_cons (pv 0) (pa_cons (EN.pe_tupEnum rfl (pe_slice sl_tupA (pv 1) po_none (po_some (pv 2))) (by rfl) T.z_tuple (by decide +kernel) (by rfl) T.z_enumerate (by decide +kernel)) pa_nil))) (pa_cons (pe_slice sl_tupA (pv 1) (po_some (pv 2)) po_none) pa_nil)))), ?_⟩
  have lus : us.length = as.length := by rw [da.length, List.length_map]
  refine ⟨_, rfl, _, rfl, _, rfl, _, rfl, slA_take (n := n) sa rfl (by omega) fun H1 c s1 e1 => ?_⟩
  refine ⟨c, _, rfl, e1, fun H2 p ts s2 e2 pd => ?_⟩
  have s12 := s1.trans s2
  have d2 : DsAt K H2 (us.take n) ((as.take n).map Tm.dat) := by
    rw [List.map_take]
    exact (da.mono (TStay.of s12)).take n
  have ltk : (us.take n).length = (as.take n).length := by rw [List.length_take, List.length_take, lus]
  have dp : DsAt K H2 (ts.map V.ref) ((enumP (as.take n)).map partD) := by
    refine enum_parts (xs := us.take n) ?_ d2
    unfold EN.enumV at pd
    rw [ltk] at pd
    rw [List.map_map]
    exact pd
  have hzt : ∀ p ∈ enumP (as.take n), p.2.size ≤ 50000 := fun p hp => hz _ (List.mem_of_mem_take (enumP_mem hp))
  refine ⟨v, p, b, _, enumP (as.take n), rfl, hv.mono (TStay.of (K := K) s12), by omega, SqT.of e2, dp, enumP_nd _, by rw [enumP_length, List.length_take]; omega, fun p hp => Nat.le_trans (hzt p hp) (by decide), fun H3 u s3 tu => ?_⟩
  have s13 := s12.trans s3
  refine ⟨_, rfl, _, rfl, _, rfl, ?_⟩
  refine noPart_of ?_
  refine slA_drop (n := n) (TStay.of (K := K) s13 _ _ sa) rfl (by omega) fun H4 c4 s4 e4 => ?_
  have s14 := s13.trans s4
  refine ⟨u, c4, _, _, as.drop n, rfl, tu.mono (TStay.of (K := K) s4), e4, ?_, ?_, by rw [List.length_drop]; omega, fun H5 u5 s5 t5 => q H5 u5 (s14.trans s5) t5⟩
  · rw [List.map_drop]
    exact (da.mono (TStay.of s14)).drop n
  · have h1 : (b.put (enumP (as.take n))).args.length ≤ 50000 + b.args.length := by
      rw [put_eq]
      show ((sub _ b.hd).args ++ Tm.putL _ b.args).length ≤ _
      rw [List.length_append, putL_length]
      have := sub_args hzt b.hd
      omega
    have h2 := Tm.len_sizeL b.args
    rw [size_args b] at hb
    omega
end
/-! ### by_name, is_by_cases, demand_at_once -/
def spByName (K : PySem.W.Frag) : Sp := fun vs H Q _ => ∃ (v : V) (fs : List Fn), vs = [v] ∧ DAt K H v (.tup (fs.map Fn.dat)) ∧ FsOk fs ∧ ∀ (H' : Hp) (D : Addr), Same H H' → FsAt K H' D fs → Q (.ref D) H'
def spIsBy (K : PySem.W.Frag) : Sp := fun vs H Q _ => ∃ (D : Addr) (v : V) (fs : List Fn) (t : Tm), vs = [.ref D, v] ∧ FsAt K H D fs ∧ TAt K H v t ∧ ∀ b, b = (byCs fs t).isSome → Q (.bl b) H
def spDem0 (K : PySem.W.Frag) : Sp := fun vs H Q _ => ∃ (D : Addr) (v : V) (fs : List Fn) (t : Tm), vs = [.ref D, v] ∧ FsAt K H D fs ∧ FsOk fs ∧ TAt K H v t ∧ byCs fs t = none ∧ t.size ≤ 50000 ∧ ∀ (H' : Hp) (u : V), Same H H' → DAt K H' u (dem0 fs t).dat → Q u H'
section
variable {P : Program} {w : World} {K : PySem.W.Frag} {mg : Str → Option Value} {base : Heap}
theorem ok_by_name (T : Txt K mg) : FnOk P w K mg base CX0 1 T.f_by_name T.fd_by_name ["program"] (spByName K) := by
  refine T.d_by_name.F.ok sc_by_name (fun vs H Q E h => ?_) (fun cdv A outer s H vs Q E hr h => ?_)
  · obtain ⟨_, _, rfl, _⟩ := h
    rfl
  obtain ⟨v, fs, rfl, hv, ho, q⟩ := h
  have nd := sc_by_name.nd
  refine ⟨_, pss_one (ps_ret (pe_dc (own := [("function", 1)]) (g := gName 1) (tt := tYes) rfl nd (pi_tup (pv 0)) (blkOk_by (own := [("function", 1)]) (N := ["program", "function"]) (sc := defScope s_by_name) (by decide +kernel))
        (fun _ _ _ _ _ => pg_name (i := 1) nd rfl (.inl rfl)) (fun _ _ _ _ _ => pts_nil)
        (fun _ _ _ _ _ => pe_ix (ixt_at (K := K) rfl) (pv 1) pe_int (fun _ _ => rfl)) (fun _ _ _ _ _ => pv 1))), ?_⟩
  obtain ⟨a, us, rfl, sa, da, za⟩ := hv.tup_inv
  obtain ⟨hnd, hlen, _⟩ := ho
  have lus : us.length = fs.length := by rw [da.length, List.length_map]
  refine ⟨_, rfl, a, rfl, ⟨_, sa⟩, fun D hD => dc_tup (K := K) (a := a) (xs := us) (fun i H' => ∃ kvs : List (Key × V), H' D = some (.dK kvs) ∧ kvs.map (·.1) = (fs.take i).map (fun f => .inr f.name) ∧ DsAt K H' (kvs.map (·.2)) ((fs.take i).map Fn.dat) ∧ Same H H')
    ⟨[], upd_same, rfl, .nil, same_new hD _⟩ (fun i H' _ ⟨_, _, _, _, s2⟩ => TStay.of s2 _ _ sa) ?_ ?_⟩
  · rintro i x H2 hx ⟨kvs, e2, ek, d2, s2⟩
    obtain ⟨d, hd, dx⟩ := da.get' hx
    have hi : i < fs.length := by
      have := (List.getElem?_eq_some_iff.mp hx).1
      omega
    rw [List.getElem?_map, List.getElem?_eq_getElem hi] at hd
    have hd : (fs[i]).dat = d := Option.some.inj hd
    subst hd
    have stp : fs.take (i + 1) = fs.take i ++ [fs[i]] := by
      rw [List.take_add_one, List.getElem?_eq_getElem hi]
      rfl
    have dx2 := dx.mono (TStay.of (K := K) s2)
    obtain ⟨b, u, rfl, sb⟩ := fn_at dx2
    have hk : valV kvs (.inr (fs[i]).name) = none := by
      cases e : valV kvs (.inr (fs[i]).name) with
      | none => rfl
      | some y =>
        exfalso
        unfold valV at e
        rw [Option.map_eq_some_iff] at e
        obtain ⟨p, hp, _⟩ := e
        have h1 := List.mem_of_find?_eq_some hp
        have h2 := List.find?_some hp
        have h2 : p.1 = .inr (fs[i]).name := of_decide_eq_true h2
        have h3 : (Sum.inr (fs[i]).name : Key) ∈ (fs.take i).map (fun f => Sum.inr f.name) := by
          rw [← ek, ← h2]
          exact List.mem_map.mpr ⟨p, h1, rfl⟩
        obtain ⟨f, hf, e3⟩ := List.mem_map.mp h3
        have e3 : f.name = (fs[i]).name := Sum.inr.inj e3
        obtain ⟨j, hj, ej⟩ := List.getElem_of_mem hf
        have hj' : j < i := by
          rw [List.length_take] at hj
          omega
        rw [List.getElem_take] at ej
        have h6 : (fs.map Fn.name)[j]'(by rw [List.length_map]; omega) = (fs.map Fn.name)[i]'(by rw [List.length_map]; omega) := by
          rw [List.getElem_map, List.getElem_map, ej, e3]
        have := (List.getElem_inj hnd).mp h6
        omega
    have lk : kvs.length = i := by
      have := congrArg List.length ek
      rw [List.length_map, List.length_map, List.length_take] at this
      omega
    rw [stp]
    generalize fs[i] = f at dx2 sb hk
    refine ⟨rfl, ?_⟩
    refine yesT ?_
    refine ⟨_, rfl, b, _, _, _, rfl, rfl, sb, atI_nat (j := 1) rfl, _, rfl, kvs, .inr f.name, rfl, e2, by rw [lk, sizeLine_eq]; omega, _, upd_same, ?_, ?_, sameUpd s2 hD _⟩
    · rw [putK_new _ hk, List.map_append, List.map_append, ek]
      rfl
    · rw [putK_new _ hk, List.map_append, List.map_append]
      exact (DsAt.append d2 (.cons dx2 .nil)).mono (dkStay e2 _)
  · rintro H2 ⟨kvs, e2, ek, d2, s2⟩
    rw [lus, List.take_length] at ek d2
    exact q H2 D s2 ⟨kvs, e2, ek, d2⟩
theorem ok_is_by_cases (T : Txt K mg) : FnOk P w K mg base CX0 1 T.f_is_by_cases T.fd_is_by_cases ["functions", "term"] (spIsBy K) := by
  refine T.d_is_by_cases.F.ok sc_is_by_cases (fun vs H Q E h => ?_) (fun cdv A outer s H vs Q E hr h => ?_)
  · obtain ⟨_, _, _, _, rfl, _⟩ := h
    rfl
  obtain ⟨D, v, fs, t, rfl, hf, hv, q⟩ := h
  have nd := sc_is_by_cases.nd
  refine ⟨_, pss_cons (ps_set (i := 2) nd rfl (.inl rfl) (pe_dget1 (hu_of hr) (pv 0) (pe_ix ix_tup (pv 1) pe_int (fun _ _ => rfl)) ⟨rfl, rfl, rfl, rfl⟩))
    (pss_one (ps_ret (pe_and (pe_cmp (pc_notN (pv 2))) (pe_and (pe_cmpR op_eq (pe_ix ix_tup (pv 2) pe_int (fun _ _ => rfl)) pe_str (nomark _)) (pe_one (pe_cmpR op_ge (pe_callB call_len_seq (by rfl) T.z_len PySem.boot_len (pa_cons (pe_ix ix_tup (pv 1) pe_int (fun _ _ => rfl)) pa_nil)) (pe_ix ix_tup (pv 2) pe_int (fun _ _ => rfl)) (nomark _))))))), ?_⟩
  obtain ⟨a, b, us, rfl, sa, sb, db, zb⟩ := hv.inv
  have lus : us.length = t.args.length := by rw [db.length, List.length_map]
  obtain ⟨o, hg, ho⟩ := hf.get t.hd
  refine ⟨_, rfl, D, rfl, hf.isD, _, rfl, a, _, _, _, rfl, rfl, sa, atI_nat (j := 0) rfl, o, hg, ?_⟩
  unfold byCs at q
  rcases ho with ⟨rfl, e⟩ | ⟨vf, f, rfl, e, df⟩
  · rw [e] at q
    exact ⟨_, rfl, _, rfl, iteF (q _ rfl)⟩
  · rw [e] at q
    obtain ⟨c, u, rfl, sc⟩ := fn_at df
    refine ⟨_, rfl, _, rfl, iteT ⟨_, rfl, c, _, _, _, rfl, rfl, sc, atI_nat (j := 0) rfl, rfl, _, rfl, ?_⟩⟩
    cases f with
    | plain x n bd =>
      have sc : SqT K H c [.str "plain", .str x, .int (n : Int), u] := sc
      have hne : ¬ (V.str "plain" = V.str "cases") := by decide
      show if decide (V.str "plain" = V.str "cases") = true then _ else _
      rw [decide_eq_false hne]
      exact iteF (q _ rfl)
    | cases x n rs =>
      have sc : SqT K H c [.str "cases", .str x, .int (n : Int), u] := sc
      show if decide (V.str "cases" = V.str "cases") = true then _ else _
      rw [decide_eq_true rfl]
      refine iteT ⟨_, rfl, a, _, _, _, rfl, rfl, sa, atI_nat (j := 1) rfl, b, us, rfl, .inr sb, _, rfl, c, _, _, _, rfl, rfl, sc, atI_nat (j := 2) rfl, _, _, rfl, rfl, q _ ?_⟩
      rw [lus]
      show _ = (if n ≤ t.args.length then some (n, rs) else none).isSome
      by_cases h : n ≤ t.args.length
      · rw [if_pos h]
        exact decide_eq_true (by show (t.args.length : Int) ≥ (n : Int); omega)
      · rw [if_neg h]
        exact decide_eq_false (by show ¬ (t.args.length : Int) ≥ (n : Int); omega)
end

/-! ### demand_at_once, demand_of_rules, demand_by_cases, demand_of, demand -/
def spRules (K : PySem.W.Frag) : Sp := fun vs H Q _ => ∃ (vf v : V) (x : Str) (n : Nat) (rs : List (Str × Nat × Tm)) (t : Tm), vs = [vf, v] ∧ DAt K H vf (Fn.cases x n rs).dat ∧ FnOk' (Fn.cases x n rs) ∧ TAt K H v t ∧ n ≤ t.args.length ∧ t.size ≤ 50000 ∧ ∀ (H' : Hp) (u : V), Same H H' → DAt K H' u (ruleS rs n t.fst (t.args.drop 1)).dat → Q u H'
def spByC (K : PySem.W.Frag) : Sp := fun vs H Q _ => ∃ (vf v w : V) (x : Str) (n : Nat) (rs : List (Str × Nat × Tm)) (t : Tm) (d : Dem), vs = [vf, v, w] ∧ DAt K H vf (Fn.cases x n rs).dat ∧ FnOk' (Fn.cases x n rs) ∧ TAt K H v t ∧ t.hd = .inr x ∧ n ≤ t.args.length ∧ t.size ≤ 50000 ∧ DAt K H w d.dat ∧ ∀ (H' : Hp) (u : V), Same H H' → DAt K H' u (byC rs n t d).dat → Q u H'
def spDemOf (K : PySem.W.Frag) : Sp := fun vs H Q _ => ∃ (D : Addr) (v : V) (fs : List Fn) (t : Tm), vs = [.ref D, v] ∧ FsAt K H D fs ∧ FsOk fs ∧ TAt K H v t ∧ t.size ≤ 50000 ∧ ∀ (H' : Hp) (u : V), Same H H' → DAt K H' u (dem fs t).dat → Q u H'
def spDemand (K : PySem.W.Frag) : Sp := fun vs H Q _ => ∃ (vp v : V) (fs : List Fn) (t : Tm), vs = [vp, v] ∧ DAt K H vp (.tup (fs.map Fn.dat)) ∧ FsOk fs ∧ TAt K H v t ∧ t.size ≤ 50000 ∧ ∀ (H' : Hp) (u : V), Same H H' → DAt K H' u (dem fs t).dat → Q u H'
theorem dat1 {K : PySem.W.Frag} {H : Hp} {x : Str} {p : Addr} (hp : H p = none) : DAt K (upd H p (.tup [.str x])) (.ref p) (.tup [.key (.inr x)]) := .tup (SqT.of upd_same) (.cons (.key (k := .inr x)) .nil) (by show 1 ≤ 1000000; decide)
theorem dat2 {K : PySem.W.Frag} {H : Hp} {x : Str} {v : V} {d : Dt} {p : Addr} (hp : H p = none) (h : DAt K H v d) : DAt K (upd H p (.tup [.str x, v])) (.ref p) (.tup [.key (.inr x), d]) := .tup (SqT.of upd_same) (.cons (.key (k := .inr x)) (.cons (h.mono (TStay.new hp _)) .nil)) (by show 2 ≤ 1000000; decide)
theorem dat3 {K : PySem.W.Frag} {H : Hp} {x : Str} {v w : V} {d e : Dt} {p : Addr} (hp : H p = none) (h : DAt K H v d) (g : DAt K H w e) : DAt K (upd H p (.tup [.str x, v, w])) (.ref p) (.tup [.key (.inr x), d, e]) := .tup (SqT.of upd_same) (.cons (.key (k := .inr x)) (.cons (h.mono (TStay.new hp _)) (.cons (g.mono (TStay.new hp _)) .nil))) (by show 3 ≤ 1000000; decide)
theorem args_size {t : Tm} {N : Nat} (h : t.size ≤ N) : t.args.length ≤ N ∧ ∀ x ∈ t.args, x.size ≤ N := by
  rw [size_args] at h
  have h1 := Tm.len_sizeL t.args
  exact ⟨by omega, fun x hx => by have := Tm.size_mem hx; omega⟩
section
variable {P : Program} {w : World} {K : PySem.W.Frag} {mg : Str → Option Value} {base : Heap}
theorem ok_demand_at_once (T : Txt K mg) : FnOk P w K mg base CX0 5 T.f_demand_at_once T.fd_demand_at_once ["functions", "term"] (spDem0 K) := by
  have G_unfolded : FnOk P w K mg base CX0 4 T.f_unfolded T.fd_unfolded ["body", "arguments", "count"] (spUnf K) := ok_unfolded T
  refine T.d_demand_at_once.F.ok sc_demand_at_once (fun vs H Q E h => ?_) (fun cdv A outer s H vs Q E hr h => ?_)
  · obtain ⟨_, _, _, _, rfl, _⟩ := h
    rfl
  obtain ⟨D, v, fs, t, rfl, hf, hfo, hv, hno, hz, q⟩ := h
  have nd := sc_demand_at_once.nd
  refine ⟨_, pss_cons (ps_asg (pv 1) (pg_tup rfl (pgs_cons (pg_name (i := 2) nd rfl (.inl rfl)) (pgs_cons (pg_name (i := 3) nd rfl (.inl rfl)) pgs_nil))))
    (pss_cons (ps_if (pt_val (pe_callB call_isi (by rfl) T.z_isinstance (by decide +kernel) (pa_cons (pv 2) (pa_cons (pe_bltn (v := .ty "int") (by rfl) T.z_int (by decide +kernel) rfl) pa_nil))))
      (pss_one (ps_ret (pe_ifExp (pt_truth (pv 3) (by intro _; rfl)) (pe_tup (pa_cons pe_str (pa_cons (pv 2) pa_nil))) (pe_tup (pa_cons pe_str (pa_cons (pv 2) pa_nil))))))
      pss_nil)
    (pss_cons (ps_set (i := 4) nd rfl (.inl rfl) (pe_dget1 (hu_of hr) (pv 0) (pv 2) ⟨rfl, rfl, rfl, rfl⟩))
    (pss_cons (ps_if (PW.pt (pw_or (pt_cmp (pc_isN (pv 4))) (pw_or1 (pt_cmpR op_lt (pe_callB call_len_seq (by rfl) T.z_len PySem.boot_len (pa_cons (pv 3) pa_nil)) (pe_ix ix_tup (pv 4) pe_int (fun _ _ => rfl)) (nomark _)))))
      (pss_one (ps_ret (pe_tup (pa_cons pe_str pa_nil))))
      pss_nil)
    (pss_one (ps_ret (pe_tup (pa_cons pe_str (pa_cons (pe_call G_unfolded hr (by rfl) T.d_unfolded.m T.d_unfolded.F.kp T.d_unfolded.b .nil pass0 (pa_cons (pe_ix ix_tup (pv 4) pe_int (fun _ _ => rfl)) (pa_cons (pv 3) (pa_cons (pe_ix ix_tup (pv 4) pe_int (fun _ _ => rfl)) pa_nil)))) pa_nil)))))))), ?_⟩
  obtain ⟨a, b, us, rfl, sa, sb, db, zb⟩ := hv.inv
  have lus : us.length = t.args.length := by rw [db.length, List.length_map]
  obtain ⟨zl, za⟩ := args_size hz
  refine ⟨_, rfl, a, _, rfl, sa, rfl, _, _, rfl, _, _, rfl, rfl, ?_⟩
  unfold dem0 at q
  unfold byCs at hno
  obtain ⟨o, hg, ho⟩ := hf.get t.hd
  cases hk : t.hd with
  | inl i =>
    rw [hk] at q
    dsimp only at q
    refine ⟨_, rfl, _, _, _, _, _, rfl, .ty _, .base (.int _), kit_ty (r := true) (by decide +kernel), _, rfl, iteT ?_⟩
    refine ⟨_, rfl, _, .inr (.inl ⟨us, sb, rfl⟩), ?_⟩
    cases us with
    | nil =>
      have h0 : t.args = [] := List.eq_nil_of_length_eq_zero lus.symm
      refine iteF ⟨_, rfl, (by show 2 ≤ sizeLine; decide), fun p hp => q _ _ (same_new hp _) ?_⟩
      rw [if_pos h0]
      exact dat2 hp (.key (k := .inl i))
    | cons y ys =>
      have h0 : t.args ≠ [] := fun e => by rw [e] at lus; cases lus
      refine iteT ⟨_, rfl, (by show 2 ≤ sizeLine; decide), fun p hp => q _ _ (same_new hp _) ?_⟩
      rw [if_neg h0]
      exact dat2 hp (.key (k := .inl i))
  | inr x =>
    rw [hk] at q hg ho hno
    dsimp only at q
    refine ⟨_, rfl, _, _, _, _, _, rfl, .ty _, .base (.str _), kit_ty (r := false) (by decide +kernel), _, rfl, iteF ?_⟩
    refine ⟨_, rfl, D, rfl, hf.isD, _, rfl, o, hg, ?_⟩
    rcases ho with ⟨rfl, e⟩ | ⟨vf, f, rfl, e, df⟩
    · rw [e] at q
      exact ⟨_, rfl, _, rfl, iteT ⟨(by show 1 ≤ sizeLine; decide), fun p hp => q _ _ (same_new hp _) (dat1 hp)⟩⟩
    · simp only [e] at q
      have hmem := (getF_mem e).1
      have fo := hfo.2.2 f hmem
      obtain ⟨c, u, rfl, sc⟩ := fn_at df
      refine ⟨_, rfl, _, rfl, iteF ⟨_, rfl, b, us, rfl, .inr sb, _, rfl, c, _, _, _, rfl, rfl, sc, atI_nat (j := 2) rfl, _, _, rfl, rfl, _, rfl, ite2 (fun hlt => ?_) (fun hlt => ?_)⟩⟩
      · have hlt : t.args.length < f.arity := by
          have : (us.length : Int) < (f.arity : Int) := of_decide_eq_true hlt
          omega
        rw [if_pos hlt] at q
        exact ⟨(by show 1 ≤ sizeLine; decide), fun p hp => q _ _ (same_new hp _) (dat1 hp)⟩
      · have hlt : ¬ t.args.length < f.arity := by
          have : ¬ (us.length : Int) < (f.arity : Int) := fun h => hlt (decide_eq_true h)
          omega
        rw [if_neg hlt] at q
        cases f with
        | cases x n rs =>
          rw [e] at hno
          have hno : (if n ≤ t.args.length then some (n, rs) else none) = none := hno
          have hlt : ¬ t.args.length < n := hlt
          rw [if_pos (by omega)] at hno
          cases hno
        | plain x n bd =>
          have hlt : ¬ t.args.length < n := hlt
          obtain ⟨c', u', ec, sc', tb⟩ := plain_at df
          cases ec
          have hb := fo.bd x n bd rfl
          refine ⟨_, rfl, c, _, _, _, rfl, rfl, sc', atI_nat (j := 3) rfl, _, rfl, _, rfl, c, _, _, _, rfl, rfl, sc', atI_nat (j := 2) rfl, ?_⟩
          refine ⟨u', b, bd, us, t.args, n, rfl, tb, sb, db, by omega, hb.1, by omega, za, fun H1 v1 s1 t1 => ⟨(by show 2 ≤ sizeLine; decide), fun p hp => q _ _ (s1.trans (same_new hp _)) ?_⟩⟩
          exact dat2 hp t1
theorem ok_demand_of_rules (T : Txt K mg) : FnOk P w K mg base CX0 5 T.f_demand_of_rules T.fd_demand_of_rules ["function", "term"] (spRules K) := by
  have G_unfolded : FnOk P w K mg base CX0 4 T.f_unfolded T.fd_unfolded ["body", "arguments", "count"] (spUnf K) := ok_unfolded T
  refine T.d_demand_of_rules.F.ok sc_demand_of_rules (fun vs H Q E h => ?_) (fun cdv A outer s H vs Q E hr h => ?_)
  · obtain ⟨_, _, _, _, _, _, rfl, _⟩ := h
    rfl
  obtain ⟨vf, v, x, n, rs, t, rfl, df, fo, hv, hn, hz, q⟩ := h
  have nd := sc_demand_of_rules.nd
  refine ⟨_, pss_cons (ps_asg (pe_ix ix_tup (pe_ix ix_tup (pv 1) pe_int (fun _ _ => rfl)) pe_int (fun _ _ => rfl)) (pg_tup rfl (pgs_cons (pg_name (i := 2) nd rfl (.inl rfl)) (pgs_cons (pg_name (i := 3) nd rfl (.inl rfl)) pgs_nil))))
    (pss_cons (ps_for PassesOwn.never rfl (pi_tup (pe_ix ix_tup (pv 0) pe_int (fun _ _ => rfl))) (pg_tup rfl (pgs_cons (pg_name (i := 4) nd rfl (.inl rfl)) (pgs_cons (pg_name (i := 5) nd rfl (.inl rfl)) (pgs_cons (pg_name (i := 6) nd rfl (.inl rfl)) pgs_nil))))
      (pss_one (ps_if (PW.pt (pw_and (pt_cmpR op_eq (pv 4) (pv 2) (nomark _)) (pw_and1 (pt_cmpR op_eq (pv 5) (pe_callB call_len_seq (by rfl) T.z_len PySem.boot_len (pa_cons (pv 3) pa_nil)) (nomark _)))))
        (pss_one (ps_ret (pe_tup (pa_cons pe_str (pa_cons (pe_call G_unfolded hr (by rfl) T.d_unfolded.m T.d_unfolded.F.kp T.d_unfolded.b .nil pass0 (pa_cons (pv 6) (pa_cons (pe_op op_catA (pv 3) (pe_slice sl_tupA (pe_ix ix_tup (pv 1) pe_int (fun _ _ => rfl)) (po_some pe_int) po_none)) (pa_cons (pe_op op_sub (pe_op op_add (pv 5) (pe_ix ix_tup (pv 0) pe_int (fun _ _ => rfl))) pe_int) pa_nil)))) pa_nil)))))
        pss_nil)))
    (pss_one (ps_ret (pe_tup (pa_cons pe_str pa_nil))))), ?_⟩
  have npos := fo.pos x n rs rfl
  obtain ⟨lrs, hrs⟩ := fo.rl x n rs rfl
  obtain ⟨c, d, rus, rfl, sc, sd, dd⟩ := cases_at df
  obtain ⟨a, b, us, rfl, sa, sb, db, zb⟩ := hv.inv
  have lus : us.length = t.args.length := by rw [db.length, List.length_map]
  obtain ⟨zl, za⟩ := args_size hz
  cases ht : t.args with
  | nil =>
    rw [ht] at hn
    exact absurd hn (by show ¬ n ≤ 0; omega)
  | cons u0 rest =>
    have hfst : t.fst = u0 := by
      unfold Tm.fst
      rw [ht]
    rw [hfst, ht] at q
    have q : ∀ (H' : Hp) (u : V), Same H H' → DAt K H' u (ruleS rs n u0 rest).dat → Q u H' := q
    rw [ht] at db hn lus za zl
    rw [List.map_cons] at db
    rw [List.length_cons] at lus hn zl
    cases db with
    | @cons v0 _ vr _ d0 dr =>
      have d0 : TAt K H v0 u0 := d0
      have zu0 := za u0 (List.mem_cons_self ..)
      have zrest : ∀ x ∈ rest, x.size ≤ 50000 := fun x hx => za x (List.mem_cons_of_mem _ hx)
      obtain ⟨zl0, za0⟩ := args_size zu0
      obtain ⟨a0, b0, us0, rfl, sa0, sb0, db0, zb0⟩ := d0.inv
      have lus0 : us0.length = u0.args.length := by rw [db0.length, List.length_map]
      refine ⟨_, rfl, a, _, _, _, rfl, rfl, sa, atI_nat (j := 1) rfl, b, _, _, _, rfl, rfl, sb, atI_nat (j := 0) rfl, a0, _, rfl, sa0, rfl, _, _, rfl, _, _, rfl, rfl, ?_⟩
      have lru : rus.length = rs.length := by rw [dd.length, List.length_map]
      refine ⟨_, rfl, c, _, _, _, rfl, rfl, sc, atI_nat (j := 3) rfl, d, rfl, ⟨_, sd⟩, for_tup (K := K) (a := d) (xs := rus) (fun i σ H' => ∃ z4 z5 z6 : Option V, σ = [some (.ref c), some (.ref a), some (kV u0.hd), some (.ref b0), z4, z5, z6] ∧ H' = H ∧ findR (rs.take i) u0 = none)
        ⟨none, none, none, rfl, rfl, rfl⟩ (fun i σ H' _ ⟨_, _, _, _, e, _⟩ => by rw [e]; exact sd) ?_ ?_⟩
      · rintro i x1 σ H' hx ⟨z4, z5, z6, rfl, rfl, hfd⟩
        obtain ⟨dt, hd, dx⟩ := dd.get' hx
        have hi : i < rs.length := by
          have := (List.getElem?_eq_some_iff.mp hx).1
          omega
        rw [List.getElem?_map, List.getElem?_eq_getElem hi] at hd
        have hd : ruleD rs[i] = dt := Option.some.inj hd
        subst hd
        have stp : rs.take (i + 1) = rs.take i ++ [rs[i]] := by
          rw [List.take_add_one, List.getElem?_eq_getElem hi]
          rfl
        have hro := hrs _ (List.getElem_mem hi)
        have hsplit : rs = rs.take i ++ rs[i] :: rs.drop (i + 1) := by
          rw [← List.drop_eq_getElem_cons hi, List.take_append_drop]
        rw [stp]
        generalize rs[i] = r at dx hro hsplit
        obtain ⟨ar, ur, rfl, sr, tr⟩ := rule_at dx
        have fnd : ∀ l : List (Str × Nat × Tm), findR (rs.take i ++ l) u0 = findR l u0 := fun l => by
          unfold findR at hfd ⊢
          rw [List.find?_append, hfd, Option.none_or]
        refine ⟨ar, _, rfl, sr, rfl, _, _, rfl, _, _, rfl, _, _, rfl, rfl, ?_⟩
        have hsc : scal (V.str r.1) (kV u0.hd) = true := by cases u0.hd <;> rfl
        have hek : (V.str r.1 = kV u0.hd) ↔ u0.hd = .inr r.1 := by
          cases u0.hd with
          | inl i => exact ⟨fun h => (nomatch h), fun h => (nomatch h)⟩
          | inr y => exact ⟨fun h => by cases h; rfl, fun h => by cases h; rfl⟩
        refine ⟨_, rfl, _, rfl, hsc, _, rfl, ite2 (fun he => ?_) (fun he => ?_)⟩
        · have he : u0.hd = .inr r.1 := hek.mp (of_decide_eq_true he)
          refine ⟨_, rfl, _, rfl, b0, us0, rfl, .inr sb0, rfl, _, rfl, ite2 (fun hc => ?_) (fun hc => ?_)⟩
          · have hc : r.2.1 = u0.args.length := by
              have := int_of_dec hc
              omega
            have hfr : findR rs u0 = some r := by
              rw [hsplit, fnd]
              unfold findR
              rw [List.find?_cons, he, hc, decide_eq_true rfl, decide_eq_true rfl]
              rfl
            unfold ruleS at q
            rw [hfr] at q
            dsimp only at q
            refine ⟨_, rfl, _, rfl, _, rfl, a, _, _, _, rfl, rfl, sa, atI_nat (j := 1) rfl, _, rfl, ?_⟩
            refine noPart_of ?_
            refine slA_drop (n := 1) sb rfl (by rw [List.length_cons]; omega) fun H1 c1 s1 e1 => ?_
            have e1 : SqT K H1 c1 vr := e1
            have lvr : vr.length = rest.length := by rw [dr.length, List.length_map]
            refine catA_of (TStay.of (K := K) s1 _ _ sb0) e1 (by omega) fun H2 c2 s2 e2 => ?_
            have s12 := s1.trans s2
            refine ⟨_, rfl, _, rfl, c, _, _, _, rfl, rfl, TStay.of (K := K) s12 _ _ sc, atI_nat (j := 2) rfl, _, _, rfl, rfl, _, _, rfl, rfl, ?_⟩
            have ei : (r.2.1 : Int) + (n : Int) - 1 = ((r.2.1 + n - 1 : Nat) : Int) := by omega
            refine ⟨ur, c2, r.2.2, us0 ++ vr, u0.args ++ rest, _, congrArg (fun z => [ur, V.ref c2, V.int z]) ei, tr.mono (TStay.of (K := K) s12), e2, ?_, by rw [List.length_append]; omega, hro.2.2.1, ?_, ?_, fun H3 v3 s3 t3 => ⟨(by show 2 ≤ sizeLine; decide), fun p hp => q _ _ ((s12.trans s3).trans (same_new hp _)) (dat2 hp t3)⟩⟩
            · rw [List.map_append]
              exact DsAt.append (db0.mono (TStay.of s12)) (dr.mono (TStay.of s12))
            · rw [List.length_append]
              have h1 := Tm.len_sizeL t.args
              rw [ht, Tm.sizeL, List.length_cons] at h1
              have h2 := Tm.len_sizeL u0.args
              have h3 := size_args u0
              have h4 := size_args t
              rw [ht, Tm.sizeL] at h4
              have h5 := Tm.len_sizeL rest
              omega
            · intro y hy
              rcases List.mem_append.mp hy with hy | hy
              · exact za0 y hy
              · exact zrest y hy
          · refine ⟨_, _, _, rfl, rfl, ?_⟩
            rw [fnd]
            have hc : ¬ (r.2.1 = u0.args.length) := fun h => int_of_ndec hc (by rw [h, lus0])
            unfold findR
            rw [List.find?_cons, decide_eq_false hc, Bool.and_false]
            rfl
        · refine ⟨_, _, _, rfl, rfl, ?_⟩
          have he : ¬ (u0.hd = .inr r.1) := fun h => he (decide_eq_true (hek.mpr h))
          rw [fnd]
          unfold findR
          rw [List.find?_cons, decide_eq_false he, Bool.false_and]
          rfl
      · rintro σ H' ⟨z4, z5, z6, rfl, rfl, hfd⟩
        rw [lru, List.take_length] at hfd
        unfold ruleS at q
        rw [hfd] at q
        exact ⟨(by show 1 ≤ sizeLine; decide), fun p hp => q _ _ (same_new hp _) (dat1 hp)⟩
theorem ok_demand_by_cases (T : Txt K mg) : FnOk P w K mg base CX0 6 T.f_demand_by_cases T.fd_demand_by_cases ["function", "term", "found"] (spByC K) := by
  have G_rules : FnOk P w K mg base CX0 5 T.f_demand_of_rules T.fd_demand_of_rules ["function", "term"] (spRules K) := ok_demand_of_rules T
  refine T.d_demand_by_cases.F.ok sc_demand_by_cases (fun vs H Q E h => ?_) (fun cdv A outer s H vs Q E hr h => ?_)
  · obtain ⟨_, _, _, _, _, _, _, _, rfl, _⟩ := h
    rfl
  obtain ⟨vf, v, u, x, n, rs, t, d, rfl, df, fo, hv, hx, hn, hz, dw, q⟩ := h
  refine ⟨_, pss_cons (ps_if (pt_cmpR op_eq (pe_ix ix_tup (pv 2) pe_int (fun _ _ => rfl)) pe_str (nomark _))
      (pss_one (ps_ret (pe_tup (pa_cons pe_str (pa_cons (pe_tup (pa_cons (pe_ix ix_tup (pv 1) pe_int (fun _ _ => rfl)) (pa_cons (pe_op op_catA (pe_tup (pa_cons (pe_ix ix_tup (pv 2) pe_int (fun _ _ => rfl)) pa_nil)) (pe_slice sl_tupA (pe_ix ix_tup (pv 1) pe_int (fun _ _ => rfl)) (po_some pe_int) po_none)) pa_nil))) pa_nil)))))
      pss_nil)
    (pss_cons (ps_if (pt_cmpR op_eq (pe_ix ix_tup (pv 2) pe_int (fun _ _ => rfl)) pe_str (nomark _))
      (pss_one (ps_ret (pe_tup (pa_cons pe_str (pa_cons (pe_ix ix_tup (pv 2) pe_int (fun _ _ => rfl)) (pa_cons (pe_ix ix_tup (pv 1) pe_int (fun _ _ => rfl)) pa_nil))))))
      pss_nil)
    (pss_cons (ps_if (pt_cmpR op_eq (pe_ix ix_tup (pv 2) pe_int (fun _ _ => rfl)) pe_str (nomark _))
      (pss_one (ps_ret (pe_call G_rules hr (by rfl) T.d_demand_of_rules.m T.d_demand_of_rules.F.kp T.d_demand_of_rules.b .nil pass0 (pa_cons (pv 0) (pa_cons (pv 1) pa_nil)))))
      pss_nil)
    (pss_one (ps_ret (pv 2))))), ?_⟩
  have dw' := dw
  have npos := fo.pos x n rs rfl
  obtain ⟨a, b, us, rfl, sa, sb, db, zb⟩ := hv.inv
  have lus : us.length = t.args.length := by rw [db.length, List.length_map]
  obtain ⟨zl, za⟩ := args_size hz
  have tag : ∀ {y : Str} {ds : List Dt}, DAt K H u (.tup (.key (.inr y) :: ds)) → ∃ c ws, u = .ref c ∧ SqT K H c (.str y :: ws) ∧ DsAt K H ws ds := fun h => by
    obtain ⟨c, ws, e, s1, q1, _⟩ := h.tup_inv
    cases q1 with
    | cons q2 q3 =>
      rw [q2.key_inv] at s1
      exact ⟨c, _, e, s1, q3⟩
  cases d with
  | step r =>
    obtain ⟨c, ws, rfl, s1, q1⟩ := tag dw
    cases q1 with
    | @cons vr _ _ _ q2 q3 =>
      cases q3
      refine ⟨_, rfl, c, _, _, _, rfl, rfl, s1, atI_nat (j := 0) rfl, rfl, _, rfl, iteT ?_⟩
      refine ⟨_, rfl, a, _, _, _, rfl, rfl, sa, atI_nat (j := 0) rfl, _, rfl, c, _, _, _, rfl, rfl, s1, atI_nat (j := 1) rfl, (by show 1 ≤ sizeLine; decide), fun p hp => ?_⟩
      have sp := same_new hp (.tup [vr])
      refine ⟨_, rfl, a, _, _, _, rfl, rfl, TStay.of (K := K) sp _ _ sa, atI_nat (j := 1) rfl, _, rfl, ?_⟩
      refine noPart_of ?_
      refine slA_drop (n := 1) (TStay.of (K := K) sp _ _ sb) rfl (by omega) fun H1 c1 s2 e1 => ?_
      refine catA_of (TStay.of (K := K) s2 _ _ (SqT.of upd_same)) e1 (by rw [List.length_drop]; show 1 + _ ≤ _; omega) fun H2 c2 s3 e2 => ⟨(by show 2 ≤ sizeLine; decide), fun p2 hp2 => ⟨(by show 2 ≤ sizeLine; decide), fun p3 hp3 => ?_⟩⟩
      have s02 := (sp.trans s2).trans s3
      refine q _ _ ((s02.trans (same_new hp2 _)).trans (same_new hp3 _)) (dat2 hp3 ?_)
      refine TAt.new (k := t.hd) e2 ?_ (by rw [List.length_append, List.length_drop]; show 1 + _ ≤ _; omega) hp2
      rw [List.map_cons]
      refine .cons (q2.mono (TStay.of s02)) ?_
      rw [List.map_drop]
      exact (db.mono (TStay.of s02)).drop 1
  | unk i =>
    obtain ⟨c, ws, rfl, s1, q1⟩ := tag dw
    cases q1 with
    | cons q2 q3 =>
      cases q3
      rw [q2.key_inv] at s1
      rw [hx] at sa
      refine ⟨_, rfl, c, _, _, _, rfl, rfl, s1, atI_nat (j := 0) rfl, rfl, _, rfl, iteF ?_⟩
      refine ⟨_, rfl, c, _, _, _, rfl, rfl, s1, atI_nat (j := 0) rfl, rfl, _, rfl, iteT ?_⟩
      refine ⟨_, rfl, c, _, _, _, rfl, rfl, s1, atI_nat (j := 1) rfl, _, rfl, a, _, _, _, rfl, rfl, sa, atI_nat (j := 0) rfl, (by show 3 ≤ sizeLine; decide), fun p hp => q _ _ (same_new hp _) ?_⟩
      have := dat3 (K := K) (H := H) (x := "needs") (v := .int i) (w := .str x) (d := .key (.inl i)) (e := .key (.inr x)) hp (.key (k := .inl i)) (.key (k := .inr x))
      show DAt K _ _ (Dem.needs i (keyS t.hd)).dat
      rw [hx]
      exact this
  | val =>
    obtain ⟨c, ws, rfl, s1, q1⟩ := tag dw
    refine ⟨_, rfl, c, _, _, _, rfl, rfl, s1, atI_nat (j := 0) rfl, rfl, _, rfl, iteF ?_⟩
    refine ⟨_, rfl, c, _, _, _, rfl, rfl, s1, atI_nat (j := 0) rfl, rfl, _, rfl, iteF ?_⟩
    refine ⟨_, rfl, c, _, _, _, rfl, rfl, s1, atI_nat (j := 0) rfl, rfl, _, rfl, iteT ?_⟩
    exact ⟨_, rfl, _, rfl, vf, .ref a, x, n, rs, t, rfl, df, fo, hv, hn, hz, fun H1 u1 s2 d1 => q H1 u1 s2 d1⟩
  | err =>
    obtain ⟨c, ws, rfl, s1, q1⟩ := tag dw
    refine ⟨_, rfl, c, _, _, _, rfl, rfl, s1, atI_nat (j := 0) rfl, rfl, _, rfl, iteF ?_⟩
    refine ⟨_, rfl, c, _, _, _, rfl, rfl, s1, atI_nat (j := 0) rfl, rfl, _, rfl, iteF ?_⟩
    refine ⟨_, rfl, c, _, _, _, rfl, rfl, s1, atI_nat (j := 0) rfl, rfl, _, rfl, iteF ?_⟩
    exact ⟨_, rfl, q _ _ (fun _ _ h => h) dw'⟩
  | needs i y =>
    obtain ⟨c, ws, rfl, s1, q1⟩ := tag dw
    refine ⟨_, rfl, c, _, _, _, rfl, rfl, s1, atI_nat (j := 0) rfl, rfl, _, rfl, iteF ?_⟩
    refine ⟨_, rfl, c, _, _, _, rfl, rfl, s1, atI_nat (j := 0) rfl, rfl, _, rfl, iteF ?_⟩
    refine ⟨_, rfl, c, _, _, _, rfl, rfl, s1, atI_nat (j := 0) rfl, rfl, _, rfl, iteF ?_⟩
    exact ⟨_, rfl, q _ _ (fun _ _ h => h) dw'⟩
  | stuck i =>
    obtain ⟨c, ws, rfl, s1, q1⟩ := tag dw
    refine ⟨_, rfl, c, _, _, _, rfl, rfl, s1, atI_nat (j := 0) rfl, rfl, _, rfl, iteF ?_⟩
    refine ⟨_, rfl, c, _, _, _, rfl, rfl, s1, atI_nat (j := 0) rfl, rfl, _, rfl, iteF ?_⟩
    refine ⟨_, rfl, c, _, _, _, rfl, rfl, s1, atI_nat (j := 0) rfl, rfl, _, rfl, iteF ?_⟩
    exact ⟨_, rfl, q _ _ (fun _ _ h => h) dw'⟩
/-- the terms from the outside, each by cases, each next one the first argument -/
def Chain (fs : List Fn) : List Tm → Tm → Prop
  | [], _ => True
  | t :: r, u => (∃ n rs, byCs fs t = some (n, rs)) ∧ t.args ≠ [] ∧ t.fst = (r ++ [u]).head (by simp) ∧ Chain fs r u
theorem chain_snoc {fs : List Fn} : ∀ {l : List Tm} {u : Tm}, Chain fs l u → (∃ n rs, byCs fs u = some (n, rs)) → u.args ≠ [] → Chain fs (l ++ [u]) u.fst
  | [], u, _, h1, h2 => ⟨h1, h2, rfl, True.intro⟩
  | t :: r, u, h, h1, h2 => by
    obtain ⟨a, b, c, d⟩ := h
    refine ⟨a, b, ?_, chain_snoc d h1 h2⟩
    rw [c]
    cases r with
    | nil => rfl
    | cons x r => rfl
/-- what stands from place i on -/
theorem chain_dem {fs : List Fn} : ∀ {l : List Tm} {u : Tm} {i : Nat} (h : Chain fs l u) (hi : i < l.length), ∃ n rs, byCs fs l[i] = some (n, rs) ∧ l[i].args ≠ [] ∧ dem fs l[i] = byC rs n l[i] (dem fs ((l ++ [u])[i + 1]'(by rw [List.length_append, List.length_singleton]; omega)))
  | t :: r, u, 0, h, _ => by
    obtain ⟨⟨n, rs, e⟩, b, c, d⟩ := h
    refine ⟨n, rs, e, b, ?_⟩
    show dem fs t = _
    rw [dem_cases e b, c]
    cases r with
    | nil => rfl
    | cons x r => rfl
  | t :: r, u, i + 1, h, hi => by
    obtain ⟨_, _, _, d⟩ := h
    exact chain_dem d (Nat.lt_of_succ_lt_succ hi)
theorem byCs_inv {fs : List Fn} {t : Tm} {n : Nat} {rs : List (Str × Nat × Tm)} (h : byCs fs t = some (n, rs)) : ∃ x, getF fs t.hd = some (.cases x n rs) ∧ n ≤ t.args.length := by
  unfold byCs at h
  cases e : getF fs t.hd with
  | none => rw [e] at h; cases h
  | some f =>
    rw [e] at h
    cases f with
    | plain x m b => cases h
    | cases x m qs =>
      have h : (if m ≤ t.args.length then some (m, qs) else none) = some (n, rs) := h
      by_cases hm : m ≤ t.args.length
      · rw [if_pos hm] at h
        cases h
        exact ⟨x, rfl, hm⟩
      · rw [if_neg hm] at h
        cases h
theorem byCs_args {fs : List Fn} (ho : FsOk fs) {t : Tm} {n : Nat} {rs : List (Str × Nat × Tm)} (h : byCs fs t = some (n, rs)) : t.args ≠ [] := by
  obtain ⟨x, e, hn⟩ := byCs_inv h
  have := (ho.2.2 _ (getF_mem e).1).pos x n rs rfl
  intro h0
  rw [h0] at hn
  exact absurd hn (by show ¬ n ≤ 0; omega)
theorem ok_demand_of (T : Txt K mg) : FnOk P w K mg base CX0 7 T.f_demand_of T.fd_demand_of ["functions", "term"] (spDemOf K) := by
  have G_byC : FnOk P w K mg base CX0 6 T.f_demand_by_cases T.fd_demand_by_cases ["function", "term", "found"] (spByC K) := ok_demand_by_cases T
  have G_once : FnOk P w K mg base CX0 5 T.f_demand_at_once T.fd_demand_at_once ["functions", "term"] (spDem0 K) := ok_demand_at_once T
  have G_is : FnOk P w K mg base CX0 1 T.f_is_by_cases T.fd_is_by_cases ["functions", "term"] (spIsBy K) := ok_is_by_cases T
  refine T.d_demand_of.F.ok sc_demand_of (fun vs H Q E h => ?_) (fun cdv A outer s H vs Q E hr h => ?_)
  · obtain ⟨_, _, _, _, rfl, _⟩ := h
    rfl
  obtain ⟨D, v, fs, t, rfl, hf, hfo, hv, hz, q⟩ := h
  have nd := sc_demand_of.nd
  have hr1 : Room 1 _ := hr.mono (by decide)
  have hr5 : Room 5 _ := hr.mono (by decide)
  refine ⟨_, pss_cons (ps_set (i := 2) nd rfl (.inl rfl) (pv 1))
    (pss_cons (ps_set (i := 3) nd rfl (.inl rfl) (pe_lst pa_nil))
    (pss_cons (ps_while PassesOwn.never (pt_val (pe_call G_is hr1 (by rfl) T.d_is_by_cases.m T.d_is_by_cases.F.kp T.d_is_by_cases.b .nil pass0 (pa_cons (pv 0) (pa_cons (pv 2) pa_nil))))
      (pss_cons (ps_expr (pe_bm PySem.F.plainAttrs_list PySem.F.slot_list_append PySem.F.type_list_append mt_append (pv 3) (pa_cons (pv 2) pa_nil)))
      (pss_one (ps_set (i := 2) nd rfl (.inl rfl) (pe_ix ix_tup (pe_ix ix_tup (pv 2) pe_int (fun _ _ => rfl)) pe_int (fun _ _ => rfl))))))
    (pss_cons (ps_set (i := 4) nd rfl (.inl rfl) (pe_call G_once hr5 (by rfl) T.d_demand_at_once.m T.d_demand_at_once.F.kp T.d_demand_at_once.b .nil pass0 (pa_cons (pv 0) (pa_cons (pv 2) pa_nil))))
    (pss_cons (ps_for PassesOwn.never rfl (pi_reversed (by rfl) T.z_reversed (pa_cons (pv 3) pa_nil)) (pg_name (i := 5) nd rfl (.inl rfl))
      (pss_one (ps_set (i := 4) nd rfl (.inl rfl) (pe_call G_byC hr (by rfl) T.d_demand_by_cases.m T.d_demand_by_cases.F.kp T.d_demand_by_cases.b .nil pass0 (pa_cons (pe_dget (hu_of hr) (pv 0) (pe_ix ix_tup (pv 5) pe_int (fun _ _ => rfl)) (fun _ _ => rfl)) (pa_cons (pv 5) (pa_cons (pv 4) pa_nil)))))))
    (pss_one (ps_ret (pv 4))))))), ?_⟩
  refine ⟨_, rfl, Nat.zero_le _, fun l hl => ?_⟩
  have s1 : Same H (upd H l (.lst [])) := same_new hl _
  refine ⟨fun m σ H' => ∃ (us : List V) (ts : List Tm) (vi : V) (ti : Tm), σ = [some (.ref D), some v, some vi, some (.ref l), none, none] ∧ Same H H' ∧ H' l = some (.lst us) ∧ DsAt K H' us (ts.map Tm.dat) ∧ TAt K H' vi ti ∧ Chain fs ts ti ∧ (ts ++ [ti]).head (by simp) = t ∧ (∀ x ∈ ts ++ [ti], x.size ≤ t.size) ∧ ts.length + ti.size ≤ t.size ∧ m = ti.size,
    ⟨_, [], [], v, t, rfl, s1, upd_same, .nil, hv.mono (TStay.of s1), True.intro, rfl, fun x hx => by rw [List.mem_singleton.mp hx]; exact Nat.le_refl _, by rw [List.length_nil]; omega, rfl⟩, ?_⟩
  rintro m σ H2 ⟨us, ts, vi, ti, rfl, s2, el, dts, tvi, hch, hhd, hsz, hlen, rfl⟩
  have lus : us.length = ts.length := by rw [dts.length, List.length_map]
  have hti := hsz ti (List.mem_append_right _ (List.mem_singleton.mpr rfl))
  refine ⟨_, rfl, _, rfl, D, vi, fs, ti, rfl, hf.mono s2, tvi, fun b0 hb => ⟨_, rfl, ?_⟩⟩
  cases hbc : byCs fs ti with
  | some nr =>
    obtain ⟨n, rs⟩ := nr
    rw [hbc] at hb
    subst hb
    have hne := byCs_args hfo hbc
    refine iteT ⟨_, fun _ _ h => h, ?_⟩
    refine ⟨_, rfl, .inl ⟨rfl, _, SqL.of el⟩, _, rfl, l, _, vi, rfl, rfl, el, by rw [lus, sizeLine_eq]; omega, ?_⟩
    have hl0 : H l = none := hl
    have s3 : Same H (upd H2 l (.lst (us ++ [vi]))) := sameUpd s2 hl0 _
    have ts3 : TStay K H2 (upd H2 l (.lst (us ++ [vi]))) := TStay.lst el _
    have tvi3 : TAt K (upd H2 l (.lst (us ++ [vi]))) vi ti := tvi.mono ts3
    obtain ⟨a, b, ws, rfl, sa, sb, db, zb⟩ := tvi3.inv
    cases hta : ti.args with
    | nil => exact absurd hta hne
    | cons u0 rest =>
      rw [hta, List.map_cons] at db
      cases db with
      | @cons v0 _ vr _ d0 dr =>
        have hfst : ti.fst = u0 := by
          unfold Tm.fst
          rw [hta]
        have hlt := fst_size hne
        rw [hfst] at hlt
        refine ⟨_, rfl, a, _, _, _, rfl, rfl, sa, atI_nat (j := 1) rfl, b, _, _, _, rfl, rfl, sb, atI_nat (j := 0) rfl, ?_⟩
        refine ⟨u0.size, hlt, us ++ [.ref a], ts ++ [ti], v0, u0, rfl, s3, upd_same, ?_, d0, ?_, ?_, ?_, ?_, rfl⟩
        · rw [List.map_append]
          exact DsAt.append (dts.mono ts3) (.cons tvi3 .nil)
        · have := chain_snoc hch ⟨n, rs, hbc⟩ hne
          rw [hfst] at this
          exact this
        · rw [← hhd]
          cases ts with
          | nil => rfl
          | cons x r => rfl
        · intro x hx
          rcases List.mem_append.mp hx with hx | hx
          · exact hsz x hx
          · rw [List.mem_singleton.mp hx]
            omega
        · rw [List.length_append, List.length_singleton]
          omega
  | none =>
    rw [hbc] at hb
    subst hb
    refine iteF ?_
    refine ⟨_, rfl, _, rfl, D, vi, fs, ti, rfl, hf.mono s2, hfo, tvi, hbc, by omega, fun H3 u3 s3 d3 => ?_⟩
    rw [← dem_plain hbc] at d3
    have s23 := s2.trans s3
    have el3 := s3 _ _ el
    refine ⟨_, rfl, l, us, rfl, SqL.of el3, RT.for_Itv (K := K) (a := l) (xs := us) (fun i σ H' => ∃ (vf : V) (z5 : Option V), σ = [some (.ref D), some v, some vi, some (.ref l), some vf, z5] ∧ Same H3 H' ∧ (i ≤ us.length → ∃ u, (ts ++ [ti])[us.length - i]? = some u ∧ DAt K H' vf (dem fs u).dat))
      ⟨u3, none, rfl, fun _ _ h => h, fun _ => ⟨ti, by rw [Nat.sub_zero, lus, List.getElem?_append_right (Nat.le_refl _), Nat.sub_self]; rfl, d3⟩⟩ (fun i σ H' ⟨_, _, _, s4, _⟩ => SqL.of (s4 _ _ el3)) ?_ ?_⟩
    · rintro i x σ H4 hi hx ⟨vf, z5, rfl, s4, hdem⟩
      have hi2 : i < us.length := hi
      obtain ⟨u0, hu0, du0⟩ := hdem (by omega)
      have s34 := s3.trans s4
      have s24 := s2.trans s34
      have hj : us.length - 1 - i < ts.length := by omega
      obtain ⟨n, rs, hb0, hne0, hd0⟩ := chain_dem hch hj
      have hnext : (ts ++ [ti])[us.length - 1 - i + 1]? = some u0 := by
        rw [show us.length - 1 - i + 1 = us.length - i by omega]
        exact hu0
      rw [List.getElem?_eq_some_iff] at hnext
      obtain ⟨hlt0, hnext⟩ := hnext
      rw [hnext] at hd0
      obtain ⟨d, hd, dx⟩ := (dts.mono (TStay.of s34)).get' hx
      rw [List.getElem?_map, List.getElem?_eq_getElem hj] at hd
      have hd : (ts[us.length - 1 - i]).dat = d := Option.some.inj hd
      subst hd
      have hmem := hsz _ (List.mem_append_left [ti] (List.getElem_mem hj))
      have hget : (ts ++ [ti])[us.length - (i + 1)]? = some ts[us.length - 1 - i] := by
        rw [show us.length - (i + 1) = us.length - 1 - i by omega, List.getElem?_append_left hj, List.getElem?_eq_getElem hj]
      generalize ts[us.length - 1 - i] = tj at hb0 hne0 hd0 dx hmem hget
      have dx : TAt K H4 x tj := dx
      obtain ⟨nm, hg, hnl⟩ := byCs_inv hb0
      have hdk := (getF_mem hg).2
      have fo := hfo.2.2 _ (getF_mem hg).1
      obtain ⟨o, hgo, ho⟩ := (hf.mono s24).get tj.hd
      obtain ⟨vg, ev, dg⟩ : ∃ vg, o = some vg ∧ DAt K H4 vg (Fn.cases nm n rs).dat := by
        rcases ho with ⟨_, e⟩ | ⟨vg, f, e1, e2, e3⟩
        · rw [hg] at e
          cases e
        · rw [hg] at e2
          cases e2
          exact ⟨vg, e1, e3⟩
      subst ev
      have dx' := dx
      obtain ⟨a, b, ws, rfl, sa, sb, db, zb⟩ := dx.inv
      refine ⟨_, rfl, _, rfl, a, _, _, _, rfl, rfl, sa, atI_nat (j := 0) rfl, D, vg, rfl, hgo, ?_⟩
      refine ⟨_, rfl, _, rfl, vg, .ref a, vf, nm, n, rs, tj, _, rfl, dg, fo, dx', hdk, hnl, by omega, du0, fun H5 u5 s5 d5 => ?_⟩
      rw [← hd0] at d5
      exact ⟨u5, _, rfl, s4.trans s5, fun _ => ⟨tj, hget, d5⟩⟩
    · rintro σ H4 ⟨vf, z5, rfl, s4, hdem⟩
      obtain ⟨u0, hu0, du0⟩ := hdem (Nat.le_refl _)
      have eu : u0 = t := by
        rw [← hhd]
        rw [Nat.sub_self] at hu0
        cases ts with
        | nil => exact (Option.some.inj hu0).symm
        | cons x r => exact (Option.some.inj hu0).symm
      subst eu
      exact ⟨_, rfl, q H4 vf (s23.trans s4) du0⟩
theorem ok_demand (T : Txt K mg) : FnOk P w K mg base CX0 8 T.f_demand T.fd_demand ["program", "term"] (spDemand K) := by
  have G_of : FnOk P w K mg base CX0 7 T.f_demand_of T.fd_demand_of ["functions", "term"] (spDemOf K) := ok_demand_of T
  have G_by : FnOk P w K mg base CX0 1 T.f_by_name T.fd_by_name ["program"] (spByName K) := ok_by_name T
  refine T.d_demand.F.ok sc_demand (fun vs H Q E h => ?_) (fun cdv A outer s H vs Q E hr h => ?_)
  · obtain ⟨_, _, _, _, rfl, _⟩ := h
    rfl
  obtain ⟨vp, v, fs, t, rfl, dp, hfo, hv, hz, q⟩ := h
  have hr1 : Room 1 _ := hr.mono (by decide)
  refine ⟨_, pss_one (ps_ret (pe_call G_of hr (by rfl) T.d_demand_of.m T.d_demand_of.F.kp T.d_demand_of.b .nil pass0 (pa_cons (pe_call G_by hr1 (by rfl) T.d_by_name.m T.d_by_name.F.kp T.d_by_name.b .nil pass0 (pa_cons (pv 0) pa_nil)) (pa_cons (pv 1) pa_nil)))), ?_⟩
  exact ⟨_, rfl, vp, fs, rfl, dp, hfo, fun H1 D s1 hD => ⟨_, rfl, D, v, fs, t, rfl, hD, hfo, hv.mono (TStay.of (K := K) s1), hz, fun H2 u s2 d2 => q H2 u (s1.trans s2) d2⟩⟩
end

/-! ### _law_program -/
theorem seq_set {K : PySem.W.Frag} {σ : L2.St} {H : Hp} {te : TE} {i : Nat} {u : TS} {D : Ends} {d : Dt} {σ' : V → L2.St} (e : ∀ v, σ.set i (some v) = σ' v) (g : Gives K σ H te d) (q : ∀ H2 v, Same H H2 → DAt K H2 v d → u D (σ' v) H2) : tSeq (tAsg te (gName i)) u D σ H := g H (fun _ _ h => h) _ fun H2 v s dv => by
  show u D (σ.set i (some v)) H2
  rw [e]
  exact q H2 v s dv
def D_x : Dt := (.tup [(.key (.inl 0)), (.tup [])])
def D_y : Dt := (.tup [(.key (.inl 1)), (.tup [])])
def D_z : Dt := (.tup [(.key (.inl 2)), (.tup [])])
def D_zero : Dt := (.tup [(.key (.inr "Z")), (.tup [])])
def D_add : Dt := (.tup [(.key (.inr "cases")), (.key (.inr "add")), (.key (.inl 2)), (.tup [(.tup [(.key (.inr "Z")), (.key (.inl 0)), D_x]), (.tup [(.key (.inr "S")), (.key (.inl 1)), (.tup [(.key (.inr "S")), (.tup [(.tup [(.key (.inr "add")), (.tup [D_x, D_y])])])])])])])
def D_app : Dt := (.tup [(.key (.inr "cases")), (.key (.inr "app")), (.key (.inl 2)), (.tup [(.tup [(.key (.inr "Nil")), (.key (.inl 0)), D_x]), (.tup [(.key (.inr "Cons")), (.key (.inl 2)), (.tup [(.key (.inr "Cons")), (.tup [D_x, (.tup [(.key (.inr "app")), (.tup [D_y, D_z])])])])])])])
def D_rev : Dt := (.tup [(.key (.inr "cases")), (.key (.inr "rev")), (.key (.inl 2)), (.tup [(.tup [(.key (.inr "Nil")), (.key (.inl 0)), D_x]), (.tup [(.key (.inr "Cons")), (.key (.inl 2)), (.tup [(.key (.inr "rev")), (.tup [D_y, (.tup [(.key (.inr "Cons")), (.tup [D_x, D_z])])])])])])])
def D_mapped : Dt := (.tup [(.key (.inr "Cons")), (.tup [(.tup [(.key (.inl 2)), (.tup [D_x])]), (.tup [(.key (.inr "map")), (.tup [D_y, D_z])])])])
def D_maps : Dt := (.tup [(.key (.inr "cases")), (.key (.inr "map")), (.key (.inl 2)), (.tup [(.tup [(.key (.inr "Nil")), (.key (.inl 0)), (.tup [(.key (.inr "Nil")), (.tup [])])]), (.tup [(.key (.inr "Cons")), (.key (.inl 2)), D_mapped])])])
def D_even : Dt := (.tup [(.key (.inr "cases")), (.key (.inr "even")), (.key (.inl 1)), (.tup [(.tup [(.key (.inr "Z")), (.key (.inl 0)), (.tup [(.key (.inr "T")), (.tup [])])]), (.tup [(.key (.inr "S")), (.key (.inl 1)), (.tup [(.key (.inr "odd")), (.tup [D_x])])])])])
def D_odd : Dt := (.tup [(.key (.inr "cases")), (.key (.inr "odd")), (.key (.inl 1)), (.tup [(.tup [(.key (.inr "Z")), (.key (.inl 0)), (.tup [(.key (.inr "F")), (.tup [])])]), (.tup [(.key (.inr "S")), (.key (.inl 1)), (.tup [(.key (.inr "even")), (.tup [D_x])])])])])
def D_plainL : List Dt := [(.tup [(.key (.inr "plain")), (.key (.inr "twice")), (.key (.inl 2)), (.tup [(.key (.inl 0)), (.tup [(.tup [(.key (.inl 0)), (.tup [D_y])])])])]), (.tup [(.key (.inr "plain")), (.key (.inr "k")), (.key (.inl 2)), D_x]), (.tup [(.key (.inr "plain")), (.key (.inr "one")), (.key (.inl 0)), (.tup [(.key (.inr "S")), (.tup [D_zero])])])]
def D_plain : Dt := .tup D_plainL
def D_loop : Dt := (.tup [(.key (.inr "plain")), (.key (.inr "loop")), (.key (.inl 1)), (.tup [(.key (.inr "loop")), (.tup [D_x])])])
def progNames : List Str := lawNames ++ (["odd", "F"] : List Str)
/-- the heads of bodies -/
def PK (n : Nat) : Key → Prop
  | .inl i => 0 ≤ i ∧ i < (n : Int)
  | .inr x => x ∈ progNames
instance decPK (n : Nat) : (k : Key) → Decidable (PK n k)
  | .inl i => by unfold PK; exact inferInstance
  | .inr x => by unfold PK; exact inferInstance
def BodyOk (n : Nat) (b : Tm) : Prop := b.size ≤ 16 ∧ b.high ≤ 4 ∧ ∀ k ∈ b.heads, PK n k
instance (n : Nat) (b : Tm) : Decidable (BodyOk n b) := by unfold BodyOk; exact inferInstance
structure FnB (f : Fn) : Prop where
  ar : f.arity ≤ 2
  nm : f.name ∈ progNames
  bd : ∀ x n b, f = .plain x n b → BodyOk n b
  rl : ∀ x n rs, f = .cases x n rs → 1 ≤ n ∧ rs.length ≤ 4 ∧ (rs.map (·.1)).Nodup ∧ ∀ r ∈ rs, r.2.1 ≤ 6 ∧ r.1 ∈ progNames ∧ BodyOk (r.2.1 + n - 1) r.2.2
def PgOk (fs : List Fn) : Prop := (fs.map Fn.name).Nodup ∧ fs.length = 12 ∧ ∀ f ∈ fs, FnB f
theorem PK.ok {n : Nat} : ∀ {k : Key}, PK n k → KOk k
  | .inl _, _ => True.intro
  | .inr x, h => by
    have : ∀ x ∈ progNames, PyData.strOk x = true := by decide +kernel
    exact this x h
theorem name_ok {x : Str} (h : x ∈ progNames) : KOk (.inr x) := PK.ok (n := 0) (k := .inr x) h
theorem PgOk.fs {fs : List Fn} (h : PgOk fs) : FsOk fs := by
  obtain ⟨h1, h2, h3⟩ := h
  refine ⟨h1, by omega, fun f hf => ?_⟩
  have b := h3 f hf
  refine ⟨by have := b.ar; omega, fun x n rs e => (b.rl x n rs e).1, fun x n bd e => ?_, fun x n rs e => ?_, name_ok b.nm⟩
  · have q := b.bd x n bd e
    exact ⟨by have := q.1; omega, fun k hk => (q.2.2 k hk).ok⟩
  · obtain ⟨q1, q2, q3, q4⟩ := b.rl x n rs e
    refine ⟨by omega, fun r hr => ?_⟩
    obtain ⟨p1, p2, p3⟩ := q4 r hr
    exact ⟨by omega, name_ok p2, by have := p3.1; omega, fun k hk => (p3.2.2 k hk).ok⟩
abbrev aX : Tm := .mk (.inl 0) []
abbrev aY : Tm := .mk (.inl 1) []
abbrev aZ : Tm := .mk (.inl 2) []
abbrev nm (x : Str) (ts : List Tm) : Tm := .mk (.inr x) ts
def progFs (t1 t2 t3 : Tm) : List Fn := [.cases "add" 2 [("Z", 0, aX), ("S", 1, nm "S" [nm "add" [aX, aY]])], .cases "app" 2 [("Nil", 0, aX), ("Cons", 2, nm "Cons" [aX, nm "app" [aY, aZ]])],
  .cases "rev" 2 [("Nil", 0, aX), ("Cons", 2, nm "rev" [aY, nm "Cons" [aX, aZ]])], .cases "map" 2 [("Nil", 0, nm "Nil" []), ("Cons", 2, nm "Cons" [.mk (.inl 2) [aX], nm "map" [aY, aZ]])],
  .cases "even" 1 [("Z", 0, nm "T" []), ("S", 1, nm "odd" [aX])], .cases "odd" 1 [("Z", 0, nm "F" []), ("S", 1, nm "even" [aX])],
  .plain "twice" 2 (.mk (.inl 0) [.mk (.inl 0) [aY]]), .plain "k" 2 aX, .plain "one" 0 (nm "S" [nm "Z" []]), .plain "loop" 1 (nm "loop" [aX]), .plain "f" 2 t1, .cases "g" 2 [("Z", 0, t2), ("S", 1, t3)]]
theorem fnb_plain {x : Str} {n : Nat} {b : Tm} (h1 : n ≤ 2) (h2 : x ∈ progNames) (h3 : BodyOk n b) : FnB (.plain x n b) :=
  ⟨h1, h2, fun _ _ _ e => by cases e; exact h3, fun _ _ _ e => by cases e⟩
theorem fnb_two {x c1 c2 : Str} {n m1 m2 : Nat} {b1 b2 : Tm} (h1 : n ≤ 2) (h2 : x ∈ progNames) (h3 : 1 ≤ n) (hc : c1 ≠ c2) (h4 : m1 ≤ 6 ∧ c1 ∈ progNames ∧ BodyOk (m1 + n - 1) b1) (h5 : m2 ≤ 6 ∧ c2 ∈ progNames ∧ BodyOk (m2 + n - 1) b2) : FnB (.cases x n [(c1, m1, b1), (c2, m2, b2)]) := by
  refine ⟨h1, h2, fun _ _ _ e => ?_, fun _ _ _ e => ?_⟩
  · cases e
  · cases e
    refine ⟨h3, (by show 2 ≤ 4; decide), ?_, fun r hr => ?_⟩
    · show [c1, c2].Nodup
      rw [List.nodup_cons]
      exact ⟨fun h => hc (List.mem_singleton.mp h), by simp⟩
    · rcases List.mem_cons.mp hr with rfl | hr
      · exact h4
      · rw [List.mem_singleton.mp hr]
        exact h5
theorem lk_body {m : Nat} {t : Tm} (h1 : t.size ≤ 16) (h2 : t.high ≤ 3) (h : t.All (LK (m : Int))) : BodyOk m t := ⟨h1, by omega, fun k hk => by
  have := h k hk
  cases k with
  | inl i => exact this
  | inr x => exact List.mem_append_left _ this⟩
theorem prog_ok {t1 t2 t3 : Tm} (h1 : BodyOk 2 t1) (h2 : BodyOk 1 t2) (h3 : BodyOk 2 t3) : PgOk (progFs t1 t2 t3) := by
  refine ⟨(by show (["add", "app", "rev", "map", "even", "odd", "twice", "k", "one", "loop", "f", "g"] : List Str).Nodup; decide +kernel), rfl, ?_⟩
  unfold progFs
  repeat' refine List.forall_mem_cons.mpr ⟨?_, ?_⟩
  · exact fnb_two (by decide) (by decide +kernel) (by decide) (by decide +kernel) (by decide +kernel) (by decide +kernel)
  · exact fnb_two (by decide) (by decide +kernel) (by decide) (by decide +kernel) (by decide +kernel) (by decide +kernel)
  · exact fnb_two (by decide) (by decide +kernel) (by decide) (by decide +kernel) (by decide +kernel) (by decide +kernel)
  · exact fnb_two (by decide) (by decide +kernel) (by decide) (by decide +kernel) (by decide +kernel) (by decide +kernel)
  · exact fnb_two (by decide) (by decide +kernel) (by decide) (by decide +kernel) (by decide +kernel) (by decide +kernel)
  · exact fnb_two (by decide) (by decide +kernel) (by decide) (by decide +kernel) (by decide +kernel) (by decide +kernel)
  · exact fnb_plain (by decide) (by decide +kernel) (by decide +kernel)
  · exact fnb_plain (by decide) (by decide +kernel) (by decide +kernel)
  · exact fnb_plain (by decide) (by decide +kernel) (by decide +kernel)
  · exact fnb_plain (by decide) (by decide +kernel) (by decide +kernel)
  · exact fnb_plain (by decide) (by decide +kernel) h1
  · exact fnb_two (by decide) (by decide +kernel) (by decide) (by decide +kernel) ⟨by decide, by decide +kernel, h2⟩ ⟨by decide, by decide +kernel, h3⟩
  · exact fun f hf => absurd hf List.not_mem_nil
theorem prog_dat (t1 t2 t3 : Tm) : (progFs t1 t2 t3).map Fn.dat = [D_add, D_app, D_rev, D_maps, D_even, D_odd] ++ D_plainL ++ [D_loop, (Fn.plain "f" 2 t1).dat, (Fn.cases "g" 2 [("Z", 0, t2), ("S", 1, t3)]).dat] := rfl
def spProg (K : PySem.W.Frag) : Sp := fun vs H Q _ => ∃ (tp n : Addr) (zs : List Int), vs = [.ref tp] ∧ TpOk K H tp n zs ∧ ∀ (H' : Hp) (v : V) (fs : List Fn), Keep tp H H' → TpOk K H' tp n zs → DAt K H' v (.tup (fs.map Fn.dat)) → PgOk fs → Q v H'
section
variable {P : Program} {w : World} {K : PySem.W.Frag} {mg : Str → Option Value} {base : Heap}
theorem ok_g_program (T : Txt K mg) : FnOk P w K mg base CX0 6 T.f_g_program T.fd_g_program ["tape"] (spProg K) := by
  have GH : FnOk P w K mg base CX0 1 T.f_g_heads T.fd_g_heads [] (spHds K) := ok_g_heads T
  have GT : FnOk P w K mg base CX0 5 T.f_g_term T.fd_g_term ["tape", "heads", "most", "depth"] (spTm K 4) := ok_g_term T 4
  refine T.d_g_program.F.ok sc_g_program (fun vs H Q E h => ?_) (fun cdv A outer s H vs Q E hr h => ?_)
  · obtain ⟨_, _, _, rfl, _⟩ := h
    rfl
  obtain ⟨tp, n, zs, rfl, tk, q⟩ := h
  have nd := sc_g_program.nd
  have hr1 : Room 1 _ := hr.mono (by decide)
  refine ⟨_, pss_cons (ps_set (i := 1) nd rfl (.inl rfl) (pe_tup (pa_cons pe_int (pa_cons (pe_tup pa_nil) pa_nil))))
    (pss_cons (ps_set (i := 2) nd rfl (.inl rfl) (pe_tup (pa_cons pe_int (pa_cons (pe_tup pa_nil) pa_nil))))
    (pss_cons (ps_set (i := 3) nd rfl (.inl rfl) (pe_tup (pa_cons pe_int (pa_cons (pe_tup pa_nil) pa_nil))))
    (pss_cons (ps_set (i := 4) nd rfl (.inl rfl) (pe_tup (pa_cons pe_str (pa_cons (pe_tup pa_nil) pa_nil))))
    (pss_cons (ps_set (i := 5) nd rfl (.inl rfl) (pe_tup (pa_cons pe_str (pa_cons pe_str (pa_cons pe_int (pa_cons (pe_tup (pa_cons (pe_tup (pa_cons pe_str (pa_cons pe_int (pa_cons (pv 1) pa_nil)))) (pa_cons (pe_tup (pa_cons pe_str (pa_cons pe_int (pa_cons (pe_tup (pa_cons pe_str (pa_cons (pe_tup (pa_cons (pe_tup (pa_cons pe_str (pa_cons (pe_tup (pa_cons (pv 1) (pa_cons (pv 2) pa_nil))) pa_nil))) pa_nil)) pa_nil))) pa_nil)))) pa_nil))) pa_nil))))))
    (pss_cons (ps_set (i := 6) nd rfl (.inl rfl) (pe_tup (pa_cons pe_str (pa_cons pe_str (pa_cons pe_int (pa_cons (pe_tup (pa_cons (pe_tup (pa_cons pe_str (pa_cons pe_int (pa_cons (pv 1) pa_nil)))) (pa_cons (pe_tup (pa_cons pe_str (pa_cons pe_int (pa_cons (pe_tup (pa_cons pe_str (pa_cons (pe_tup (pa_cons (pv 1) (pa_cons (pe_tup (pa_cons pe_str (pa_cons (pe_tup (pa_cons (pv 2) (pa_cons (pv 3) pa_nil))) pa_nil))) pa_nil))) pa_nil))) pa_nil)))) pa_nil))) pa_nil))))))
    (pss_cons (ps_set (i := 7) nd rfl (.inl rfl) (pe_tup (pa_cons pe_str (pa_cons pe_str (pa_cons pe_int (pa_cons (pe_tup (pa_cons (pe_tup (pa_cons pe_str (pa_cons pe_int (pa_cons (pv 1) pa_nil)))) (pa_cons (pe_tup (pa_cons pe_str (pa_cons pe_int (pa_cons (pe_tup (pa_cons pe_str (pa_cons (pe_tup (pa_cons (pv 2) (pa_cons (pe_tup (pa_cons pe_str (pa_cons (pe_tup (pa_cons (pv 1) (pa_cons (pv 3) pa_nil))) pa_nil))) pa_nil))) pa_nil))) pa_nil)))) pa_nil))) pa_nil))))))
    (pss_cons (ps_set (i := 8) nd rfl (.inl rfl) (pe_tup (pa_cons pe_str (pa_cons (pe_tup (pa_cons (pe_tup (pa_cons pe_int (pa_cons (pe_tup (pa_cons (pv 1) pa_nil)) pa_nil))) (pa_cons (pe_tup (pa_cons pe_str (pa_cons (pe_tup (pa_cons (pv 2) (pa_cons (pv 3) pa_nil))) pa_nil))) pa_nil))) pa_nil))))
    (pss_cons (ps_set (i := 9) nd rfl (.inl rfl) (pe_tup (pa_cons pe_str (pa_cons pe_str (pa_cons pe_int (pa_cons (pe_tup (pa_cons (pe_tup (pa_cons pe_str (pa_cons pe_int (pa_cons (pe_tup (pa_cons pe_str (pa_cons (pe_tup pa_nil) pa_nil))) pa_nil)))) (pa_cons (pe_tup (pa_cons pe_str (pa_cons pe_int (pa_cons (pv 8) pa_nil)))) pa_nil))) pa_nil))))))
    (pss_cons (ps_set (i := 10) nd rfl (.inl rfl) (pe_tup (pa_cons pe_str (pa_cons pe_str (pa_cons pe_int (pa_cons (pe_tup (pa_cons (pe_tup (pa_cons pe_str (pa_cons pe_int (pa_cons (pe_tup (pa_cons pe_str (pa_cons (pe_tup pa_nil) pa_nil))) pa_nil)))) (pa_cons (pe_tup (pa_cons pe_str (pa_cons pe_int (pa_cons (pe_tup (pa_cons pe_str (pa_cons (pe_tup (pa_cons (pv 1) pa_nil)) pa_nil))) pa_nil)))) pa_nil))) pa_nil))))))
    (pss_cons (ps_set (i := 11) nd rfl (.inl rfl) (pe_tup (pa_cons pe_str (pa_cons pe_str (pa_cons pe_int (pa_cons (pe_tup (pa_cons (pe_tup (pa_cons pe_str (pa_cons pe_int (pa_cons (pe_tup (pa_cons pe_str (pa_cons (pe_tup pa_nil) pa_nil))) pa_nil)))) (pa_cons (pe_tup (pa_cons pe_str (pa_cons pe_int (pa_cons (pe_tup (pa_cons pe_str (pa_cons (pe_tup (pa_cons (pv 1) pa_nil)) pa_nil))) pa_nil)))) pa_nil))) pa_nil))))))
    (pss_cons (ps_set (i := 12) nd rfl (.inl rfl) (pe_tup (pa_cons (pe_tup (pa_cons pe_str (pa_cons pe_str (pa_cons pe_int (pa_cons (pe_tup (pa_cons pe_int (pa_cons (pe_tup (pa_cons (pe_tup (pa_cons pe_int (pa_cons (pe_tup (pa_cons (pv 2) pa_nil)) pa_nil))) pa_nil)) pa_nil))) pa_nil))))) (pa_cons (pe_tup (pa_cons pe_str (pa_cons pe_str (pa_cons pe_int (pa_cons (pv 1) pa_nil))))) (pa_cons (pe_tup (pa_cons pe_str (pa_cons pe_str (pa_cons pe_int (pa_cons (pe_tup (pa_cons pe_str (pa_cons (pe_tup (pa_cons (pv 4) pa_nil)) pa_nil))) pa_nil))))) pa_nil)))))
    (pss_cons (ps_set (i := 13) nd rfl (.inl rfl) (pe_tup (pa_cons pe_str (pa_cons pe_str (pa_cons pe_int (pa_cons (pe_tup (pa_cons pe_str (pa_cons (pe_tup (pa_cons (pv 1) pa_nil)) pa_nil))) pa_nil))))))
    (pss_cons (ps_set (i := 14) nd rfl (.inl rfl) (pe_call0 GH hr1 (by rfl) T.d_g_heads.m T.d_g_heads.F.kp T.d_g_heads.b .nil pass0))
    (pss_cons (ps_set (i := 15) nd rfl (.inl rfl) (pe_tup (pa_cons pe_str (pa_cons pe_str (pa_cons pe_int (pa_cons (pe_call GT hr (by rfl) T.d_g_term.m T.d_g_term.F.kp T.d_g_term.b .nil pass0 (pa_cons (pv 0) (pa_cons (pv 14) (pa_cons pe_int (pa_cons pe_int pa_nil))))) pa_nil))))))
    (pss_cons (ps_set (i := 16) nd rfl (.inl rfl) (pe_tup (pa_cons (pe_tup (pa_cons pe_str (pa_cons pe_int (pa_cons (pe_call GT hr (by rfl) T.d_g_term.m T.d_g_term.F.kp T.d_g_term.b .nil pass0 (pa_cons (pv 0) (pa_cons (pv 14) (pa_cons pe_int (pa_cons pe_int pa_nil))))) pa_nil)))) (pa_cons (pe_tup (pa_cons pe_str (pa_cons pe_int (pa_cons (pe_call GT hr (by rfl) T.d_g_term.m T.d_g_term.F.kp T.d_g_term.b .nil pass0 (pa_cons (pv 0) (pa_cons (pv 14) (pa_cons pe_int (pa_cons pe_int pa_nil))))) pa_nil)))) pa_nil))))
    (pss_cons (ps_set (i := 17) nd rfl (.inl rfl) (pe_tup (pa_cons pe_str (pa_cons pe_str (pa_cons pe_int (pa_cons (pv 16) pa_nil))))))
    (pss_one (ps_ret (pe_op op_catA (pe_op op_catA (pe_tup (pa_cons (pv 5) (pa_cons (pv 6) (pa_cons (pv 7) (pa_cons (pv 9) (pa_cons (pv 10) (pa_cons (pv 11) pa_nil))))))) (pv 12)) (pe_tup (pa_cons (pv 13) (pa_cons (pv 15) (pa_cons (pv 17) pa_nil))))))))))))))))))))))), ?_⟩
  refine seq_set (K := K) (d := D_x) (σ' := fun v => [some (.ref tp), some v, none, none, none, none, none, none, none, none, none, none, none, none, none, none, none, none]) (fun _ => rfl) ?gx ?kx
  case gx =>
    repeat' first | exact Gives.int | exact Gives.str | exact GivesL.nil | refine GivesL.cons ?_ ?_ | (first | refine Gives.tup ?_ (by decide))
  case kx =>
  intro H1 vx s1 dx
  refine seq_set (K := K) (d := D_y) (σ' := fun v => [some (.ref tp), some vx, some v, none, none, none, none, none, none, none, none, none, none, none, none, none, none, none]) (fun _ => rfl) ?gy ?ky
  case gy =>
    repeat' first | exact Gives.int | exact Gives.str | exact GivesL.nil | refine GivesL.cons ?_ ?_ | (first | exact Gives.var rfl dx | refine Gives.tup ?_ (by decide))
  case ky =>
  intro H2 vy s2 dy
  replace dx := dx.mono (TStay.of (K := K) s2)
  refine seq_set (K := K) (d := D_z) (σ' := fun v => [some (.ref tp), some vx, some vy, some v, none, none, none, none, none, none, none, none, none, none, none, none, none, none]) (fun _ => rfl) ?gz ?kz
  case gz =>
    repeat' first | exact Gives.int | exact Gives.str | exact GivesL.nil | refine GivesL.cons ?_ ?_ | (first | exact Gives.var rfl dx | exact Gives.var rfl dy | refine Gives.tup ?_ (by decide))
  case kz =>
  intro H3 vz s3 dz
  replace dx := dx.mono (TStay.of (K := K) s3)
  replace dy := dy.mono (TStay.of (K := K) s3)
  refine seq_set (K := K) (d := D_zero) (σ' := fun v => [some (.ref tp), some vx, some vy, some vz, some v, none, none, none, none, none, none, none, none, none, none, none, none, none]) (fun _ => rfl) ?gzero ?kzero
  case gzero =>
    repeat' first | exact Gives.int | exact Gives.str | exact GivesL.nil | refine GivesL.cons ?_ ?_ | (first | exact Gives.var rfl dx | exact Gives.var rfl dy | exact Gives.var rfl dz | refine Gives.tup ?_ (by decide))
  case kzero =>
  intro H4 vzero s4 dzero
  replace dx := dx.mono (TStay.of (K := K) s4)
  replace dy := dy.mono (TStay.of (K := K) s4)
  replace dz := dz.mono (TStay.of (K := K) s4)
  refine seq_set (K := K) (d := D_add) (σ' := fun v => [some (.ref tp), some vx, some vy, some vz, some vzero, some v, none, none, none, none, none, none, none, none, none, none, none, none]) (fun _ => rfl) ?gadd ?kadd
  case gadd =>
    repeat' first | exact Gives.int | exact Gives.str | exact GivesL.nil | refine GivesL.cons ?_ ?_ | (first | exact Gives.var rfl dx | exact Gives.var rfl dy | exact Gives.var rfl dz | exact Gives.var rfl dzero | refine Gives.tup ?_ (by decide))
  case kadd =>
  intro H5 vadd s5 dadd
  replace dx := dx.mono (TStay.of (K := K) s5)
  replace dy := dy.mono (TStay.of (K := K) s5)
  replace dz := dz.mono (TStay.of (K := K) s5)
  replace dzero := dzero.mono (TStay.of (K := K) s5)
  refine seq_set (K := K) (d := D_app) (σ' := fun v => [some (.ref tp), some vx, some vy, some vz, some vzero, some vadd, some v, none, none, none, none, none, none, none, none, none, none, none]) (fun _ => rfl) ?gapp ?kapp
  case gapp =>
    repeat' first | exact Gives.int | exact Gives.str | exact GivesL.nil | refine GivesL.cons ?_ ?_ | (first | exact Gives.var rfl dx | exact Gives.var rfl dy | exact Gives.var rfl dz | exact Gives.var rfl dzero | exact Gives.var rfl dadd | refine Gives.tup ?_ (by decide))
  case kapp =>
  intro H6 vapp s6 dapp
  replace dx := dx.mono (TStay.of (K := K) s6)
  replace dy := dy.mono (TStay.of (K := K) s6)
  replace dz := dz.mono (TStay.of (K := K) s6)
  replace dzero := dzero.mono (TStay.of (K := K) s6)
  replace dadd := dadd.mono (TStay.of (K := K) s6)
  refine seq_set (K := K) (d := D_rev) (σ' := fun v => [some (.ref tp), some vx, some vy, some vz, some vzero, some vadd, some vapp, some v, none, none, none, none, none, none, none, none, none, none]) (fun _ => rfl) ?grev ?krev
  case grev =>
    repeat' first | exact Gives.int | exact Gives.str | exact GivesL.nil | refine GivesL.cons ?_ ?_ | (first | exact Gives.var rfl dx | exact Gives.var rfl dy | exact Gives.var rfl dz | exact Gives.var rfl dzero | exact Gives.var rfl dadd | exact Gives.var rfl dapp | refine Gives.tup ?_ (by decide))
  case krev =>
  intro H7 vrev s7 drev
  replace dx := dx.mono (TStay.of (K := K) s7)
  replace dy := dy.mono (TStay.of (K := K) s7)
  replace dz := dz.mono (TStay.of (K := K) s7)
  replace dzero := dzero.mono (TStay.of (K := K) s7)
  replace dadd := dadd.mono (TStay.of (K := K) s7)
  replace dapp := dapp.mono (TStay.of (K := K) s7)
  refine seq_set (K := K) (d := D_mapped) (σ' := fun v => [some (.ref tp), some vx, some vy, some vz, some vzero, some vadd, some vapp, some vrev, some v, none, none, none, none, none, none, none, none, none]) (fun _ => rfl) ?gmapped ?kmapped
  case gmapped =>
    repeat' first | exact Gives.int | exact Gives.str | exact GivesL.nil | refine GivesL.cons ?_ ?_ | (first | exact Gives.var rfl dx | exact Gives.var rfl dy | exact Gives.var rfl dz | exact Gives.var rfl dzero | exact Gives.var rfl dadd | exact Gives.var rfl dapp | exact Gives.var rfl drev | refine Gives.tup ?_ (by decide))
  case kmapped =>
  intro H8 vmapped s8 dmapped
  replace dx := dx.mono (TStay.of (K := K) s8)
  replace dy := dy.mono (TStay.of (K := K) s8)
  replace dz := dz.mono (TStay.of (K := K) s8)
  replace dzero := dzero.mono (TStay.of (K := K) s8)
  replace dadd := dadd.mono (TStay.of (K := K) s8)
  replace dapp := dapp.mono (TStay.of (K := K) s8)
  replace drev := drev.mono (TStay.of (K := K) s8)
  refine seq_set (K := K) (d := D_maps) (σ' := fun v => [some (.ref tp), some vx, some vy, some vz, some vzero, some vadd, some vapp, some vrev, some vmapped, some v, none, none, none, none, none, none, none, none]) (fun _ => rfl) ?gmaps ?kmaps
  case gmaps =>
    repeat' first | exact Gives.int | exact Gives.str | exact GivesL.nil | refine GivesL.cons ?_ ?_ | (first | exact Gives.var rfl dx | exact Gives.var rfl dy | exact Gives.var rfl dz | exact Gives.var rfl dzero | exact Gives.var rfl dadd | exact Gives.var rfl dapp | exact Gives.var rfl drev | exact Gives.var rfl dmapped | refine Gives.tup ?_ (by decide))
  case kmaps =>
  intro H9 vmaps s9 dmaps
  replace dx := dx.mono (TStay.of (K := K) s9)
  replace dy := dy.mono (TStay.of (K := K) s9)
  replace dz := dz.mono (TStay.of (K := K) s9)
  replace dzero := dzero.mono (TStay.of (K := K) s9)
  replace dadd := dadd.mono (TStay.of (K := K) s9)
  replace dapp := dapp.mono (TStay.of (K := K) s9)
  replace drev := drev.mono (TStay.of (K := K) s9)
  replace dmapped := dmapped.mono (TStay.of (K := K) s9)
  refine seq_set (K := K) (d := D_even) (σ' := fun v => [some (.ref tp), some vx, some vy, some vz, some vzero, some vadd, some vapp, some vrev, some vmapped, some vmaps, some v, none, none, none, none, none, none, none]) (fun _ => rfl) ?geven ?keven
  case geven =>
    repeat' first | exact Gives.int | exact Gives.str | exact GivesL.nil | refine GivesL.cons ?_ ?_ | (first | exact Gives.var rfl dx | exact Gives.var rfl dy | exact Gives.var rfl dz | exact Gives.var rfl dzero | exact Gives.var rfl dadd | exact Gives.var rfl dapp | exact Gives.var rfl drev | exact Gives.var rfl dmapped | exact Gives.var rfl dmaps | refine Gives.tup ?_ (by decide))
  case keven =>
  intro H10 veven s10 deven
  replace dx := dx.mono (TStay.of (K := K) s10)
  replace dy := dy.mono (TStay.of (K := K) s10)
  replace dz := dz.mono (TStay.of (K := K) s10)
  replace dzero := dzero.mono (TStay.of (K := K) s10)
  replace dadd := dadd.mono (TStay.of (K := K) s10)
  replace dapp := dapp.mono (TStay.of (K := K) s10)
  replace drev := drev.mono (TStay.of (K := K) s10)
  replace dmapped := dmapped.mono (TStay.of (K := K) s10)
  replace dmaps := dmaps.mono (TStay.of (K := K) s10)
  refine seq_set (K := K) (d := D_odd) (σ' := fun v => [some (.ref tp), some vx, some vy, some vz, some vzero, some vadd, some vapp, some vrev, some vmapped, some vmaps, some veven, some v, none, none, none, none, none, none]) (fun _ => rfl) ?godd ?kodd
  case godd =>
    repeat' first | exact Gives.int | exact Gives.str | exact GivesL.nil | refine GivesL.cons ?_ ?_ | (first | exact Gives.var rfl dx | exact Gives.var rfl dy | exact Gives.var rfl dz | exact Gives.var rfl dzero | exact Gives.var rfl dadd | exact Gives.var rfl dapp | exact Gives.var rfl drev | exact Gives.var rfl dmapped | exact Gives.var rfl dmaps | exact Gives.var rfl deven | refine Gives.tup ?_ (by decide))
  case kodd =>
  intro H11 vodd s11 dodd
  replace dx := dx.mono (TStay.of (K := K) s11)
  replace dy := dy.mono (TStay.of (K := K) s11)
  replace dz := dz.mono (TStay.of (K := K) s11)
  replace dzero := dzero.mono (TStay.of (K := K) s11)
  replace dadd := dadd.mono (TStay.of (K := K) s11)
  replace dapp := dapp.mono (TStay.of (K := K) s11)
  replace drev := drev.mono (TStay.of (K := K) s11)
  replace dmapped := dmapped.mono (TStay.of (K := K) s11)
  replace dmaps := dmaps.mono (TStay.of (K := K) s11)
  replace deven := deven.mono (TStay.of (K := K) s11)
  refine seq_set (K := K) (d := D_plain) (σ' := fun v => [some (.ref tp), some vx, some vy, some vz, some vzero, some vadd, some vapp, some vrev, some vmapped, some vmaps, some veven, some vodd, some v, none, none, none, none, none]) (fun _ => rfl) ?gplain ?kplain
  case gplain =>
    repeat' first | exact Gives.int | exact Gives.str | exact GivesL.nil | refine GivesL.cons ?_ ?_ | (first | exact Gives.var rfl dx | exact Gives.var rfl dy | exact Gives.var rfl dz | exact Gives.var rfl dzero | exact Gives.var rfl dadd | exact Gives.var rfl dapp | exact Gives.var rfl drev | exact Gives.var rfl dmapped | exact Gives.var rfl dmaps | exact Gives.var rfl deven | exact Gives.var rfl dodd | refine Gives.tup ?_ (by decide))
  case kplain =>
  intro H12 vplain s12 dplain
  replace dx := dx.mono (TStay.of (K := K) s12)
  replace dy := dy.mono (TStay.of (K := K) s12)
  replace dz := dz.mono (TStay.of (K := K) s12)
  replace dzero := dzero.mono (TStay.of (K := K) s12)
  replace dadd := dadd.mono (TStay.of (K := K) s12)
  replace dapp := dapp.mono (TStay.of (K := K) s12)
  replace drev := drev.mono (TStay.of (K := K) s12)
  replace dmapped := dmapped.mono (TStay.of (K := K) s12)
  replace dmaps := dmaps.mono (TStay.of (K := K) s12)
  replace deven := deven.mono (TStay.of (K := K) s12)
  replace dodd := dodd.mono (TStay.of (K := K) s12)
  refine seq_set (K := K) (d := D_loop) (σ' := fun v => [some (.ref tp), some vx, some vy, some vz, some vzero, some vadd, some vapp, some vrev, some vmapped, some vmaps, some veven, some vodd, some vplain, some v, none, none, none, none]) (fun _ => rfl) ?gloop ?kloop
  case gloop =>
    repeat' first | exact Gives.int | exact Gives.str | exact GivesL.nil | refine GivesL.cons ?_ ?_ | (first | exact Gives.var rfl dx | exact Gives.var rfl dy | exact Gives.var rfl dz | exact Gives.var rfl dzero | exact Gives.var rfl dadd | exact Gives.var rfl dapp | exact Gives.var rfl drev | exact Gives.var rfl dmapped | exact Gives.var rfl dmaps | exact Gives.var rfl deven | exact Gives.var rfl dodd | exact Gives.var rfl dplain | refine Gives.tup ?_ (by decide))
  case kloop =>
  intro H13 vloop s13 dloop
  replace dx := dx.mono (TStay.of (K := K) s13)
  replace dy := dy.mono (TStay.of (K := K) s13)
  replace dz := dz.mono (TStay.of (K := K) s13)
  replace dzero := dzero.mono (TStay.of (K := K) s13)
  replace dadd := dadd.mono (TStay.of (K := K) s13)
  replace dapp := dapp.mono (TStay.of (K := K) s13)
  replace drev := drev.mono (TStay.of (K := K) s13)
  replace dmapped := dmapped.mono (TStay.of (K := K) s13)
  replace dmaps := dmaps.mono (TStay.of (K := K) s13)
  replace deven := deven.mono (TStay.of (K := K) s13)
  replace dodd := dodd.mono (TStay.of (K := K) s13)
  replace dplain := dplain.mono (TStay.of (K := K) s13)
  have s13' : Same H H13 := ((((((((((((s1.trans s2).trans s3).trans s4).trans s5).trans s6).trans s7).trans s8).trans s9).trans s10).trans s11).trans s12).trans s13)
  have t13 := tk.go s13'
  refine ⟨rfl, fun H14 hp us hs s14 hp0 e14 d14 oh => ?_⟩
  have t14 := t13.go s14
  have h14 : HdsAt K H14 tp hp hs := ⟨⟨us, Scr.of e14 (t13.ne hp0), d14⟩, oh⟩
  replace dadd := dadd.mono (TStay.of (K := K) s14)
  replace dapp := dapp.mono (TStay.of (K := K) s14)
  replace drev := drev.mono (TStay.of (K := K) s14)
  replace dmaps := dmaps.mono (TStay.of (K := K) s14)
  replace deven := deven.mono (TStay.of (K := K) s14)
  replace dodd := dodd.mono (TStay.of (K := K) s14)
  replace dplain := dplain.mono (TStay.of (K := K) s14)
  replace dloop := dloop.mono (TStay.of (K := K) s14)
  refine ⟨_, rfl, _, rfl, tp, hp, n, zs, hs, 2, 2, rfl, t14, h14, by decide, by decide, by decide, fun H15 w1 b1 k15 t15 tw1 a1 z1 g1 => ⟨(by show 4 ≤ sizeLine; decide), fun p1 hp1 => ?_⟩⟩
  have dfirst : DAt K (upd H15 p1 (.tup [.str "plain", .str "f", .int 2, w1])) (.ref p1) (Fn.plain "f" 2 b1).dat := .tup (SqT.of upd_same) (.cons (.key (k := .inr "plain")) (.cons (.key (k := .inr "f")) (.cons (.key (k := .inl 2)) (.cons (tw1.mono (TStay.new hp1 _)) .nil)))) (by show 4 ≤ 1000000; decide)
  have k1 := k15.trans (Keep.new (st := tp) hp1 (.tup [.str "plain", .str "f", .int 2, w1]))
  have t16 := t15.new hp1 (.tup [.str "plain", .str "f", .int 2, w1])
  have h16 := h14.keep t14 k1
  replace dadd := dadd.mono (t14.ts k1)
  replace dapp := dapp.mono (t14.ts k1)
  replace drev := drev.mono (t14.ts k1)
  replace dmaps := dmaps.mono (t14.ts k1)
  replace deven := deven.mono (t14.ts k1)
  replace dodd := dodd.mono (t14.ts k1)
  replace dplain := dplain.mono (t14.ts k1)
  replace dloop := dloop.mono (t14.ts k1)
  have tk1 : TStay K H14 _ := t14.ts k1
  generalize upd H15 p1 (.tup [.str "plain", .str "f", .int 2, w1]) = H16 at dfirst k1 t16 h16 dadd dapp drev dmaps deven dodd dplain dloop tk1
  refine ⟨_, rfl, _, rfl, tp, hp, n, zs, hs, 1, 2, rfl, t16, h16, by decide, by decide, by decide, fun H17 w2 b2 k17 t17 tw2 a2 z2 g2 => ⟨(by show 3 ≤ sizeLine; decide), fun p2 hp2 => ?_⟩⟩
  have k18 := k17.trans (Keep.new (st := tp) hp2 (.tup [.str "Z", .int 0, w2]))
  have t18 := t17.new hp2 (.tup [.str "Z", .int 0, w2])
  have dr1 : DAt K (upd H17 p2 (.tup [.str "Z", .int 0, w2])) (.ref p2) (ruleD ("Z", 0, b2)) := .tup (SqT.of upd_same) (.cons (.key (k := .inr "Z")) (.cons (.key (k := .inl 0)) (.cons (tw2.mono (TStay.new hp2 _)) .nil))) (by show 3 ≤ 1000000; decide)
  have h18 := h16.keep t16 k18
  have ts18 := t16.ts k18
  generalize upd H17 p2 (.tup [.str "Z", .int 0, w2]) = H18 at k18 t18 dr1 h18 ts18
  refine ⟨_, rfl, _, rfl, tp, hp, n, zs, hs, 2, 2, rfl, t18, h18, by decide, by decide, by decide, fun H19 w3 b3 k19 t19 tw3 a3 z3 g3 => ⟨(by show 3 ≤ sizeLine; decide), fun p3 hp3 => ⟨(by show 2 ≤ sizeLine; decide), fun p4 hp4 => ?_⟩⟩⟩
  have k20 := k19.trans (Keep.new (st := tp) hp3 (.tup [.str "S", .int 1, w3]))
  have t20 := t19.new hp3 (.tup [.str "S", .int 1, w3])
  have dr2 : DAt K (upd H19 p3 (.tup [.str "S", .int 1, w3])) (.ref p3) (ruleD ("S", 1, b3)) := .tup (SqT.of upd_same) (.cons (.key (k := .inr "S")) (.cons (.key (k := .inl 1)) (.cons (tw3.mono (TStay.new hp3 _)) .nil))) (by show 3 ≤ 1000000; decide)
  replace dr1 := dr1.mono (t18.ts k20)
  have ts20 := ts18.trans (t18.ts k20)
  have k18b := k18.trans k20
  generalize upd H19 p3 (.tup [.str "S", .int 1, w3]) = H20 at k20 t20 dr2 dr1 hp4 ts20 k18b
  have s21 := same_new hp4 (.tup [.ref p2, .ref p3])
  have drs : DAt K (upd H20 p4 (.tup [.ref p2, .ref p3])) (.ref p4) (.tup (([("Z", 0, b2), ("S", 1, b3)] : List (Str × Nat × Tm)).map ruleD)) := .tup (SqT.of upd_same) (.cons (dr1.mono (TStay.of s21)) (.cons (dr2.mono (TStay.of s21)) .nil)) (by show 2 ≤ 1000000; decide)
  refine ⟨_, rfl, (by show 4 ≤ sizeLine; decide), fun p5 hp5 => ?_⟩
  have s22 := same_new hp5 (.tup [.str "cases", .str "g", .int 2, .ref p4])
  have dsecond : DAt K (upd (upd H20 p4 (.tup [.ref p2, .ref p3])) p5 (.tup [.str "cases", .str "g", .int 2, .ref p4])) (.ref p5) (Fn.cases "g" 2 [("Z", 0, b2), ("S", 1, b3)]).dat := .tup (SqT.of upd_same) (.cons (.key (k := .inr "cases")) (.cons (.key (k := .inr "g")) (.cons (.key (k := .inl 2)) (.cons (drs.mono (TStay.of s22)) .nil)))) (by show 4 ≤ 1000000; decide)
  have sl := s21.trans s22
  have ts22 := ts20.trans (TStay.of (K := K) sl)
  replace dfirst := dfirst.mono ts22
  replace dadd := dadd.mono ts22
  replace dapp := dapp.mono ts22
  replace drev := drev.mono ts22
  replace dmaps := dmaps.mono ts22
  replace deven := deven.mono ts22
  replace dodd := dodd.mono ts22
  replace dplain := dplain.mono ts22
  replace dloop := dloop.mono ts22
  have k22 := (Keep.of (st := tp) (s13'.trans s14)).trans (k1.trans (k18b.trans (Keep.of sl)))
  have t22 := t20.go sl
  generalize upd (upd H20 p4 (.tup [.ref p2, .ref p3])) p5 (.tup [.str "cases", .str "g", .int 2, .ref p4]) = H22 at dsecond dfirst dadd dapp drev dmaps deven dodd dplain dloop k22 t22
  refine ⟨_, rfl, _, rfl, _, rfl, _, rfl, _, rfl, _, rfl, (by show 6 ≤ sizeLine; decide), fun c1 hc1 => ⟨_, rfl, ?_⟩⟩
  have s23 := same_new hc1 (.tup [vadd, vapp, vrev, vmaps, veven, vodd])
  obtain ⟨cp, pus, ep, sp, dp, zp⟩ := (dplain.mono (TStay.of (K := K) s23)).tup_inv
  rw [ep]
  refine catA_of (SqT.of upd_same) sp (by rw [dp.length]; show 6 + 3 ≤ _; decide) fun H24 c2 s24 e24 => ?_
  refine ⟨_, rfl, _, rfl, _, rfl, (by show 3 ≤ sizeLine; decide), fun c3 hc3 => ?_⟩
  have s25 := same_new hc3 (.tup [vloop, .ref p1, .ref p5])
  refine catA_of (TStay.of (K := K) s25 _ _ e24) (SqT.of upd_same) (by rw [List.length_append, dp.length]; show 6 + 3 + 3 ≤ _; decide) fun H26 c4 s26 e26 => ?_
  have sa := s24.trans (s25.trans s26)
  have sb := s23.trans sa
  have mo : ∀ {v : V} {d : Dt}, DAt K H22 v d → DAt K H26 v d := fun h => h.mono (TStay.of sb)
  have dall : DsAt K H26 ([vadd, vapp, vrev, vmaps, veven, vodd] ++ pus ++ [vloop, .ref p1, .ref p5]) ((progFs b1 b2 b3).map Fn.dat) := by
    rw [prog_dat]
    exact DsAt.append (DsAt.append (.cons (mo dadd) (.cons (mo dapp) (.cons (mo drev) (.cons (mo dmaps) (.cons (mo deven) (.cons (mo dodd) .nil)))))) (dp.mono (TStay.of sa))) (.cons (mo dloop) (.cons (mo dfirst) (.cons (mo dsecond) .nil)))
  refine q H26 (.ref c4) (progFs b1 b2 b3) (k22.trans (Keep.of sb)) (t22.go sb) (.tup e26 dall ?_) (prog_ok (lk_body z1 g1 a1) (lk_body z2 g2 a2) (lk_body z3 g3 a3))
  rw [dall.length]
  show 12 ≤ 1000000
  decide
end

/-! ### _law_put of a dict, _law_functions, _law_opened, _law_demand -/
theorem cut_mid {us : List V} {a b : Nat} {i j : Int} (hi : i = (a : Int)) (hj : j = (b : Int)) (h1 : a ≤ us.length) (h2 : b ≤ us.length) : cutV us (some i) (some j) = (us.drop a).take (b - a) := by
  subst hi hj
  unfold cutV
  rw [sIx_to (k := a) (d := 0) rfl h1, sIx_to (k := b) (d := us.length) rfl h2]
theorem kv_new {K : PySem.W.Frag} {H : Hp} {kvs : List (Key × V)} {ps : List (Int × Tm)} {i : Int} {v : V} {t : Tm} (h : KvOk K H kvs ps) (ht : TAt K H v t) (hn : valV kvs (.inl i) = none) : KvOk K H (putK kvs (.inl i) v) (ps ++ [(i, t)]) := by
  rw [putK_new _ hn]
  constructor
  · rw [List.map_append, List.map_append, h.1]
    rfl
  · rw [List.map_append, List.map_append]
    exact DsAt.append h.2 (.cons ht .nil)
theorem enumP_get {as : List Tm} {i : Nat} (hi : i < as.length) : (enumP as)[i]? = some ((i : Int), as[i]) := by
  unfold enumP
  rw [List.getElem?_zip_eq_some]
  exact ⟨by rw [List.getElem?_map, List.getElem?_range hi]; rfl, List.getElem?_eq_getElem hi⟩
def spGPutD (K : PySem.W.Frag) (n : Nat) : Sp := fun vs H Q _ => ∃ (v : V) (D : Addr) (t : Tm) (kvs : List (Key × V)) (ps : List (Int × Tm)), vs = [v, .ref D] ∧ TAt K H v t ∧ t.high ≤ n ∧ t.size ≤ 50000 ∧ H D = some (.dK kvs) ∧ KvOk K H kvs ps ∧ (∀ p ∈ ps, p.2.size ≤ 50000) ∧
  ∀ (H' : Hp) (u : V), Same H H' → TAt K H' u (t.put ps) → Q u H'
section
variable {P : Program} {w : World} {K : PySem.W.Frag} {mg : Str → Option Value} {base : Heap}
theorem ok_g_put_step (T : Txt K mg) {n : Nat} (G : FnOk P w K mg base CX0 n T.f_g_put T.fd_g_put ["term", "parts"] (spGPutD K n)) : FnOk P w K mg base CX0 (n + 1) T.f_g_put T.fd_g_put ["term", "parts"] (spGPutD K (n + 1)) := by
  refine T.d_g_put.F.ok sc_g_put (fun vs H Q E h => ?_) (fun cdv A outer s H vs Q E hr h => ?_)
  · obtain ⟨_, _, _, _, _, rfl, _⟩ := h
    rfl
  obtain ⟨v, D0, t, kvs, ps, rfl, hv, hh, hs, eD, kv, hz, q⟩ := h
  have nd := sc_g_put.nd
  refine ⟨_, pss_cons (ps_set (i := 3) nd rfl (.inl rfl) (pe_callTy call_tuple_of (by rfl) T.z_tuple (by decide +kernel) (pa_cons (pe_lc (own := [("part", 2)]) (g := gName 2) (tt := tYes) rfl nd (pi_tup (pe_ix ix_tup (pv 0) pe_int (fun _ _ => rfl))) (blkOk_by (own := [("part", 2)]) (N := ["term", "parts", "part", "arguments", "other"]) (sc := defScope s_g_put) (by decide +kernel))
        (fun _ _ _ _ _ => pg_name (i := 2) nd rfl (.inl rfl)) (fun _ _ _ _ _ => pts_nil)
        (fun _ _ _ _ _ => pe_call G hr (by rfl) T.d_g_put.m T.d_g_put.F.kp T.d_g_put.b .nil pass0 (pa_cons (pv 2) (pa_cons (pv 1) pa_nil)))) pa_nil)))
    (pss_cons (ps_if (pt_cmp (pc_din (hu_of hr) (pe_ix ix_tup (pv 0) pe_int (fun _ _ => rfl)) (pv 1)))
      (pss_cons (ps_set (i := 4) nd rfl (.inl rfl) (pe_dget (hu_of hr) (pv 1) (pe_ix ix_tup (pv 0) pe_int (fun _ _ => rfl)) (fun _ _ => rfl)))
      (pss_one (ps_ret (pe_tup (pa_cons (pe_ix ix_tup (pv 4) pe_int (fun _ _ => rfl)) (pa_cons (pe_op op_catA (pe_ix ix_tup (pv 4) pe_int (fun _ _ => rfl)) (pv 3)) pa_nil))))))
      pss_nil)
    (pss_one (ps_ret (pe_tup (pa_cons (pe_ix ix_tup (pv 0) pe_int (fun _ _ => rfl)) (pa_cons (pv 3) pa_nil)))))), ?_⟩
  cases t with
  | mk k ts =>
    obtain ⟨a, b, as, rfl, sa, sb, ds, zl⟩ := hv.inv
    have ds : DsAt K H as (ts.map Tm.dat) := ds
    have sa : SqT K H a [kV k, .ref b] := sa
    rw [Tm.high] at hh
    rw [Tm.size] at hs
    have las : as.length = ts.length := by rw [ds.length, List.length_map]
    have lsz := Tm.len_sizeL ts
    refine ⟨_, rfl, a, _, _, _, rfl, rfl, sa, atI_nat (j := 1) rfl, b, rfl, ⟨_, sb⟩, fun D hD => lc_tup (K := K) (a := b) (xs := as) (fun i H' => Same H H' ∧ ∃ rs, H' D = some (.lst rs) ∧ DsAt K H' rs ((Tm.putL ps (ts.take i)).map Tm.dat))
      ⟨same_new hD _, [], upd_same, .nil⟩ (fun i H' _ ⟨s2, _⟩ => TStay.of s2 _ _ sb) ?_ ?_⟩
    · rintro i x H2 hx ⟨s2, rs, e2, d2⟩
      obtain ⟨d, hd, dx⟩ := ds.get' hx
      have hi : i < ts.length := by
        have := (List.getElem?_eq_some_iff.mp hx).1
        omega
      rw [List.getElem?_map, List.getElem?_eq_getElem hi] at hd
      have hd : (ts[i]).dat = d := Option.some.inj hd
      subst hd
      have mt := List.getElem_mem hi
      have h1 := Tm.high_mem mt
      have h2 := Tm.size_mem mt
      have lrs : rs.length ≤ i := by
        have := d2.length
        rw [List.length_map, putL_length, List.length_take] at this
        omega
      refine ⟨rfl, ?_⟩
      refine yesT ?_
      refine ⟨_, rfl, _, rfl, x, D0, ts[i], kvs, ps, rfl, dx.mono (TStay.of s2), by omega, by omega, s2 _ _ eD, kv.mono (TStay.of s2), hz, fun H3 u s3 tu => ?_⟩
      refine ⟨rs, s3 _ _ e2, by rw [sizeLine_eq]; omega, sameUpd (s2.trans s3) hD _, _, upd_same, ?_⟩
      rw [List.take_add_one, List.getElem?_eq_getElem hi, Tm.putL_map, List.map_append, List.map_append, ← Tm.putL_map]
      exact (DsAt.append (d2.mono (TStay.of s3)) (.cons tu .nil)).mono (TStay.lst (s3 _ _ e2) _)
    · rintro H2 ⟨s2, rs, e2, d2⟩
      rw [las, List.take_length] at d2
      have lrs : rs.length = ts.length := by rw [d2.length, List.length_map, putL_length]
      refine ⟨D, rs, rfl, .inl ⟨SqL.of e2, fun c hc => ?_⟩⟩
      have s3 : Same H (upd H2 c (.tup rs)) := s2.trans (same_new hc _)
      have sc : SqT K (upd H2 c (.tup rs)) c rs := SqT.of upd_same
      have d3 := d2.mono (TStay.new (K := K) hc (.tup rs))
      generalize upd H2 c (.tup rs) = H3 at s3 sc d3
      have sa3 := TStay.of s3 _ _ sa
      refine ⟨_, rfl, a, _, _, _, rfl, rfl, sa3, atI_nat (j := 0) rfl, _, rfl, D0, _, rfl, DGet.k (k := k) (s3 _ _ eD), _, rfl, ?_⟩
      rw [Tm.put] at q
      unfold sub at q
      rcases (kv.mono (TStay.of s3)).look k with ⟨h1, h2⟩ | ⟨v0, u0, h1, h2, h3⟩
      · rw [h1]
        rw [h2] at q
        refine iteF ⟨_, rfl, a, _, _, _, rfl, rfl, sa3, atI_nat (j := 0) rfl, _, rfl, (by show 2 ≤ sizeLine; decide), fun x hx => q _ _ (s3.trans (same_new hx _)) ?_⟩
        exact TAt.new sc d3 (by omega) hx
      · rw [h1]
        rw [h2] at q
        obtain ⟨p0, hp0, ep0⟩ := find_mem h2
        have zu := hz p0 hp0
        rw [ep0] at zu
        have zua := size_args u0
        have zul := Tm.len_sizeL u0.args
        obtain ⟨a', b', ws, rfl, sa', sb', dw, zw⟩ := h3.inv
        have lws : ws.length = u0.args.length := by rw [dw.length, List.length_map]
        refine iteT ⟨_, rfl, _, rfl, a, _, _, _, rfl, rfl, sa3, atI_nat (j := 0) rfl, D0, .ref a', rfl, by rw [← h1]; exact DGet.k (k := k) (s3 _ _ eD), ?_⟩
        refine ⟨_, rfl, a', _, _, _, rfl, rfl, sa', atI_nat (j := 0) rfl, _, rfl, a', _, _, _, rfl, rfl, sa', atI_nat (j := 1) rfl, _, rfl, ?_⟩
        refine catA_of sb' sc (by omega) fun H4 c4 s4 e4 => ⟨(by show 2 ≤ sizeLine; decide), fun x hx => q _ _ ((s3.trans s4).trans (same_new hx _)) ?_⟩
        refine TAt.new (k := u0.hd) e4 ?_ (by rw [List.length_append]; omega) hx
        rw [List.map_append]
        exact DsAt.append (dw.mono (TStay.of s4)) (d3.mono (TStay.of s4))
theorem ok_g_put (T : Txt K mg) : ∀ n, FnOk P w K mg base CX0 n T.f_g_put T.fd_g_put ["term", "parts"] (spGPutD K n)
  | 0 => fn_none fun vs H Q E ⟨_, _, t, _, _, _, _, h, _⟩ => by
    cases t with
    | mk k ts =>
      rw [Tm.high] at h
      omega
  | n + 1 => ok_g_put_step T (ok_g_put T n)
theorem ok_g_functions (T : Txt K mg) : FnOk P w K mg base CX0 1 T.f_g_functions T.fd_g_functions ["program"] (spByName K) := by
  refine T.d_g_functions.F.ok sc_g_functions (fun vs H Q E h => ?_) (fun cdv A outer s H vs Q E hr h => ?_)
  · obtain ⟨_, _, rfl, _⟩ := h
    rfl
  obtain ⟨v, fs, rfl, hv, ho, q⟩ := h
  have nd := sc_g_functions.nd
  refine ⟨_, pss_cons (ps_set (i := 1) nd rfl (.inl rfl) pe_dnewK)
    (pss_cons (ps_for PassesOwn.never rfl (pi_tup (pv 0)) (pg_name (i := 2) nd rfl (.inl rfl))
      (pss_one (ps_dput (hu_of hr) (pv 1) (pe_ix ix_tup (pv 2) pe_int (fun _ _ => rfl)) (pv 2) rfl)))
    (pss_one (ps_ret (pv 1)))), ?_⟩
  obtain ⟨a, us, rfl, sa, da, za⟩ := hv.tup_inv
  obtain ⟨hnd, hlen, _⟩ := ho
  have lus : us.length = fs.length := by rw [da.length, List.length_map]
  intro D hD
  refine ⟨_, rfl, a, rfl, ⟨_, TStay.new (K := K) hD _ _ _ sa⟩, for_tup (K := K) (a := a) (xs := us) (fun i σ H' => ∃ (kvs : List (Key × V)) (z : Option V), σ = [some (.ref a), some (.ref D), z] ∧ H' D = some (.dK kvs) ∧ kvs.map (·.1) = (fs.take i).map (fun f => .inr f.name) ∧ DsAt K H' (kvs.map (·.2)) ((fs.take i).map Fn.dat) ∧ Same H H')
    ⟨[], none, rfl, upd_same, rfl, .nil, same_new hD _⟩ (fun i σ H' _ ⟨_, _, _, _, _, _, s2⟩ => TStay.of s2 _ _ sa) ?_ ?_⟩
  · rintro i x σ H2 hx ⟨kvs, z, rfl, e2, ek, d2, s2⟩
    obtain ⟨d, hd, dx⟩ := da.get' hx
    have hi : i < fs.length := by
      have := (List.getElem?_eq_some_iff.mp hx).1
      omega
    rw [List.getElem?_map, List.getElem?_eq_getElem hi] at hd
    have hd : (fs[i]).dat = d := Option.some.inj hd
    subst hd
    have stp : fs.take (i + 1) = fs.take i ++ [fs[i]] := by
      rw [List.take_add_one, List.getElem?_eq_getElem hi]
      rfl
    have dx2 := dx.mono (TStay.of (K := K) s2)
    obtain ⟨b, u, rfl, sb⟩ := fn_at dx2
    have hk : valV kvs (.inr (fs[i]).name) = none := by
      cases e : valV kvs (.inr (fs[i]).name) with
      | none => rfl
      | some y =>
        exfalso
        unfold valV at e
        rw [Option.map_eq_some_iff] at e
        obtain ⟨p, hp, _⟩ := e
        have h1 := List.mem_of_find?_eq_some hp
        have h2 := List.find?_some hp
        have h2 : p.1 = .inr (fs[i]).name := of_decide_eq_true h2
        have h3 : (Sum.inr (fs[i]).name : Key) ∈ (fs.take i).map (fun f => Sum.inr f.name) := by
          rw [← ek, ← h2]
          exact List.mem_map.mpr ⟨p, h1, rfl⟩
        obtain ⟨f, hf, e3⟩ := List.mem_map.mp h3
        have e3 : f.name = (fs[i]).name := Sum.inr.inj e3
        obtain ⟨j, hj, ej⟩ := List.getElem_of_mem hf
        have hj' : j < i := by
          rw [List.length_take] at hj
          omega
        rw [List.getElem_take] at ej
        have h6 : (fs.map Fn.name)[j]'(by rw [List.length_map]; omega) = (fs.map Fn.name)[i]'(by rw [List.length_map]; omega) := by
          rw [List.getElem_map, List.getElem_map, ej, e3]
        have := (List.getElem_inj hnd).mp h6
        omega
    have lk : kvs.length = i := by
      have := congrArg List.length ek
      rw [List.length_map, List.length_map, List.length_take] at this
      omega
    rw [stp]
    generalize fs[i] = f at dx2 sb hk
    refine ⟨_, rfl, _, rfl, _, rfl, b, _, _, _, rfl, rfl, sb, atI_nat (j := 1) rfl, D, _, rfl, DPut.k (k := .inr f.name) e2 (by rw [lk, sizeLine_eq]; omega), _, _, rfl, upd_same, ?_, ?_, sameUpd s2 hD _⟩
    · rw [putK_new _ hk, List.map_append, List.map_append, ek]
      rfl
    · rw [putK_new _ hk, List.map_append, List.map_append]
      exact (DsAt.append d2 (.cons dx2 .nil)).mono (dkStay e2 _)
  · rintro σ H2 ⟨kvs, z, rfl, e2, ek, d2, s2⟩
    rw [lus, List.take_length] at ek d2
    exact ⟨_, rfl, q H2 D s2 ⟨kvs, e2, ek, d2⟩⟩
def spOpened (K : PySem.W.Frag) : Sp := fun vs H Q _ => ∃ (v : V) (a c : Addr) (b : Tm) (us ws : List V) (as rest : List Tm), vs = [v, .ref a, .ref c] ∧ TAt K H v b ∧ b.high ≤ 6 ∧ b.size ≤ 1000 ∧ SqT K H a us ∧ DsAt K H us (as.map Tm.dat) ∧ SqT K H c ws ∧ DsAt K H ws (rest.map Tm.dat) ∧ as.length ≤ 50000 ∧ rest.length ≤ 50000 ∧ (∀ x ∈ as, x.size ≤ 50000) ∧
  ∀ (H' : Hp) (u : V), Same H H' → TAt K H' u ((b.put (enumP as)).appl rest) → Q u H'
theorem ok_g_opened (T : Txt K mg) : FnOk P w K mg base CX0 7 T.f_g_opened T.fd_g_opened ["body", "values", "rest"] (spOpened K) := by
  have GP : FnOk P w K mg base CX0 6 T.f_g_put T.fd_g_put ["term", "parts"] (spGPutD K 6) := ok_g_put T 6
  refine T.d_g_opened.F.ok sc_g_opened (fun vs H Q E h => ?_) (fun cdv A outer s H vs Q E hr h => ?_)
  · obtain ⟨_, _, _, _, _, _, _, _, rfl, _⟩ := h
    rfl
  obtain ⟨v, a, c, b, us, ws, as, rest, rfl, hv, hh, hs, sa, da, sc, dc, za, zr, hz, q⟩ := h
  have nd := sc_g_opened.nd
  refine ⟨_, pss_cons (ps_set (i := 3) nd rfl (.inl rfl) pe_dnewK)
    (pss_cons (ps_for PassesOwn.never rfl (pi_range1 (by rfl) T.z_range (pa_cons (pe_callB call_len_seq (by rfl) T.z_len PySem.boot_len (pa_cons (pv 1) pa_nil)) pa_nil)) (pg_name (i := 4) nd rfl (.inl rfl))
      (pss_one (ps_dput (hu_of hr) (pv 3) (pv 4) (pe_ix ix_tup (pv 1) (pv 4) (fun _ _ => rfl)) rfl)))
    (pss_cons (ps_set (i := 5) nd rfl (.inl rfl) (pe_call GP hr (by rfl) T.d_g_put.m T.d_g_put.F.kp T.d_g_put.b .nil pass0 (pa_cons (pv 0) (pa_cons (pv 3) pa_nil))))
    (pss_one (ps_ret (pe_tup (pa_cons (pe_ix ix_tup (pv 5) pe_int (fun _ _ => rfl)) (pa_cons (pe_op op_catA (pe_ix ix_tup (pv 5) pe_int (fun _ _ => rfl)) (pv 2)) pa_nil))))))), ?_⟩
  have lus : us.length = as.length := by rw [da.length, List.length_map]
  have lws : ws.length = rest.length := by rw [dc.length, List.length_map]
  intro D hD
  have s0 : Same H (upd H D (.dK [])) := same_new hD _
  refine ⟨_, rfl, a, us, rfl, .inr (TStay.of (K := K) s0 _ _ sa), _, rfl, by omega, by omega, for_range (lo := 0) (n := us.length) (fun i σ H' => ∃ (kvs : List (Key × V)) (z : Option V), σ = [some v, some (.ref a), some (.ref c), some (.ref D), z, none] ∧ H' D = some (.dK kvs) ∧ KvOk K H' kvs ((enumP as).take i) ∧ Same H H')
    ⟨[], none, rfl, upd_same, ⟨rfl, .nil⟩, s0⟩ ?_ ?_⟩
  · rintro i σ H2 hi ⟨kvs, z, rfl, e2, kv2, s2⟩
    have hi2 : i < as.length := by omega
    obtain ⟨y, ey, dy⟩ := (da.mono (TStay.of s2)).get (i := i) (d := (as[i]).dat) (by rw [List.getElem?_map, List.getElem?_eq_getElem hi2]; rfl)
    have stp : (enumP as).take (i + 1) = (enumP as).take i ++ [((i : Int), as[i])] := by
      rw [List.take_add_one, enumP_get hi2]
      rfl
    have hn : valV kvs (.inl (i : Int)) = none := by
      rcases kv2.look (.inl (i : Int)) with ⟨h, _⟩ | ⟨v', u', _, h2, _⟩
      · exact h
      · exfalso
        have e : (((enumP as).take i).find? fun p => decide (p.1 = (i : Int))).map (·.2) = some u' := h2
        cases e2 : ((enumP as).take i).find? fun p => decide (p.1 = (i : Int)) with
        | none =>
          rw [e2] at e
          cases e
        | some p =>
          have hp := List.mem_of_find?_eq_some e2
          have hq := List.find?_some e2
          have hq : p.1 = (i : Int) := of_decide_eq_true hq
          obtain ⟨j, hj, ej⟩ := List.getElem_of_mem hp
          rw [List.length_take] at hj
          rw [List.getElem_take] at ej
          have hj2 : j < as.length := by omega
          have := enumP_get hj2
          rw [List.getElem?_eq_getElem (by rw [enumP_length]; omega), ej] at this
          have h5 : p.1 = (j : Int) := by
            rw [Option.some.inj this]
          omega
    have lk : kvs.length = i := by
      have := congrArg List.length kv2.1
      rw [List.length_map, List.length_map, List.length_take, enumP_length] at this
      omega
    refine ⟨_, rfl, _, rfl, a, _, _, _, rfl, rfl, TStay.of (K := K) s2 _ _ sa, at_of (by omega) ey, _, rfl, _, rfl, D, _, rfl, DPut.k (k := .inl (0 + (i : Int))) e2 (by rw [lk, sizeLine_eq]; omega), ?_⟩
    rw [Int.zero_add]
    refine ⟨_, _, rfl, upd_same, ?_, sameUpd s2 hD _⟩
    rw [stp]
    exact kv_new (kv2.mono (dkStay e2 _)) (dy.mono (dkStay e2 _)) hn
  · rintro σ H2 ⟨kvs, z, rfl, e2, kv2, s2⟩
    rw [List.take_of_length_le (by rw [enumP_length]; omega)] at kv2
    refine ⟨_, rfl, _, rfl, v, D, b, kvs, enumP as, rfl, hv.mono (TStay.of (K := K) s2), hh, by omega, e2, kv2, fun p hp => hz _ (enumP_mem hp), fun H3 u s3 tu => ?_⟩
    have h1 : (b.put (enumP as)).args.length ≤ 50000 + b.args.length := by
      rw [put_eq]
      show ((sub _ b.hd).args ++ Tm.putL _ b.args).length ≤ _
      rw [List.length_append, putL_length]
      have := sub_args (fun p hp => hz _ (enumP_mem hp)) b.hd
      omega
    have h2 := Tm.len_sizeL b.args
    rw [size_args b] at hs
    generalize b.put (enumP as) = r at tu q h1
    obtain ⟨a', b', rs, rfl, sa', sb', dw, zw⟩ := tu.inv
    have lrs : rs.length = r.args.length := by rw [dw.length, List.length_map]
    have s23 := s2.trans s3
    refine ⟨_, rfl, a', _, _, _, rfl, rfl, sa', atI_nat (j := 0) rfl, _, rfl, a', _, _, _, rfl, rfl, sa', atI_nat (j := 1) rfl, _, rfl, ?_⟩
    refine catA_of sb' (TStay.of (K := K) s23 _ _ sc) (by omega) fun H4 c4 s4 e4 => ⟨(by show 2 ≤ sizeLine; decide), fun x hx => q _ _ ((s23.trans s4).trans (same_new hx _)) ?_⟩
    refine TAt.new (k := r.hd) e4 ?_ (by rw [List.length_append]; omega) hx
    rw [List.map_append]
    exact DsAt.append (dw.mono (TStay.of s4)) (dc.mono (TStay.of (s23.trans s4)))
end

/-! ### _law_demand -/
theorem unf_mid {as rest : List Tm} {n m : Nat} (b : Tm) (h1 : 1 ≤ n) (h2 : n ≤ rest.length + 1) (hm : m = as.length) : (b.put (enumP (as ++ rest.take (n - 1)))).appl (rest.drop (n - 1)) = unf b (as ++ rest) (m + n - 1) := by
  subst hm
  unfold unf
  rw [show as.length + n - 1 = as.length + (n - 1) by omega, List.take_append, List.drop_append, List.take_of_length_le (Nat.le_add_right _ _), List.drop_of_length_le (Nat.le_add_right _ _), List.nil_append, show as.length + (n - 1) - as.length = n - 1 by omega]
theorem dem_val {fs : List Fn} {t : Tm} {x : Str} (hk : t.hd = .inr x) (h : getF fs (.inr x) = none ∨ ∃ f, getF fs (.inr x) = some f ∧ t.args.length < f.arity) : dem fs t = .val := by
  have hb : byCs fs t = none := by
    unfold byCs
    rw [hk]
    rcases h with e | ⟨f, e, hl⟩
    · rw [e]
    · rw [e]
      cases f with
      | plain y m b => rfl
      | cases y m rs =>
        show (if m ≤ t.args.length then some (m, rs) else none) = none
        have hl : t.args.length < m := hl
        rw [if_neg (by omega)]
  rw [dem_plain hb]
  unfold dem0
  rw [hk]
  dsimp only
  rcases h with e | ⟨f, e, hl⟩
  · rw [e]
  · rw [e]
    dsimp only
    rw [if_pos hl]
theorem dem_unk {fs : List Fn} {t : Tm} {i : Int} (hk : t.hd = .inl i) : dem fs t = if t.args = [] then .unk i else .stuck i := by
  have hb : byCs fs t = none := by
    unfold byCs
    rw [hk]
    rfl
  rw [dem_plain hb]
  unfold dem0
  rw [hk]
  dsimp only
  by_cases h : t.args = []
  · rw [if_pos h, if_pos h]
  · rw [if_neg h, if_neg h]
theorem dem_pl {fs : List Fn} {t : Tm} {x y : Str} {n : Nat} {b : Tm} (hk : t.hd = .inr x) (e : getF fs (.inr x) = some (.plain y n b)) (hl : ¬ t.args.length < n) : dem fs t = .step (unf b t.args n) := by
  have hb : byCs fs t = none := by
    unfold byCs
    rw [hk, e]
  rw [dem_plain hb]
  unfold dem0
  rw [hk]
  dsimp only
  rw [e]
  dsimp only
  exact if_neg hl
theorem dem_cs {fs : List Fn} {t : Tm} {x y : Str} {n : Nat} {rs : List (Str × Nat × Tm)} (hk : t.hd = .inr x) (e : getF fs (.inr x) = some (.cases y n rs)) (hl : ¬ t.args.length < n) (hne : t.args ≠ []) : dem fs t = byC rs n t (dem fs t.fst) := by
  refine dem_cases ?_ hne
  unfold byCs
  rw [hk, e]
  show (if n ≤ t.args.length then some (n, rs) else none) = _
  rw [if_pos (by omega)]
def spGDem (K : PySem.W.Frag) (n : Nat) : Sp := fun vs H Q _ => ∃ (D : Addr) (v : V) (fs : List Fn) (t : Tm), vs = [.ref D, v] ∧ FsAt K H D fs ∧ PgOk fs ∧ TAt K H v t ∧ t.high ≤ n ∧ t.size ≤ 50000 ∧ ∀ (H' : Hp) (u : V), Same H H' → DAt K H' u (dem fs t).dat → Q u H'
section
variable {P : Program} {w : World} {K : PySem.W.Frag} {mg : Str → Option Value} {base : Heap}
theorem ok_g_demand_step (T : Txt K mg) {m : Nat} (G : FnOk P w K mg base CX0 (m + 7) T.f_g_demand T.fd_g_demand ["functions", "term"] (spGDem K m)) : FnOk P w K mg base CX0 (m + 7 + 1) T.f_g_demand T.fd_g_demand ["functions", "term"] (spGDem K (m + 1)) := by
  have GO : FnOk P w K mg base CX0 7 T.f_g_opened T.fd_g_opened ["body", "values", "rest"] (spOpened K) := ok_g_opened T
  refine T.d_g_demand.F.ok sc_g_demand (fun vs H Q E h => ?_) (fun cdv A outer s H vs Q E hr h => ?_)
  · obtain ⟨_, _, _, _, rfl, _⟩ := h
    rfl
  obtain ⟨D, v, fs, t, rfl, hf, hp, hv, hh, hz, q⟩ := h
  have nd := sc_g_demand.nd
  have hr7 : Room 7 _ := hr.mono (by omega)
  refine ⟨_, pss_cons (ps_set (i := 2) nd rfl (.inl rfl) (pe_ix ix_tup (pv 1) pe_int (fun _ _ => rfl)))
    (pss_cons (ps_if (pt_val (pe_callB call_isi (by rfl) T.z_isinstance (by decide +kernel) (pa_cons (pv 2) (pa_cons (pe_bltn (v := .ty "int") (by rfl) T.z_int (by decide +kernel) rfl) pa_nil))))
      (pss_one (ps_ret (pe_ifExp (pt_cmpR op_gt (pe_callB call_len_seq (by rfl) T.z_len PySem.boot_len (pa_cons (pe_ix ix_tup (pv 1) pe_int (fun _ _ => rfl)) pa_nil)) pe_int (nomark _)) (pe_tup (pa_cons pe_str (pa_cons (pv 2) pa_nil))) (pe_tup (pa_cons pe_str (pa_cons (pv 2) pa_nil))))))
      pss_nil)
    (pss_cons (ps_if (PW.pt (pw_or (pt_cmp (pc_dnotin (hu_of hr) (pv 2) (pv 0))) (pw_or1 (pt_cmpR op_lt (pe_callB call_len_seq (by rfl) T.z_len PySem.boot_len (pa_cons (pe_ix ix_tup (pv 1) pe_int (fun _ _ => rfl)) pa_nil)) (pe_ix ix_tup (pe_dget (hu_of hr) (pv 0) (pv 2) (fun _ _ => rfl)) pe_int (fun _ _ => rfl)) (nomark _)))))
      (pss_one (ps_ret (pe_tup (pa_cons pe_str pa_nil))))
      pss_nil)
    (pss_cons (ps_set (i := 3) nd rfl (.inl rfl) (pe_dget (hu_of hr) (pv 0) (pv 2) (fun _ _ => rfl)))
    (pss_cons (ps_set (i := 4) nd rfl (.inl rfl) (pe_ix ix_tup (pv 3) pe_int (fun _ _ => rfl)))
    (pss_cons (ps_if (pt_cmpR op_eq (pe_ix ix_tup (pv 3) pe_int (fun _ _ => rfl)) pe_str (nomark _))
      (pss_one (ps_ret (pe_tup (pa_cons pe_str (pa_cons (pe_call GO hr7 (by rfl) T.d_g_opened.m T.d_g_opened.F.kp T.d_g_opened.b .nil pass0 (pa_cons (pe_ix ix_tup (pv 3) pe_int (fun _ _ => rfl)) (pa_cons (pe_slice sl_tupA (pe_ix ix_tup (pv 1) pe_int (fun _ _ => rfl)) po_none (po_some (pv 4))) (pa_cons (pe_slice sl_tupA (pe_ix ix_tup (pv 1) pe_int (fun _ _ => rfl)) (po_some (pv 4)) po_none) pa_nil)))) pa_nil)))))
      pss_nil)
    (pss_cons (ps_set (i := 5) nd rfl (.inl rfl) (pe_ix ix_tup (pe_ix ix_tup (pv 1) pe_int (fun _ _ => rfl)) pe_int (fun _ _ => rfl)))
    (pss_cons (ps_set (i := 6) nd rfl (.inl rfl) (pe_call G hr (by rfl) T.d_g_demand.m T.d_g_demand.F.kp T.d_g_demand.b .nil pass0 (pa_cons (pv 0) (pa_cons (pv 5) pa_nil))))
    (pss_cons (ps_if (pt_cmpR op_eq (pe_ix ix_tup (pv 6) pe_int (fun _ _ => rfl)) pe_str (nomark _))
      (pss_one (ps_ret (pe_tup (pa_cons pe_str (pa_cons (pe_tup (pa_cons (pv 2) (pa_cons (pe_op op_catA (pe_tup (pa_cons (pe_ix ix_tup (pv 6) pe_int (fun _ _ => rfl)) pa_nil)) (pe_slice sl_tupA (pe_ix ix_tup (pv 1) pe_int (fun _ _ => rfl)) (po_some pe_int) po_none)) pa_nil))) pa_nil)))))
      pss_nil)
    (pss_cons (ps_if (pt_cmpR op_eq (pe_ix ix_tup (pv 6) pe_int (fun _ _ => rfl)) pe_str (nomark _))
      (pss_one (ps_ret (pe_tup (pa_cons pe_str (pa_cons (pe_ix ix_tup (pv 6) pe_int (fun _ _ => rfl)) (pa_cons (pv 2) pa_nil))))))
      pss_nil)
    (pss_cons (ps_if (pt_cmpR op_ne (pe_ix ix_tup (pv 6) pe_int (fun _ _ => rfl)) pe_str (nomark _))
      (pss_one (ps_ret (pv 6)))
      pss_nil)
    (pss_cons (ps_for PassesOwn.never rfl (pi_tup (pe_ix ix_tup (pv 3) pe_int (fun _ _ => rfl))) (pg_name (i := 7) nd rfl (.inl rfl))
      (pss_one (ps_if (PW.pt (pw_and (pt_cmpR op_eq (pe_ix ix_tup (pv 7) pe_int (fun _ _ => rfl)) (pe_ix ix_tup (pv 5) pe_int (fun _ _ => rfl)) (nomark _)) (pw_and1 (pt_cmpR op_eq (pe_ix ix_tup (pv 7) pe_int (fun _ _ => rfl)) (pe_callB call_len_seq (by rfl) T.z_len PySem.boot_len (pa_cons (pe_ix ix_tup (pv 5) pe_int (fun _ _ => rfl)) pa_nil)) (nomark _)))))
        (pss_one (ps_ret (pe_tup (pa_cons pe_str (pa_cons (pe_call GO hr7 (by rfl) T.d_g_opened.m T.d_g_opened.F.kp T.d_g_opened.b .nil pass0 (pa_cons (pe_ix ix_tup (pv 7) pe_int (fun _ _ => rfl)) (pa_cons (pe_op op_catA (pe_ix ix_tup (pv 5) pe_int (fun _ _ => rfl)) (pe_slice sl_tupA (pe_ix ix_tup (pv 1) pe_int (fun _ _ => rfl)) (po_some pe_int) (po_some (pv 4)))) (pa_cons (pe_slice sl_tupA (pe_ix ix_tup (pv 1) pe_int (fun _ _ => rfl)) (po_some (pv 4)) po_none) pa_nil)))) pa_nil)))))
        pss_nil)))
    (pss_one (ps_ret (pe_tup (pa_cons pe_str pa_nil))))))))))))))), ?_⟩
  have hfo := hp.fs
  obtain ⟨a, b, us, rfl, sa, sb, db, zb⟩ := hv.inv
  have lus : us.length = t.args.length := by rw [db.length, List.length_map]
  obtain ⟨zl, za⟩ := args_size hz
  obtain ⟨o, hg, ho⟩ := hf.get t.hd
  refine ⟨_, rfl, a, _, _, _, rfl, rfl, sa, atI_nat (j := 0) rfl, ?_⟩
  cases hk : t.hd with
  | inl i =>
    rw [dem_unk hk] at q
    refine ⟨_, rfl, _, _, _, _, _, rfl, .ty _, .base (.int _), kit_ty (r := true) (by decide +kernel), _, rfl, iteT ?_⟩
    refine ⟨_, rfl, a, _, _, _, rfl, rfl, sa, atI_nat (j := 1) rfl, b, us, rfl, .inr sb, _, _, rfl, rfl, _, rfl, ite2 (fun hl => ?_) (fun hl => ?_)⟩
    · have h0 : t.args ≠ [] := fun e => by
        have : (0 : Int) < (us.length : Int) := of_decide_eq_true hl
        rw [e] at lus
        rw [lus] at this
        exact absurd this (by decide)
      rw [if_neg h0] at q
      exact ⟨_, rfl, (by show 2 ≤ sizeLine; decide), fun p hp => q _ _ (same_new hp _) (dat2 hp (.key (k := .inl i)))⟩
    · have h0 : t.args = [] := List.eq_nil_of_length_eq_zero (by
        have : ¬ (0 : Int) < (us.length : Int) := fun h => hl (decide_eq_true h)
        omega)
      rw [if_pos h0] at q
      exact ⟨_, rfl, (by show 2 ≤ sizeLine; decide), fun p hp => q _ _ (same_new hp _) (dat2 hp (.key (k := .inl i)))⟩
  | inr x =>
    rw [hk] at hg ho sa
    refine ⟨_, rfl, _, _, _, _, _, rfl, .ty _, .base (.str _), kit_ty (r := false) (by decide +kernel), _, rfl, iteF ?_⟩
    refine ⟨_, rfl, _, rfl, D, o, rfl, hg, _, rfl, ?_⟩
    rcases ho with ⟨rfl, e⟩ | ⟨vf, f, rfl, e, df⟩
    · rw [dem_val hk (.inl e)] at q
      exact iteT ⟨(by show 1 ≤ sizeLine; decide), fun p hp => q _ _ (same_new hp _) (dat1 hp)⟩
    · have hmem := (getF_mem e).1
      have fo := hfo.2.2 f hmem
      have fb := hp.2.2 f hmem
      obtain ⟨c, u, rfl, sc⟩ := fn_at df
      refine iteF ⟨_, rfl, a, _, _, _, rfl, rfl, sa, atI_nat (j := 1) rfl, b, us, rfl, .inr sb, _, rfl, _, rfl, D, _, rfl, hg, c, _, _, _, rfl, rfl, sc, atI_nat (j := 2) rfl, _, _, rfl, rfl, _, rfl, ite2 (fun hlt => ?_) (fun hlt => ?_)⟩
      · have hlt : t.args.length < f.arity := by
          have : (us.length : Int) < (f.arity : Int) := of_decide_eq_true hlt
          omega
        rw [dem_val hk (.inr ⟨f, e, hlt⟩)] at q
        exact ⟨(by show 1 ≤ sizeLine; decide), fun p hp => q _ _ (same_new hp _) (dat1 hp)⟩
      · have hlt : ¬ t.args.length < f.arity := by
          have : ¬ (us.length : Int) < (f.arity : Int) := fun h => hlt (decide_eq_true h)
          omega
        refine ⟨_, rfl, _, rfl, D, _, rfl, hg, _, rfl, c, _, _, _, rfl, rfl, sc, atI_nat (j := 2) rfl, _, rfl, c, _, _, _, rfl, rfl, sc, atI_nat (j := 0) rfl, ?_⟩
        cases f with
        | plain y n bd =>
          have hlt : ¬ t.args.length < n := hlt
          obtain ⟨c', u', ec, sc', tb⟩ := plain_at df
          cases ec
          have hb := fb.bd y n bd rfl
          rw [dem_pl hk e hlt] at q
          refine ⟨rfl, _, rfl, iteT ?_⟩
          refine ⟨_, rfl, c, _, _, _, rfl, rfl, sc', atI_nat (j := 3) rfl, ?_⟩
          refine ⟨_, rfl, a, _, _, _, rfl, rfl, sa, atI_nat (j := 1) rfl, _, rfl, _, rfl, slA_take (n := n) sb rfl (by omega) fun H1 c1 s1 e1 => ?_⟩
          refine ⟨_, rfl, a, _, _, _, rfl, rfl, TStay.of (K := K) s1 _ _ sa, atI_nat (j := 1) rfl, _, rfl, _, rfl, ?_⟩
          refine noPart_of ?_
          refine slA_drop (n := n) (TStay.of (K := K) s1 _ _ sb) rfl (by omega) fun H2 c2 s2 e2 => ?_
          have s12 := s1.trans s2
          refine ⟨u', c1, c2, bd, _, _, t.args.take n, t.args.drop n, rfl, tb.mono (TStay.of (K := K) s12), by have := hb.2.1; omega, by have := hb.1; omega, TStay.of (K := K) s2 _ _ e1, ?_, e2, ?_, by rw [List.length_take]; omega, by rw [List.length_drop]; omega, fun x hx => za x (List.mem_of_mem_take hx), fun H3 u3 s3 t3 => ⟨(by show 2 ≤ sizeLine; decide), fun p hp => q _ _ ((s12.trans s3).trans (same_new hp _)) (dat2 hp t3)⟩⟩
          · rw [List.map_take]
            exact (db.mono (TStay.of s12)).take n
          · rw [List.map_drop]
            exact (db.mono (TStay.of s12)).drop n
        | cases y n rs =>
          have hlt : ¬ t.args.length < n := hlt
          obtain ⟨npos, lrs, _, hrs⟩ := fb.rl y n rs rfl
          obtain ⟨c', d, rus, ec, sc', sd, dd⟩ := cases_at df
          cases ec
          cases ht : t.args with
          | nil =>
            rw [ht] at hlt
            exact absurd (show ([] : List Tm).length < n from npos) hlt
          | cons u0 rest =>
            have hne : t.args ≠ [] := fun z => by rw [ht] at z; cases z
            rw [dem_cs hk e hlt hne] at q
            have hfst : t.fst = u0 := by
              unfold Tm.fst
              rw [ht]
            rw [hfst] at q
            have hhu : u0.high ≤ m := by
              cases t with
              | mk g ts =>
                have ht : ts = u0 :: rest := ht
                rw [Tm.high, ht, Tm.highL] at hh
                omega
            rw [ht] at db hlt lus za zl
            rw [List.map_cons] at db
            rw [List.length_cons] at lus hlt zl
            cases db with
            | @cons v0 _ vr _ d0 dr =>
              have d0 : TAt K H v0 u0 := d0
              have zu0 := za u0 (List.mem_cons_self ..)
              have zrest : ∀ x ∈ rest, x.size ≤ 50000 := fun x hx => za x (List.mem_cons_of_mem _ hx)
              obtain ⟨zl0, za0⟩ := args_size zu0
              have lvr : vr.length = rest.length := by rw [dr.length, List.length_map]
              refine ⟨rfl, _, rfl, iteF ?_⟩
              refine ⟨_, rfl, a, _, _, _, rfl, rfl, sa, atI_nat (j := 1) rfl, b, _, _, _, rfl, rfl, sb, atI_nat (j := 0) rfl, ?_⟩
              refine ⟨_, rfl, _, rfl, D, v0, fs, u0, rfl, hf, hp, d0, hhu, zu0, fun H1 ud s1 dud => ?_⟩
              have hf1 := hf.mono s1
              have sa1 := TStay.of (K := K) s1 _ _ sa
              have sb1 := TStay.of (K := K) s1 _ _ sb
              have sc1 := TStay.of (K := K) s1 _ _ sc'
              have sd1 := TStay.of (K := K) s1 _ _ sd
              have dr1 := dr.mono (TStay.of (K := K) s1)
              have d01 : TAt K H1 v0 u0 := d0.mono (TStay.of (K := K) s1)
              have dd1 := dd.mono (TStay.of (K := K) s1)
              have q : ∀ (H' : Hp) (u : V), Same H1 H' → DAt K H' u (byC rs n t (dem fs u0)).dat → Q u H' := fun H' u s d => q H' u (s1.trans s) d
              have tag : ∀ {y : Str} {ds : List Dt}, DAt K H1 ud (.tup (.key (.inr y) :: ds)) → ∃ c ws, ud = .ref c ∧ SqT K H1 c (.str y :: ws) ∧ DsAt K H1 ws ds := fun h => by
                obtain ⟨c, ws, e, s1, q1, _⟩ := h.tup_inv
                cases q1 with
                | cons q2 q3 =>
                  rw [q2.key_inv] at s1
                  exact ⟨c, _, e, s1, q3⟩
              cases hdm : dem fs u0 with
              | step r =>
                rw [hdm] at dud q
                obtain ⟨g, ws, rfl, s2, q1⟩ := tag dud
                cases q1 with
                | @cons vr1 _ _ _ q2 q3 =>
                  cases q3
                  refine ⟨_, rfl, g, _, _, _, rfl, rfl, s2, atI_nat (j := 0) rfl, rfl, _, rfl, iteT ?_⟩
                  refine ⟨_, rfl, _, rfl, g, _, _, _, rfl, rfl, s2, atI_nat (j := 1) rfl, (by show 1 ≤ sizeLine; decide), fun p hp => ?_⟩
                  have sp := same_new hp (.tup [vr1])
                  refine ⟨_, rfl, a, _, _, _, rfl, rfl, TStay.of (K := K) sp _ _ sa1, atI_nat (j := 1) rfl, _, rfl, ?_⟩
                  refine noPart_of ?_
                  refine slA_drop (n := 1) (TStay.of (K := K) sp _ _ sb1) rfl (by rw [List.length_cons]; omega) fun H2 c1 s3 e1 => ?_
                  refine catA_of (TStay.of (K := K) s3 _ _ (SqT.of upd_same)) e1 (by rw [List.length_drop, List.length_cons]; show 1 + _ ≤ _; omega) fun H3 c2 s4 e2 => ⟨(by show 2 ≤ sizeLine; decide), fun p2 hp2 => ⟨(by show 2 ≤ sizeLine; decide), fun p3 hp3 => ?_⟩⟩
                  have s02 := (sp.trans s3).trans s4
                  refine q _ _ ((s02.trans (same_new hp2 _)).trans (same_new hp3 _)) (dat2 hp3 ?_)
                  rw [hk, ht]
                  refine TAt.new (k := .inr x) e2 ?_ (by rw [List.length_append, List.length_drop, List.length_cons]; show 1 + _ ≤ _; omega) hp2
                  rw [List.map_cons]
                  exact .cons (q2.mono (TStay.of s02)) (dr1.mono (TStay.of s02))
              | unk i =>
                rw [hdm] at dud q
                obtain ⟨g, ws, rfl, s2, q1⟩ := tag dud
                cases q1 with
                | cons q2 q3 =>
                  cases q3
                  rw [q2.key_inv] at s2
                  refine ⟨_, rfl, g, _, _, _, rfl, rfl, s2, atI_nat (j := 0) rfl, rfl, _, rfl, iteF ?_⟩
                  refine ⟨_, rfl, g, _, _, _, rfl, rfl, s2, atI_nat (j := 0) rfl, rfl, _, rfl, iteT ?_⟩
                  refine ⟨_, rfl, g, _, _, _, rfl, rfl, s2, atI_nat (j := 1) rfl, _, rfl, (by show 3 ≤ sizeLine; decide), fun p hp => q _ _ (same_new hp _) ?_⟩
                  have := dat3 (K := K) (H := H1) (x := "needs") (v := .int i) (w := .str x) (d := .key (.inl i)) (e := .key (.inr x)) hp (.key (k := .inl i)) (.key (k := .inr x))
                  show DAt K _ _ (Dem.needs i (keyS t.hd)).dat
                  rw [hk]
                  exact this
              | err =>
                rw [hdm] at dud q
                have dud' := dud
                obtain ⟨g, ws, rfl, s2, q1⟩ := tag dud
                refine ⟨_, rfl, g, _, _, _, rfl, rfl, s2, atI_nat (j := 0) rfl, rfl, _, rfl, iteF ?_⟩
                refine ⟨_, rfl, g, _, _, _, rfl, rfl, s2, atI_nat (j := 0) rfl, rfl, _, rfl, iteF ?_⟩
                refine ⟨_, rfl, g, _, _, _, rfl, rfl, s2, atI_nat (j := 0) rfl, rfl, _, rfl, iteT ?_⟩
                exact ⟨_, rfl, q _ _ (fun _ _ h => h) dud'⟩
              | needs i z =>
                rw [hdm] at dud q
                have dud' := dud
                obtain ⟨g, ws, rfl, s2, q1⟩ := tag dud
                refine ⟨_, rfl, g, _, _, _, rfl, rfl, s2, atI_nat (j := 0) rfl, rfl, _, rfl, iteF ?_⟩
                refine ⟨_, rfl, g, _, _, _, rfl, rfl, s2, atI_nat (j := 0) rfl, rfl, _, rfl, iteF ?_⟩
                refine ⟨_, rfl, g, _, _, _, rfl, rfl, s2, atI_nat (j := 0) rfl, rfl, _, rfl, iteT ?_⟩
                exact ⟨_, rfl, q _ _ (fun _ _ h => h) dud'⟩
              | stuck i =>
                rw [hdm] at dud q
                have dud' := dud
                obtain ⟨g, ws, rfl, s2, q1⟩ := tag dud
                refine ⟨_, rfl, g, _, _, _, rfl, rfl, s2, atI_nat (j := 0) rfl, rfl, _, rfl, iteF ?_⟩
                refine ⟨_, rfl, g, _, _, _, rfl, rfl, s2, atI_nat (j := 0) rfl, rfl, _, rfl, iteF ?_⟩
                refine ⟨_, rfl, g, _, _, _, rfl, rfl, s2, atI_nat (j := 0) rfl, rfl, _, rfl, iteT ?_⟩
                exact ⟨_, rfl, q _ _ (fun _ _ h => h) dud'⟩
              | val =>
                rw [hdm] at dud q
                obtain ⟨g, ws, rfl, s2, q1⟩ := tag dud
                refine ⟨_, rfl, g, _, _, _, rfl, rfl, s2, atI_nat (j := 0) rfl, rfl, _, rfl, iteF ?_⟩
                refine ⟨_, rfl, g, _, _, _, rfl, rfl, s2, atI_nat (j := 0) rfl, rfl, _, rfl, iteF ?_⟩
                refine ⟨_, rfl, g, _, _, _, rfl, rfl, s2, atI_nat (j := 0) rfl, rfl, _, rfl, iteF ?_⟩
                have q : ∀ (H' : Hp) (u : V), Same H1 H' → DAt K H' u (ruleS rs n u0 rest).dat → Q u H' := fun H' u s d => q H' u s (by
                  show DAt K H' u (ruleS rs n t.fst (t.args.drop 1)).dat
                  rw [hfst, ht]
                  exact d)
                obtain ⟨a0, b0, us0, rfl, sa0, sb0, db0, zb0⟩ := d01.inv
                have lus0 : us0.length = u0.args.length := by rw [db0.length, List.length_map]
                have lru : rus.length = rs.length := by rw [dd1.length, List.length_map]
                refine ⟨_, rfl, c, _, _, _, rfl, rfl, sc1, atI_nat (j := 3) rfl, d, rfl, ⟨_, sd1⟩, for_tup (K := K) (a := d) (xs := rus) (fun i σ H' => ∃ z7 : Option V, σ = [some (.ref D), some (.ref a), some (.str x), some (.ref c), some (.int (n : Int)), some (.ref a0), some (.ref g), z7] ∧ H' = H1 ∧ findR (rs.take i) u0 = none)
                  ⟨none, rfl, rfl, rfl⟩ (fun i σ H' _ ⟨_, _, e, _⟩ => by rw [e]; exact sd1) ?_ ?_⟩
                · rintro i x1 σ H' hx ⟨z7, rfl, rfl, hfd⟩
                  obtain ⟨dt, hd, dx⟩ := dd1.get' hx
                  have hi : i < rs.length := by
                    have := (List.getElem?_eq_some_iff.mp hx).1
                    omega
                  rw [List.getElem?_map, List.getElem?_eq_getElem hi] at hd
                  have hd : ruleD rs[i] = dt := Option.some.inj hd
                  subst hd
                  have stp : rs.take (i + 1) = rs.take i ++ [rs[i]] := by
                    rw [List.take_add_one, List.getElem?_eq_getElem hi]
                    rfl
                  have hro := hrs _ (List.getElem_mem hi)
                  have hsplit : rs = rs.take i ++ rs[i] :: rs.drop (i + 1) := by
                    rw [← List.drop_eq_getElem_cons hi, List.take_append_drop]
                  rw [stp]
                  generalize rs[i] = r at dx hro hsplit
                  obtain ⟨ar, ur, rfl, sr, tr⟩ := rule_at dx
                  have fnd : ∀ l : List (Str × Nat × Tm), findR (rs.take i ++ l) u0 = findR l u0 := fun l => by
                    unfold findR at hfd ⊢
                    rw [List.find?_append, hfd, Option.none_or]
                  have hsc : scal (V.str r.1) (kV u0.hd) = true := by cases u0.hd <;> rfl
                  have hek : (V.str r.1 = kV u0.hd) ↔ u0.hd = .inr r.1 := by
                    cases u0.hd with
                    | inl i => exact ⟨fun h => (nomatch h), fun h => (nomatch h)⟩
                    | inr y => exact ⟨fun h => by cases h; rfl, fun h => by cases h; rfl⟩
                  refine ⟨_, rfl, ar, _, _, _, rfl, rfl, sr, atI_nat (j := 0) rfl, _, rfl, a0, _, _, _, rfl, rfl, sa0, atI_nat (j := 0) rfl, hsc, _, rfl, ite2 (fun he => ?_) (fun he => ?_)⟩
                  · have he : u0.hd = .inr r.1 := hek.mp (of_decide_eq_true he)
                    refine ⟨_, rfl, ar, _, _, _, rfl, rfl, sr, atI_nat (j := 1) rfl, _, rfl, a0, _, _, _, rfl, rfl, sa0, atI_nat (j := 1) rfl, b0, us0, rfl, .inr sb0, rfl, _, rfl, ite2 (fun hc => ?_) (fun hc => ?_)⟩
                    · have hc : r.2.1 = u0.args.length := by
                        have := int_of_dec hc
                        omega
                      have hfr : findR rs u0 = some r := by
                        rw [hsplit, fnd]
                        unfold findR
                        rw [List.find?_cons, he, hc, decide_eq_true rfl, decide_eq_true rfl]
                        rfl
                      unfold ruleS at q
                      rw [hfr] at q
                      dsimp only at q
                      rw [← unf_mid r.2.2 npos (by omega) hc] at q
                      refine ⟨_, rfl, ar, _, _, _, rfl, rfl, sr, atI_nat (j := 2) rfl, ?_⟩
                      refine ⟨_, rfl, a0, _, _, _, rfl, rfl, sa0, atI_nat (j := 1) rfl, ?_⟩
                      refine ⟨_, rfl, a, _, _, _, rfl, rfl, sa1, atI_nat (j := 1) rfl, _, rfl, _, rfl, _, rfl, ?_⟩
                      refine slA_of (zs := vr.take (n - 1)) sb1 (cut_mid (a := 1) (b := n) rfl rfl (by rw [List.length_cons]; omega) (by rw [List.length_cons]; omega)) fun H2 c1 s3 e1 => ?_
                      refine catA_of (TStay.of (K := K) s3 _ _ sb0) e1 (by rw [List.length_take]; omega) fun H3 c2 s4 e2 => ?_
                      have s34 := s3.trans s4
                      refine ⟨_, rfl, a, _, _, _, rfl, rfl, TStay.of (K := K) s34 _ _ sa1, atI_nat (j := 1) rfl, _, rfl, _, rfl, ?_⟩
                      refine noPart_of ?_
                      refine slA_drop (n := n) (TStay.of (K := K) s34 _ _ sb1) rfl (by rw [List.length_cons]; omega) fun H4 c3 s5 e3 => ?_
                      have s35 := s34.trans s5
                      have e3 : SqT K H4 c3 (vr.drop (n - 1)) := by
                        have e : (V.ref a0 :: vr).drop n = vr.drop (n - 1) := by
                          cases n with
                          | zero => exact absurd npos (by decide)
                          | succ k => rfl
                        rw [← e]
                        exact e3
                      refine ⟨ur, c2, c3, r.2.2, us0 ++ vr.take (n - 1), vr.drop (n - 1), u0.args ++ rest.take (n - 1), rest.drop (n - 1), rfl, tr.mono (TStay.of (K := K) s35), by have := hro.2.2.2.1; omega, by have := hro.2.2.1; omega, TStay.of (K := K) s5 _ _ e2, ?_, e3, ?_, ?_, by rw [List.length_drop]; omega, ?_, fun H5 u5 s6 t5 => ⟨(by show 2 ≤ sizeLine; decide), fun p hp => q _ _ ((s35.trans s6).trans (same_new hp _)) (dat2 hp t5)⟩⟩
                      · rw [List.map_append, List.map_take]
                        exact DsAt.append (db0.mono (TStay.of s35)) ((dr1.mono (TStay.of s35)).take (n - 1))
                      · rw [List.map_drop]
                        exact (dr1.mono (TStay.of s35)).drop (n - 1)
                      · rw [List.length_append, List.length_take]
                        have h2 := Tm.len_sizeL u0.args
                        have h3 := size_args u0
                        have h4 := size_args t
                        rw [ht, Tm.sizeL] at h4
                        have h5 := Tm.len_sizeL rest
                        omega
                      · intro y hy
                        rcases List.mem_append.mp hy with hy | hy
                        · exact za0 y hy
                        · exact zrest y (List.mem_of_mem_take hy)
                    · refine ⟨_, rfl, rfl, ?_⟩
                      rw [fnd]
                      have hc : ¬ (r.2.1 = u0.args.length) := fun h => int_of_ndec hc (by rw [h, lus0])
                      unfold findR
                      rw [List.find?_cons, decide_eq_false hc, Bool.and_false]
                      rfl
                  · refine ⟨_, rfl, rfl, ?_⟩
                    have he : ¬ (u0.hd = .inr r.1) := fun h => he (decide_eq_true (hek.mpr h))
                    rw [fnd]
                    unfold findR
                    rw [List.find?_cons, decide_eq_false he, Bool.false_and]
                    rfl
                · rintro σ H' ⟨z7, rfl, rfl, hfd⟩
                  rw [lru, List.take_length] at hfd
                  unfold ruleS at q
                  rw [hfd] at q
                  exact ⟨(by show 1 ≤ sizeLine; decide), fun p hp => q _ _ (same_new hp _) (dat1 hp)⟩
theorem ok_g_demand (T : Txt K mg) : ∀ m, FnOk P w K mg base CX0 (m + 7) T.f_g_demand T.fd_g_demand ["functions", "term"] (spGDem K m)
  | 0 => fn_none fun vs H Q E ⟨_, _, _, t, _, _, _, _, h, _⟩ => by
    cases t with
    | mk k ts =>
      rw [Tm.high] at h
      omega
  | m + 1 => ok_g_demand_step T (ok_g_demand T m)
end

/-! ### what a step keeps -/
def DemOk (h : Nat) : Dem → Prop
  | .step u => u.All KOk ∧ u.high ≤ h
  | .needs _ x => KOk (.inr x)
  | _ => True
def HighB (B : Nat) (fs : List Fn) : Prop := (∀ x n b, Fn.plain x n b ∈ fs → b.high ≤ B) ∧ ∀ x n rs, Fn.cases x n rs ∈ fs → ∀ r ∈ rs, r.2.2.high ≤ B
theorem high_args (t : Tm) : t.high = Tm.highL t.args + 1 := by
  cases t with
  | mk k ts => rw [Tm.high]; rfl
theorem highL_le {ts : List Tm} {m : Nat} (h : ∀ x ∈ ts, x.high ≤ m) : Tm.highL ts ≤ m := by
  induction ts with
  | nil => exact Nat.zero_le _
  | cons x r ih =>
    rw [Tm.highL]
    have h1 := h x (List.mem_cons_self ..)
    have h2 := ih fun y hy => h y (List.mem_cons_of_mem _ hy)
    omega
theorem sub_allP {Pr : Key → Prop} {ps : List (Int × Tm)} (h : ∀ p ∈ ps, p.2.All Pr) {k : Key} (hk : Pr k) : (sub ps k).All Pr := by
  unfold sub
  cases e : look ps k with
  | none => exact all_leafP hk
  | some u =>
    obtain ⟨p, hp, rfl⟩ := find_mem e
    exact h p hp
theorem appl_headsP (t : Tm) (as : List Tm) : (t.appl as).heads = t.heads ++ Tm.headsL as := by
  cases t with
  | mk h us =>
    show (Tm.mk h (us ++ as)).heads = _
    rw [Tm.heads, Tm.heads, Tm.headsL_append, List.cons_append]
theorem appl_all {Pr : Key → Prop} {t : Tm} {as : List Tm} (h1 : t.All Pr) (h2 : ∀ x ∈ as, x.All Pr) : (t.appl as).All Pr := by
  intro k hk
  rw [appl_headsP] at hk
  rcases List.mem_append.mp hk with hk | hk
  · exact h1 k hk
  · exact map_set_of h2 k hk
mutual
theorem put_allP {Pr : Key → Prop} {ps : List (Int × Tm)} (h : ∀ p ∈ ps, p.2.All Pr) : ∀ t : Tm, t.All Pr → (t.put ps).All Pr
  | .mk k ts, ht => by
    rw [Tm.put]
    refine appl_all (sub_allP h (ht k (by rw [Tm.heads]; exact List.mem_cons_self ..))) fun x hx => ?_
    exact putL_allP h ts (fun y hy => ht y (by rw [Tm.heads]; exact List.mem_cons_of_mem _ hy)) x hx
theorem putL_allP {Pr : Key → Prop} {ps : List (Int × Tm)} (h : ∀ p ∈ ps, p.2.All Pr) : ∀ ts : List Tm, (∀ k ∈ Tm.headsL ts, Pr k) → ∀ x ∈ Tm.putL ps ts, x.All Pr
  | [], _ => fun x hx => absurd hx List.not_mem_nil
  | t :: r, ht => fun x hx => by
    rw [Tm.putL] at hx
    rcases List.mem_cons.mp hx with rfl | hx
    · exact put_allP h t fun y hy => ht y (by rw [Tm.headsL]; exact List.mem_append_left _ hy)
    · exact putL_allP h r (fun y hy => ht y (by rw [Tm.headsL]; exact List.mem_append_right _ hy)) x hx
end
theorem args_all {Pr : Key → Prop} {t : Tm} (h : t.All Pr) : ∀ x ∈ t.args, x.All Pr := by
  intro x hx k hk
  cases t with
  | mk g ts =>
    refine h k ?_
    rw [Tm.heads]
    exact List.mem_cons_of_mem _ (headsL_sub (a := [x]) (fun y hy => by rw [List.mem_singleton.mp hy]; exact hx) k (by rw [Tm.headsL, Tm.headsL, List.append_nil]; exact hk))
theorem hd_all {Pr : Key → Prop} {t : Tm} (h : t.All Pr) : Pr t.hd := by
  cases t with
  | mk g ts => exact h g (by rw [Tm.heads]; exact List.mem_cons_self ..)
theorem unf_ok {b : Tm} {as : List Tm} {n B m : Nat} (hb : b.All KOk) (hB : b.high ≤ B) (ha : ∀ x ∈ as, x.All KOk ∧ x.high ≤ m) : (unf b as n).All KOk ∧ (unf b as n).high ≤ B + m + 1 := by
  have hp : ∀ p ∈ enumP (as.take n), p.2.All KOk ∧ p.2.high ≤ m + 1 := fun p hp => by
    have := ha _ (List.mem_of_mem_take (enumP_mem hp))
    exact ⟨this.1, by omega⟩
  refine ⟨appl_all (put_allP (fun p h => (hp p h).1) b hb) fun x hx => (ha x (List.mem_of_mem_drop hx)).1, ?_⟩
  have h1 := Tm.put_high (ps := enumP (as.take n)) (m := m + 1) (fun p h => (hp p h).2) (by omega) b
  have h2 := Tm.appl_high (b.put (enumP (as.take n))) (as.drop n)
  have h3 := highL_le (ts := as.drop n) (m := m) fun x hx => (ha x (List.mem_of_mem_drop hx)).2
  unfold unf
  omega
theorem dem_ok {fs : List Fn} {B : Nat} (ho : FsOk fs) (hB : HighB B fs) : ∀ (N : Nat) (t : Tm), t.size ≤ N → t.All KOk → DemOk (t.high + B) (dem fs t)
  | 0, t, h, _ => absurd (Tm.size_pos t) (by omega)
  | N + 1, t, h, ha => by
    have hh := high_args t
    have harg : ∀ x ∈ t.args, x.All KOk ∧ x.high ≤ t.high - 1 := fun x hx => ⟨args_all ha x hx, by have := Tm.high_mem hx; omega⟩
    cases hb : byCs fs t with
    | none =>
      rw [dem_plain hb]
      unfold dem0
      cases hk : t.hd with
      | inl i =>
        dsimp only
        split <;> exact True.intro
      | inr x =>
        dsimp only
        cases e : getF fs (.inr x) with
        | none => exact True.intro
        | some f =>
          dsimp only
          split
          · exact True.intro
          · cases f with
            | cases y n rs => exact True.intro
            | plain y n b =>
              have hm := (getF_mem e).1
              have q := (ho.2.2 _ hm).bd y n b rfl
              have q2 := unf_ok (n := n) q.2 (hB.1 y n b hm) harg
              exact ⟨q2.1, by have := q2.2; omega⟩
    | some nr =>
      obtain ⟨n, rs⟩ := nr
      have hne := byCs_args ho hb
      obtain ⟨y, e, hn⟩ := byCs_inv hb
      have hm := (getF_mem e).1
      have hlt := fst_size hne
      have hfm : t.fst ∈ t.args := by
        unfold Tm.fst
        cases hta : t.args with
        | nil => exact absurd hta hne
        | cons x r => exact List.mem_cons_self ..
      have hf := harg _ hfm
      have ih := dem_ok ho hB N t.fst (by omega) hf.1
      have hdr : ∀ x ∈ t.args.drop 1, x.All KOk ∧ x.high ≤ t.high - 1 := fun x hx => harg x (List.mem_of_mem_drop hx)
      rw [dem_cases hb hne]
      cases hd : dem fs t.fst with
      | step u =>
        rw [hd] at ih
        refine ⟨Tm.All.mk (hd_all ha) fun x hx => ?_, ?_⟩
        · rcases List.mem_cons.mp hx with rfl | hx
          · exact ih.1
          · exact (hdr x hx).1
        · rw [Tm.high, Tm.highL]
          have h2 := highL_le (ts := t.args.drop 1) (m := t.high - 1) fun x hx => (hdr x hx).2
          have := ih.2
          omega
      | unk i =>
        show KOk (.inr (keyS t.hd))
        have hk := (getF_mem e).2
        rw [hk]
        have := hd_all ha
        rw [hk] at this
        exact this
      | val =>
        show DemOk _ (ruleS rs n t.fst (t.args.drop 1))
        unfold ruleS
        cases hr : findR rs t.fst with
        | none => exact True.intro
        | some r =>
          have hrm : r ∈ rs := List.mem_of_find?_eq_some hr
          have q := ((ho.2.2 _ hm).rl y n rs rfl).2 r hrm
          have hfa : ∀ x ∈ t.fst.args, x.All KOk ∧ x.high ≤ t.high - 1 := fun x hx => ⟨args_all hf.1 x hx, by
            have h1 := Tm.high_mem hx
            have h2 := high_args t.fst
            have h3 := hf.2
            omega⟩
          have q2 := unf_ok (b := r.2.2) (as := t.fst.args ++ t.args.drop 1) (n := r.2.1 + n - 1) (B := B) (m := t.high - 1) q.2.2.2 (hB.2 y n rs hm r hrm) fun x hx => by
            rcases List.mem_append.mp hx with hx | hx
            · exact hfa x hx
            · exact hdr x hx
          exact ⟨q2.1, by have := q2.2; omega⟩
      | err => exact True.intro
      | needs i z =>
        rw [hd] at ih
        exact ih
      | stuck i => exact True.intro
theorem PgOk.high {fs : List Fn} (h : PgOk fs) : HighB 4 fs := ⟨fun x n b hm => ((h.2.2 _ hm).bd x n b rfl).2.1, fun x n rs hm r hr => (((h.2.2 _ hm).rl x n rs rfl).2.2.2 r hr).2.2.2.1⟩
theorem dem_shaped {h : Nat} {d : Dem} (ho : DemOk h d) (hh : h ≤ 30) : SeqAt.shaped d.dat.py = true := by
  refine Dt.shaped ?_ ?_
  · cases d with
    | val => simp only [Dem.dat, Dt.Ok, Dt.OkL, and_true]; show PyData.strOk _ = true; decide +kernel
    | err => simp only [Dem.dat, Dt.Ok, Dt.OkL, and_true]; show PyData.strOk _ = true; decide +kernel
    | step u =>
      simp only [Dem.dat, Dt.Ok, Dt.OkL, and_true]
      exact ⟨(by show PyData.strOk _ = true; decide +kernel), Tm.dat_ok u ho.1⟩
    | unk i =>
      simp only [Dem.dat, Dt.Ok, Dt.OkL, and_true]
      exact ⟨(by show PyData.strOk _ = true; decide +kernel), True.intro⟩
    | stuck i =>
      simp only [Dem.dat, Dt.Ok, Dt.OkL, and_true]
      exact ⟨(by show PyData.strOk _ = true; decide +kernel), True.intro⟩
    | needs i x =>
      simp only [Dem.dat, Dt.Ok, Dt.OkL, and_true]
      exact ⟨(by show PyData.strOk _ = true; decide +kernel), True.intro, ho⟩
  · cases d with
    | step u =>
      have h1 := Tm.dat_high u
      have h2 := ho.2
      simp only [Dem.dat, Dt.deep, Dt.deepL]
      omega
    | val => simp only [Dem.dat, Dt.deep, Dt.deepL]; decide
    | err => simp only [Dem.dat, Dt.deep, Dt.deepL]; decide
    | unk i => simp only [Dem.dat, Dt.deep, Dt.deepL]; decide
    | stuck i => simp only [Dem.dat, Dt.deep, Dt.deepL]; decide
    | needs i x => simp only [Dem.dat, Dt.deep, Dt.deepL]; decide
/-! ### the law -/
def spLaw (K : PySem.W.Frag) : Sp := fun vs H Q _ => ∃ (a : Addr) (ns : List Int), vs = [.ref a] ∧ SqL K H a (ns.map V.int) ∧ ns.length ≤ 63 ∧ ∀ H', Q (.bl true) H'
section
variable {P : Program} {w : World} {K : PySem.W.Frag} {mg : Str → Option Value} {base : Heap}
theorem ok_law (T : Txt K mg) : FnOk P w K mg base CX0 20 T.f_law T.fd_law ["script"] (spLaw K) := by
  have GTp : FnOk P w K mg base CX0 1 T.f_g_tape T.fd_g_tape ["script"] (spTape K) := ok_g_tape T
  have GH : FnOk P w K mg base CX0 1 T.f_g_heads T.fd_g_heads [] (spHds K) := ok_g_heads T
  have GT : FnOk P w K mg base CX0 5 T.f_g_term T.fd_g_term ["tape", "heads", "most", "depth"] (spTm K 4) := ok_g_term T 4
  have GP : FnOk P w K mg base CX0 6 T.f_g_program T.fd_g_program ["tape"] (spProg K) := ok_g_program T
  have GF : FnOk P w K mg base CX0 1 T.f_g_functions T.fd_g_functions ["program"] (spByName K) := ok_g_functions T
  have GD : FnOk P w K mg base CX0 8 T.f_demand T.fd_demand ["program", "term"] (spDemand K) := ok_demand T
  have GG : FnOk P w K mg base CX0 13 T.f_g_demand T.fd_g_demand ["functions", "term"] (spGDem K 6) := ok_g_demand T 6
  refine T.d_law.F.ok sc_law (fun vs H Q E h => ?_) (fun cdv A outer s H vs Q E hr h => ?_)
  · obtain ⟨a, ns, rfl, _⟩ := h
    rfl
  obtain ⟨sc, ns, rfl, hS, h63, q⟩ := h
  have nd := sc_law.nd
  have hr1 : Room 1 _ := hr.mono (by decide)
  have hr5 : Room 5 _ := hr.mono (by decide)
  have hr6 : Room 6 _ := hr.mono (by decide)
  have hr8 : Room 8 _ := hr.mono (by decide)
  have hr13 : Room 13 _ := hr.mono (by decide)
  refine ⟨_, pss_cons (ps_set (i := 1) nd rfl (.inl rfl) (pe_call GTp hr1 (by rfl) T.d_g_tape.m T.d_g_tape.F.kp T.d_g_tape.b .nil pass0 (pa_cons (pv 0) pa_nil)))
    (pss_cons (ps_set (i := 2) nd rfl (.inl rfl) (pe_call GP hr6 (by rfl) T.d_g_program.m T.d_g_program.F.kp T.d_g_program.b .nil pass0 (pa_cons (pv 1) pa_nil)))
    (pss_cons (ps_set (i := 3) nd rfl (.inl rfl) (pe_call GF hr1 (by rfl) T.d_g_functions.m T.d_g_functions.F.kp T.d_g_functions.b .nil pass0 (pa_cons (pv 2) pa_nil)))
    (pss_cons (ps_set (i := 4) nd rfl (.inl rfl) (pe_call0 GH hr1 (by rfl) T.d_g_heads.m T.d_g_heads.F.kp T.d_g_heads.b .nil pass0))
    (pss_cons (ps_for PassesOwn.never rfl (pi_range1 (by rfl) T.z_range (pa_cons pe_int pa_nil)) (pg_name (i := 5) nd rfl (.inl rfl))
      (pss_cons (ps_set (i := 6) nd rfl (.inl rfl) (pe_call GT hr5 (by rfl) T.d_g_term.m T.d_g_term.F.kp T.d_g_term.b .nil pass0 (pa_cons (pv 1) (pa_cons (pv 4) (pa_cons pe_int (pa_cons pe_int pa_nil))))))
      (pss_one (ps_if (pt_cmpR (op_neD hr.units) (pe_call GD hr8 (by rfl) T.d_demand.m T.d_demand.F.kp T.d_demand.b .nil pass0 (pa_cons (pv 2) (pa_cons (pv 6) pa_nil))) (pe_call GG hr13 (by rfl) T.d_g_demand.m T.d_g_demand.F.kp T.d_g_demand.b .nil pass0 (pa_cons (pv 3) (pa_cons (pv 6) pa_nil))) (nomark _))
        (pss_one (ps_ret pe_bl))
        pss_nil))))
    (pss_one (ps_ret pe_bl)))))), ?_⟩
  refine ⟨_, rfl, sc, ns, rfl, hS, h63, fun H1 tp n zs s1 t1 => ?_⟩
  refine ⟨_, rfl, tp, n, zs, rfl, t1, fun H2 vp fs k2 t2 dp hp => ?_⟩
  refine ⟨_, rfl, vp, fs, rfl, dp, hp.fs, fun H3 D s3 hD => ?_⟩
  have t3 := t2.go s3
  have dp3 := dp.mono (TStay.of (K := K) s3)
  refine ⟨rfl, fun H4 ha us hs s4 hp0 e4 d4 oh => ?_⟩
  have t4 := t3.go s4
  have h4 : HdsAt K H4 tp ha hs := ⟨⟨us, Scr.of e4 (t3.ne hp0), d4⟩, oh⟩
  have dp4 := dp3.mono (TStay.of (K := K) s4)
  have hD4 := hD.mono s4
  have nDt : D ≠ tp := by
    obtain ⟨kvs, e, _⟩ := hD4
    obtain ⟨⟨a0, sd, et, _⟩, _, _⟩ := t4
    exact ne_of e et (by intro z; cases z)
  refine ⟨3, rfl, by decide, by decide, for_range (lo := 0) (n := 3) (fun i σ H' => ∃ z5 z6 : Option V, σ = [some (.ref sc), some (.ref tp), some vp, some (.ref D), some (.ref ha), z5, z6] ∧ Keep tp H4 H' ∧ TpOk K H' tp n zs)
    ⟨none, none, rfl, Keep.refl _ _, t4⟩ ?_ ?_⟩
  · rintro i σ H5 hi ⟨z5, z6, rfl, k5, t5⟩
    have h5 := h4.keep t4 k5
    refine ⟨_, rfl, _, rfl, tp, ha, n, zs, hs, 3, 3, rfl, t5, h5, by decide, by decide, by decide, fun H6 u t k6 t6 tu au zu gu => ?_⟩
    have k56 := k5.trans k6
    have ts6 := t4.ts k56
    have zu : t.size ≤ 64 := zu
    have dp6 := dp4.mono ts6
    have hD6 : FsAt K H6 D fs := by
      obtain ⟨kvs, e, e1, e2⟩ := hD4
      exact ⟨kvs, k56 _ _ nDt e, e1, e2.mono ts6⟩
    refine ⟨_, rfl, _, rfl, vp, u, fs, t, rfl, dp6, hp.fs, tu, by omega, fun H7 v7 s7 d7 => ?_⟩
    refine ⟨_, rfl, _, rfl, D, u, fs, t, rfl, hD6.mono s7, hp, tu.mono (TStay.of (K := K) s7), by omega, by omega, fun H8 v8 s8 d8 => ?_⟩
    have sh := dem_shaped (dem_ok hp.fs hp.high 64 t zu (LK.all au)) (by omega)
    refine ⟨_, _, (d7.mono (TStay.of s8)).dp, d8.dp, sh, sh, ?_⟩
    rw [(eqv_py _ _).mpr rfl]
    exact ⟨_, rfl, iteF ⟨_, _, rfl, k56.trans (Keep.of (s7.trans s8)), t6.go (s7.trans s8)⟩⟩
  · rintro σ H5 ⟨z5, z6, rfl, k5, t5⟩
    exact q _
end

theorem all_mk {l : PySem.W.OpenLaw} {w : World} {K : PySem.W.Frag} {h : Heap} {mg : Str → Option Value} {fa : Addr} (X : K.In h) (G : h.Ns mainGlobals mg) (hfa : mg "law" = some (.ref fa))
    {f0 : Addr} {od0 an0 : Option Addr} {sl0 : Array (Option Value)} {oc0 kV0 dc0 pm0 cd0 ct0 : Value}
    (a0 : PySem.W.nsIn K mainGlobals "places" = some (some (.ref f0))) (l0 : K.lookup f0 = some ⟨oc0, od0, .func (PySem.W.fnOf "places" "places" (defArgs s_places) (defBody s_places) (defScope s_places) .none kV0 dc0 pm0 an0 cd0 ct0), sl0⟩) (c0 : PySem.W.codeIn K cd0 "places" = true) (k0 : PySem.W.keepIn K (.ref f0) = true)
    {f1 : Addr} {od1 an1 : Option Addr} {sl1 : Array (Option Value)} {oc1 kV1 dc1 pm1 cd1 ct1 : Value}
    (a1 : PySem.W.nsIn K mainGlobals "assembled" = some (some (.ref f1))) (l1 : K.lookup f1 = some ⟨oc1, od1, .func (PySem.W.fnOf "assembled" "assembled" (defArgs s_assembled) (defBody s_assembled) (defScope s_assembled) .none kV1 dc1 pm1 an1 cd1 ct1), sl1⟩) (c1 : PySem.W.codeIn K cd1 "assembled" = true) (k1 : PySem.W.keepIn K (.ref f1) = true)
    {f2 : Addr} {od2 an2 : Option Addr} {sl2 : Array (Option Value)} {oc2 kV2 dc2 pm2 cd2 ct2 : Value}
    (a2 : PySem.W.nsIn K mainGlobals "applied" = some (some (.ref f2))) (l2 : K.lookup f2 = some ⟨oc2, od2, .func (PySem.W.fnOf "applied" "applied" (defArgs s_applied) (defBody s_applied) (defScope s_applied) .none kV2 dc2 pm2 an2 cd2 ct2), sl2⟩) (c2 : PySem.W.codeIn K cd2 "applied" = true) (k2 : PySem.W.keepIn K (.ref f2) = true)
    {f3 : Addr} {od3 an3 : Option Addr} {sl3 : Array (Option Value)} {oc3 kV3 dc3 pm3 cd3 ct3 : Value}
    (a3 : PySem.W.nsIn K mainGlobals "put" = some (some (.ref f3))) (l3 : K.lookup f3 = some ⟨oc3, od3, .func (PySem.W.fnOf "put" "put" (defArgs s_put) (defBody s_put) (defScope s_put) .none kV3 dc3 pm3 an3 cd3 ct3), sl3⟩) (c3 : PySem.W.codeIn K cd3 "put" = true) (k3 : PySem.W.keepIn K (.ref f3) = true)
    {f4 : Addr} {od4 an4 : Option Addr} {sl4 : Array (Option Value)} {oc4 kV4 dc4 pm4 cd4 ct4 : Value}
    (a4 : PySem.W.nsIn K mainGlobals "by_name" = some (some (.ref f4))) (l4 : K.lookup f4 = some ⟨oc4, od4, .func (PySem.W.fnOf "by_name" "by_name" (defArgs s_by_name) (defBody s_by_name) (defScope s_by_name) .none kV4 dc4 pm4 an4 cd4 ct4), sl4⟩) (c4 : PySem.W.codeIn K cd4 "by_name" = true) (k4 : PySem.W.keepIn K (.ref f4) = true)
    {f5 : Addr} {od5 an5 : Option Addr} {sl5 : Array (Option Value)} {oc5 kV5 dc5 pm5 cd5 ct5 : Value}
    (a5 : PySem.W.nsIn K mainGlobals "demand" = some (some (.ref f5))) (l5 : K.lookup f5 = some ⟨oc5, od5, .func (PySem.W.fnOf "demand" "demand" (defArgs s_demand) (defBody s_demand) (defScope s_demand) .none kV5 dc5 pm5 an5 cd5 ct5), sl5⟩) (c5 : PySem.W.codeIn K cd5 "demand" = true) (k5 : PySem.W.keepIn K (.ref f5) = true)
    {f6 : Addr} {od6 an6 : Option Addr} {sl6 : Array (Option Value)} {oc6 kV6 dc6 pm6 cd6 ct6 : Value}
    (a6 : PySem.W.nsIn K mainGlobals "demand_of" = some (some (.ref f6))) (l6 : K.lookup f6 = some ⟨oc6, od6, .func (PySem.W.fnOf "demand_of" "demand_of" (defArgs s_demand_of) (defBody s_demand_of) (defScope s_demand_of) .none kV6 dc6 pm6 an6 cd6 ct6), sl6⟩) (c6 : PySem.W.codeIn K cd6 "demand_of" = true) (k6 : PySem.W.keepIn K (.ref f6) = true)
    {f7 : Addr} {od7 an7 : Option Addr} {sl7 : Array (Option Value)} {oc7 kV7 dc7 pm7 cd7 ct7 : Value}
    (a7 : PySem.W.nsIn K mainGlobals "is_by_cases" = some (some (.ref f7))) (l7 : K.lookup f7 = some ⟨oc7, od7, .func (PySem.W.fnOf "is_by_cases" "is_by_cases" (defArgs s_is_by_cases) (defBody s_is_by_cases) (defScope s_is_by_cases) .none kV7 dc7 pm7 an7 cd7 ct7), sl7⟩) (c7 : PySem.W.codeIn K cd7 "is_by_cases" = true) (k7 : PySem.W.keepIn K (.ref f7) = true)
    {f8 : Addr} {od8 an8 : Option Addr} {sl8 : Array (Option Value)} {oc8 kV8 dc8 pm8 cd8 ct8 : Value}
    (a8 : PySem.W.nsIn K mainGlobals "demand_at_once" = some (some (.ref f8))) (l8 : K.lookup f8 = some ⟨oc8, od8, .func (PySem.W.fnOf "demand_at_once" "demand_at_once" (defArgs s_demand_at_once) (defBody s_demand_at_once) (defScope s_demand_at_once) .none kV8 dc8 pm8 an8 cd8 ct8), sl8⟩) (c8 : PySem.W.codeIn K cd8 "demand_at_once" = true) (k8 : PySem.W.keepIn K (.ref f8) = true)
    {f9 : Addr} {od9 an9 : Option Addr} {sl9 : Array (Option Value)} {oc9 kV9 dc9 pm9 cd9 ct9 : Value}
    (a9 : PySem.W.nsIn K mainGlobals "demand_by_cases" = some (some (.ref f9))) (l9 : K.lookup f9 = some ⟨oc9, od9, .func (PySem.W.fnOf "demand_by_cases" "demand_by_cases" (defArgs s_demand_by_cases) (defBody s_demand_by_cases) (defScope s_demand_by_cases) .none kV9 dc9 pm9 an9 cd9 ct9), sl9⟩) (c9 : PySem.W.codeIn K cd9 "demand_by_cases" = true) (k9 : PySem.W.keepIn K (.ref f9) = true)
    {f10 : Addr} {od10 an10 : Option Addr} {sl10 : Array (Option Value)} {oc10 kV10 dc10 pm10 cd10 ct10 : Value}
    (a10 : PySem.W.nsIn K mainGlobals "demand_of_rules" = some (some (.ref f10))) (l10 : K.lookup f10 = some ⟨oc10, od10, .func (PySem.W.fnOf "demand_of_rules" "demand_of_rules" (defArgs s_demand_of_rules) (defBody s_demand_of_rules) (defScope s_demand_of_rules) .none kV10 dc10 pm10 an10 cd10 ct10), sl10⟩) (c10 : PySem.W.codeIn K cd10 "demand_of_rules" = true) (k10 : PySem.W.keepIn K (.ref f10) = true)
    {f11 : Addr} {od11 an11 : Option Addr} {sl11 : Array (Option Value)} {oc11 kV11 dc11 pm11 cd11 ct11 : Value}
    (a11 : PySem.W.nsIn K mainGlobals "unfolded" = some (some (.ref f11))) (l11 : K.lookup f11 = some ⟨oc11, od11, .func (PySem.W.fnOf "unfolded" "unfolded" (defArgs s_unfolded) (defBody s_unfolded) (defScope s_unfolded) .none kV11 dc11 pm11 an11 cd11 ct11), sl11⟩) (c11 : PySem.W.codeIn K cd11 "unfolded" = true) (k11 : PySem.W.keepIn K (.ref f11) = true)
    {f12 : Addr} {od12 an12 : Option Addr} {sl12 : Array (Option Value)} {oc12 kV12 dc12 pm12 cd12 ct12 : Value}
    (a12 : PySem.W.nsIn K mainGlobals "_law_tape" = some (some (.ref f12))) (l12 : K.lookup f12 = some ⟨oc12, od12, .func (PySem.W.fnOf "_law_tape" "_law_tape" (defArgs s_g_tape) (defBody s_g_tape) (defScope s_g_tape) .none kV12 dc12 pm12 an12 cd12 ct12), sl12⟩) (c12 : PySem.W.codeIn K cd12 "_law_tape" = true) (k12 : PySem.W.keepIn K (.ref f12) = true)
    {f13 : Addr} {od13 an13 : Option Addr} {sl13 : Array (Option Value)} {oc13 kV13 dc13 pm13 cd13 ct13 : Value}
    (a13 : PySem.W.nsIn K mainGlobals "_law_next" = some (some (.ref f13))) (l13 : K.lookup f13 = some ⟨oc13, od13, .func (PySem.W.fnOf "_law_next" "_law_next" (defArgs s_g_next) (defBody s_g_next) (defScope s_g_next) .none kV13 dc13 pm13 an13 cd13 ct13), sl13⟩) (c13 : PySem.W.codeIn K cd13 "_law_next" = true) (k13 : PySem.W.keepIn K (.ref f13) = true)
    {f14 : Addr} {od14 an14 : Option Addr} {sl14 : Array (Option Value)} {oc14 kV14 dc14 pm14 cd14 ct14 : Value}
    (a14 : PySem.W.nsIn K mainGlobals "_law_term" = some (some (.ref f14))) (l14 : K.lookup f14 = some ⟨oc14, od14, .func (PySem.W.fnOf "_law_term" "_law_term" (defArgs s_g_term) (defBody s_g_term) (defScope s_g_term) .none kV14 dc14 pm14 an14 cd14 ct14), sl14⟩) (c14 : PySem.W.codeIn K cd14 "_law_term" = true) (k14 : PySem.W.keepIn K (.ref f14) = true)
    {f15 : Addr} {od15 an15 : Option Addr} {sl15 : Array (Option Value)} {oc15 kV15 dc15 pm15 cd15 ct15 : Value}
    (a15 : PySem.W.nsIn K mainGlobals "_law_heads" = some (some (.ref f15))) (l15 : K.lookup f15 = some ⟨oc15, od15, .func (PySem.W.fnOf "_law_heads" "_law_heads" (defArgs s_g_heads) (defBody s_g_heads) (defScope s_g_heads) .none kV15 dc15 pm15 an15 cd15 ct15), sl15⟩) (c15 : PySem.W.codeIn K cd15 "_law_heads" = true) (k15 : PySem.W.keepIn K (.ref f15) = true)
    {f16 : Addr} {od16 an16 : Option Addr} {sl16 : Array (Option Value)} {oc16 kV16 dc16 pm16 cd16 ct16 : Value}
    (a16 : PySem.W.nsIn K mainGlobals "_law_program" = some (some (.ref f16))) (l16 : K.lookup f16 = some ⟨oc16, od16, .func (PySem.W.fnOf "_law_program" "_law_program" (defArgs s_g_program) (defBody s_g_program) (defScope s_g_program) .none kV16 dc16 pm16 an16 cd16 ct16), sl16⟩) (c16 : PySem.W.codeIn K cd16 "_law_program" = true) (k16 : PySem.W.keepIn K (.ref f16) = true)
    {f17 : Addr} {od17 an17 : Option Addr} {sl17 : Array (Option Value)} {oc17 kV17 dc17 pm17 cd17 ct17 : Value}
    (a17 : PySem.W.nsIn K mainGlobals "_law_put" = some (some (.ref f17))) (l17 : K.lookup f17 = some ⟨oc17, od17, .func (PySem.W.fnOf "_law_put" "_law_put" (defArgs s_g_put) (defBody s_g_put) (defScope s_g_put) .none kV17 dc17 pm17 an17 cd17 ct17), sl17⟩) (c17 : PySem.W.codeIn K cd17 "_law_put" = true) (k17 : PySem.W.keepIn K (.ref f17) = true)
    {f18 : Addr} {od18 an18 : Option Addr} {sl18 : Array (Option Value)} {oc18 kV18 dc18 pm18 cd18 ct18 : Value}
    (a18 : PySem.W.nsIn K mainGlobals "_law_functions" = some (some (.ref f18))) (l18 : K.lookup f18 = some ⟨oc18, od18, .func (PySem.W.fnOf "_law_functions" "_law_functions" (defArgs s_g_functions) (defBody s_g_functions) (defScope s_g_functions) .none kV18 dc18 pm18 an18 cd18 ct18), sl18⟩) (c18 : PySem.W.codeIn K cd18 "_law_functions" = true) (k18 : PySem.W.keepIn K (.ref f18) = true)
    {f19 : Addr} {od19 an19 : Option Addr} {sl19 : Array (Option Value)} {oc19 kV19 dc19 pm19 cd19 ct19 : Value}
    (a19 : PySem.W.nsIn K mainGlobals "_law_opened" = some (some (.ref f19))) (l19 : K.lookup f19 = some ⟨oc19, od19, .func (PySem.W.fnOf "_law_opened" "_law_opened" (defArgs s_g_opened) (defBody s_g_opened) (defScope s_g_opened) .none kV19 dc19 pm19 an19 cd19 ct19), sl19⟩) (c19 : PySem.W.codeIn K cd19 "_law_opened" = true) (k19 : PySem.W.keepIn K (.ref f19) = true)
    {f20 : Addr} {od20 an20 : Option Addr} {sl20 : Array (Option Value)} {oc20 kV20 dc20 pm20 cd20 ct20 : Value}
    (a20 : PySem.W.nsIn K mainGlobals "_law_demand" = some (some (.ref f20))) (l20 : K.lookup f20 = some ⟨oc20, od20, .func (PySem.W.fnOf "_law_demand" "_law_demand" (defArgs s_g_demand) (defBody s_g_demand) (defScope s_g_demand) .none kV20 dc20 pm20 an20 cd20 ct20), sl20⟩) (c20 : PySem.W.codeIn K cd20 "_law_demand" = true) (k20 : PySem.W.keepIn K (.ref f20) = true)
    {f21 : Addr} {od21 an21 : Option Addr} {sl21 : Array (Option Value)} {oc21 kV21 dc21 pm21 cd21 ct21 : Value}
    (a21 : PySem.W.nsIn K mainGlobals "law" = some (some (.ref f21))) (l21 : K.lookup f21 = some ⟨oc21, od21, .func (PySem.W.fnOf "law" "law" (defArgs s_law) (defBody s_law) (defScope s_law) .none kV21 dc21 pm21 an21 cd21 ct21), sl21⟩) (c21 : PySem.W.codeIn K cd21 "law" = true) (k21 : PySem.W.keepIn K (.ref f21) = true)
    (z_len : PySem.W.nsIn K mainGlobals "len" = some none)
    (z_tuple : PySem.W.nsIn K mainGlobals "tuple" = some none)
    (z_isinstance : PySem.W.nsIn K mainGlobals "isinstance" = some none)
    (z_int : PySem.W.nsIn K mainGlobals "int" = some none)
    (z_abs : PySem.W.nsIn K mainGlobals "abs" = some none)
    (z_range : PySem.W.nsIn K mainGlobals "range" = some none)
    (z_list : PySem.W.nsIn K mainGlobals "list" = some none)
    (z_reversed : PySem.W.nsIn K mainGlobals "reversed" = some none)
    (z_enumerate : PySem.W.nsIn K mainGlobals "enumerate" = some none)
    : ∃ fd : FuncData, (∀ (s : Shared) (v : Value), BindsTo s fd ⟨[v], []⟩ [("script", v)]) ∧ ∀ base : Heap, K.In base → base.Ns mainGlobals mg → FnOk l.prog w K mg base CX0 20 fa fd ["script"] (spLaw K) := by
  have e := hfa.symm.trans (PySem.W.mg_of X G a21)
  cases e
  have F0 := fun_mk (st := s_places) l0 c0 k0
  have b0 := F0.binds (ps := ["term"]) fun _ _ _ _ _ _ us hl => match us, hl with | [_], _ => rfl
  have F1 := fun_mk (st := s_assembled) l1 c1 k1
  have b1 := F1.binds (ps := ["rows"]) fun _ _ _ _ _ _ us hl => match us, hl with | [_], _ => rfl
  have F2 := fun_mk (st := s_applied) l2 c2 k2
  have b2 := F2.binds (ps := ["term", "arguments"]) fun _ _ _ _ _ _ us hl => match us, hl with | [_, _], _ => rfl
  have F3 := fun_mk (st := s_put) l3 c3 k3
  have b3 := F3.binds (ps := ["term", "parts"]) fun _ _ _ _ _ _ us hl => match us, hl with | [_, _], _ => rfl
  have F4 := fun_mk (st := s_by_name) l4 c4 k4
  have b4 := F4.binds (ps := ["program"]) fun _ _ _ _ _ _ us hl => match us, hl with | [_], _ => rfl
  have F5 := fun_mk (st := s_demand) l5 c5 k5
  have b5 := F5.binds (ps := ["program", "term"]) fun _ _ _ _ _ _ us hl => match us, hl with | [_, _], _ => rfl
  have F6 := fun_mk (st := s_demand_of) l6 c6 k6
  have b6 := F6.binds (ps := ["functions", "term"]) fun _ _ _ _ _ _ us hl => match us, hl with | [_, _], _ => rfl
  have F7 := fun_mk (st := s_is_by_cases) l7 c7 k7
  have b7 := F7.binds (ps := ["functions", "term"]) fun _ _ _ _ _ _ us hl => match us, hl with | [_, _], _ => rfl
  have F8 := fun_mk (st := s_demand_at_once) l8 c8 k8
  have b8 := F8.binds (ps := ["functions", "term"]) fun _ _ _ _ _ _ us hl => match us, hl with | [_, _], _ => rfl
  have F9 := fun_mk (st := s_demand_by_cases) l9 c9 k9
  have b9 := F9.binds (ps := ["function", "term", "found"]) fun _ _ _ _ _ _ us hl => match us, hl with | [_, _, _], _ => rfl
  have F10 := fun_mk (st := s_demand_of_rules) l10 c10 k10
  have b10 := F10.binds (ps := ["function", "term"]) fun _ _ _ _ _ _ us hl => match us, hl with | [_, _], _ => rfl
  have F11 := fun_mk (st := s_unfolded) l11 c11 k11
  have b11 := F11.binds (ps := ["body", "arguments", "count"]) fun _ _ _ _ _ _ us hl => match us, hl with | [_, _, _], _ => rfl
  have F12 := fun_mk (st := s_g_tape) l12 c12 k12
  have b12 := F12.binds (ps := ["script"]) fun _ _ _ _ _ _ us hl => match us, hl with | [_], _ => rfl
  have F13 := fun_mk (st := s_g_next) l13 c13 k13
  have b13 := F13.binds (ps := ["tape", "many"]) fun _ _ _ _ _ _ us hl => match us, hl with | [_, _], _ => rfl
  have F14 := fun_mk (st := s_g_term) l14 c14 k14
  have b14 := F14.binds (ps := ["tape", "heads", "most", "depth"]) fun _ _ _ _ _ _ us hl => match us, hl with | [_, _, _, _], _ => rfl
  have F15 := fun_mk (st := s_g_heads) l15 c15 k15
  have b15 := F15.binds (ps := []) fun _ _ _ _ _ _ us hl => match us, hl with | [], _ => rfl
  have F16 := fun_mk (st := s_g_program) l16 c16 k16
  have b16 := F16.binds (ps := ["tape"]) fun _ _ _ _ _ _ us hl => match us, hl with | [_], _ => rfl
  have F17 := fun_mk (st := s_g_put) l17 c17 k17
  have b17 := F17.binds (ps := ["term", "parts"]) fun _ _ _ _ _ _ us hl => match us, hl with | [_, _], _ => rfl
  have F18 := fun_mk (st := s_g_functions) l18 c18 k18
  have b18 := F18.binds (ps := ["program"]) fun _ _ _ _ _ _ us hl => match us, hl with | [_], _ => rfl
  have F19 := fun_mk (st := s_g_opened) l19 c19 k19
  have b19 := F19.binds (ps := ["body", "values", "rest"]) fun _ _ _ _ _ _ us hl => match us, hl with | [_, _, _], _ => rfl
  have F20 := fun_mk (st := s_g_demand) l20 c20 k20
  have b20 := F20.binds (ps := ["functions", "term"]) fun _ _ _ _ _ _ us hl => match us, hl with | [_, _], _ => rfl
  have F21 := fun_mk (st := s_law) l21 c21 k21
  have b21 := F21.binds (ps := ["script"]) fun _ _ _ _ _ _ us hl => match us, hl with | [_], _ => rfl
  let T : Txt K mg := { f_places := f0, fd_places := _, d_places := ⟨F0, b0, PySem.W.mg_of X G a0⟩, f_assembled := f1, fd_assembled := _, d_assembled := ⟨F1, b1, PySem.W.mg_of X G a1⟩, f_applied := f2, fd_applied := _, d_applied := ⟨F2, b2, PySem.W.mg_of X G a2⟩, f_put := f3, fd_put := _, d_put := ⟨F3, b3, PySem.W.mg_of X G a3⟩, f_by_name := f4, fd_by_name := _, d_by_name := ⟨F4, b4, PySem.W.mg_of X G a4⟩, f_demand := f5, fd_demand := _, d_demand := ⟨F5, b5, PySem.W.mg_of X G a5⟩, f_demand_of := f6, fd_demand_of := _, d_demand_of := ⟨F6, b6, PySem.W.mg_of X G a6⟩, f_is_by_cases := f7, fd_is_by_cases := _, d_is_by_cases := ⟨F7, b7, PySem.W.mg_of X G a7⟩, f_demand_at_once := f8, fd_demand_at_once := _, d_demand_at_once := ⟨F8, b8, PySem.W.mg_of X G a8⟩, f_demand_by_cases := f9, fd_demand_by_cases := _, d_demand_by_cases := ⟨F9, b9, PySem.W.mg_of X G a9⟩, f_demand_of_rules := f10, fd_demand_of_rules := _, d_demand_of_rules := ⟨F10, b10, PySem.W.mg_of X G a10⟩, f_unfolded := f11, fd_unfolded := _, d_unfolded := ⟨F11, b11, PySem.W.mg_of X G a11⟩, f_g_tape := f12, fd_g_tape := _, d_g_tape := ⟨F12, b12, PySem.W.mg_of X G a12⟩, f_g_next := f13, fd_g_next := _, d_g_next := ⟨F13, b13, PySem.W.mg_of X G a13⟩, f_g_term := f14, fd_g_term := _, d_g_term := ⟨F14, b14, PySem.W.mg_of X G a14⟩, f_g_heads := f15, fd_g_heads := _, d_g_heads := ⟨F15, b15, PySem.W.mg_of X G a15⟩, f_g_program := f16, fd_g_program := _, d_g_program := ⟨F16, b16, PySem.W.mg_of X G a16⟩, f_g_put := f17, fd_g_put := _, d_g_put := ⟨F17, b17, PySem.W.mg_of X G a17⟩, f_g_functions := f18, fd_g_functions := _, d_g_functions := ⟨F18, b18, PySem.W.mg_of X G a18⟩, f_g_opened := f19, fd_g_opened := _, d_g_opened := ⟨F19, b19, PySem.W.mg_of X G a19⟩, f_g_demand := f20, fd_g_demand := _, d_g_demand := ⟨F20, b20, PySem.W.mg_of X G a20⟩, f_law := fa, fd_law := _, d_law := ⟨F21, b21, PySem.W.mg_of X G a21⟩, z_len := PySem.W.mg_none_of X G z_len, z_tuple := PySem.W.mg_none_of X G z_tuple, z_isinstance := PySem.W.mg_none_of X G z_isinstance, z_int := PySem.W.mg_none_of X G z_int, z_abs := PySem.W.mg_none_of X G z_abs, z_range := PySem.W.mg_none_of X G z_range, z_list := PySem.W.mg_none_of X G z_list, z_reversed := PySem.W.mg_none_of X G z_reversed, z_enumerate := PySem.W.mg_none_of X G z_enumerate }
  exact ⟨T.fd_law, fun s v => .of_eq rfl, fun base _ _ => ok_law T⟩
end DF
open PySem PySem.W PyProof.Rows in
set_option maxRecDepth 100000 in
set_option maxHeartbeats 0 in
theorem PySem.Challenge.cw_drivefold_k14_demands_holds : PySem.Challenge.rw_drivefold_k14_demands.Holds := by
  w_on; o_law; k_head; (case hw => w_witness2)
  k_fill
  refine L2.walk_of (l := PySem.Challenge.rw_drivefold_k14_demands) (n := 63) (k := 20) (x := "script") (CX := fun _ => L2.CX0) (sp := fun w => DF.spLaw _) rfl (by decide) rfl ⟨rfl, by decide, by decide⟩ (fun w h Y => PySem.W.kIn_of Y) ?F (fun _ _ a ns hl _ hS => ⟨a, ns, rfl, hS, hl, fun _ => rfl⟩) (fun _ _ _ _ _ h => h)
  case F =>
    intro w mg fa h KX G hmg
    refine' DF.all_mk KX G hmg ?a0 ?l0 ?c0 ?k0 ?a1 ?l1 ?c1 ?k1 ?a2 ?l2 ?c2 ?k2 ?a3 ?l3 ?c3 ?k3 ?a4 ?l4 ?c4 ?k4 ?a5 ?l5 ?c5 ?k5 ?a6 ?l6 ?c6 ?k6 ?a7 ?l7 ?c7 ?k7 ?a8 ?l8 ?c8 ?k8 ?a9 ?l9 ?c9 ?k9 ?a10 ?l10 ?c10 ?k10 ?a11 ?l11 ?c11 ?k11 ?a12 ?l12 ?c12 ?k12 ?a13 ?l13 ?c13 ?k13 ?a14 ?l14 ?c14 ?k14 ?a15 ?l15 ?c15 ?k15 ?a16 ?l16 ?c16 ?k16 ?a17 ?l17 ?c17 ?k17 ?a18 ?l18 ?c18 ?k18 ?a19 ?l19 ?c19 ?k19 ?a20 ?l20 ?c20 ?k20 ?a21 ?l21 ?c21 ?k21 ?z_len ?z_tuple ?z_isinstance ?z_int ?z_abs ?z_range ?z_list ?z_reversed ?z_enumerate
    (case a0 => k_is)
    (case l0 => k_is)
    (case c0 => k_is)
    (case k0 => k_is)
    (case a1 => k_is)
    (case l1 => k_is)
    (case c1 => k_is)
    (case k1 => k_is)
    (case a2 => k_is)
    (case l2 => k_is)
    (case c2 => k_is)
    (case k2 => k_is)
    (case a3 => k_is)
    (case l3 => k_is)
    (case c3 => k_is)
    (case k3 => k_is)
    (case a4 => k_is)
    (case l4 => k_is)
    (case c4 => k_is)
    (case k4 => k_is)
    (case a5 => k_is)
    (case l5 => k_is)
    (case c5 => k_is)
    (case k5 => k_is)
    (case a6 => k_is)
    (case l6 => k_is)
    (case c6 => k_is)
    (case k6 => k_is)
    (case a7 => k_is)
    (case l7 => k_is)
    (case c7 => k_is)
    (case k7 => k_is)
    (case a8 => k_is)
    (case l8 => k_is)
    (case c8 => k_is)
    (case k8 => k_is)
    (case a9 => k_is)
    (case l9 => k_is)
    (case c9 => k_is)
    (case k9 => k_is)
    (case a10 => k_is)
    (case l10 => k_is)
    (case c10 => k_is)
    (case k10 => k_is)
    (case a11 => k_is)
    (case l11 => k_is)
    (case c11 => k_is)
    (case k11 => k_is)
    (case a12 => k_is)
    (case l12 => k_is)
    (case c12 => k_is)
    (case k12 => k_is)
    (case a13 => k_is)
    (case l13 => k_is)
    (case c13 => k_is)
    (case k13 => k_is)
    (case a14 => k_is)
    (case l14 => k_is)
    (case c14 => k_is)
    (case k14 => k_is)
    (case a15 => k_is)
    (case l15 => k_is)
    (case c15 => k_is)
    (case k15 => k_is)
    (case a16 => k_is)
    (case l16 => k_is)
    (case c16 => k_is)
    (case k16 => k_is)
    (case a17 => k_is)
    (case l17 => k_is)
    (case c17 => k_is)
    (case k17 => k_is)
    (case a18 => k_is)
    (case l18 => k_is)
    (case c18 => k_is)
    (case k18 => k_is)
    (case a19 => k_is)
    (case l19 => k_is)
    (case c19 => k_is)
    (case k19 => k_is)
    (case a20 => k_is)
    (case l20 => k_is)
    (case c20 => k_is)
    (case k20 => k_is)
    (case a21 => k_is)
    (case l21 => k_is)
    (case c21 => k_is)
    (case k21 => k_is)
    (case z_len => k_is)
    (case z_tuple => k_is)
    (case z_isinstance => k_is)
    (case z_int => k_is)
    (case z_abs => k_is)
    (case z_range => k_is)
    (case z_list => k_is)
    (case z_reversed => k_is)
    (case z_enumerate => k_is)
