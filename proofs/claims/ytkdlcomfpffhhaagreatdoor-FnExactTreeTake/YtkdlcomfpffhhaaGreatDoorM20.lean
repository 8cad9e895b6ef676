/- Of what the proof is made: 2 texts, one behind the other. -/
import Derived.Deep.RegionHeld3
import Derived.Test.YtkdlcomfpffhhaaGreatDoorM8
import Derived.Test.YtkdlcomfpffhhaaGreatDoorM9
import Derived.Test.YtkdlcomfpffhhaaGreatDoorM5
import Derived.Test.YtkdlcomfpffhhaaGreatDoorM13
import Derived.Test.YtkdlcomfpffhhaaGreatDoorM12
import Derived.Laws.Tables
import Derived.Test.YtkdlcomfpffhhaaGreatDoorM10
namespace Go.Proofs.YtkdlcomfpffhhaaGreatDoor
open Go.RowKit Corb
theorem own_irow {w:World} {base n cap:Nat} {e:TypeId} {a:Option Addr} {l:List Int} (hn:l.length=n) (h:w.ownsRow base e 1 (.slice a n cap) n (l.map (Value.int .i64))):IRow w a l:=by
 subst hn
 intro h0
 rcases h.2 with ⟨_,h1⟩ | ⟨g,cap',cur,e,hb,hg,hr⟩
 ·
  omega
 ·
  simp only [Value.slice.injEq] at e
  obtain ⟨rfl,_,rfl⟩:=e
  refine ⟨g,0,rfl,(Array.getElem?_eq_some_iff.1 hg).1,fun i hi=>?_⟩
  have c1:=World.ownsRow.cellAt h i (by omega)
  rw [Nat.zero_add,c1]
  simp [List.getD,hi]
def JRow (w:World) (base:Nat) (a:Option Addr) (l:List Int):Prop:=IRow w a l∧(0<l.length→∀ x,a=some x→base≤x.block∧∀ cur fr,w.heap[x.block]?≠some (.cells cur 5 fr))
theorem JRow.moved {w w':World} {base:Nat} {a:Option Addr} {l:List Int} (h:JRow w base a l) (hs:w.heap.size≤w'.heap.size) (hk:∀ g,base≤g→g<w.heap.size→(∀ cur fr,w.heap[g]?≠some (.cells cur 5 fr))→w'.heap[g]?=w.heap[g]?):JRow w' base a l:=by
 refine ⟨fun h0=>?_,fun h0 x ex=>?_⟩
 ·
  obtain ⟨g,o,e,hg,hc⟩:=h.1 h0
  obtain ⟨h1,h2⟩:=h.2 h0 _ e
  refine ⟨g,o,e,by omega,fun i hi=>?_⟩
  rw [←hc i hi]
  exact World.cell?_of_block (w:=w) (hk g h1 hg h2)
 ·
  obtain ⟨g,o,e,hg,hc⟩:=h.1 h0
  obtain ⟨h1,h2⟩:=h.2 h0 _ ex
  have:x=⟨g,o,none⟩:=by rw [ex] at e; exact Option.some.inj e
  subst this
  exact ⟨h1,fun cur fr=>by rw [hk g h1 hg h2]; exact h2 cur fr⟩
theorem JRow.later {w w':World} {base:Nat} {a:Option Addr} {l:List Int} (h:JRow w base a l) (hb:Below w.heap.size w w'):JRow w' base a l:=h.moved hb.size (fun g _ hg _=>hb.block g hg)
theorem JRow.mono {w:World} {base b':Nat} {a:Option Addr} {l:List Int} (h:JRow w base a l) (hb:b'≤base):JRow w b' a l:=⟨h.1,fun h0 x e=>⟨Nat.le_trans hb (h.2 h0 x e).1,(h.2 h0 x e).2⟩⟩
theorem JRow.touch {w w':World} {base b:Nat} {a:Option Addr} {l:List Int} (h:JRow w base a l) (hs:w'.heap.size=w.heap.size) (hk:∀ j,j≠b→w'.heap[j]?=w.heap[j]?) (hb:b<base):JRow w' base a l:=h.moved (by omega) (fun g h1 _ _=>hk g (by omega))
theorem own_jrow {w:World} {base n cap:Nat} {e:TypeId} {a:Option Addr} {l:List Int} (hn:l.length=n) (h:w.ownsRow base e 1 (.slice a n cap) n (l.map (Value.int .i64))) (he:e≠5:=by decide):JRow w base a l:=by
 refine ⟨own_irow hn h,fun h0 x ex=>?_⟩
 subst ex
 refine ⟨(World.ownsRow.lt h x.block rfl).1,fun cur fr=>?_⟩
 rcases h.2 with ⟨e',_⟩ | ⟨g,cap',cur',e',hbg,hg,_⟩
 ·
  cases e'
 ·
  simp only [Value.slice.injEq,Option.some.injEq] at e'
  obtain ⟨rfl,_⟩:=e'
  show w.heap[g]?≠_
  rw [hg]
  intro e2
  cases e2
  exact he rfl
def BookV (w:World) (base:Nat) (l:List Int) (C:Array Value):Prop:=
 ∃ a cap ac cc q sc,C=(bookCells (.slice a l.length cap) (.slice ac l.length cc) (.slice q (symsN l 15).length sc) (manyN l 15)).toArray∧JRow w base a l∧JRow w base ac (outN l 15).2∧JRow w base q (symsN l 15)
theorem BookV.later {w w':World} {base:Nat} {l:List Int} {C:Array Value} (h:BookV w base l C) (hb:Below w.heap.size w w'):BookV w' base l C:=by
 obtain ⟨a,cap,ac,cc,q,sc,e,h1,h2,h3⟩:=h
 exact ⟨a,cap,ac,cc,q,sc,e,h1.later hb,h2.later hb,h3.later hb⟩
theorem BookV.mono {w:World} {base b':Nat} {l:List Int} {C:Array Value} (h:BookV w base l C) (hb:b'≤base):BookV w b' l C:=by
 obtain ⟨a,cap,ac,cc,q,sc,e,h1,h2,h3⟩:=h
 exact ⟨a,cap,ac,cc,q,sc,e,h1.mono hb,h2.mono hb,h3.mono hb⟩
theorem BookV.touch {w w':World} {base b:Nat} {l:List Int} {C:Array Value} (h:BookV w base l C) (hs:w'.heap.size=w.heap.size) (hk:∀ j,j≠b→w'.heap[j]?=w.heap[j]?) (hb:b<base):BookV w' base l C:=by
 obtain ⟨a,cap,ac,cc,q,sc,e,h1,h2,h3⟩:=h
 exact ⟨a,cap,ac,cc,q,sc,e,h1.touch hs hk hb,h2.touch hs hk hb,h3.touch hs hk hb⟩
theorem BookV.size {w:World} {base:Nat} {l:List Int} {C:Array Value} (h:BookV w base l C):C.size=19:=by
 obtain ⟨a,cap,ac,cc,q,sc,e,_⟩:=h
 rw [e]; simp [bookCells_len]
theorem BookV.one {w:World} {base:Nat} {l:List Int} {C:Array Value} (h:BookV w base l C):C.all (·.oneCell')=true:=by
 obtain ⟨a,cap,ac,cc,q,sc,e,_⟩:=h
 rw [e]; exact bookCells_one rfl rfl rfl
theorem litBook_any (a:Option Addr) (cap n base:Nat) (l:List Int) (w:World) (hn:l.length=n) (h:JRow w base a l) (hB:base≤w.heap.size) (hm:n≤300) :
  Calls Tryz.prog 140 #[.slice a n cap] w fun e w'=>(∃ C,e = .returned (.agg C)∧BookV w' base l C)∧Below w.heap.size w w':=by
 refine (Bkx.codeBook_any Bkx.bkL (.inl rfl) a cap n l w hn h.1 hm).mono ?_
 rintro e w' ⟨vs,C,rfl,hC,h1,h2,hb⟩
 obtain ⟨q,sc,rfl⟩:=h2.form
 subst hn
 exact ⟨⟨C,rfl,a,cap,_,_,q,sc,hC,h.later hb,(own_jrow (outN_len l 15) (h1.own (outN_len l 15))).mono (by omega),(own_jrow rfl h2).mono (by omega)⟩,hb⟩
theorem distBook_any (a:Option Addr) (cap n base:Nat) (l:List Int) (w:World) (hn:l.length=n) (h:JRow w base a l) (hB:base≤w.heap.size) (hm:n≤300) :
  Calls Tryz.prog 141 #[.slice a n cap] w fun e w'=>(∃ C,e = .returned (.agg C)∧BookV w' base l C)∧Below w.heap.size w w':=by
 refine (Bkx.codeBook_any Bkx.bkD (.inr (.inl rfl)) a cap n l w hn h.1 hm).mono ?_
 rintro e w' ⟨vs,C,rfl,hC,h1,h2,hb⟩
 obtain ⟨q,sc,rfl⟩:=h2.form
 subst hn
 exact ⟨⟨C,rfl,a,cap,_,_,q,sc,hC,h.later hb,(own_jrow (outN_len l 15) (h1.own (outN_len l 15))).mono (by omega),(own_jrow rfl h2).mono (by omega)⟩,hb⟩
def Books (w:World) (base:Nat) (L D:List Int) (C:Array Value):Prop:=∃ C1 C2,C=C1++C2∧BookV w base L C1∧BookV w base D C2
theorem Books.later {w w':World} {base:Nat} {L D:List Int} {C:Array Value} (h:Books w base L D C) (hb:Below w.heap.size w w'):Books w' base L D C:=by
 obtain ⟨C1,C2,e,h1,h2⟩:=h
 exact ⟨C1,C2,e,h1.later hb,h2.later hb⟩
theorem Tryz.infoBooks:(Tryz.prog.info? 184).map (·.size)=some 38:=by kernel_rfl
theorem Tryz.infoLitB:(Tryz.prog.info? 179).map (·.size)=some 19:=by kernel_rfl
theorem Tryz.infoDistB:(Tryz.prog.info? 182).map (·.size)=some 19:=by kernel_rfl
theorem books_range {w:World} {b:Nat} {C1 C2:Array Value} {t:TypeId} (h:w.heap[b]?=some (Obj.cells (C1++C2) t)) (h1:C1.size=19):w.rangeAt b 0 C1.toList∧w.rangeAt b 19 C2.toList:=by
 refine ⟨fun j v hv=>?_,fun j v hv=>?_⟩
 ·
  have hj:j<C1.size:=by have:=(List.getElem?_eq_some_iff.1 hv).1; simpa using this
  rw [Nat.zero_add]
  simp only [World.cell?,h]
  rw [Array.getElem?_append_left hj]
  simpa using hv
 ·
  simp only [World.cell?,h]
  rw [Array.getElem?_append_right (by omega),h1,Nat.add_sub_cancel_left]
  simpa using hv
theorem Tryz.builtBooks (l1 c1 s1 l2 c2 s2:Value) (m1 m2:Nat→Nat):Tryz.prog.built 184 [(0,.agg (bookCells l1 c1 s1 m1).toArray),(1,.agg (bookCells l2 c2 s2 m2).toArray)]=some ((bookCells l1 c1 s1 m1).toArray++(bookCells l2 c2 s2 m2).toArray):=by kernel_rfl
theorem built_books {w:World} {base:Nat} {L D:List Int} {C1 C2:Array Value} (h1:BookV w base L C1) (h2:BookV w base D C2):Tryz.prog.built 184 [(0,.agg C1),(1,.agg C2)]=some (C1++C2):=by
 obtain ⟨_,_,_,_,_,_,rfl,_⟩:=h1
 obtain ⟨_,_,_,_,_,_,rfl,_⟩:=h2
 exact Tryz.builtBooks _ _ _ _ _ _ _ _
theorem fix_parts:fixL 288=List.replicate 144 8++(List.replicate 112 9++(List.replicate 24 7++List.replicate 8 8)):=by decide +kernel
theorem repeat_v (v:Int) (c cap g o:Nat) (w:World) (hv:w.cell? ⟨g,o,none⟩=some (.int .i64 v)) (h1:1≤c) (hc:(c:Int)≤1000) :
  Calls Tryz.prog 115 #[.slice (some ⟨g,o,none⟩) 1 cap,.int .i64 (c:Nat)] w fun e w'=>(∃ g',e = .returned (.slice (some ⟨g',0,none⟩) c c)∧IOwn w' w.heap.size (.slice (some ⟨g',0,none⟩) c c) (List.replicate c v))∧Below w.heap.size w w':=
 (repeat_one v c cap g o w hv h1 hc).mono fun _ _ ⟨he,ho,hb⟩=>⟨⟨_,he,ho⟩,hb⟩
theorem four_cells (x:World) (a b c d:Value) (t:TypeId):(x.alloc (.cells #[a,b,c,d] t)).cell? ⟨x.heap.size,0,none⟩=some a∧(x.alloc (.cells #[a,b,c,d] t)).cell? ⟨x.heap.size,1,none⟩=some b∧(x.alloc (.cells #[a,b,c,d] t)).cell? ⟨x.heap.size,2,none⟩=some c∧(x.alloc (.cells #[a,b,c,d] t)).cell? ⟨x.heap.size,3,none⟩=some d:=⟨by simp,by simp,by simp,by simp⟩
theorem iown_up {w w':World} {b b':Nat} {v:Value} {l:List Int} (h:IOwn w b v l) (hb:Below w.heap.size w w') (hB:b'≤b):IOwn w' b' v l:=(h.later hb (Nat.le_refl _)).mono hB
def booksZ:Array Value:=#[Value.slice none 0 0,Value.slice none 0 0,Value.int .i64 0,Value.int .i64 0,Value.int .i64 0,Value.int .i64 0,Value.int .i64 0,Value.int .i64 0,Value.int .i64 0,Value.int .i64 0,Value.int .i64 0,Value.int .i64 0,Value.int .i64 0,Value.int .i64 0,Value.int .i64 0,Value.int .i64 0,Value.int .i64 0,Value.int .i64 0,Value.slice none 0 0,Value.slice none 0 0,Value.slice none 0 0,Value.int .i64 0,Value.int .i64 0,Value.int .i64 0,Value.int .i64 0,Value.int .i64 0,Value.int .i64 0,Value.int .i64 0,Value.int .i64 0,Value.int .i64 0,Value.int .i64 0,Value.int .i64 0,Value.int .i64 0,Value.int .i64 0,Value.int .i64 0,Value.int .i64 0,Value.int .i64 0,Value.slice none 0 0]
theorem wpList_build_books {ops:Array Oper} {rest:List Oper} {o:Oper} {a:Act} {w:World} {Q:Exit→Act→World→Prop} (hg:o.guard=none) (x y:Operand) (ho:o.op = .build 184 #[(0,x),(1,y)]) (C1 C2:Array Value) (hx:a.eval x = .agg C1) (hy:a.eval y = .agg C2)
  (hb:Tryz.prog.built 184 [(0,.agg C1),(1,.agg C2)]=some (C1++C2)) (h:wpList Tryz.prog ops Q rest (a.put o.dst (.agg (C1++C2))) w):wpList Tryz.prog ops Q (o :: rest) a w:=by
 have e:((#[(0,x),(1,y)]:Array (Nat×Operand)).map fun (i,x)=>(i,a.eval x)).toList=[(0,.agg C1),(1,.agg C2)]:=by simp [hx,hy]
 refine wpList_build hg 184 #[(0,x),(1,y)] ho (by rw [e,hb]; rfl) ?_
 rw [e,hb]
 exact h
theorem heap_setCells (b:Nat):∀ (vs:List Value) (o:Nat) (w:World) (j:Nat),j≠b→(w.setCells b o vs).heap[j]?=w.heap[j]?
 | [],_,_,_,_=>rfl
 | v :: r,o,w,j,hj=>by
  rw [World.setCells,heap_setCells b r _ _ _ hj]
  exact Below.heap_setCell w ⟨b,o,none⟩ v j hj
theorem one_cell (x:World) (v:Value) (t:TypeId):(x.alloc (.cells #[v] t)).cell? ⟨x.heap.size,0,none⟩=some v:=by simp
theorem alloc_size (x:World) (o:Obj):(x.alloc o).heap.size=x.heap.size+1:=by simp
set_option maxRecDepth 100000 in
set_option maxHeartbeats 3200000 in
theorem fixedBooks_any (w:World) :
  Calls Tryz.prog 135 #[] w fun e w'=>(∃ C,e = .returned (.agg C)∧Books w' (w.heap.size+1) (fixL 288) (List.replicate 32 5) C)∧Below w.heap.size w w':=by
 obtain ⟨W0,hW0⟩:∃ W,w.alloc (.cells booksZ 184)=W:=⟨_,rfl⟩
 have S0:W0.heap.size=w.heap.size+1:=by rw [←hW0]; exact alloc_size _ _
 have B0:Hid (Below w.heap.size w W0):=by rw [←hW0]; exact (Below.refl _ _).alloc (Nat.le_refl _) _
 have T0:Hid (W0.there w.heap.size 0 38):=by rw [←hW0]; exact there_new w booksZ _ _ rfl
 have E0:=hide hW0
 unfold booksZ at E0
 have S0':=hide S0
 clear hW0 S0
 go_enter Tryz.func135,Tryz.ntmps135
 go_wp2_with fail
 rw [unhide E0]
 have c1:(W0.alloc (.cells #[.int .i64 8] 3)).cell? ⟨w.heap.size+1,0,none⟩=some (.int .i64 8):=by rw [←unhide S0']; exact one_cell _ _ _
 refine (repeat_v 8 144 1 (w.heap.size+1) 0 _ c1 (by omega) (by omega)).mono ?_
 rintro e x1 ⟨⟨g1,rfl,o1⟩,b1⟩
 have hA1:Below W0.heap.size W0 x1:=bnext ((Below.refl _ _).alloc (Nat.le_refl _) _) b1
 have O1:=hide (o1.mono (base':=w.heap.size+1) (by rw [alloc_size,unhide S0']; omega))
 have A1:=hide hA1
 clear c1 o1 b1 hA1
 go_wp2_with fail
 refine (repeat_v 9 112 1 x1.heap.size 0 _ (one_cell _ _ _) (by omega) (by omega)).mono ?_
 rintro e x2 ⟨⟨g2,rfl,o2⟩,b2⟩
 have hA2:=bnext (unhide A1) (bnext ((Below.refl _ _).alloc (Nat.le_refl _) _) b2)
 have O1':=hide (iown_up (unhide O1) (bnext ((Below.refl _ _).alloc (Nat.le_refl _) _) b2) (Nat.le_refl _))
 have O2:=hide (o2.mono (base':=w.heap.size+1) (by rw [alloc_size]; have:=(unhide A1).size; have:=unhide S0'; omega))
 have A2:=hide hA2
 clear o2 b2 hA2 O1 A1
 go_wp2_with fail
 refine (repeat_v 7 24 1 x2.heap.size 0 _ (one_cell _ _ _) (by omega) (by omega)).mono ?_
 rintro e x3 ⟨⟨g3,rfl,o3⟩,b3⟩
 have hA3:=bnext (unhide A2) (bnext ((Below.refl _ _).alloc (Nat.le_refl _) _) b3)
 have O1:=hide (iown_up (unhide O1') (bnext ((Below.refl _ _).alloc (Nat.le_refl _) _) b3) (Nat.le_refl _))
 have O2':=hide (iown_up (unhide O2) (bnext ((Below.refl _ _).alloc (Nat.le_refl _) _) b3) (Nat.le_refl _))
 have O3:=hide (o3.mono (base':=w.heap.size+1) (by rw [alloc_size]; have:=(unhide A2).size; have:=unhide S0'; omega))
 have A3:=hide hA3
 clear o3 b3 hA3 O1' O2 A2
 go_wp2_with fail
 refine (repeat_v 8 8 1 x3.heap.size 0 _ (one_cell _ _ _) (by omega) (by omega)).mono ?_
 rintro e x4 ⟨⟨g4,rfl,o4⟩,b4⟩
 have hA4:=bnext (unhide A3) (bnext ((Below.refl _ _).alloc (Nat.le_refl _) _) b4)
 have O1':=hide (iown_up (unhide O1) (bnext ((Below.refl _ _).alloc (Nat.le_refl _) _) b4) (Nat.le_refl _))
 have O2:=hide (iown_up (unhide O2') (bnext ((Below.refl _ _).alloc (Nat.le_refl _) _) b4) (Nat.le_refl _))
 have O3':=hide (iown_up (unhide O3) (bnext ((Below.refl _ _).alloc (Nat.le_refl _) _) b4) (Nat.le_refl _))
 have O4:=hide (o4.mono (base':=w.heap.size+1) (by rw [alloc_size]; have:=(unhide A3).size; have:=unhide S0'; omega))
 have A4:=hide hA4
 clear o4 b4 hA4 O1 O2' O3 A3
 go_wp2_with fail
 have hb5:Below x4.heap.size x4 (x4.alloc (.cells #[.slice (some ⟨g1,0,none⟩) 144 144,.slice (some ⟨g2,0,none⟩) 112 112,.slice (some ⟨g3,0,none⟩) 24 24,.slice (some ⟨g4,0,none⟩) 8 8] 146)):=(Below.refl _ _).alloc (Nat.le_refl _) _
 have hR:RowsInt (x4.alloc (.cells #[.slice (some ⟨g1,0,none⟩) 144 144,.slice (some ⟨g2,0,none⟩) 112 112,.slice (some ⟨g3,0,none⟩) 24 24,.slice (some ⟨g4,0,none⟩) 8 8] 146)) x4.heap.size (w.heap.size+1) [(.slice (some ⟨g1,0,none⟩) 144 144,(List.replicate 144 8).map (Value.int .i64)),(.slice (some ⟨g2,0,none⟩) 112 112,(List.replicate 112 9).map (Value.int .i64)),(.slice (some ⟨g3,0,none⟩) 24 24,(List.replicate 24 7).map (Value.int .i64)),(.slice (some ⟨g4,0,none⟩) 8 8,(List.replicate 8 8).map (Value.int .i64))]:=by
  obtain ⟨d0,d1,d2,d3⟩:=four_cells x4 (.slice (some ⟨g1,0,none⟩) 144 144) (.slice (some ⟨g2,0,none⟩) 112 112) (.slice (some ⟨g3,0,none⟩) 24 24) (.slice (some ⟨g4,0,none⟩) 8 8) 146
  intro i hi
  match i,hi with
  | 0,_=>exact ⟨d0,_,iown_up (unhide O1') hb5 (Nat.le_refl _),ints_oneCell .i64 _⟩
  | 1,_=>exact ⟨d1,_,iown_up (unhide O2) hb5 (Nat.le_refl _),ints_oneCell .i64 _⟩
  | 2,_=>exact ⟨d2,_,iown_up (unhide O3') hb5 (Nat.le_refl _),ints_oneCell .i64 _⟩
  | 3,_=>exact ⟨d3,_,iown_up (unhide O4) hb5 (Nat.le_refl _),ints_oneCell .i64 _⟩
 have hlen:rowsLenInt [(Value.slice (some ⟨g1,0,none⟩) 144 144,(List.replicate 144 8).map (Value.int .i64)),(.slice (some ⟨g2,0,none⟩) 112 112,(List.replicate 112 9).map (Value.int .i64)),(.slice (some ⟨g3,0,none⟩) 24 24,(List.replicate 24 7).map (Value.int .i64)),(.slice (some ⟨g4,0,none⟩) 8 8,(List.replicate 8 8).map (Value.int .i64))]=288:=by simp [rowsLenInt,rowLenInt]
 have hall:rowsAllInt [(Value.slice (some ⟨g1,0,none⟩) 144 144,(List.replicate 144 8).map (Value.int .i64)),(.slice (some ⟨g2,0,none⟩) 112 112,(List.replicate 112 9).map (Value.int .i64)),(.slice (some ⟨g3,0,none⟩) 24 24,(List.replicate 24 7).map (Value.int .i64)),(.slice (some ⟨g4,0,none⟩) 8 8,(List.replicate 8 8).map (Value.int .i64))]=(fixL 288).map (Value.int .i64):=by
  rw [fix_parts]
  simp only [rowsAllInt,List.flatMap_cons,List.flatMap_nil,List.map_append,List.append_nil]
 refine (concatInt x4.heap.size (w.heap.size+1) 4 4 _ _ rfl (by omega) (by omega) hR (by rw [hlen]; omega)).mono ?_
 rintro e x5 ⟨v,rfl,ho5,hb⟩
 rw [hlen,hall] at ho5
 have hA5:=bnext (unhide A4) (bnext hb5 hb)
 have HO:IOwn x5 (w.heap.size+1) v (fixL 288):=by
  have h0:IOwn x5 (x4.alloc (.cells #[.slice (some ⟨g1,0,none⟩) 144 144,.slice (some ⟨g2,0,none⟩) 112 112,.slice (some ⟨g3,0,none⟩) 24 24,.slice (some ⟨g4,0,none⟩) 8 8] 146)).heap.size v (fixL 288):=by
   show World.ownsRow _ _ _ _ _ (fixL 288).length _
   rw [fixL_len]; exact ho5
  refine h0.mono ?_
  rw [alloc_size]; have:=(unhide A4).size; have:=unhide S0'; omega
 obtain ⟨va,vc,rfl⟩:=HO.formN (fixL_len 288)
 have J5:=hide (own_jrow (fixL_len 288) (HO.own (fixL_len 288)))
 have A5:=hide hA5
 have hs5:Hid (w.heap.size+1≤x5.heap.size):=by show _≤_; have:=hA5.size; have:=unhide S0'; omega
 clear hb5 hR hlen hall ho5 hb hA5 HO O1' O2 O3' O4 A4
 go_wp2_with fail
 refine (litBook_any va vc 288 (w.heap.size+1) (fixL 288) _ (fixL_len 288) (unhide J5) (unhide hs5) (by omega)).mono ?_
 rintro e x6 ⟨⟨C1,rfl,k1⟩,b6⟩
 have A6:=hide (bnext (unhide A5) b6)
 have K1:=hide k1
 clear k1 b6 J5 hs5 A5
 go_wp2_with fail
 refine (repeat_v 5 32 1 x6.heap.size 0 _ (one_cell _ _ _) (by omega) (by omega)).mono ?_
 rintro e x7 ⟨⟨g7,rfl,o7⟩,b7⟩
 have hb7:=bnext ((Below.refl _ _).alloc (Nat.le_refl _) _) b7
 have A7:=hide (bnext (unhide A6) hb7)
 have K1':=hide ((unhide K1).later hb7)
 have J7:=hide (own_jrow (List.length_replicate ..) (IOwn.own (List.length_replicate ..) (o7.mono (base':=w.heap.size+1) (by rw [alloc_size]; have:=(unhide A6).size; have:=unhide S0'; omega))))
 have hs7:Hid (w.heap.size+1≤x7.heap.size):=by show _≤_; have:=(unhide A7).size; have:=unhide S0'; omega
 clear hb7 o7 b7 K1 A6
 go_wp2_with fail
 refine (distBook_any (some ⟨g7,0,none⟩) 32 32 (w.heap.size+1) (List.replicate 32 5) _ (List.length_replicate ..) (unhide J7) (unhide hs7) (by omega)).mono ?_
 rintro e x8 ⟨⟨C2,rfl,k2⟩,b8⟩
 have A8:=hide (bnext (unhide A7) b8)
 have K1:=hide ((unhide K1').later b8)
 have K2:=hide k2
 have HBu:=hide (built_books (unhide K1) (unhide K2))
 have HTh:Hid (x8.there w.heap.size 0 38):=fun j hj=>by
  obtain ⟨h1,h2⟩:=unhide T0 j hj
  have hlt:w.heap.size<W0.heap.size:=by have:=unhide S0'; omega
  exact ⟨by rw [(unhide A8).cell (p:=⟨w.heap.size,0+j,none⟩) hlt]; exact h1,by rw [(unhide A8).frozen (p:=⟨w.heap.size,0+j,none⟩) hlt]; exact h2⟩
 have hsz1:=(unhide K1).size
 have hsz2:=(unhide K2).size
 have HSz:Hid ((C1++C2).size=38):=by show _=_; rw [Array.size_append,hsz1,hsz2]
 have H1C:Hid ((C1++C2).all (·.oneCell')=true):=by show _=true; rw [Array.all_append,(unhide K1).one,(unhide K2).one]; rfl
 clear hsz1 hsz2 k2 b8 K1' J7 hs7 A7
 go_wp2_with (first
  | (refine wpList_build_books rfl (.tmp 13) (.tmp 16) rfl C1 C2 rfl rfl (unhide HBu) ?_)
  | (refine wpList_store_mid rfl 184 (.tmp 0) (.tmp 17) rfl w.heap.size 0 (C1++C2) rfl rfl (by rw [unhide HSz]; exact unhide HTh) (by rw [unhide HSz]; exact Tryz.infoBooks) (unhide H1C) ?_))
 have hr:=World.rangeAt_setCells_same x8 w.heap.size 0 (C1++C2).toList (by rw [Array.length_toList,unhide HSz]; exact unhide HTh)
 have hk:∀ j,j≠w.heap.size→(x8.setCells w.heap.size 0 (C1++C2).toList).heap[j]?=x8.heap[j]?:=fun j hj=>heap_setCells _ _ _ _ j hj
 have hz:(x8.setCells w.heap.size 0 (C1++C2).toList).heap.size=x8.heap.size:=size_setCells _ _ _ _
 refine bodyPost_ret (results_cell_mid rfl _ _ w.heap.size _ _ rfl hr Tryz.underlying184 rfl (by rw [Array.length_toList,unhide HSz]; exact Tryz.infoBooks)) rfl ⟨⟨C1++C2,by simp,C1,C2,rfl,(unhide K1).touch hz hk (Nat.lt_succ_self _),(unhide K2).touch hz hk (Nat.lt_succ_self _)⟩,?_⟩
 exact below_setCells (Nat.le_refl _) _ _ _ (bnext (unhide B0) (unhide A8))
end Go.Proofs.YtkdlcomfpffhhaaGreatDoor
