/- The codes that all know: the program's fixedBooks. -/
import Derived.Test.YtkpfkgoiaicgbaaGreatDoorM23
import Derived.Test.YtkpfkgoiaicgbaaGreatDoorM11
set_option linter.unusedSimpArgs false
set_option linter.unusedVariables false
set_option maxHeartbeats 3200000
namespace Go.Proofs.YtkpfkgoiaicgbaaGreatDoor
open Go.RowKit Corb
theorem kE(v:Int)(c cap g o:Nat)(w:World)(hv:w.cell? ⟨g,o,none⟩=some (.int .i64 v))(h1:1<=c)(hc:(c:Int)<=1000) :
  Calls Tryz.prog 107 #[.slice (some ⟨g,o,none⟩) 1 cap,.int .i64 (c:Nat)] w fun e w'=>(∃g',e = .returned (.slice (some ⟨g',0,none⟩) c c)/\ar w' w.heap.size (.slice (some ⟨g',0,none⟩) c c) (List.replicate c v))/\Below w.heap.size w w':=
 (my v c cap g o w hv h1 hc).mono fun _ _ ⟨he,ho,hb⟩=>⟨⟨_,he,ho⟩,hb⟩
theorem zF(x:World)(a b c d:Value)(t:TypeId):(x.alloc (.cells #[a,b,c,d] t)).cell? ⟨x.heap.size,0,none⟩=some a/\(x.alloc (.cells #[a,b,c,d] t)).cell? ⟨x.heap.size,1,none⟩=some b/\(x.alloc (.cells #[a,b,c,d] t)).cell? ⟨x.heap.size,2,none⟩=some c/\(x.alloc (.cells #[a,b,c,d] t)).cell? ⟨x.heap.size,3,none⟩=some d:=⟨by simp,by simp,by simp,by simp⟩
theorem fO{w w':World}{b b':Nat}{v:Value}{l:List Int}(h:ar w b v l)(hb:Below w.heap.size w w')(hB:b'<=b):ar w' b' v l:=(h.later hb (Nat.le_refl _)).mono hB
def iI:Array Value:=#[Value.slice none 0 0,Value.slice none 0 0,Value.int .i64 0,Value.int .i64 0,Value.int .i64 0,Value.int .i64 0,Value.int .i64 0,Value.int .i64 0,Value.int .i64 0,Value.int .i64 0,Value.int .i64 0,Value.int .i64 0,Value.int .i64 0,Value.int .i64 0,Value.int .i64 0,Value.int .i64 0,Value.int .i64 0,Value.int .i64 0,Value.slice none 0 0,Value.slice none 0 0,Value.slice none 0 0,Value.int .i64 0,Value.int .i64 0,Value.int .i64 0,Value.int .i64 0,Value.int .i64 0,Value.int .i64 0,Value.int .i64 0,Value.int .i64 0,Value.int .i64 0,Value.int .i64 0,Value.int .i64 0,Value.int .i64 0,Value.int .i64 0,Value.int .i64 0,Value.int .i64 0,Value.int .i64 0,Value.slice none 0 0]
theorem il{ops:Array Oper}{rest:List Oper}{o:Oper}{a:Act}{w:World}{Q:Exit->Act->World->Prop}(hg:o.guard=none)(x y:Operand)(ho:o.op = .build 191 #[(0,x),(1,y)])(C1 C2:Array Value)(hx:a.eval x = .agg C1)(hy:a.eval y = .agg C2)
  (hb:Tryz.prog.built 191 [(0,.agg C1),(1,.agg C2)]=some (C1++C2)) (h:wpList Tryz.prog ops Q rest (a.put o.dst (.agg (C1++C2))) w):wpList Tryz.prog ops Q (o :: rest) a w:=by
 have e:((#[(0,x),(1,y)]:Array (Nat×Operand)).map fun(i,x)=>(i,a.eval x)).toList=[(0,.agg C1),(1,.agg C2)]:=by simp[hx,hy]
 refine wpList_build hg 191 #[(0,x),(1,y)] ho (by rw[e,hb];rfl) ?_;rw[e,hb];exact h
theorem cW(b:Nat):∀(vs:List Value) (o:Nat) (w:World) (j:Nat),j≠b->(w.setCells b o vs).heap[j]?=w.heap[j]?
 | [],_,_,_,_=>rfl
 | v :: r,o,w,j,hj=>by
  rw[World.setCells,cW b r _ _ _ hj];exact Below.heap_setCell w ⟨b,o,none⟩ v j hj
theorem one_cell(x:World)(v:Value)(t:TypeId):(x.alloc (.cells #[v] t)).cell? ⟨x.heap.size,0,none⟩=some v:=by simp
theorem cV(x:World)(o:Obj):(x.alloc o).heap.size=x.heap.size+1:=by simp
set_option maxRecDepth 100000 in
theorem j9(w:World) :
  Calls Tryz.prog 125 #[] w fun e w'=>(∃C,e = .returned (.agg C)/\cY w' (w.heap.size+1) (dj 288) (List.replicate 32 5) C)/\Below w.heap.size w w':=by
 obtain⟨W0,hW0⟩:∃W,w.alloc (.cells iI 191)=W:=⟨_,rfl⟩;have S0:W0.heap.size=w.heap.size+1:=by rw[←hW0];exact cV _ _
 have B0:Hid (Below w.heap.size w W0):=by rw[←hW0];exact(Below.refl _ _).alloc (Nat.le_refl _) _
 have T0:Hid (W0.there w.heap.size 0 38):=by rw[←hW0];exact fK w iI _ _ rfl
 have E0:=af hW0;unfold iI at E0;have S0':=af S0;clear hW0 S0;go_enter Tryz.func125,Tryz.ntmps125;go_wp2_with fail;rw[ae E0];have c1:(W0.alloc (.cells #[.int .i64 8] 3)).cell? ⟨w.heap.size+1,0,none⟩=some (.int .i64 8):=by rw[←ae S0'];exact one_cell _ _ _
 refine(kE 8 144 1 (w.heap.size+1) 0 _ c1 (by omega) (by omega)).mono ?_;rintro e x1 ⟨⟨g1,rfl,o1⟩,b1⟩;have hA1:Below W0.heap.size W0 x1:=aj ((Below.refl _ _).alloc (Nat.le_refl _) _) b1;have O1:=af (o1.mono (base':=w.heap.size+1) (by rw[cV,ae S0'];omega));have A1:=af hA1;clear c1 o1 b1 hA1;go_wp2_with fail;refine(kE 9 112 1 x1.heap.size 0 _ (one_cell _ _ _) (by omega) (by omega)).mono ?_;rintro e x2 ⟨⟨g2,rfl,o2⟩,b2⟩;have hA2:=aj (ae A1) (aj ((Below.refl _ _).alloc (Nat.le_refl _) _) b2);have O1':=af (fO (ae O1) (aj ((Below.refl _ _).alloc (Nat.le_refl _) _) b2) (Nat.le_refl _));have O2:=af (o2.mono (base':=w.heap.size+1) (by rw[cV];have:=(ae A1).size;have:=ae S0';omega));have A2:=af hA2;clear o2 b2 hA2 O1 A1;go_wp2_with fail;refine(kE 7 24 1 x2.heap.size 0 _ (one_cell _ _ _) (by omega) (by omega)).mono ?_;rintro e x3 ⟨⟨g3,rfl,o3⟩,b3⟩;have hA3:=aj (ae A2) (aj ((Below.refl _ _).alloc (Nat.le_refl _) _) b3);have O1:=af (fO (ae O1') (aj ((Below.refl _ _).alloc (Nat.le_refl _) _) b3) (Nat.le_refl _));have O2':=af (fO (ae O2) (aj ((Below.refl _ _).alloc (Nat.le_refl _) _) b3) (Nat.le_refl _));have O3:=af (o3.mono (base':=w.heap.size+1) (by rw[cV];have:=(ae A2).size;have:=ae S0';omega));have A3:=af hA3;clear o3 b3 hA3 O1' O2 A2;go_wp2_with fail;refine(kE 8 8 1 x3.heap.size 0 _ (one_cell _ _ _) (by omega) (by omega)).mono ?_;rintro e x4 ⟨⟨g4,rfl,o4⟩,b4⟩;have hA4:=aj (ae A3) (aj ((Below.refl _ _).alloc (Nat.le_refl _) _) b4);have O1':=af (fO (ae O1) (aj ((Below.refl _ _).alloc (Nat.le_refl _) _) b4) (Nat.le_refl _));have O2:=af (fO (ae O2') (aj ((Below.refl _ _).alloc (Nat.le_refl _) _) b4) (Nat.le_refl _));have O3':=af (fO (ae O3) (aj ((Below.refl _ _).alloc (Nat.le_refl _) _) b4) (Nat.le_refl _));have O4:=af (o4.mono (base':=w.heap.size+1) (by rw[cV];have:=(ae A3).size;have:=ae S0';omega));have A4:=af hA4;clear o4 b4 hA4 O1 O2' O3 A3;go_wp2_with fail;have hb5:Below x4.heap.size x4 (x4.alloc (.cells #[.slice (some ⟨g1,0,none⟩) 144 144,.slice (some ⟨g2,0,none⟩) 112 112,.slice (some ⟨g3,0,none⟩) 24 24,.slice (some ⟨g4,0,none⟩) 8 8] 154)):=(Below.refl _ _).alloc (Nat.le_refl _) _;have hR:gx (x4.alloc (.cells #[.slice (some ⟨g1,0,none⟩) 144 144,.slice (some ⟨g2,0,none⟩) 112 112,.slice (some ⟨g3,0,none⟩) 24 24,.slice (some ⟨g4,0,none⟩) 8 8] 154)) x4.heap.size (w.heap.size+1) [(.slice (some ⟨g1,0,none⟩) 144 144,(List.replicate 144 8).map (Value.int .i64)),(.slice (some ⟨g2,0,none⟩) 112 112,(List.replicate 112 9).map (Value.int .i64)),(.slice (some ⟨g3,0,none⟩) 24 24,(List.replicate 24 7).map (Value.int .i64)),(.slice (some ⟨g4,0,none⟩) 8 8,(List.replicate 8 8).map (Value.int .i64))]:=by
  obtain⟨d0,d1,d2,d3⟩:=zF x4 (.slice (some ⟨g1,0,none⟩) 144 144) (.slice (some ⟨g2,0,none⟩) 112 112) (.slice (some ⟨g3,0,none⟩) 24 24) (.slice (some ⟨g4,0,none⟩) 8 8) 154;intro i hi
  match i,hi with
  | 0,_=>exact⟨d0,_,fO (ae O1') hb5 (Nat.le_refl _),ints_oneCell .i64 _⟩
  | 1,_=>exact⟨d1,_,fO (ae O2) hb5 (Nat.le_refl _),ints_oneCell .i64 _⟩
  | 2,_=>exact⟨d2,_,fO (ae O3') hb5 (Nat.le_refl _),ints_oneCell .i64 _⟩
  | 3,_=>exact⟨d3,_,fO (ae O4) hb5 (Nat.le_refl _),ints_oneCell .i64 _⟩
 have hlen:aG [(Value.slice (some ⟨g1,0,none⟩) 144 144,(List.replicate 144 8).map (Value.int .i64)),(.slice (some ⟨g2,0,none⟩) 112 112,(List.replicate 112 9).map (Value.int .i64)),(.slice (some ⟨g3,0,none⟩) 24 24,(List.replicate 24 7).map (Value.int .i64)),(.slice (some ⟨g4,0,none⟩) 8 8,(List.replicate 8 8).map (Value.int .i64))]=288:=by simp[aG,bF]
 have hall:cx [(Value.slice (some ⟨g1,0,none⟩) 144 144,(List.replicate 144 8).map (Value.int .i64)),(.slice (some ⟨g2,0,none⟩) 112 112,(List.replicate 112 9).map (Value.int .i64)),(.slice (some ⟨g3,0,none⟩) 24 24,(List.replicate 24 7).map (Value.int .i64)),(.slice (some ⟨g4,0,none⟩) 8 8,(List.replicate 8 8).map (Value.int .i64))]=(dj 288).map (Value.int .i64):=by
  rw[Di];simp only[cx,List.flatMap_cons,List.flatMap_nil,List.map_append,List.append_nil]
 refine(nZ x4.heap.size (w.heap.size+1) 4 4 _ _ rfl (by omega) (by omega) hR (by rw[hlen];omega)).mono ?_;rintro e x5 ⟨v,rfl,ho5,hb⟩;rw[hlen,hall]at ho5;have hA5:=aj (ae A4) (aj hb5 hb);have HO:ar x5 (w.heap.size+1) v (dj 288):=by
  have h0:ar x5 (x4.alloc (.cells #[.slice (some ⟨g1,0,none⟩) 144 144,.slice (some ⟨g2,0,none⟩) 112 112,.slice (some ⟨g3,0,none⟩) 24 24,.slice (some ⟨g4,0,none⟩) 8 8] 154)).heap.size v (dj 288):=by
   show World.ownsRow _ _ _ _ _ (dj 288).length _;rw[dH];exact ho5
  refine h0.mono ?_;rw[cV];have:=(ae A4).size;have:=ae S0';omega
 obtain⟨va,vc,rfl⟩:=HO.formN (dH 288);have J5:=af (cw (dH 288) (HO.own (dH 288)));have A5:=af hA5;have hs5:Hid (w.heap.size+1<=x5.heap.size):=by show _<=_;have:=hA5.size;have:=ae S0';omega
 clear hb5 hR hlen hall ho5 hb hA5 HO O1' O2 O3' O4 A4;go_wp2_with fail;refine(pi va vc 288 (w.heap.size+1) (dj 288) _ (dH 288) (ae J5) (ae hs5) (by omega)).mono ?_;rintro e x6 ⟨⟨C1,rfl,k1⟩,b6⟩;have A6:=af (aj (ae A5) b6);have K1:=af k1;clear k1 b6 J5 hs5 A5;go_wp2_with fail;refine(kE 5 32 1 x6.heap.size 0 _ (one_cell _ _ _) (by omega) (by omega)).mono ?_;rintro e x7 ⟨⟨g7,rfl,o7⟩,b7⟩;have hb7:=aj ((Below.refl _ _).alloc (Nat.le_refl _) _) b7;have A7:=af (aj (ae A6) hb7);have K1':=af ((ae K1).later hb7);have J7:=af (cw (List.length_replicate ..) (ar.own (List.length_replicate ..) (o7.mono (base':=w.heap.size+1) (by rw[cV];have:=(ae A6).size;have:=ae S0';omega))));have hs7:Hid (w.heap.size+1<=x7.heap.size):=by show _<=_;have:=(ae A7).size;have:=ae S0';omega
 clear hb7 o7 b7 K1 A6;go_wp2_with fail;refine(mV (some ⟨g7,0,none⟩) 32 32 (w.heap.size+1) (List.replicate 32 5) _ (List.length_replicate ..) (ae J7) (ae hs7) (by omega)).mono ?_;rintro e x8 ⟨⟨C2,rfl,k2⟩,b8⟩;have A8:=af (aj (ae A7) b8);have K1:=af ((ae K1').later b8);have K2:=af k2;have HBu:=af (jX (ae K1) (ae K2));have HTh:Hid (x8.there w.heap.size 0 38):=fun j hj=>by
  obtain⟨h1,h2⟩:=ae T0 j hj;have hlt:w.heap.size<W0.heap.size:=by have:=ae S0';omega
  exact⟨by rw[(ae A8).cell (p:=⟨w.heap.size,0+j,none⟩) hlt];exact h1,by rw[(ae A8).frozen (p:=⟨w.heap.size,0+j,none⟩) hlt];exact h2⟩
 have hsz1:=(ae K1).size;have hsz2:=(ae K2).size;have HSz:Hid ((C1++C2).size=38):=by show _=_;rw[Array.size_append,hsz1,hsz2]
 have H1C:Hid ((C1++C2).all (·.oneCell')=true):=by show _=true;rw[Array.all_append,(ae K1).one,(ae K2).one];rfl
 clear hsz1 hsz2 k2 b8 K1' J7 hs7 A7;go_wp2_with (first
  | (refine il rfl (.tmp 13) (.tmp 16) rfl C1 C2 rfl rfl (ae HBu) ?_)
  | (refine wpList_store_mid rfl 191 (.tmp 0) (.tmp 17) rfl w.heap.size 0 (C1++C2) rfl rfl (by rw[ae HSz];exact ae HTh) (by rw[ae HSz];exact Tryz.infoBooks) (ae H1C) ?_))
 have hr:=World.rangeAt_setCells_same x8 w.heap.size 0 (C1++C2).toList (by rw[Array.length_toList,ae HSz];exact ae HTh);have hk:∀j,j≠w.heap.size->(x8.setCells w.heap.size 0 (C1++C2).toList).heap[j]?=x8.heap[j]?:=fun j hj=>cW _ _ _ _ j hj;have hz:(x8.setCells w.heap.size 0 (C1++C2).toList).heap.size=x8.heap.size:=size_setCells _ _ _ _;refine bodyPost_ret (dQ rfl _ _ w.heap.size _ _ rfl hr Tryz.underlying191 rfl (by rw[Array.length_toList,ae HSz];exact Tryz.infoBooks)) rfl ⟨⟨C1++C2,by simp,C1,C2,rfl,(ae K1).touch hz hk (Nat.lt_succ_self _),(ae K2).touch hz hk (Nat.lt_succ_self _)⟩,?_⟩;exact below_setCells (Nat.le_refl _) _ _ _ (aj (ae B0) (ae A8))
end Go.Proofs.YtkpfkgoiaicgbaaGreatDoor
