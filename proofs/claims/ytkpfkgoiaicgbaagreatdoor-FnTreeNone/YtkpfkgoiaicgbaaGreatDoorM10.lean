/- Of what the proof is made: 5 texts, one behind the other. -/
import Derived.Test.YtkpfkgoiaicgbaaGreatDoorM9
import Derived.Deep.MidRow
set_option linter.unusedSimpArgs false
set_option linter.unusedVariables false
set_option maxHeartbeats 3200000
namespace Go.Proofs.YtkpfkgoiaicgbaaGreatDoor
open Go.RowKit Corb
theorem gU(w:World)(vs:Array Value)(t:TypeId)(j:Nat):(w.alloc (.cells vs t)).frozen? ⟨w.heap.size,j,none⟩=false:=by simp
theorem fK(w:World)(vs:Array Value)(t:TypeId)(n:Nat)(hn:n=vs.size):(w.alloc (.cells vs t)).there w.heap.size 0 n:=by
 intro j hj;subst hn;refine⟨?_,gU w vs t _⟩;rw[cell_of_row _ _ _ vs t (0,0) (heap_alloc_new w _)];simp[hj]
def aO(vl vc vs:Value)(m:Nat->Nat):List Value:=vl :: vc :: ((List.range 16).map (fun j=>Value.int .i64 (m j:Nat))++[vs])
theorem bX(vl vc vs:Value)(m:Nat->Nat):(aO vl vc vs m).length=19:=by simp[aO]
theorem lS(vl vc vs:Value)(m:Nat->Nat)(i:Nat)(h:i<16):(aO vl vc vs m)[i+2]?=some (.int .i64 (m i:Nat)):=by
 show((List.range 16).map (fun j=>Value.int .i64 (m j:Nat))++[vs])[i]?=_;rw[List.getElem?_append_left (by simpa using h)];simp[h]
theorem jW(vl vc vs:Value)(m:Nat->Nat):(aO vl vc vs m)[18]?=some vs:=by
 show((List.range 16).map (fun j=>Value.int .i64 (m j:Nat))++[vs])[16]?=_;rw[List.getElem?_append_right (by simp)];simp
theorem ef.range{w:World}{b:Nat}{vl vc vs:Value}{m:Nat->Nat}(h:ef w b vl vc vs m):w.rangeAt b 0 (aO vl vc vs m):=by
 intro j v hv;have hj:j<19:=by
  have:=(List.getElem?_eq_some_iff.1 hv).1;rwa[bX]at this
 obtain⟨c0,c1,c2,c3,_,_⟩:=h;rw[Nat.zero_add];rcases Nat.lt_or_ge j 2 with h2|h2
 ·
  rcases (show j=0∨j=1 by omega)with rfl|rfl
  · simp only[aO,List.getElem?_cons_zero,Option.some.injEq]at hv;rw[←hv];exact c0
  · simp only[aO,List.getElem?_cons_succ,List.getElem?_cons_zero,Option.some.injEq]at hv;rw[←hv];exact c1
 ·
  rcases Nat.lt_or_ge j 18 with h3|h3
  · obtain⟨i,rfl⟩:∃i,j=i+2:=⟨j-2,by omega⟩;rw[lS _ _ _ _ i (by omega)]at hv;rw[←hv,Nat.add_comm];exact c2 i (by omega)
  ·
   obtain rfl:j=18:=by omega
   rw[jW]at hv;rw[←hv];exact c3
theorem ef.of_range{w:World}{b:Nat}{vl vc vs:Value}{m:Nat->Nat}(h:w.rangeAt b 0 (aO vl vc vs m))(hf:∀o,w.frozen? ⟨b,o,none⟩=false)(hb:b<w.heap.size):ef w b vl vc vs m:=by
 refine⟨?_,?_,fun j hj=>?_,?_,hf,hb⟩
 · have:=h 0 vl rfl;rwa[Nat.zero_add]at this
 · have:=h 1 vc rfl;rwa[Nat.zero_add]at this
 · have:=h (j+2) _ (lS _ _ _ _ j hj);rwa[Nat.zero_add,Nat.add_comm]at this
 · have:=h 18 vs (jW _ _ _ _);rwa[Nat.zero_add]at this
theorem ef.there{w:World}{b:Nat}{vl vc vs:Value}{m:Nat->Nat}(h:ef w b vl vc vs m):w.there b 0 19:=by
 intro j hj;refine⟨?_,?_⟩
 · exact h.range.isSome j (by rw[bX];exact hj)
 · exact h.2.2.2.2.1 _
theorem iH{vl vc vs:Value}{m:Nat->Nat}(hl:vl.oneCell'=true)(hc:vc.oneCell'=true)(hs:vs.oneCell'=true):(aO vl vc vs m).toArray.all (·.oneCell')=true:=by
 apply all_oneCell_toArray;intro v hv;simp only[aO,List.mem_cons,List.mem_append,List.mem_map,List.mem_range]at hv;rcases hv with rfl|rfl|⟨_,_,rfl⟩|rfl|h
 · exact hl
 · exact hc
 · rfl
 · exact hs
 · cases h
theorem below_setCells{B:Nat}{a:World}{b:Nat}(hb:B<=b):∀(vs:List Value) (o:Nat) (w:World),Below B a w->Below B a (w.setCells b o vs)
 | [],_,_,h=>h
 | v :: r,o,w,h=>by
  rw[World.setCells];exact below_setCells (a:=a) hb r (o+1) _ (ai h hb v)
theorem size_setCells(b:Nat):∀(vs:List Value) (o:Nat) (w:World),(w.setCells b o vs).heap.size=w.heap.size
 | [],_,_=>rfl
 | v :: r,o,w=>by
  rw[World.setCells,size_setCells b r];simp
theorem iD{P:Program}{ops:Array Oper}{rest:List Oper}{op:Oper}{a:Act}{w:World}{Q:Exit->Act->World->Prop}(hgd:op.guard=none)(ty:TypeId)(x y:Operand)(ho:op.op = .store ty x y)
  (b:Nat) (C:Array Value) (vl vc vs:Value) (m:Nat->Nat) (hx:a.eval x = .pointer (some ⟨b,0,none⟩)) (hy:a.eval y = .agg C) (hC:C=(aO vl vc vs m).toArray)
  (ht:w.there b 0 19) (hf:∀o,w.frozen? ⟨b,o,none⟩=false) (hi:(P.info? ty).map (·.size)=some 19) (h1:vl.oneCell'=true/\vc.oneCell'=true/\vs.oneCell'=true)
  (h:∀w',ef w' b vl vc vs m->Below b w w'->w'.heap.size=w.heap.size->(∀j,j≠b->w'.heap[j]?=w.heap[j]?)->wpList P ops Q rest (a.put op.dst undef) w'):wpList P ops Q (op :: rest) a w:=by
 have hlt:b<w.heap.size:=by
  obtain⟨v,hv⟩:=Option.isSome_iff_exists.1 (ht 0 (by omega)).1;exact World.block_lt_of_cell? _ _ hv
 subst hC;have hsz:(aO vl vc vs m).toArray.size=19:=by simp[bX]
 refine wpList_store_mid hgd ty x y ho b 0 _ hx hy (by rw[hsz];exact ht) (by rw[hsz];exact hi) (iH h1.1 h1.2.1 h1.2.2) ?_;have ht':w.there b 0 (aO vl vc vs m).length:=by rw[bX];exact ht
 refine h _ (ef.of_range (World.rangeAt_setCells_same w b 0 _ ht') (fun o=>by rw[World.frozen?_setCells];exact hf o) (by rw[size_setCells];exact hlt)) (below_setCells (Nat.le_refl _) _ _ _ (Below.refl _ _)) (size_setCells _ _ _ _) ?_;have heap:∀(vs:List Value) (o:Nat) (w:World) (j:Nat),j≠b->(w.setCells b o vs).heap[j]?=w.heap[j]?:=by
  intro vs;induction vs with
  | nil=>intro o w j _;rfl
  | cons v r ih=>
   intro o w j hj;rw[World.setCells,ih _ _ _ hj];exact Below.heap_setCell w ⟨b,o,none⟩ v j hj
 exact fun j hj=>heap _ _ _ j hj
theorem dQ{P:Program}{fn:Func}{p:Tmp}{ty:TypeId}(h:fn.results=#[.cell p ty])(tmps:Array Value)(w:World)(b:Nat)(cs:List Value)(d:TypeDesc)
  (hp:tmps.getD p undef = .pointer (some ⟨b,0,none⟩)) (hc:w.rangeAt b 0 cs) (hu:P.underlying ty=some d) (hd:d.isRow=true) (hi:(P.info? ty).map (·.size)=some cs.length) :
  (results fn tmps).run P w = .ok (.agg cs.toArray) w:=by
 have hp':tmps[p]?.getD undef = .pointer (some ⟨b,0,none⟩):=by simpa using hp
 simp[results,h,hp',asAddr,run_loadVar_mid w b 0 ty cs d hc hu hd hi]
end Go.Proofs.YtkpfkgoiaicgbaaGreatDoor
namespace Go.Proofs.YtkpfkgoiaicgbaaGreatDoor.Bkx
open Go.Proofs.YtkpfkgoiaicgbaaGreatDoor
open Go.RowKit Corb
structure BkI where
 o:Nat
 p:Nat
 g:Nat
 s:Nat
 b:Nat
 T:Nat
 E:Nat
 S:Nat
def bkL:BkI:=⟨130,161,224,219,215,186,197,184⟩
def bkD:BkI:=⟨131,188,230,226,216,189,199,187⟩
def bkN:BkI:=⟨170,172,228,221,222,265,267,263⟩
def Bks(B:BkI):Prop:=B=bkL∨B=bkD∨B=bkN
theorem Bks.info{B:BkI}(h:Bks B):(Tryz.prog.info? B.T).map (·.size)=some 19:=by
 rcases h with rfl|rfl|rfl
 · kernel_rfl
 · kernel_rfl
 · kernel_rfl
theorem Bks.sym{B:BkI}(h:Bks B):(Tryz.prog.info? B.E).map (fun i=>(i.zero,i.size,i.bytes))=some (some (.int .i64 0),1,8):=by
 rcases h with rfl|rfl|rfl
 · kernel_rfl
 · kernel_rfl
 · kernel_rfl
theorem Bks.und{B:BkI}(h:Bks B):∃d,Tryz.prog.underlying B.T=some d/\d.isRow=true:=by
 rcases h with rfl|rfl|rfl
 · exact⟨_,Tryz.underlying186,rfl⟩
 · exact⟨_,Tryz.underlying189,rfl⟩
 · exact⟨_,Tryz.underlying265,rfl⟩
theorem Bks.sl{B:BkI}(h:Bks B):Tryz.prog.underlying B.S=some (.slice B.E):=by
 rcases h with rfl|rfl|rfl
 · exact Tryz.underlying184
 · exact Tryz.underlying187
 · exact Tryz.underlying263
theorem Bks.ne{B:BkI}(h:Bks B):B.E≠5:=by
 rcases h with rfl|rfl|rfl<;>decide
def cP(E:TypeId)(w:World)(base:Nat)(v:Value)(l:List Int):Prop:=w.ownsRow base E 1 v l.length (l.map (Value.int .i64))
theorem cP.form{E:TypeId}{w:World}{base:Nat}{v:Value}{l:List Int}(h:cP E w base v l):∃a cap,v = .slice a l.length cap:=by
 rcases h.2 with⟨e,h0⟩|⟨g,cap,_,e,_⟩
 · exact⟨none,0,by rw[e,h0]⟩
 · exact⟨_,cap,e⟩
theorem cP.later{E:TypeId}{w w':World}{base B:Nat}{v:Value}{l:List Int}(h:cP E w base v l)(hb:Below B w w')(hB:w.heap.size<=B):cP E w' base v l:=by
 refine⟨h.1,?_⟩;rcases h.2 with hn|⟨g,cap,cur,rfl,hbg,hgg,rest⟩
 · exact .inl hn
 · refine .inr ⟨g,cap,cur,rfl,hbg,?_,rest⟩;have hg:=(Array.getElem?_eq_some_iff.1 hgg).1;rw[hb.block g (by omega)];exact hgg
theorem cP.nil{E:TypeId}(w:World)(base:Nat):cP E w base (.slice none 0 0) []:=World.ownsRow_nil _ _ _ _
theorem i7{E:TypeId}{x:World}{base:Nat}{v:Value}{l:List Int}{a:Int}(h:x.ownsRow base E 1 v (l.length+1) (l.map (Value.int .i64)++[.int .i64 a])):cP E x base v (l++[a]):=by
 unfold cP;simpa using h
theorem cP.mono{E:TypeId}{w:World}{base base':Nat}{v:Value}{l:List Int}(h:cP E w base v l)(hb:base'<=base):cP E w base' v l:=by
 refine⟨h.1,?_⟩;rcases h.2 with hn|⟨g,cap,cur,rfl,hbg,rest⟩
 · exact .inl hn
 · exact .inr ⟨g,cap,cur,rfl,by omega,rest⟩
theorem cP.formN{E:TypeId}{w:World}{base n:Nat}{v:Value}{l:List Int}(hn:l.length=n)(h:cP E w base v l):∃a cap,v = .slice a n cap:=by
 subst hn;exact h.form
theorem cP.own{E:TypeId}{w:World}{base n:Nat}{v:Value}{l:List Int}(hn:l.length=n)(h:cP E w base v l):w.ownsRow base E 1 v n (l.map (Value.int .i64)):=by
 subst hn;exact h
theorem cP.touch{E:TypeId}{w w':World}{a:Option Addr}{base:Nat}{v:Value}{l:List Int}(h:cP E w base v l)(ht:Touch a w w')(hne:∀g,a=some ⟨g,0,none⟩->g<base):cP E w' base v l:=by
 refine⟨h.1,?_⟩;rcases h.2 with hn|⟨g,cap,cur,rfl,hbg,hgg,rest⟩
 · exact .inl hn
 · refine .inr ⟨g,cap,cur,rfl,hbg,?_,rest⟩;rw[ht.2 g (fun g' e=>by have:=hne g' e;omega)];exact hgg
theorem cP.setUnder{E:TypeId}{w:World}{base b o:Nat}{v:Value}{l:List Int}(h:cP E w base v l)(hb:b<base)(u:Value):cP E (w.setCell ⟨b,o,none⟩ u) base v l:=
 ownsRow_setCell_below h (a:=⟨b,o,none⟩) hb u
end Go.Proofs.YtkpfkgoiaicgbaaGreatDoor.Bkx
namespace Go.Proofs.YtkpfkgoiaicgbaaGreatDoor.Bkx
open Go.Proofs.YtkpfkgoiaicgbaaGreatDoor
open Go.RowKit Corb
set_option maxRecDepth 100000
set_option linter.unusedSimpArgs false
def AX:Array Value:=#[.slice none 0 0,.slice none 0 0,.int .i64 0,.int .i64 0,.int .i64 0,.int .i64 0,.int .i64 0,.int .i64 0,.int .i64 0,.int .i64 0,.int .i64 0,.int .i64 0,.int .i64 0,.int .i64 0,.int .i64 0,.int .i64 0,.int .i64 0,.int .i64 0,.slice none 0 0]
theorem qs(f:Nat->Nat)(i x y:Nat):(fun j=>if j=i then x else(if j=i then y else f j))=fun j=>if j=i then x else f j:=by
 funext j
 by_cases h:j=i
 · simp[h]
 · simp[h]
theorem codeBook_any(B:BkI)(hB:Bks B)(a:Option Addr)(cap n:Nat)(l:List Int)(w:World)(hn:l.length=n)(h:bC w a l)(hm:n<=300) :
  Calls Tryz.prog B.o #[.slice a n cap] w fun e w'=>∃vs C,e = .returned (.agg C)/\C=(aO (.slice a n cap) (.slice (some ⟨w.heap.size+1,0,none⟩) n n) vs (fi l 15)).toArray/\ar w' (w.heap.size+1) (.slice (some ⟨w.heap.size+1,0,none⟩) n n) (bB l 15).2/\cP B.E w' (w.heap.size+1) vs (cF l 15)/\Below w.heap.size w w':=by
 have hm':(n:Int)<=300:=by omega
 obtain⟨i0,hi,hz0,hz1,hz2⟩:=info_parts Tryz.infoInt;obtain⟨j0,ji,jz0,jz1,jz2⟩:=info_parts hB.sym;have Hn:=af hn;have Hm:=af hm;have hIB:=hB.info;obtain⟨d,hUd,hdr⟩:=hB.und;have hUS:=hB.sl;obtain⟨w0,hw0⟩:∃x,w.alloc (.cells AX B.T)=x:=⟨_,rfl⟩;have S0:w0.heap.size=w.heap.size+1:=by rw[←hw0];simp
 have B0:Below w.heap.size w w0:=by rw[←hw0];exact(Below.refl _ _).alloc (Nat.le_refl _) _
 have T0:w0.there w.heap.size 0 19:=by rw[←hw0];exact fK w AX _ _ rfl
 have F0:∀o,w0.frozen? ⟨w.heap.size,o,none⟩=false:=by rw[←hw0];exact fun o=>gU w _ _ _
 unfold AX at hw0;generalize B.E=E at *
 rcases hB with rfl|rfl|rfl;all_goals
  simp only[bkL,bkD,bkN]at hIB hUd hUS hw0 ⊢;have HX:=af (And.intro S0 (And.intro B0 (And.intro T0 F0)));have HW0:=af hw0;clear S0 B0 T0 F0 hw0
  (first|go_enter Tryz.func130,Tryz.ntmps130|go_enter Tryz.func131,Tryz.ntmps131|go_enter Tryz.func170,Tryz.ntmps170)
  go_wp2_with (first
   | (at_make;refine wpList_make_full _ rfl _ _ 154 rfl (w.heap.size+1) 3 i0 (.int .i64 0) 1 Tryz.underlying154 hi hz0 hz1 .i64 .i64 _ _ n rfl rfl rfl rfl (by rw[hz2];omega) (by unfold maxLen;omega) (by simp) ?_;intro w1 hown hgrow)
   | (refine iD rfl _ (.tmp 3) (.tmp 12) rfl w1.heap.size _ (.slice a n cap) (.slice (some ⟨w.heap.size+1,0,none⟩) n n) (.slice none 0 0) (fun _=>0) rfl rfl rfl (fK w1 _ _ _ rfl) (gU w1 _ _) hIB ⟨rfl,rfl,rfl⟩ ?_;intro w2 hbk hbl hsz hap))
  have hs1:∀o:Obj,(w.alloc o).heap.size=w.heap.size+1:=fun o=>by simp
  rw[hs1]at hown;rw[ae HW0]at hgrow;have hb1:Below (w.heap.size+1) w0 w1:=(Below.refl _ _).grown hgrow (by rw[(ae HX).1];exact Nat.le_refl _) (fun k h=>by cases h);have hown1:ar w1 (w.heap.size+1) (.slice (some ⟨w.heap.size+1,0,none⟩) n n) (List.replicate n 0):=gE hown;have hlt1:w.heap.size+1<w1.heap.size:=hown1.below.2;have hb2:Below (w.heap.size+1) w0 w2:=(hb1.alloc (by omega) _).trans (hbl.mono (by omega));have hown2:ar w2 (w.heap.size+1) (.slice (some ⟨w.heap.size+1,0,none⟩) n n) (bB l 0).2:=by
   show ar w2 (w.heap.size+1) (.slice (some ⟨w.heap.size+1,0,none⟩) n n) (List.replicate l.length 0);rw[hn];exact(hown1.later ((Below.refl w1.heap.size w1).alloc (Nat.le_refl _) _) (Nat.le_refl _)).under hbl hlt1
  have hsy2:cP E w2 (w1.heap.size+1) (.slice none 0 0) (cF l 0):=cP.nil _ _;have hbk2:ef w2 w1.heap.size (.slice a n cap) (.slice (some ⟨w.heap.size+1,0,none⟩) n n) (.slice none 0 0) (fi l 0):=by
   have e:(fun _=>0:Nat->Nat)=fi l 0:=by
    funext j
    unfold fi;rw[if_neg (by omega)]
   rw[←e];exact hbk
  obtain⟨b,hbe⟩:∃b,w1.heap.size=b:=⟨_,rfl⟩;rw[hbe]at hbk2 hsy2 hlt1 ⊢;clear hown hgrow hown1 hb1 hbl hsz hap hbk hs1 hm hn hbe
  go_loopw [4,5,6,7] (fun c m _ _ wr=>∃(N:Nat) (vs:Value),N<=15/\m = .int .i64 ((N:Int)+1)/\c = .int .i64 ((bB l N).1:Nat)/\ef wr b (.slice a n cap) (.slice (some ⟨w.heap.size+1,0,none⟩) n n) vs (fi l N)/\ar wr (w.heap.size+1) (.slice (some ⟨w.heap.size+1,0,none⟩) n n) (bB l N).2/\cP E wr (b+1) vs (cF l N)/\Below (w.heap.size+1) w0 wr) (fun _ m _ _ _=>16-(intOf m).toNat)
  case atStart=>exact⟨0,_,by omega,rfl,rfl,hbk2,hown2,hsy2,hb2⟩
  case round=>
   obtain⟨N,vs,hN,rfl,rfl,hbk,hco,hsy,hbel⟩:=hrel;clear hbk2 hown2 hsy2 hb2;have hbs:w.heap.size+1<=wr.heap.size:=by have:=hbel.size;rw[(ae HX).1]at this;exact this
   have hbd:=BN l N hN (by rw[ae Hn];exact ae Hm);have hbI:(((bB l N).1:Nat):Int)<=9830400:=by omega
   have hNI:(N:Int)<=15:=by omega
   clear hbd;by_cases hlt:N<15
   ·
    have hN15:(N:Int)<15:=by omega
    have hlen0:Hid ((bB l N).2.length=n):=(dc l N).trans (ae Hn);have hfin:Hid (bB l (N+1)=inn l ((N:Int)+1) (2*(bB l N).1,(bB l N).2) l.length):=rfl;have hfis:Hid (cF l (N+1)=syms l ((N:Int)+1) (cF l N) l.length):=rfl;have hfim:=af (Aa l N);have hsl:=af (sf l N);rw[←Ab l N]at hbk;have hnext:=af (BN l (N+1) (by omega) (by rw[ae Hn];exact ae Hm));have hS1:Hid (((bB l N).1:Int)*2=((2*(bB l N).1:Nat):Int)):=by show((bB l N).1:Int)*2=_;omega
    generalize hS:((2*(bB l N).1,(bB l N).2):Nat×List Int)=S at *
    have hS2:2*(bB l N).1=S.1:=by rw[←hS]
    have hS3:(bB l N).2=S.2:=by rw[←hS]
    rw[hS2]at hS1;rw[hS3]at hco hlen0;have hSI:(S.1:Int)<=19660800:=by omega
    clear hS hS2 hS3;have hd15:decide ((N:Int)+1<=15)=true:=decide_eq_true (by omega);go_wp2_with fail;rw[ae hS1]
    go_loopw [4,6,7,21] (fun c _ _ i wr=>∃(k:Nat) (vs:Value),k<=n/\i = .int .i64 k/\c = .int .i64 ((inn l ((N:Int)+1) S k).1:Nat)/\ef wr b (.slice a n cap) (.slice (some ⟨w.heap.size+1,0,none⟩) n n) vs (fun j=>if j=N+1 then many l ((N:Int)+1) k else fi l N j)/\ar wr (w.heap.size+1) (.slice (some ⟨w.heap.size+1,0,none⟩) n n) (inn l ((N:Int)+1) S k).2/\cP E wr (b+1) vs (syms l ((N:Int)+1) (cF l N) k)/\Below (w.heap.size+1) w0 wr) (fun _ _ _ i _=>n-(intOf i).toNat)
    case atStart=>exact⟨0,_,Nat.zero_le _,rfl,rfl,hbk,hco,hsy,hbel⟩
    case round=>
     obtain⟨k,vs,hk,rfl,rfl,hbk1,hco1,hsy1,hbel1⟩:=hrel;clear hbk hco hsy hbel hbs;have hbs:w.heap.size+1<=wr.heap.size:=by have:=hbel1.size;rw[(ae HX).1]at this;exact this
     have hlen:Hid ((inn l ((N:Int)+1) S k).2.length=n):=(uW _ _ _ _).trans (ae hlen0);have hle:=Gx l ((N:Int)+1) S k;have hleI:((inn l ((N:Int)+1) S k).1:Int)<=19661100:=by have:=ae Hm;omega
     clear hle;by_cases hkn:k<n
     ·
      have hbw:Below w.heap.size w wr:=(ae HX).2.1.trans (hbel1.mono (Nat.le_succ _));obtain⟨g,o,rfl,hg,hc⟩:=(h.later hbw) (by rw[ae Hn];omega);have c0:=hc k (by rw[ae Hn];exact hkn);obtain⟨d0,f0,_,_⟩:=hco1.at (ae hlen) hkn;have hst:Hid (inn l ((N:Int)+1) S (k+1)=if l.getD k 0=(N:Int)+1 then((inn l ((N:Int)+1) S k).1+1,(inn l ((N:Int)+1) S k).2.set k ((inn l ((N:Int)+1) S k).1:Int))else inn l ((N:Int)+1) S k):=rfl;have hsm:Hid (many l ((N:Int)+1) (k+1)=if l.getD k 0=(N:Int)+1 then many l ((N:Int)+1) k+1 else many l ((N:Int)+1) k):=rfl;have hss:Hid (syms l ((N:Int)+1) (cF l N) (k+1)=if l.getD k 0=(N:Int)+1 then syms l ((N:Int)+1) (cF l N) k++[(k:Int)]else syms l ((N:Int)+1) (cF l N) k):=rfl;have hml:=GW l ((N:Int)+1) k;have hyl:=ud l ((N:Int)+1) (cF l N) k;have HK:=af hk;have hbl:=hbk1.2.2.2.2.2;clear hc hk h hbw;generalize l.getD k 0=y at *
      generalize inn l ((N:Int)+1) S k=T at *
      generalize many l ((N:Int)+1) k=M at *
      generalize syms l ((N:Int)+1) (cF l N) k=Y at *
      by_cases hy:y=(N:Int)+1
      ·
       have hst':Hid (inn l ((N:Int)+1) S (k+1)=(T.1+1,T.2.set k (T.1:Int))):=by have:=ae hst;rw[if_pos hy]at this;exact this
       have hsm':Hid (many l ((N:Int)+1) (k+1)=M+1):=by have:=ae hsm;rw[if_pos hy]at this;exact this
       have hss':Hid (syms l ((N:Int)+1) (cF l N) (k+1)=Y++[(k:Int)]):=by have:=ae hss;rw[if_pos hy]at this;exact this
       have hput:=af (hco1.put (j:=k) (ae hlen) (T.1:Int));subst hy;generalize T.2.getD k 0=d at *
       have hne:w.heap.size+1≠b:=by omega
       have hMI:(M:Int)<=300:=by have:=ae Hm;omega
       have c1:=hbk1.2.1;have B1:=hbk1.other (o:=k) hne (.int .i64 (T.1:Int));have e1:(wr.setCell ⟨w.heap.size+1,k,none⟩ (.int .i64 (T.1:Int))).cell? ⟨b,2+(N+1),none⟩=some (.int .i64 (M:Int)):=by
        have:=B1.2.2.1 (N+1) (by omega);simpa using this
       have e2:=B1.2.2.2.2.1 (2+(N+1));have B2:=B1.many (i:=N+1) (x:=M+1) (by omega);have eI:((M+1:Nat):Int)=(M:Int)+1:=by omega
       rw[eI]at B2;have c3:=hbk1.2.2.2.1;have HB2:=af B2;have hsyW:cP E ((wr.setCell ⟨w.heap.size+1,k,none⟩ (.int .i64 (T.1:Int))).setCell ⟨b,2+(N+1),none⟩ (.int .i64 ((M:Int)+1))) (b+1) vs Y:=(hsy1.setUnder (by omega) _).setUnder (Nat.lt_succ_self _) _;have hcoW:ar ((wr.setCell ⟨w.heap.size+1,k,none⟩ (.int .i64 (T.1:Int))).setCell ⟨b,2+(N+1),none⟩ (.int .i64 ((M:Int)+1))) (w.heap.size+1) (.slice (some ⟨w.heap.size+1,0,none⟩) n n) (T.2.set k (T.1:Int)):=(ae hput).setOther (Ne.symm hne) _;have hbeW:Below (w.heap.size+1) w0 ((wr.setCell ⟨w.heap.size+1,k,none⟩ (.int .i64 (T.1:Int))).setCell ⟨b,2+(N+1),none⟩ (.int .i64 ((M:Int)+1))):=ai (ai hbel1 (Nat.le_refl _) _) (by omega) _;have hszW:((wr.setCell ⟨w.heap.size+1,k,none⟩ (.int .i64 (T.1:Int))).setCell ⟨b,2+(N+1),none⟩ (.int .i64 ((M:Int)+1))).heap.size=wr.heap.size:=by simp
       have hYl:Y.length<=100000:=by
        have h1:=ae hsl;have h2:N*l.length<=15*300:=Nat.mul_le_mul (by omega) (by rw[ae Hn];exact ae Hm);have h3:=ae Hm;omega
       have HYl:=af hYl;have HsyW:=af hsyW;have HcoW:=af hcoW;have HbeW:=af hbeW;clear B1 B2 hsyW hcoW hbeW hYl hyl hml hbk1 hco1 hsy1 hbel1 hput hst hss hsm eI;have hlen1:Y.length+1<=maxLen:=by have:=ae HYl;unfold maxLen;omega
       have hlen2:(Y.length+1)*8<=140737488355328:=by have:=ae HYl;omega
       have hlen3:∀o:Obj,b+1<=(((wr.setCell ⟨w.heap.size+1,k,none⟩ (.int .i64 (T.1:Int))).setCell ⟨b,2+(N+1),none⟩ (.int .i64 ((M:Int)+1))).alloc o).heap.size:=fun o=>by simp;omega
       have Hl1:=af hlen1;have Hl2:=af hlen2;have Hl3:=af hlen3;have Hsz:=af hszW;clear hlen1 hlen2 hlen3 hszW;go_wp2_with (at_builtin;refine wpList_append_own _ rfl _ _ _ rfl (b+1) E j0 (.int .i64 0) 1 8 hUS ji jz0 jz1 jz2 rfl (by decide) _ _ _ rfl (World.ownsRow.alloc (ae HsyW) _) ⟨wr.heap.size,0,none⟩ 1 1 [.int .i64 (k:Int)] rfl rfl (fQ _ _ (ae Hsz) _ _) (p6 _) (ae Hl1) (ae Hl2) (ae Hl3 _) ?_;intro v' x3 hown hgrow hnil;clear hnil;have hb3:=aK (v:=vs) hgrow (ae HsyW) (Nat.le_refl (b+1)) (by rw[ae Hsz];exact hbl) (Below.refl _ _);have B3:=(ae HB2).kept hb3;have c4:=B3.2.2.2.1;have f4:=B3.2.2.2.2.1 18;have hex:=cP.formN (n:=Y.length+1) (by simp) (i7 hown);obtain⟨va,vc,hv⟩:=hex;rw[hv];have HV:=af hv;clear hv);have hco3:=(ae HcoW).under hb3 (by omega);have hsy3:=i7 hown;have hbe3:=(ae HbeW).trans (hb3.mono (by omega));rw[ae HV]at hsy3;have hbk3:=B3.sorted (.slice va (Y.length+1) vc);rw[qs]at hbk3;have hco4:=hco3.setOther (o:=18) (Ne.symm hne) (.slice va (Y.length+1) vc);have hsy4:=hsy3.setUnder (b:=b) (o:=18) (Nat.lt_succ_self _) (.slice va (Y.length+1) vc);have hbe4:=ai (o:=18) hbe3 (show w.heap.size+1<=b by omega) (.slice va (Y.length+1) vc);clear hco3 hsy3 hbe3 B3 hown hgrow hb3 HbeW HcoW HsyW HB2;go_roundw
       case rel=>
        exact⟨k+1,.slice va (Y.length+1) vc,by omega,by go_num,by rw[ae hst'];go_num,by rw[ae hsm'];exact hbk3,by rw[ae hst'];exact hco4,by rw[ae hss'];exact hsy4,hbe4⟩
       case measure=>simp[intOf];omega
      ·
       have hst':Hid (inn l ((N:Int)+1) S (k+1)=T):=by have:=ae hst;rw[if_neg hy]at this;exact this
       have hsm':Hid (many l ((N:Int)+1) (k+1)=M):=by have:=ae hsm;rw[if_neg hy]at this;exact this
       have hss':Hid (syms l ((N:Int)+1) (cF l N) (k+1)=Y):=by have:=ae hss;rw[if_neg hy]at this;exact this
       have g1:(y == (N:Int)+1)=false:=by simpa using hy
       clear hyl hml;go_wp2;go_roundw
       case rel=>exact⟨k+1,_,by omega,by go_num,by rw[ae hst'],by rw[ae hsm'];exact hbk1,by rw[ae hst'];exact hco1,by rw[ae hss'];exact hsy1,hbel1⟩
       case measure=>simp[intOf];omega
     ·
      have hkl:k=l.length:=by have:=ae Hn;omega
      subst hkl;rw[←ae hfin]at hco1 hleI ⊢;rw[←ae hfis]at hsy1;rw[ae hfim]at hbk1;have hnI:((bB l (N+1)).1:Int)<=9830400:=by have:=ae hnext;omega
      go_wp2;go_roundw
      case rel=>exact⟨N+1,_,by omega,by go_num,rfl,hbk1,hco1,hsy1,hbel1⟩
      case measure=>simp[intOf];omega
   ·
    obtain rfl:N=15:=by omega
    have ht0:wr.there w.heap.size 0 19:=fun j hj=>by
     obtain⟨h1,h2⟩:=(ae HX).2.2.1 j hj;exact⟨by rw[hbel.cell (p:=⟨w.heap.size,0+j,none⟩) (Nat.lt_succ_self _)];exact h1,by rw[hbel.frozen (p:=⟨w.heap.size,0+j,none⟩) (Nat.lt_succ_self _)];exact h2⟩
    have hf0:∀o,wr.frozen? ⟨w.heap.size,o,none⟩=false:=fun o=>by
     rw[hbel.frozen (p:=⟨w.heap.size,o,none⟩) (Nat.lt_succ_self _)];exact(ae HX).2.2.2 _
    have h1:vs.oneCell'=true:=by
     obtain⟨_,_,e⟩:=hsy.form;rw[e];rfl
    have Ht0:=af ht0;have Hf0:=af hf0;have H1:=af h1;clear ht0 hf0 h1;go_wp2_with (first
     | (refine wpList_load_mid rfl _ (.tmp 3) rfl b 0 rfl _ _ hbk.range hUd hdr (by rw[bX];exact hIB) ?_)
     | (refine iD rfl _ (.tmp 2) (.tmp 50) rfl w.heap.size _ _ _ _ _ rfl rfl rfl (ae Ht0) (ae Hf0) hIB ⟨rfl,rfl,ae H1⟩ ?_;intro w2 hbk2 hbl hsz hap))
    refine bodyPost_ret (dQ rfl _ _ w.heap.size _ _ rfl hbk2.range hUd hdr (by rw[bX];exact hIB)) rfl ⟨_,_,rfl,rfl,?_,?_,?_⟩
    · exact hco.touch (a:=some ⟨w.heap.size,0,none⟩) ⟨hsz,fun j hj=>hap j (hj _ rfl)⟩ (by intro g e;simp only[Option.some.injEq,Addr.mk.injEq,and_true]at e;omega)
    · exact(hsy.mono (by omega)).touch (a:=some ⟨w.heap.size,0,none⟩) ⟨hsz,fun j hj=>hap j (hj _ rfl)⟩ (by intro g e;simp only[Option.some.injEq,Addr.mk.injEq,and_true]at e;omega)
    · exact((ae HX).2.1.trans (hbel.mono (Nat.le_succ _))).trans hbl
end Go.Proofs.YtkpfkgoiaicgbaaGreatDoor.Bkx
namespace Go.Proofs.YtkpfkgoiaicgbaaGreatDoor
open Go.RowKit Corb
def AX:Array Value:=#[.slice none 0 0,.slice none 0 0,.int .i64 0,.int .i64 0,.int .i64 0,.int .i64 0,.int .i64 0,.int .i64 0,.int .i64 0,.int .i64 0,.int .i64 0,.int .i64 0,.int .i64 0,.int .i64 0,.int .i64 0,.int .i64 0,.int .i64 0,.int .i64 0,.slice none 0 0]
theorem qs(f:Nat->Nat)(i x y:Nat):(fun j=>if j=i then x else(if j=i then y else f j))=fun j=>if j=i then x else f j:=by
 funext j
 by_cases h:j=i
 · simp[h]
 · simp[h]
end Go.Proofs.YtkpfkgoiaicgbaaGreatDoor
namespace Go.Proofs.YtkpfkgoiaicgbaaGreatDoor
open Go.RowKit Corb
theorem g9{l:List Int}(h:ap l=true):l.length<=300:=by
 simp only[ap,Bool.and_eq_true,decide_eq_true_iff]at h;exact h.1.2
end Go.Proofs.YtkpfkgoiaicgbaaGreatDoor
