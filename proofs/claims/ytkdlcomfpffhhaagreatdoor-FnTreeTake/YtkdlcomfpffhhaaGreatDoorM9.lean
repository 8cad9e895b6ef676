/- Of what the proof is made: 5 texts, one behind the other. -/
import Derived.Test.YtkdlcomfpffhhaaGreatDoorM8
import Derived.Deep.MidRow
set_option maxRecDepth 100000
set_option linter.unusedSimpArgs false
set_option linter.unusedVariables false
set_option maxHeartbeats 3200000
namespace Go.Proofs.YtkdlcomfpffhhaaGreatDoor
open Go.Proofs.Tryz
open Go.RowKit Corb
variable {b:Nat}{m:Nat->Nat}{vc vl vs:Value}{w:World}
theorem ip(w:World)(vs:Array Value)(t:TypeId)(j:Nat):(w.alloc (.cells vs t)).frozen? ⟨w.heap.size,j,none⟩=false:=by simp
theorem jw(w:World)(vs:Array Value)(t:TypeId)(n:Nat)(b:n=vs.size):(w.alloc (.cells vs t)).there w.heap.size 0 n:=by
 intro j a;subst b;refine⟨?_,ip w vs t _⟩;rw[a1t _ _ _ vs t (0,0) (heap_alloc_new w _)];simp[a]
def aW(vl vc vs:Value)(m:Nat->Nat):List Value:=vl :: vc :: ((List.range 16).map (fun j=>Value.int .i64 (m j:Nat))++[vs])
theorem ci(vl vc vs:Value)(m:Nat->Nat):(aW vl vc vs m).length=19:=by simp[aW]
theorem l9(vl vc vs:Value)(m:Nat->Nat)(i:Nat)(h:i<16):(aW vl vc vs m)[i+2]?=some (.int .i64 (m i:Nat)):=by
 show((List.range 16).map (fun j=>Value.int .i64 (m j:Nat))++[vs])[i]?=_;rw[List.getElem?_append_left (by simpa using h)];simp[h]
theorem kB(vl vc vs:Value)(m:Nat->Nat):(aW vl vc vs m)[18]?=some vs:=by
 show((List.range 16).map (fun j=>Value.int .i64 (m j:Nat))++[vs])[16]?=_;rw[List.getElem?_append_right (by simp)];simp
theorem fe.range(h:fe w b vl vc vs m):w.rangeAt b 0 (aW vl vc vs m):=by
 intro j v a;have d:j<19:=by
  have:=(List.getElem?_eq_some_iff.1 a).1;rwa[ci]at this
 obtain⟨c0,c1,c2,c3,_,_⟩:=h;rw[a0B];rcases a1z j 2 with h2|h2
 .
  rcases (show j=0∨j=1 by omega)with rfl|rfl
  . simp only[aW,List.getElem?_cons_zero,a0m]at a;rw[←a];exact c0
  . simp only[aW,List.getElem?_cons_succ,List.getElem?_cons_zero,a0m]at a;rw[←a];exact c1
 .
  rcases a1z j 18 with c|c
  . obtain⟨i,rfl⟩:∃i,j=i+2:=⟨j-2,by omega⟩;rw[l9 _ _ _ _ i (by omega)]at a;rw[←a,a2H];exact c2 i (by omega)
  .
   obtain rfl:j=18:=by omega
   rw[kB]at a;rw[←a];exact c3
theorem fe.of_range(h:w.rangeAt b 0 (aW vl vc vs m))(a:∀o,w.frozen? ⟨b,o,none⟩=false)(hb:b<w.heap.size):fe w b vl vc vs m:=by
 refine⟨?_,?_,fun j c=>?_,?_,a,hb⟩
 . have:=h 0 vl rfl;rwa[a0B]at this
 . have:=h 1 vc rfl;rwa[a0B]at this
 . have:=h (j+2) _ (l9 _ _ _ _ j c);rwa[a0B,a2H]at this
 . have:=h 18 vs (kB _ _ _ _);rwa[a0B]at this
theorem fe.there(h:fe w b vl vc vs m):w.there b 0 19:=by
 intro j a;refine⟨?_,?_⟩
 . exact h.range.isSome j (by rw[ci];exact a)
 . exact h.2.2.2.2.1 _
theorem iW(c:vl.oneCell'=true)(b:vc.oneCell'=true)(d:vs.oneCell'=true):(aW vl vc vs m).toArray.all (·.oneCell')=true:=by
 apply all_oneCell_toArray;intro v a;simp only[aW,a1h,a1j,a2S,List.mem_range]at a;rcases a with rfl|rfl|⟨_,_,rfl⟩|rfl|h
 . exact c
 . exact b
 . rfl
 . exact d
 . cases h
theorem below_setCells{B:Nat}{a:World}{b:Nat}(hb:B<=b):∀(vs:List Value) (o:Nat) (w:World),Below B a w->Below B a (w.setCells b o vs)
 | [],_,_,h=>h
 | v :: r,o,w,h=>by
  rw[World.setCells];exact below_setCells (a:=a) hb r (o+1) _ (ap h hb v)
theorem size_setCells(b:Nat):∀(vs:List Value) (o:Nat) (w:World),(w.setCells b o vs).heap.size=w.heap.size
 | [],_,_=>rfl
 | v :: r,o,w=>by
  rw[World.setCells,size_setCells b r];simp
theorem iU{P:Program}{ops:Array Oper}{rest:List Oper}{op:Oper}{a:Act}{Q:Exit->Act->World->Prop}(f:op.guard=none)(ty:TypeId)(x y:Operand)(q:op.op = .store ty x y)
  (b:Nat) (C:Array Value) (vl vc vs:Value) (m:Nat->Nat) (t:a.eval x = .pointer (some ⟨b,0,none⟩)) (u:a.eval y = .agg C) (l:C=(aW vl vc vs m).toArray)
  (i:w.there b 0 19) (n:∀o,w.frozen? ⟨b,o,none⟩=false) (p:(P.info? ty).map (·.size)=some 19) (e:vl.oneCell'=true/\vc.oneCell'=true/\vs.oneCell'=true)
  (h:∀w',fe w' b vl vc vs m->Below b w w'->w'.heap.size=w.heap.size->(∀j,j≠b->w'.heap[j]?=w.heap[j]?)->wpList P ops Q rest (a.put op.dst undef) w'):wpList P ops Q (op :: rest) a w:=by
 have g:b<w.heap.size:=by
  obtain⟨v,s⟩:=Option.isSome_iff_exists.1 (i 0 (by omega)).1;exact World.block_lt_of_cell? _ _ s
 subst l;have c:(aW vl vc vs m).toArray.size=19:=by simp[ci]
 refine a3N f ty x y q b 0 _ t u (by rw[c];exact i) (by rw[c];exact p) (iW e.1 e.2.1 e.2.2) ?_;have k:w.there b 0 (aW vl vc vs m).length:=by rw[ci];exact i
 refine h _ (fe.of_range (a3O w b 0 _ k) (fun o=>by rw[World.frozen?_setCells];exact n o) (by rw[size_setCells];exact g)) (below_setCells (a0a _) _ _ _ (a0c _ _)) (size_setCells _ _ _ _) ?_;have heap:∀(vs:List Value) (o:Nat) (w:World) (j:Nat),j≠b->(w.setCells b o vs).heap[j]?=w.heap[j]?:=by
  intro vs;induction vs with
  | nil=>intro o w j _;rfl
  | cons v r ih=>
   intro o w j d;rw[World.setCells,ih _ _ _ d];exact a0T w ⟨b,o,none⟩ v j d
 exact fun j d=>heap _ _ _ j d
theorem ew{P:Program}{fn:Func}{p:Tmp}{ty:TypeId}(h:fn.results=#[.cell p ty])(tmps:Array Value)(w:World)(b:Nat)(a:List Value)(d:TypeDesc)
  (g:tmps.getD p undef = .pointer (some ⟨b,0,none⟩)) (e:w.rangeAt b 0 a) (i:P.underlying ty=some d) (hd:d.isRow=true) (f:(P.info? ty).map (·.size)=some a.length) :
  (results fn tmps).run P w = .ok (.agg a.toArray) w:=by
 have c:tmps[p]?.getD undef = .pointer (some ⟨b,0,none⟩):=by simpa using g
 simp[results,h,c,asAddr,run_loadVar_mid w b 0 ty a d e i hd f]
end Go.Proofs.YtkdlcomfpffhhaaGreatDoor
namespace Go.Proofs.YtkdlcomfpffhhaaGreatDoor.Bkx
open Go.Proofs.Tryz
open Go.Proofs.YtkdlcomfpffhhaaGreatDoor
open Go.RowKit Corb
variable {E:TypeId}{l:List Int}{v:Value}{w:World}
structure BkI where
 o:Nat
 p:Nat
 g:Nat
 s:Nat
 b:Nat
 T:Nat
 E:Nat
 S:Nat
def bkL:BkI:=⟨140,175,286,280,272,179,190,177⟩
def bkD:BkI:=⟨141,209,292,288,273,182,192,180⟩
def bkN:BkI:=⟨184,186,290,282,283,259,261,257⟩
def Bks(B:BkI):Prop:=B=bkL∨B=bkD∨B=bkN
theorem Bks.info{B:BkI}(h:Bks B):(prog.info? B.T).map (·.size)=some 19:=by
 rcases h with rfl|rfl|rfl
 . kernel_rfl
 . kernel_rfl
 . kernel_rfl
theorem Bks.sym{B:BkI}(h:Bks B):(prog.info? B.E).map (fun i=>(i.zero,i.size,i.bytes))=some (some (.int .i64 0),1,8):=by
 rcases h with rfl|rfl|rfl
 . kernel_rfl
 . kernel_rfl
 . kernel_rfl
theorem Bks.und{B:BkI}(h:Bks B):∃d,prog.underlying B.T=some d/\d.isRow=true:=by
 rcases h with rfl|rfl|rfl
 . exact⟨_,underlying179,rfl⟩
 . exact⟨_,underlying182,rfl⟩
 . exact⟨_,underlying259,rfl⟩
theorem Bks.sl{B:BkI}(h:Bks B):prog.underlying B.S=some (.slice B.E):=by
 rcases h with rfl|rfl|rfl
 . exact underlying177
 . exact underlying180
 . exact underlying257
theorem Bks.ne{B:BkI}(h:Bks B):B.E≠5:=by
 rcases h with rfl|rfl|rfl<;>decide
def cS(E:TypeId)(w:World)(base:Nat)(v:Value)(l:List Int):Prop:=w.ownsRow base E 1 v l.length (l.map (Value.int .i64))
theorem cS.form{base:Nat}(h:cS E w base v l):∃a cap,v = .slice a l.length cap:=by
 rcases h.2 with⟨e,b⟩|⟨g,cap,_,e,_⟩
 . exact⟨none,0,by rw[e,b]⟩
 . exact⟨_,cap,e⟩
theorem cS.later{w':World}{base B:Nat}(h:cS E w base v l)(hb:Below B w w')(e:w.heap.size<=B):cS E w' base v l:=by
 refine⟨h.1,?_⟩;rcases h.2 with d|⟨g,cap,b,rfl,c,a,rest⟩
 . exact .inl d
 . refine .inr ⟨g,cap,b,rfl,c,?_,rest⟩;have f:=(Array.getElem?_eq_some_iff.1 a).1;rw[hb.block g (by omega)];exact a
theorem cS.nil(w:World)(base:Nat):cS E w base (.slice none 0 0) []:=World.ownsRow_nil _ _ _ _
theorem jv{x:World}{base:Nat}{a:Int}(h:x.ownsRow base E 1 v (l.length+1) (l.map (Value.int .i64)++[.int .i64 a])):cS E x base v (l++[a]):=by
 unfold cS;simpa using h
theorem cS.mono{base base':Nat}(h:cS E w base v l)(hb:base'<=base):cS E w base' v l:=by
 refine⟨h.1,?_⟩;rcases h.2 with c|⟨g,cap,a,rfl,b,rest⟩
 . exact .inl c
 . exact .inr ⟨g,cap,a,rfl,by omega,rest⟩
theorem cS.formN{base n:Nat}(b:l.length=n)(h:cS E w base v l):∃a cap,v = .slice a n cap:=by
 subst b;exact h.form
theorem cS.own{base n:Nat}(a:l.length=n)(h:cS E w base v l):w.ownsRow base E 1 v n (l.map (Value.int .i64)):=by
 subst a;exact h
theorem cS.touch{w':World}{a:Option Addr}{base:Nat}(h:cS E w base v l)(j:Touch a w w')(f:∀g,a=some ⟨g,0,none⟩->g<base):cS E w' base v l:=by
 refine⟨h.1,?_⟩;rcases h.2 with i|⟨g,cap,b,rfl,c,d,rest⟩
 . exact .inl i
 . refine .inr ⟨g,cap,b,rfl,c,?_,rest⟩;rw[j.2 g (fun g' e=>by have:=f g' e;omega)];exact d
theorem cS.setUnder{base b o:Nat}(h:cS E w base v l)(hb:b<base)(u:Value):cS E (w.setCell ⟨b,o,none⟩ u) base v l:=
 ownsRow_setCell_below h (a:=⟨b,o,none⟩) hb u
end Go.Proofs.YtkdlcomfpffhhaaGreatDoor.Bkx
namespace Go.Proofs.YtkdlcomfpffhhaaGreatDoor.Bkx
open Go.Proofs.Tryz
open Go.Proofs.YtkdlcomfpffhhaaGreatDoor
open Go.RowKit Corb
def Cr:Array Value:=#[.slice none 0 0,.slice none 0 0,.int .i64 0,.int .i64 0,.int .i64 0,.int .i64 0,.int .i64 0,.int .i64 0,.int .i64 0,.int .i64 0,.int .i64 0,.int .i64 0,.int .i64 0,.int .i64 0,.int .i64 0,.int .i64 0,.int .i64 0,.int .i64 0,.slice none 0 0]
theorem rh(f:Nat->Nat)(i x y:Nat):(fun j=>if j=i then x else(if j=i then y else f j))=fun j=>if j=i then x else f j:=by
 funext j
 by_cases h:j=i
 . simp[h]
 . simp[h]
theorem codeBook_any(B:BkI)(hB:Bks B)(a:Option Addr)(cap n:Nat)(l:List Int)(w:World)(hn:l.length=n)(h:bn w a l)(hm:n<=300) :
  Calls prog B.o #[.slice a n cap] w fun e w'=>∃vs C,e = .returned (.agg C)/\C=(aW (.slice a n cap) (.slice (some ⟨w.heap.size+1,0,none⟩) n n) vs (fF l 15)).toArray/\ax w' (w.heap.size+1) (.slice (some ⟨w.heap.size+1,0,none⟩) n n) (a8 l 15).2/\cS B.E w' (w.heap.size+1) vs (cK l 15)/\Below w.heap.size w w':=by
 have ek:(n:Int)<=300:=by omega
 obtain⟨i0,hi,d3,d4,d5⟩:=info_parts Tryz.infoInt;obtain⟨j0,ji,jz0,jz1,jz2⟩:=info_parts hB.sym;have Hn:=af hn;have Hm:=af hm;have J:=hB.info;obtain⟨d,a9,ck⟩:=hB.und;have b4:=hB.sl;obtain⟨w0,hw0⟩:∃x,w.alloc (.cells Cr B.T)=x:=⟨_,rfl⟩;have S0:w0.heap.size=w.heap.size+1:=by rw[←hw0];simp
 have B0:Below w.heap.size w w0:=by rw[←hw0];exact(Below.refl _ _).alloc (Nat.le_refl _) _
 have T0:w0.there w.heap.size 0 19:=by rw[←hw0];exact jw w Cr _ _ rfl
 have F0:∀o,w0.frozen? ⟨w.heap.size,o,none⟩=false:=by rw[←hw0];exact fun o=>ip w _ _ _
 unfold Cr at hw0;generalize B.E=E at *
 rcases hB with rfl|rfl|rfl;all_goals
  simp only[bkL,bkD,bkN]at J a9 b4 hw0 ⊢;have HX:=af (And.intro S0 (And.intro B0 (And.intro T0 F0)));have c7:=af hw0;clear S0 B0 T0 F0 hw0
  (first|go_enter func140,ntmps140|go_enter func141,ntmps141|go_enter func184,ntmps184)
  go_wp2_with (first
   | (at_make;refine wpList_make_full _ rfl _ _ 146 rfl (w.heap.size+1) 3 i0 (.int .i64 0) 1 underlying146 hi d3 d4 .i64 .i64 _ _ n rfl rfl rfl rfl (by rw[d5];omega) (by unfold maxLen;omega) (by simp) ?_;intro w1 t q)
   | (refine iU rfl _ (.tmp 3) (.tmp 12) rfl w1.heap.size _ (.slice a n cap) (.slice (some ⟨w.heap.size+1,0,none⟩) n n) (.slice none 0 0) (fun _=>0) rfl rfl rfl (jw w1 _ _ _ rfl) (ip w1 _ _) J ⟨rfl,rfl,rfl⟩ ?_;intro w2 F G ac X))
  have cv:∀o:Obj,(w.alloc o).heap.size=w.heap.size+1:=fun o=>by simp
  rw[cv]at t;rw[ae c7]at q;have b6:Below (w.heap.size+1) w0 w1:=(Below.refl _ _).grown q (by rw[(ae HX).1];exact Nat.le_refl _) (fun k h=>by cases h);have H:ax w1 (w.heap.size+1) (.slice (some ⟨w.heap.size+1,0,none⟩) n n) (List.replicate n 0):=eq t;have a4:w.heap.size+1<w1.heap.size:=H.below.2;have b7:Below (w.heap.size+1) w0 w2:=(b6.alloc (by omega) _).trans (G.mono (by omega));have Q:ax w2 (w.heap.size+1) (.slice (some ⟨w.heap.size+1,0,none⟩) n n) (a8 l 0).2:=by
   show ax w2 (w.heap.size+1) (.slice (some ⟨w.heap.size+1,0,none⟩) n n) (List.replicate l.length 0);rw[hn];exact(H.later ((Below.refl w1.heap.size w1).alloc (Nat.le_refl _) _) (Nat.le_refl _)).under G a4
  have V:cS E w2 (w1.heap.size+1) (.slice none 0 0) (cK l 0):=cS.nil _ _;have z:fe w2 w1.heap.size (.slice a n cap) (.slice (some ⟨w.heap.size+1,0,none⟩) n n) (.slice none 0 0) (fF l 0):=by
   have e:(fun _=>0:Nat->Nat)=fF l 0:=by
    funext j
    unfold fF;rw[if_neg (by omega)]
   rw[←e];exact F
  obtain⟨b,hbe⟩:∃b,w1.heap.size=b:=⟨_,rfl⟩;rw[hbe]at z V a4 ⊢;clear t q H b6 G ac X F cv hm hn hbe
  go_loopw [4,5,6,7] (fun c m _ _ wr=>∃(N:Nat) (vs:Value),N<=15/\m = .int .i64 ((N:Int)+1)/\c = .int .i64 ((a8 l N).1:Nat)/\fe wr b (.slice a n cap) (.slice (some ⟨w.heap.size+1,0,none⟩) n n) vs (fF l N)/\ax wr (w.heap.size+1) (.slice (some ⟨w.heap.size+1,0,none⟩) n n) (a8 l N).2/\cS E wr (b+1) vs (cK l N)/\Below (w.heap.size+1) w0 wr) (fun _ m _ _ _=>16-(intOf m).toNat)
  case atStart=>exact⟨0,_,by omega,rfl,rfl,z,Q,V,b7⟩
  case round=>
   obtain⟨N,vs,hN,rfl,rfl,F,aa,ab,s⟩:=hrel;clear z Q V b7;have cc:w.heap.size+1<=wr.heap.size:=by have:=s.size;rw[(ae HX).1]at this;exact this
   have dv:=qQ l N hN (by rw[ae Hn];exact ae Hm);have eh:(((a8 l N).1:Nat):Int)<=9830400:=by omega
   have ed:(N:Int)<=15:=by omega
   clear dv;by_cases ei:N<15
   .
    have d6:(N:Int)<15:=by omega
    have K:Hid ((a8 l N).2.length=n):=(bK l N).trans (ae Hn);have cp:Hid (a8 l (N+1)=inn l ((N:Int)+1) (2*(a8 l N).1,(a8 l N).2) l.length):=rfl;have cq:Hid (cK l (N+1)=syms l ((N:Int)+1) (cK l N) l.length):=rfl;have co:=af (Bq l N);have d2:=af (s9 l N);rw[←Br l N]at F;have bb:=af (qQ l (N+1) (by omega) (by rw[ae Hn];exact ae Hm));have b1:Hid (((a8 l N).1:Int)*2=((2*(a8 l N).1:Nat):Int)):=by show((a8 l N).1:Int)*2=_;omega
    generalize hS:((2*(a8 l N).1,(a8 l N).2):Nat×List Int)=S at *
    have b2:2*(a8 l N).1=S.1:=by rw[←hS]
    have b3:(a8 l N).2=S.2:=by rw[←hS]
    rw[b2]at b1;rw[b3]at aa K;have eg:(S.1:Int)<=19660800:=by omega
    clear hS b2 b3;have d7:decide ((N:Int)+1<=15)=true:=decide_eq_true (by omega);go_wp2_with fail;rw[ae b1]
    go_loopw [4,6,7,21] (fun c _ _ i wr=>∃(k:Nat) (vs:Value),k<=n/\i = .int .i64 k/\c = .int .i64 ((inn l ((N:Int)+1) S k).1:Nat)/\fe wr b (.slice a n cap) (.slice (some ⟨w.heap.size+1,0,none⟩) n n) vs (fun j=>if j=N+1 then many l ((N:Int)+1) k else fF l N j)/\ax wr (w.heap.size+1) (.slice (some ⟨w.heap.size+1,0,none⟩) n n) (inn l ((N:Int)+1) S k).2/\cS E wr (b+1) vs (syms l ((N:Int)+1) (cK l N) k)/\Below (w.heap.size+1) w0 wr) (fun _ _ _ i _=>n-(intOf i).toNat)
    case atStart=>exact⟨0,_,Nat.zero_le _,rfl,rfl,F,aa,ab,s⟩
    case round=>
     obtain⟨k,vs,hk,rfl,rfl,r,u,D,f⟩:=hrel;clear F aa ab s cc;have cc:w.heap.size+1<=wr.heap.size:=by have:=f.size;rw[(ae HX).1]at this;exact this
     have a3:Hid ((inn l ((N:Int)+1) S k).2.length=n):=(qL _ _ _ _).trans (ae K);have d1:=AR l ((N:Int)+1) S k;have cs:((inn l ((N:Int)+1) S k).1:Int)<=19661100:=by have:=ae Hm;omega
     clear d1;by_cases cr:k<n
     .
      have cg:Below w.heap.size w wr:=(ae HX).2.1.trans (f.mono (Nat.le_succ _));obtain⟨g,o,rfl,hg,hc⟩:=(h.later cg) (by rw[ae Hn];omega);have c0:=hc k (by rw[ae Hn];exact cr);obtain⟨d0,f0,_,_⟩:=u.at (ae a3) cr;have be:Hid (inn l ((N:Int)+1) S (k+1)=if l.getD k 0=(N:Int)+1 then((inn l ((N:Int)+1) S k).1+1,(inn l ((N:Int)+1) S k).2.set k ((inn l ((N:Int)+1) S k).1:Int))else inn l ((N:Int)+1) S k):=rfl;have bc:Hid (many l ((N:Int)+1) (k+1)=if l.getD k 0=(N:Int)+1 then many l ((N:Int)+1) k+1 else many l ((N:Int)+1) k):=rfl;have bd:Hid (syms l ((N:Int)+1) (cK l N) (k+1)=if l.getD k 0=(N:Int)+1 then syms l ((N:Int)+1) (cK l N) k++[(k:Int)]else syms l ((N:Int)+1) (cK l N) k):=rfl;have ct:=IU l ((N:Int)+1) k;have c6:=uX l ((N:Int)+1) (cK l N) k;have HK:=af hk;have G:=r.2.2.2.2.2;clear hc hk h cg;generalize l.getD k 0=y at *
      generalize inn l ((N:Int)+1) S k=T at *
      generalize many l ((N:Int)+1) k=M at *
      generalize syms l ((N:Int)+1) (cK l N) k=Y at *
      by_cases hy:y=(N:Int)+1
      .
       have A:Hid (inn l ((N:Int)+1) S (k+1)=(T.1+1,T.2.set k (T.1:Int))):=by have:=ae be;rw[if_pos hy]at this;exact this
       have R:Hid (many l ((N:Int)+1) (k+1)=M+1):=by have:=ae bc;rw[if_pos hy]at this;exact this
       have U:Hid (syms l ((N:Int)+1) (cK l N) (k+1)=Y++[(k:Int)]):=by have:=ae bd;rw[if_pos hy]at this;exact this
       have a5:=af (u.put (j:=k) (ae a3) (T.1:Int));subst hy;generalize T.2.getD k 0=d at *
       have ba:w.heap.size+1≠b:=by omega
       have d8:(M:Int)<=300:=by have:=ae Hm;omega
       have c1:=r.2.1;have B1:=r.other (o:=k) ba (.int .i64 (T.1:Int));have e1:(wr.setCell ⟨w.heap.size+1,k,none⟩ (.int .i64 (T.1:Int))).cell? ⟨b,2+(N+1),none⟩=some (.int .i64 (M:Int)):=by
        have:=B1.2.2.1 (N+1) (by omega);simpa using this
       have e2:=B1.2.2.2.2.1 (2+(N+1));have B2:=B1.many (i:=N+1) (x:=M+1) (by omega);have eI:((M+1:Nat):Int)=(M:Int)+1:=by omega
       rw[eI]at B2;have c3:=r.2.2.2.1;have bk:=af B2;have a6:cS E ((wr.setCell ⟨w.heap.size+1,k,none⟩ (.int .i64 (T.1:Int))).setCell ⟨b,2+(N+1),none⟩ (.int .i64 ((M:Int)+1))) (b+1) vs Y:=(D.setUnder (by omega) _).setUnder (Nat.lt_succ_self _) _;have a2:ax ((wr.setCell ⟨w.heap.size+1,k,none⟩ (.int .i64 (T.1:Int))).setCell ⟨b,2+(N+1),none⟩ (.int .i64 ((M:Int)+1))) (w.heap.size+1) (.slice (some ⟨w.heap.size+1,0,none⟩) n n) (T.2.set k (T.1:Int)):=(ae a5).setOther (Ne.symm ba) _;have ao:Below (w.heap.size+1) w0 ((wr.setCell ⟨w.heap.size+1,k,none⟩ (.int .i64 (T.1:Int))).setCell ⟨b,2+(N+1),none⟩ (.int .i64 ((M:Int)+1))):=ap (ap f (Nat.le_refl _) _) (by omega) _;have a7:((wr.setCell ⟨w.heap.size+1,k,none⟩ (.int .i64 (T.1:Int))).setCell ⟨b,2+(N+1),none⟩ (.int .i64 ((M:Int)+1))).heap.size=wr.heap.size:=by simp
       have b5:Y.length<=100000:=by
        have h1:=ae d2;have h2:N*l.length<=15*300:=Nat.mul_le_mul (by omega) (by rw[ae Hn];exact ae Hm);have h3:=ae Hm;omega
       have bs:=af b5;have I:=af a6;have al:=af a2;have ad:=af ao;clear B1 B2 a6 a2 ao b5 c6 ct r u D f a5 be bd bc eI;have L:Y.length+1<=maxLen:=by have:=ae bs;unfold maxLen;omega
       have O:(Y.length+1)*8<=140737488355328:=by have:=ae bs;omega
       have P:∀o:Obj,b+1<=(((wr.setCell ⟨w.heap.size+1,k,none⟩ (.int .i64 (T.1:Int))).setCell ⟨b,2+(N+1),none⟩ (.int .i64 ((M:Int)+1))).alloc o).heap.size:=fun o=>by simp;omega
       have dd:=af L;have dl:=af O;have dq:=af P;have b0:=af a7;clear L O P a7;go_wp2_with (at_builtin;refine wpList_append_own _ rfl _ _ _ rfl (b+1) E j0 (.int .i64 0) 1 8 b4 ji jz0 jz1 jz2 rfl (by decide) _ _ _ rfl (World.ownsRow.alloc (ae I) _) ⟨wr.heap.size,0,none⟩ 1 1 [.int .i64 (k:Int)] rfl rfl (bo _ _ (ae b0) _ _) (eZ _) (ae dd) (ae dl) (ae dq _) ?_;intro v' x3 t q cu;clear cu;have Z:=aI (v:=vs) q (ae I) (Nat.le_refl (b+1)) (by rw[ae b0];exact G) (Below.refl _ _);have B3:=(ae bk).kept Z;have c4:=B3.2.2.2.1;have f4:=B3.2.2.2.2.1 18;have hex:=cS.formN (n:=Y.length+1) (by simp) (jv t);obtain⟨va,vc,hv⟩:=hex;rw[hv];have HV:=af hv;clear hv);have a1:=(ae al).under Z (by omega);have W:=jv t;have an:=(ae ad).trans (Z.mono (by omega));rw[ae HV]at W;have a0:=B3.sorted (.slice va (Y.length+1) vc);rw[rh]at a0;have ch:=a1.setOther (o:=18) (Ne.symm ba) (.slice va (Y.length+1) vc);have cy:=W.setUnder (b:=b) (o:=18) (Nat.lt_succ_self _) (.slice va (Y.length+1) vc);have b8:=ap (o:=18) an (show w.heap.size+1<=b by omega) (.slice va (Y.length+1) vc);clear a1 W an B3 t q Z ad al I bk;go_roundw
       case rel=>
        exact⟨k+1,.slice va (Y.length+1) vc,by omega,by go_num,by rw[ae A];go_num,by rw[ae R];exact a0,by rw[ae A];exact ch,by rw[ae U];exact cy,b8⟩
       case measure=>simp[intOf];omega
      .
       have A:Hid (inn l ((N:Int)+1) S (k+1)=T):=by have:=ae be;rw[if_neg hy]at this;exact this
       have R:Hid (many l ((N:Int)+1) (k+1)=M):=by have:=ae bc;rw[if_neg hy]at this;exact this
       have U:Hid (syms l ((N:Int)+1) (cK l N) (k+1)=Y):=by have:=ae bd;rw[if_neg hy]at this;exact this
       have g1:(y == (N:Int)+1)=false:=by simpa using hy
       clear c6 ct;go_wp2;go_roundw
       case rel=>exact⟨k+1,_,by omega,by go_num,by rw[ae A],by rw[ae R];exact r,by rw[ae A];exact u,by rw[ae U];exact D,f⟩
       case measure=>simp[intOf];omega
     .
      have dz:k=l.length:=by have:=ae Hn;omega
      subst dz;rw[←ae cp]at u cs ⊢;rw[←ae cq]at D;rw[ae co]at r;have el:((a8 l (N+1)).1:Int)<=9830400:=by have:=ae bb;omega
      go_wp2;go_roundw
      case rel=>exact⟨N+1,_,by omega,by go_num,rfl,r,u,D,f⟩
      case measure=>simp[intOf];omega
   .
    obtain rfl:N=15:=by omega
    have c5:wr.there w.heap.size 0 19:=fun j hj=>by
     obtain⟨h1,h2⟩:=(ae HX).2.2.1 j hj;exact⟨by rw[s.cell (p:=⟨w.heap.size,0+j,none⟩) (Nat.lt_succ_self _)];exact h1,by rw[s.frozen (p:=⟨w.heap.size,0+j,none⟩) (Nat.lt_succ_self _)];exact h2⟩
    have cm:∀o,wr.frozen? ⟨w.heap.size,o,none⟩=false:=fun o=>by
     rw[s.frozen (p:=⟨w.heap.size,o,none⟩) (Nat.lt_succ_self _)];exact(ae HX).2.2.2 _
    have h1:vs.oneCell'=true:=by
     obtain⟨_,_,e⟩:=ab.form;rw[e];rfl
    have ds:=af c5;have c8:=af cm;have H1:=af h1;clear c5 cm h1;go_wp2_with (first
     | (refine wpList_load_mid rfl _ (.tmp 3) rfl b 0 rfl _ _ F.range a9 ck (by rw[ci];exact J) ?_)
     | (refine iU rfl _ (.tmp 2) (.tmp 50) rfl w.heap.size _ _ _ _ _ rfl rfl rfl (ae ds) (ae c8) J ⟨rfl,rfl,ae H1⟩ ?_;intro w2 z G ac X))
    refine bodyPost_ret (ew rfl _ _ w.heap.size _ _ rfl z.range a9 ck (by rw[ci];exact J)) rfl ⟨_,_,rfl,rfl,?_,?_,?_⟩
    . exact aa.touch (a:=some ⟨w.heap.size,0,none⟩) ⟨ac,fun j hj=>X j (hj _ rfl)⟩ (by intro g e;simp only[Option.some.injEq,Addr.mk.injEq,and_true]at e;omega)
    . exact(ab.mono (by omega)).touch (a:=some ⟨w.heap.size,0,none⟩) ⟨ac,fun j hj=>X j (hj _ rfl)⟩ (by intro g e;simp only[Option.some.injEq,Addr.mk.injEq,and_true]at e;omega)
    . exact((ae HX).2.1.trans (s.mono (Nat.le_succ _))).trans G
end Go.Proofs.YtkdlcomfpffhhaaGreatDoor.Bkx
namespace Go.Proofs.YtkdlcomfpffhhaaGreatDoor
open Go.Proofs.Tryz
open Go.RowKit Corb
def Cr:Array Value:=#[.slice none 0 0,.slice none 0 0,.int .i64 0,.int .i64 0,.int .i64 0,.int .i64 0,.int .i64 0,.int .i64 0,.int .i64 0,.int .i64 0,.int .i64 0,.int .i64 0,.int .i64 0,.int .i64 0,.int .i64 0,.int .i64 0,.int .i64 0,.int .i64 0,.slice none 0 0]
theorem rh(f:Nat->Nat)(i x y:Nat):(fun j=>if j=i then x else(if j=i then y else f j))=fun j=>if j=i then x else f j:=by
 funext j
 by_cases h:j=i
 . simp[h]
 . simp[h]
theorem bC{l:List Int}(h:ay l=true):l.length<=300:=by
 simp only[ay,a0n,a20]at h;exact h.1.2
end Go.Proofs.YtkdlcomfpffhhaaGreatDoor
