/- Texts. -/
import Derived.Test.YtfannoajibacnaaGreatDoorM9
set_option linter.all false
set_option maxRecDepth 100000
set_option maxHeartbeats 3200000
namespace Go.Proofs.YtfannoajibacnaaGreatDoor
open Go.Proofs.Tryz
open Go.RowKit Corb
variable {l:List Int}{m:Nat->Nat}{vc vl vs:Value}{w:World}
def mM(w:World)(vs:Array Value)(t:TypeId)(j:Nat):(w.alloc (.cells vs t)).frozen? ⟨w.heap.size,j,none⟩=false:=by simp
def jo(w:World)(vs:Array Value)(t:TypeId)(n:Nat)(b:n=vs.size):(w.alloc (.cells vs t)).there w.heap.size 0 n:=by
 intro j a;subst b;refine⟨?_,mM w vs t _⟩;rw[cell_of_row _ _ _ vs t (0,0) (heap_alloc_new w _)];simp[a]
def bz(vl vc vs:Value)(m:Nat->Nat):List Value:=vl :: vc :: ((List.range 16).map (fun j=>Value.int .i64 (m j:Nat))++[vs])
def eq(vl vc vs:Value)(m:Nat->Nat):(bz vl vc vs m).length=19:=by simp[bz]
def pF(vl vc vs:Value)(m:Nat->Nat)(i:Nat)(h:i<16):(bz vl vc vs m)[i+2]?=some (.int .i64 (m i:Nat)):=by
 show((List.range 16).map (fun j=>Value.int .i64 (m j:Nat))++[vs])[i]?=_;rw[List.getElem?_append_left (by simpa using h)];simp[h]
def nC(vl vc vs:Value)(m:Nat->Nat):(bz vl vc vs m)[18]?=some vs:=by
 show((List.range 16).map (fun j=>Value.int .i64 (m j:Nat))++[vs])[16]?=_;rw[List.getElem?_append_right (by simp)];simp
def iU.range{b:Nat}(h:iU w b vl vc vs m):w.rangeAt b 0 (bz vl vc vs m):=by
 intro j v a;have d:j<19:=by
  have:=(List.getElem?_eq_some_iff.1 a).1;rwa[eq]at this
 obtain⟨c0,c1,c2,c3,_,_⟩:=h;rw[a0G];rcases a1o j 2 with h2|h2
 .
  rcases (show j=0∨j=1 by omega)with rfl|rfl
  . simp only[bz,List.getElem?_cons_zero,a0l]at a;rw[←a];exact c0
  . simp only[bz,List.getElem?_cons_succ,List.getElem?_cons_zero,a0l]at a;rw[←a];exact c1
 .
  rcases a1o j 18 with c|c
  . obtain⟨i,rfl⟩:∃i,j=i+2:=⟨j-2,by omega⟩;rw[pF _ _ _ _ i (by omega)]at a;rw[←a,a2F];exact c2 i (by omega)
  .
   obtain rfl:j=18:=by omega
   rw[nC]at a;rw[←a];exact c3
def iU.of_range{b:Nat}(h:w.rangeAt b 0 (bz vl vc vs m))(a:∀o,w.frozen? ⟨b,o,none⟩=false)(hb:b<w.heap.size):iU w b vl vc vs m:=by
 refine⟨?_,?_,fun j c=>?_,?_,a,hb⟩
 . have:=h 0 vl rfl;rwa[a0G]at this
 . have:=h 1 vc rfl;rwa[a0G]at this
 . have:=h (j+2) _ (pF _ _ _ _ j c);rwa[a0G,a2F]at this
 . have:=h 18 vs (nC _ _ _ _);rwa[a0G]at this
def lG(c:vl.oneCell'=true)(b:vc.oneCell'=true)(d:vs.oneCell'=true):(bz vl vc vs m).toArray.all (·.oneCell')=true:=by
 apply all_oneCell_toArray;intro v a;simp only[bz,a02,a03,a2S,List.mem_range]at a;rcases a with rfl|rfl|⟨_,_,rfl⟩|rfl|h
 . exact c
 . exact b
 . rfl
 . exact d
 . cases h
theorem below_setCells{B:Nat}{a:World}{b:Nat}(hb:B<=b):∀(vs:List Value) (o:Nat) (w:World),Below B a w->Below B a (w.setCells b o vs)
 | [],_,_,h=>h
 | v :: r,o,w,h=>by
  rw[World.setCells];exact below_setCells (a:=a) hb r (o+1) _ (ai h hb v)
theorem size_setCells(b:Nat):∀(vs:List Value) (o:Nat) (w:World),(w.setCells b o vs).heap.size=w.heap.size
 | [],_,_=>rfl
 | v :: r,o,w=>by
  rw[World.setCells,size_setCells b r];simp
def lz{P:Program}{ops:Array Oper}{rest:List Oper}{op:Oper}{a:Act}{Q:Exit->Act->World->Prop}(f:op.guard=none)(ty:TypeId)(x y:Operand)(q:op.op = .store ty x y)
  (b:Nat) (C:Array Value) (vl vc vs:Value) (m:Nat->Nat) (t:a.eval x = .pointer b) (u:a.eval y = .agg C) (l:C=(bz vl vc vs m).toArray)
  (i:w.there b 0 19) (n:∀o,w.frozen? ⟨b,o,none⟩=false) (p:(P.info? ty).map (·.size)=some 19) (e:vl.oneCell'=true/\vc.oneCell'=true/\vs.oneCell'=true)
  (h:∀w',iU w' b vl vc vs m->Below b w w'->w'.heap.size=w.heap.size->(∀j,j≠b->w'.heap[j]?=w.heap[j]?)->wpList P ops Q rest (a.put op.dst undef) w'):wpList P ops Q (op :: rest) a w:=by
 have g:b<w.heap.size:=by
  obtain⟨v,s⟩:=Option.isSome_iff_exists.1 (i 0 (by omega)).1;exact World.block_lt_of_cell? _ _ s
 subst l;have c:(bz vl vc vs m).toArray.size=19:=by simp[eq]
 refine wpList_store_mid f ty x y q b 0 _ t u (by rw[c];exact i) (by rw[c];exact p) (lG e.1 e.2.1 e.2.2) ?_;have k:w.there b 0 (bz vl vc vs m).length:=by rw[eq];exact i
 refine h _ (iU.of_range (World.rangeAt_setCells_same w b 0 _ k) (fun o=>by rw[World.frozen?_setCells];exact n o) (by rw[size_setCells];exact g)) (below_setCells (a0a _) _ _ _ (a0c _ _)) (size_setCells _ _ _ _) ?_;have heap:∀(vs:List Value) (o:Nat) (w:World) (j:Nat),j≠b->(w.setCells b o vs).heap[j]?=w.heap[j]?:=by
  intro vs;induction vs with
  | nil=>intro o w j _;rfl
  | cons v r ih=>
   intro o w j d;rw[World.setCells,ih _ _ _ d];exact a0M w ⟨b,o,none⟩ v j d
 exact fun j d=>heap _ _ _ j d
def gp{P:Program}{fn:Func}{p:Tmp}{ty:TypeId}(h:fn.results=#[.cell p ty])(tmps:Array Value)(w:World)(b:Nat)(a:List Value)(d:TypeDesc)
  (g:tmps.getD p undef = .pointer b) (e:w.rangeAt b 0 a) (i:P.underlying ty=some d) (hd:d.isRow=true) (f:(P.info? ty).map (·.size)=some a.length) :
  (results fn tmps).run P w = .ok (.agg a.toArray) w:=by
 have c:tmps[p]?.getD undef = .pointer b:=by simpa using g
 simp[results,h,c,asAddr,run_loadVar_mid w b 0 ty a d e i hd f]
def vP(l:List Int):List Int:=if ap l then(aW l 15).2 else []
def Gt(h:ap l=true):vP l=(aW l 15).2:=by simp[vP,h]
def Ki(h:ap l=false):vP l=[]:=by simp[vP,h]
def TR(l:List Int):(vP l).length<=300:=by
 cases h:ap l
 . rw[Ki h];simp
 . rw[Gt h,bJ];simp only[ap,a0k,a2i]at h;exact h.1.2
def cG(h:ap l=true):l.length<=300:=by
 simp only[ap,a0k,a2i]at h;exact h.1.2
end Go.Proofs.YtfannoajibacnaaGreatDoor
namespace Go.Proofs.YtfannoajibacnaaGreatDoor.Bkx
open Go.Proofs.Tryz
open Go.Proofs.YtfannoajibacnaaGreatDoor
open Go.RowKit Corb
variable {E:TypeId}{l:List Int}{v:Value}{w:World}
structure BkI where
 o:Nat
 p:Nat
 g:Nat
 s:Nat
 b:Nat
 T:Nat
 E:Nat
 S:Nat
def bkL:BkI:=⟨153,177,281,276,269,195,206,193⟩
def bkD:BkI:=⟨154,212,287,283,270,198,208,196⟩
def bkN:BkI:=⟨186,188,285,278,279,258,260,256⟩
def Bks(B:BkI):Prop:=B=bkL∨B=bkD∨B=bkN
def Bks.info{B:BkI}(h:Bks B):(prog.info? B.T).map (·.size)=some 19:=by
 rcases h with rfl|rfl|rfl
 . kernel_rfl
 . kernel_rfl
 . kernel_rfl
def Bks.sym{B:BkI}(h:Bks B):(prog.info? B.E).map (fun i=>(i.zero,i.size,i.bytes))=some (some (.int .i64 0),1,8):=by
 rcases h with rfl|rfl|rfl
 . kernel_rfl
 . kernel_rfl
 . kernel_rfl
def Bks.und{B:BkI}(h:Bks B):∃d,prog.underlying B.T=some d/\d.isRow=true:=by
 rcases h with rfl|rfl|rfl
 . exact⟨_,underlying195,rfl⟩
 . exact⟨_,underlying198,rfl⟩
 . exact⟨_,underlying258,rfl⟩
def Bks.sl{B:BkI}(h:Bks B):prog.underlying B.S=some (.slice B.E):=by
 rcases h with rfl|rfl|rfl
 . exact underlying193
 . exact underlying196
 . exact underlying256
def Bks.ne{B:BkI}(h:Bks B):B.E≠5:=by
 rcases h with rfl|rfl|rfl<;>decide
def eV(E:TypeId)(w:World)(base:Nat)(v:Value)(l:List Int):Prop:=w.ownsRow base E 1 v l.length (l.map (Value.int .i64))
def eV.form{base:Nat}(h:eV E w base v l):∃a cap,v = .slice a l.length cap:=by
 rcases h.2 with⟨e,b⟩|⟨g,cap,_,e,_⟩
 . exact⟨none,0,by rw[e,b]⟩
 . exact⟨_,cap,e⟩
def eV.nil(w:World)(base:Nat):eV E w base (.slice none 0 0) []:=World.ownsRow_nil _ _ _ _
def mt{x:World}{base:Nat}{a:Int}(h:x.ownsRow base E 1 v (l.length+1) (l.map (Value.int .i64)++[.int .i64 a])):eV E x base v (l++[a]):=by
 unfold eV;simpa using h
def eV.mono{base base':Nat}(h:eV E w base v l)(hb:base'<=base):eV E w base' v l:=by
 refine⟨h.1,?_⟩;rcases h.2 with c|⟨g,cap,a,rfl,b,rest⟩
 . exact .inl c
 . exact .inr ⟨g,cap,a,rfl,by omega,rest⟩
def eV.formN{base n:Nat}(b:l.length=n)(h:eV E w base v l):∃a cap,v = .slice a n cap:=by
 subst b;exact h.form
def eV.touch{w':World}{a:Option Addr}{base:Nat}(h:eV E w base v l)(j:Touch a w w')(f:∀g,a=some ⟨g,0,none⟩->g<base):eV E w' base v l:=by
 refine⟨h.1,?_⟩;rcases h.2 with i|⟨g,cap,b,rfl,c,d,rest⟩
 . exact .inl i
 . refine .inr ⟨g,cap,b,rfl,c,?_,rest⟩;rw[j.2 g (fun g' e=>by have:=f g' e;omega)];exact d
def eV.setUnder{base b o:Nat}(h:eV E w base v l)(hb:b<base)(u:Value):eV E (w.setCell ⟨b,o,none⟩ u) base v l:=
 ownsRow_setCell_below h (a:=⟨b,o,none⟩) hb u
end Go.Proofs.YtfannoajibacnaaGreatDoor.Bkx
namespace Go.Proofs.YtfannoajibacnaaGreatDoor.Bkx
open Go.Proofs.Tryz
open Go.Proofs.YtfannoajibacnaaGreatDoor
open Go.RowKit Corb
def Np:Array Value:=#[.slice none 0 0,.slice none 0 0,.int .i64 0,.int .i64 0,.int .i64 0,.int .i64 0,.int .i64 0,.int .i64 0,.int .i64 0,.int .i64 0,.int .i64 0,.int .i64 0,.int .i64 0,.int .i64 0,.int .i64 0,.int .i64 0,.int .i64 0,.int .i64 0,.slice none 0 0]
def Gh(f:Nat->Nat)(i x y:Nat):(fun j=>if j=i then x else(if j=i then y else f j))=fun j=>if j=i then x else f j:=by
 funext j
 by_cases h:j=i
 . simp[h]
 . simp[h]
def codeBook_any(B:BkI)(hB:Bks B)(a:Option Addr)(cap n:Nat)(l:List Int)(w:World)(hn:l.length=n)(h:bE w a l)(hm:n<=300) :
  Calls prog B.o #[.slice a n cap] w fun e w'=>∃vs C,e = .returned (.agg C)/\C=(bz (.slice a n cap) (.slice (some ⟨w.heap.size+1,0,none⟩) n n) vs (iK l 15)).toArray/\an w' (w.heap.size+1) (.slice (some ⟨w.heap.size+1,0,none⟩) n n) (aW l 15).2/\eV B.E w' (w.heap.size+1) vs (dU l 15)/\Below w.heap.size w w':=by
 have ei:(n:Int)<=300:=by omega
 obtain⟨i0,hi,d3,d4,d5⟩:=info_parts Tryz.infoInt;obtain⟨j0,ji,jz0,jz1,jz2⟩:=info_parts hB.sym;have Hn:=af hn;have Hm:=af hm;have J:=hB.info;obtain⟨d,a9,ca⟩:=hB.und;have b2:=hB.sl;obtain⟨w0,hw0⟩:∃x,w.alloc (.cells Np B.T)=x:=⟨_,rfl⟩;have S0:w0.heap.size=w.heap.size+1:=by rw[←hw0];simp
 have B0:Below w.heap.size w w0:=by rw[←hw0];exact(Below.refl _ _).alloc (Nat.le_refl _) _
 have T0:w0.there w.heap.size 0 19:=by rw[←hw0];exact jo w Np _ _ rfl
 have F0:∀o,w0.frozen? ⟨w.heap.size,o,none⟩=false:=by rw[←hw0];exact fun o=>mM w _ _ _
 unfold Np at hw0;generalize B.E=E at *;rcases hB with rfl|rfl|rfl;all_goals
  simp only[bkL,bkD,bkN]at J a9 b2 hw0 ⊢;have HX:=af (And.intro S0 (And.intro B0 (And.intro T0 F0)));have c7:=af hw0;clear S0 B0 T0 F0 hw0
  (first|go_enter func153,ntmps153|go_enter func154,ntmps154|go_enter func186,ntmps186)
  go_wp2_with (first
   | (at_make;refine wpList_make_full _ rfl _ _ 129 rfl (w.heap.size+1) 3 i0 (.int .i64 0) 1 underlying129 hi d3 d4 .i64 .i64 _ _ n rfl rfl rfl rfl (by rw[d5];omega) (by unfold maxLen;omega) (by simp) ?_;intro w1 t q)
   | (refine lz rfl _ (.tmp 3) (.tmp 12) rfl w1.heap.size _ (.slice a n cap) (.slice (some ⟨w.heap.size+1,0,none⟩) n n) (.slice none 0 0) (fun _=>0) rfl rfl rfl (jo w1 _ _ _ rfl) (mM w1 _ _) J ⟨rfl,rfl,rfl⟩ ?_;intro w2 F G ac X))
  have cv:∀o:Obj,(w.alloc o).heap.size=w.heap.size+1:=fun o=>by simp
  rw[cv]at t;rw[ae c7]at q;have b4:Below (w.heap.size+1) w0 w1:=(Below.refl _ _).grown q (by rw[HX.1];exact Nat.le_refl _) (fun k h=>by cases h);have H:an w1 (w.heap.size+1) (.slice (some ⟨w.heap.size+1,0,none⟩) n n) (List.replicate n 0):=dJ t;have a5:w.heap.size+1<w1.heap.size:=H.below.2;have b5:Below (w.heap.size+1) w0 w2:=(b4.alloc (by omega) _).trans (G.mono (by omega));have Q:an w2 (w.heap.size+1) (.slice (some ⟨w.heap.size+1,0,none⟩) n n) (aW l 0).2:=by
   show an w2 (w.heap.size+1) (.slice (some ⟨w.heap.size+1,0,none⟩) n n) (List.replicate l.length 0);rw[hn];exact(H.later ((Below.refl w1.heap.size w1).alloc (Nat.le_refl _) _) (Nat.le_refl _)).under G a5
  have V:eV E w2 (w1.heap.size+1) (.slice none 0 0) (dU l 0):=eV.nil _ _;have z:iU w2 w1.heap.size (.slice a n cap) (.slice (some ⟨w.heap.size+1,0,none⟩) n n) (.slice none 0 0) (iK l 0):=by
   have e:(fun _=>0:Nat->Nat)=iK l 0:=by
    funext j
    unfold iK;rw[if_neg (by omega)]
   rw[←e];exact F
  obtain⟨b,hbe⟩:∃b,w1.heap.size=b:=⟨_,rfl⟩;rw[hbe]at z V a5 ⊢;clear t q H b4 G ac X F cv hm hn hbe
  go_loopw [4,5,6,7] (fun c m _ _ wr=>∃(N:Nat) (vs:Value),N<=15/\m = .int .i64 ((N:Int)+1)/\c = .int .i64 ((aW l N).1:Nat)/\iU wr b (.slice a n cap) (.slice (some ⟨w.heap.size+1,0,none⟩) n n) vs (iK l N)/\an wr (w.heap.size+1) (.slice (some ⟨w.heap.size+1,0,none⟩) n n) (aW l N).2/\eV E wr (b+1) vs (dU l N)/\Below (w.heap.size+1) w0 wr) (fun _ m _ _ _=>16-(intOf m).toNat)
  case atStart=>exact⟨0,_,by omega,rfl,rfl,z,Q,V,b5⟩
  case round=>
   obtain⟨N,vs,hN,rfl,rfl,F,aa,ab,s⟩:=hrel;clear z Q V b5;have b7:w.heap.size+1<=wr.heap.size:=by have:=s.size;rw[HX.1]at this;exact this
   have ds:=vp l N hN (by rw[ae Hn];exact Hm);have eg:(((aW l N).1:Nat):Int)<=9830400:=(by omega);have eb:(N:Int)<=15:=(by omega);clear ds;by_cases eh:N<15
   .
    have d6:(N:Int)<15:=(by omega);have K:Hid ((aW l N).2.length=n):=(bJ l N).trans Hn;have ch:Hid (aW l (N+1)=inn l ((N:Int)+1) (2*(aW l N).1,(aW l N).2) l.length):=rfl;have co:Hid (dU l (N+1)=syms l ((N:Int)+1) (dU l N) l.length):=rfl;have cg:=af (Ib l N);have d2:=af (xW l N);rw[←Ic l N]at F;have bb:=af (vp l (N+1) (by omega) (by rw[ae Hn];exact Hm));have bs:Hid (((aW l N).1:Int)*2=((2*(aW l N).1:Nat):Int)):=by show((aW l N).1:Int)*2=_;omega
    generalize hS:((2*(aW l N).1,(aW l N).2):Nat×List Int)=S at *;have b0:2*(aW l N).1=S.1:=(by rw[←hS]);have b1:(aW l N).2=S.2:=(by rw[←hS]);rw[b0]at bs;rw[b1]at aa K;have ed:(S.1:Int)<=19660800:=(by omega);clear hS b0 b1;have d7:decide ((N:Int)+1<=15)=true:=decide_eq_true (by omega);go_wp2_with fail;rw[ae bs]
    go_loopw [4,6,7,21] (fun c _ _ i wr=>∃(k:Nat) (vs:Value),k<=n/\i = .int .i64 k/\c = .int .i64 ((inn l ((N:Int)+1) S k).1:Nat)/\iU wr b (.slice a n cap) (.slice (some ⟨w.heap.size+1,0,none⟩) n n) vs (fun j=>if j=N+1 then many l ((N:Int)+1) k else iK l N j)/\an wr (w.heap.size+1) (.slice (some ⟨w.heap.size+1,0,none⟩) n n) (inn l ((N:Int)+1) S k).2/\eV E wr (b+1) vs (syms l ((N:Int)+1) (dU l N) k)/\Below (w.heap.size+1) w0 wr) (fun _ _ _ i _=>n-(intOf i).toNat)
    case atStart=>exact⟨0,_,Nat.zero_le _,rfl,rfl,F,aa,ab,s⟩
    case round=>
     obtain⟨k,vs,hk,rfl,rfl,r,u,D,f⟩:=hrel;clear F aa ab s b7;have b7:w.heap.size+1<=wr.heap.size:=by have:=f.size;rw[HX.1]at this;exact this
     have a4:Hid ((inn l ((N:Int)+1) S k).2.length=n):=(vi _ _ _ _).trans K;have d1:=GP l ((N:Int)+1) S k;have cr:((inn l ((N:Int)+1) S k).1:Int)<=19661100:=by have:=ae Hm;omega
     clear d1;by_cases cp:k<n
     .
      have b8:Below w.heap.size w wr:=HX.2.1.trans (f.mono (Nat.le_succ _));obtain⟨g,o,rfl,hg,hc⟩:=(h.later b8) (by rw[ae Hn];omega);have c0:=hc k (by rw[ae Hn];exact cp);obtain⟨d0,f0,_,_⟩:=u.at a4 cp;have be:Hid (inn l ((N:Int)+1) S (k+1)=if l.getD k 0=(N:Int)+1 then((inn l ((N:Int)+1) S k).1+1,(inn l ((N:Int)+1) S k).2.set k ((inn l ((N:Int)+1) S k).1:Int))else inn l ((N:Int)+1) S k):=rfl;have bc:Hid (many l ((N:Int)+1) (k+1)=if l.getD k 0=(N:Int)+1 then many l ((N:Int)+1) k+1 else many l ((N:Int)+1) k):=rfl;have bd:Hid (syms l ((N:Int)+1) (dU l N) (k+1)=if l.getD k 0=(N:Int)+1 then syms l ((N:Int)+1) (dU l N) k++[(k:Int)]else syms l ((N:Int)+1) (dU l N) k):=rfl;have cs:=Pb l ((N:Int)+1) k;have c6:=zS l ((N:Int)+1) (dU l N) k;have HK:=af hk;have G:=r.2.2.2.2.2;clear hc hk h b8;generalize l.getD k 0=y,inn l ((N:Int)+1) S k=T,many l ((N:Int)+1) k=M,syms l ((N:Int)+1) (dU l N) k=Y at *;by_cases hy:y=(N:Int)+1
      .
       have A:Hid (inn l ((N:Int)+1) S (k+1)=(T.1+1,T.2.set k (T.1:Int))):=by have:=ae be;rw[if_pos hy]at this;exact this
       have R:Hid (many l ((N:Int)+1) (k+1)=M+1):=by have:=ae bc;rw[if_pos hy]at this;exact this
       have U:Hid (syms l ((N:Int)+1) (dU l N) (k+1)=Y++[(k:Int)]):=by have:=ae bd;rw[if_pos hy]at this;exact this
       have a6:=af (u.put (j:=k) a4 (T.1:Int));subst hy;generalize T.2.getD k 0=d at *;have ba:w.heap.size+1≠b:=(by omega);have d8:(M:Int)<=300:=by have:=ae Hm;omega
       have c1:=r.2.1;have B1:=r.other (o:=k) ba (.int .i64 (T.1:Int));have e1:(wr.setCell ⟨w.heap.size+1,k,none⟩ (.int .i64 (T.1:Int))).cell? ⟨b,2+(N+1),none⟩=some (.int .i64 (M:Int)):=by
        have:=B1.2.2.1 (N+1) (by omega);simpa using this
       have e2:=B1.2.2.2.2.1 (2+(N+1));have B2:=B1.many (i:=N+1) (x:=M+1) (by omega);have eI:((M+1:Nat):Int)=(M:Int)+1:=(by omega);rw[eI]at B2;have c3:=r.2.2.2.1;have bk:=af B2;have a7:eV E ((wr.setCell ⟨w.heap.size+1,k,none⟩ (.int .i64 (T.1:Int))).setCell ⟨b,2+(N+1),none⟩ (.int .i64 ((M:Int)+1))) (b+1) vs Y:=(D.setUnder (by omega) _).setUnder (Nat.lt_succ_self _) _;have a3:an ((wr.setCell ⟨w.heap.size+1,k,none⟩ (.int .i64 (T.1:Int))).setCell ⟨b,2+(N+1),none⟩ (.int .i64 ((M:Int)+1))) (w.heap.size+1) (.slice (some ⟨w.heap.size+1,0,none⟩) n n) (T.2.set k (T.1:Int)):=a6.setOther (Ne.symm ba) _;have a0:Below (w.heap.size+1) w0 ((wr.setCell ⟨w.heap.size+1,k,none⟩ (.int .i64 (T.1:Int))).setCell ⟨b,2+(N+1),none⟩ (.int .i64 ((M:Int)+1))):=ai (ai f (Nat.le_refl _) _) (by omega) _;have a8:((wr.setCell ⟨w.heap.size+1,k,none⟩ (.int .i64 (T.1:Int))).setCell ⟨b,2+(N+1),none⟩ (.int .i64 ((M:Int)+1))).heap.size=wr.heap.size:=(by simp);have b3:Y.length<=100000:=by
        have h1:=ae d2;have h2:N*l.length<=15*300:=Nat.mul_le_mul (by omega) (by rw[ae Hn];exact Hm);have h3:=ae Hm;omega
       have bl:=af b3;have I:=af a7;have al:=af a3;have ad:=af a0;clear B1 B2 a7 a3 a0 b3 c6 cs r u D f a6 be bd bc eI;have L:Y.length+1<=maxLen:=by have:=ae bl;unfold maxLen;omega
       have O:(Y.length+1)*8<=140737488355328:=by have:=ae bl;omega
       have P:∀o:Obj,b+1<=(((wr.setCell ⟨w.heap.size+1,k,none⟩ (.int .i64 (T.1:Int))).setCell ⟨b,2+(N+1),none⟩ (.int .i64 ((M:Int)+1))).alloc o).heap.size:=fun o=>by simp;omega
       have c9:=af L;have dd:=af O;have dl:=af P;have bn:=af a8;clear L O P a8;go_wp2_with (at_builtin;refine wpList_append_own _ rfl _ _ _ rfl (b+1) E j0 (.int .i64 0) 1 8 b2 ji jz0 jz1 jz2 rfl (by decide) _ _ _ rfl (World.ownsRow.alloc I _) ⟨wr.heap.size,0,none⟩ 1 1 [.int .i64 (k:Int)] rfl rfl (cK _ _ bn _ _) (fD _) c9 dd (dl _) ?_;intro v' x3 t q cu;clear cu;have Z:=aH (v:=vs) q I (Nat.le_refl (b+1)) (by rw[ae bn];exact G) (Below.refl _ _);have B3:=bk.kept Z;have c4:=B3.2.2.2.1;have f4:=B3.2.2.2.2.1 18;have hex:=eV.formN (n:=Y.length+1) (by simp) (mt t);obtain⟨va,vc,hv⟩:=hex;rw[hv];have HV:=af hv;clear hv);have a2:=al.under Z (by omega);have W:=mt t;have ao:=ad.trans (Z.mono (by omega));rw[ae HV]at W;have a1:=B3.sorted (.slice va (Y.length+1) vc);rw[Gh]at a1;have b9:=a2.setOther (o:=18) (Ne.symm ba) (.slice va (Y.length+1) vc);have cy:=W.setUnder (b:=b) (o:=18) (Nat.lt_succ_self _) (.slice va (Y.length+1) vc);have b6:=ai (o:=18) ao (show w.heap.size+1<=b by omega) (.slice va (Y.length+1) vc);clear a2 W ao B3 t q Z ad al I bk;go_roundw
       case rel=>
        exact⟨k+1,.slice va (Y.length+1) vc,by omega,by go_num,by rw[ae A];go_num,by rw[ae R];exact a1,by rw[ae A];exact b9,by rw[ae U];exact cy,b6⟩
       case measure=>simp[intOf];omega
      .
       have A:Hid (inn l ((N:Int)+1) S (k+1)=T):=by have:=ae be;rw[if_neg hy]at this;exact this
       have R:Hid (many l ((N:Int)+1) (k+1)=M):=by have:=ae bc;rw[if_neg hy]at this;exact this
       have U:Hid (syms l ((N:Int)+1) (dU l N) (k+1)=Y):=by have:=ae bd;rw[if_neg hy]at this;exact this
       have g1:(y == (N:Int)+1)=false:=by simpa using hy
       clear c6 cs;go_wp2;go_roundw
       case rel=>exact⟨k+1,_,by omega,by go_num,by rw[ae A],by rw[ae R];exact r,by rw[ae A];exact u,by rw[ae U];exact D,f⟩
       case measure=>simp[intOf];omega
     .
      have dv:k=l.length:=by have:=ae Hn;omega
      subst dv;rw[←ae ch]at u cr ⊢;rw[←ae co]at D;rw[ae cg]at r;have ej:((aW l (N+1)).1:Int)<=9830400:=by have:=ae bb;omega
      go_wp2;go_roundw
      case rel=>exact⟨N+1,_,by omega,by go_num,rfl,r,u,D,f⟩
      case measure=>simp[intOf];omega
   .
    obtain rfl:N=15:=by omega
    have c5:wr.there w.heap.size 0 19:=fun j hj=>by
     obtain⟨h1,h2⟩:=HX.2.2.1 j hj;exact⟨by rw[s.cell (p:=⟨w.heap.size,0+j,none⟩) (Nat.lt_succ_self _)];exact h1,by rw[s.frozen (p:=⟨w.heap.size,0+j,none⟩) (Nat.lt_succ_self _)];exact h2⟩
    have cc:∀o,wr.frozen? ⟨w.heap.size,o,none⟩=false:=fun o=>by
     rw[s.frozen (p:=⟨w.heap.size,o,none⟩) (Nat.lt_succ_self _)];exact HX.2.2.2 _
    have h1:vs.oneCell'=true:=by
     obtain⟨_,_,e⟩:=ab.form;rw[e];rfl
    have dq:=af c5;have c8:=af cc;have H1:=af h1;clear c5 cc h1;go_wp2_with (first
     | (refine wpList_load_mid rfl _ (.tmp 3) rfl b 0 rfl _ _ F.range a9 ca (by rw[eq];exact J) ?_)
     | (refine lz rfl _ (.tmp 2) (.tmp 50) rfl w.heap.size _ _ _ _ _ rfl rfl rfl dq c8 J ⟨rfl,rfl,H1⟩ ?_;intro w2 z G ac X))
    refine bodyPost_ret (gp rfl _ _ w.heap.size _ _ rfl z.range a9 ca (by rw[eq];exact J)) rfl ⟨_,_,rfl,rfl,?_,?_,?_⟩
    . exact aa.touch (a:=some ⟨w.heap.size,0,none⟩) ⟨ac,fun j hj=>X j (hj _ rfl)⟩ (by intro g e;simp only[Option.some.injEq,Addr.mk.injEq,and_true]at e;omega)
    . exact(ab.mono (by omega)).touch (a:=some ⟨w.heap.size,0,none⟩) ⟨ac,fun j hj=>X j (hj _ rfl)⟩ (by intro g e;simp only[Option.some.injEq,Addr.mk.injEq,and_true]at e;omega)
    . exact(HX.2.1.trans (s.mono (Nat.le_succ _))).trans G
end Go.Proofs.YtfannoajibacnaaGreatDoor.Bkx
