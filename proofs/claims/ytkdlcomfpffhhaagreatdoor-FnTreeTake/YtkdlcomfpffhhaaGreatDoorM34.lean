/- Of what the proof is made: 3 texts, one behind the other. -/
import Derived.Test.YtkdlcomfpffhhaaGreatDoorM26
import Derived.Test.YtkdlcomfpffhhaaGreatDoorM27
import Derived.Test.YtkdlcomfpffhhaaGreatDoorM32
import Derived.Test.YtkdlcomfpffhhaaGreatDoorM31
import Derived.Test.YtkdlcomfpffhhaaGreatDoorM7
import Derived.Test.YtkdlcomfpffhhaaGreatDoorM8
import Derived.Test.YtkdlcomfpffhhaaGreatDoorM28
set_option maxRecDepth 100000
set_option linter.unusedSimpArgs false
set_option linter.unusedVariables false
set_option maxHeartbeats 1600000
namespace Go.Proofs.YtkdlcomfpffhhaaGreatDoor
open Go.RowKit Go.Shelf Corb
attribute [local go_sem] Oper.semAt_some
def jl(L D:List Int)(t:Tk):Prop:=if isB t then t.1.toNat<L.length else 257+fnd 3 4 t.2.1.toNat 27<L.length/\fnd 1 2 t.2.2.toNat 29<D.length
theorem AV{t:Tk}(h:isK t=true):3<=t.2.1/\t.2.1<=60/\1<=t.2.2/\t.2.2<=250:=by
 unfold isK inB at h;simp only[a0n,a0E]at h;omega
theorem vY{t:Tk}(h:isB t=true):0<=t.1/\t.1<=255:=by
 unfold isB inB at h;simp only[a0n,a0E]at h;omega
end Go.Proofs.YtkdlcomfpffhhaaGreatDoor
namespace Go.Proofs.YtkdlcomfpffhhaaGreatDoor
open Go.RowKit
variable {b n:Nat}{v:Value}{w w':World}
theorem eV{base:Nat}{l:List Fl}(h:eQ w base v l)(f:Kn b w w')(hb:b<base):eQ w' base v l:=by
 refine⟨h.1,?_⟩;rcases h.2 with i|⟨g,cap,c,rfl,d,a,rest⟩
 . exact .inl i
 . have e:=(Array.getElem?_eq_some_iff.1 a).1;refine .inr ⟨g,cap,c,rfl,d,?_,rest⟩;rw[f.2.1 g e (by omega)];exact a
theorem jm{base:Nat}{l:List Fl}(c:l.length=n)(h:eQ w base v l)(d:v ≠ .slice none 0 0):∃g cap,v = .slice (some ⟨g,0,none⟩) n cap/\n<=cap:=by
 subst c;rcases h.2 with⟨e,_⟩|⟨g,cap,a,e,_,_,b,_⟩
 . exact absurd e d
 . exact⟨g,cap,e,b⟩
theorem gg{l:List Fl}(h:fh l)(c:l.length=n):mq l n:=fun i b=>by
 have a:l.getD i default∈l:=by simp[List.getD,show i<l.length by omega]
 have:=h _ a;unfold pA;omega
theorem xV(h:Below w.heap.size w w')(hb:b<w.heap.size):Kn b w w':=⟨h.mono (a0y hb),fun k a _=>h.block k a,h.size⟩
theorem LB:∀v∈dx,v.size<=1000:=by decide
theorem Ly:∀v∈lH++dx,v.size<=1000:=by decide
def NmF(l:List Fl):Prop:=∀e∈l,e.p∈lH++dx
theorem Ng{l:List Fl}{nm:ByteArray}(tx:ByteArray)(h:NmF l)(b:nm∈dx):NmF (bH l ⟨nm,tx⟩):=fun e a=>by
 rcases sL a with rfl|a
 . exact a1j.2 (.inr b)
 . exact h e a
theorem xY(B b m:Nat)(w:World)(h:Rd w B b m)(hm:m<=70000) :
  Calls Tryz.prog 50 #[.pointer (some ⟨b,0,none⟩)] w fun e w'=>(∃v l,e = .returned v/\l.length<=4/\eQ w' (b+1) v l/\v ≠ .slice none 0 0/\fh l/\NmF l)/\Rd w' B b (m+300)/\Kn b w w':=by
 have Q:=h.lt;have R0:Hid (Rd (w.alloc (.cells #[] 28)) B b m):=h.alloc _;have O0:Hid (eQ (w.alloc (.cells #[] 28)) (b+1) (.slice (some ⟨w.heap.size,0,none⟩) 0 0) []):=a0P w #[] 0 Q (by unfold maxLen;omega) rfl;have K0:Hid (Kn b w (w.alloc (.cells #[] 28))):=dE w _ Q;clear h;go_enter Tryz.func50,Tryz.ntmps50;go_wp2_with fail;refine(bi B b m _ _ (ae R0) (by omega) (by omega) (by omega)).mono ?_;rintro e w1 ⟨r,rfl,r0,r1,y,q⟩;obtain⟨n0,rfl⟩:=a0r r0;have O1:=af (eV (ae O0) q.kn (a0l _));have K1:=af ((ae K0).trans q.kn);have R1:=af y;have R:n0<=4:=by omega
 clear R0 O0 K0 y q r0 r1;go_wp2_with fail
 go_loopw [3,4,5] (fun v i _ wr=>∃(l:List Fl) (k:Nat),i = .int .i64 k/\k<=4/\l.length+k<=4/\eQ wr (b+1) v l/\v ≠ .slice none 0 0/\(fh l/\NmF l)/\Rd wr B b (m+1+(4-k)*60)/\Kn b w wr) (fun _ i _ _=>(intOf i).toNat)
 case atStart=>exact⟨[],n0,rfl,R,by simpa using R,ae O1,by simp,⟨fun e V=>by simp at V,fun e V=>by simp at V⟩,(ae R1).mono (by omega),ae K1⟩
 case round=>
  obtain⟨l,k,rfl,hk,P,X,hv,hT,G,N⟩:=hrel;clear O1 K1 R1;obtain⟨n,hn⟩:∃n,l.length=n:=⟨_,rfl⟩;obtain⟨g,cap,rfl,M⟩:=jm hn X hv;have ab:(k:Int)<=4:=by omega
  have a:=af (a0b X (a0b hT (a0b G (a0b N (a0b hn P)))));have aa:=G.lt;clear X hT G N hn P hv;by_cases hp:0<k
  .
   have Y:(0:Int)<(k:Int):=by omega
   go_wp2_with fail;refine(kO B b _ _ (ae a).2.2.1 (by omega)).mono ?_;rintro e w2 ⟨nm,F,rfl,z,j⟩;have W:=LB nm F;have t:=af (a0b (eV (ae a).1 j (a0l _)) (a0b z ((ae a).2.2.2.1.trans j)));have H:=af F;clear z j F;go_wp2_with fail;refine(jQ B b _ _ (ae t).2.1 (by omega)).mono ?_;rintro e w3 ⟨⟨tx,rfl,ac⟩,s,o⟩;have f:=af (a0b (eV (ae t).1 o (a0l _)) (a0b s ((ae t).2.2.trans o)));have p:=s.lt;clear s o t;have A:=(ae f).1;rw[←(ae a).2.2.2.2.1]at A;have HC:=af (pT g cap n l nm tx w3 (ae a).2.2.2.2.1 (sD A) (by have:=ae a;omega) M (ae a).2.1.1 W (by omega));clear A;go_wp2_with fail;refine(ae HC).mono ?_;rintro e w4 ⟨⟨v4,l4,rfl,O,u,S,C,L⟩,D⟩;have K:NmF l4:=L▸Ng tx (ae a).2.1.2 (ae H);obtain⟨n4,hn4'⟩:∃n4,l4.length=n4:=⟨_,rfl⟩;obtain⟨g4,J,rfl,U⟩:=jm hn4' u S;have Z:=xV D p;have c:=af (a0b (aN.mono u p) (a0b (eV (ae f).1 Z (a0l _)) (a0b ((ae f).2.1.kept (D.mono p)) (a0b ((ae f).2.2.trans Z) (a0b (a0b C K) (a0b hn4' O))))));have HT:=af (fK (some ⟨g4,0,none⟩) J l4 n4 hn4' w4 (fz hn4' u) (by have:=ae a;omega) (gg C hn4'));have x:b<w4.heap.size:=(ae c).2.2.1.lt;clear u S C L K D Z HC f H hn4' O;go_wp2_with fail;refine(ae HT).mono ?_;rintro e w5 ⟨rfl,E⟩;have T:=xV E x;have d:=af (a0b (eV (ae c).1 T (a0l _)) (a0b (eV (ae c).2.1 T (a0l _)) (a0b ((ae c).2.2.1.kept (E.mono x)) ((ae c).2.2.2.1.trans T))));have I:=af (ae c).2.2.2.2;clear E T c HT;cases hB:cH l4
   .
    go_wp2_with fail;go_roundw
    case rel=>exact⟨l,k-1,by go_num,by omega,by have:=ae a;omega,(ae d).2.1,by simp,(ae a).2.1,(ae d).2.2.1.mono (by omega),(ae d).2.2.2⟩
    case measure=>simp[intOf];omega
   .
    go_wp2_with fail;go_roundw
    case rel=>exact⟨l4,k-1,by go_num,by omega,by have:=ae a;have:=ae I;omega,(ae d).1,by simp,(ae I).1,(ae d).2.2.1.mono (by omega),(ae d).2.2.2⟩
    case measure=>simp[intOf];omega
  .
   have Y:¬ (0:Int)<(k:Int):=by omega
   go_wp2;go_ret;refine⟨⟨_,rfl,l,?_,(ae a).1,?_,(ae a).2.1⟩,(ae a).2.2.1.mono (by omega),(ae a).2.2.2.1⟩
   . have:=ae a;omega
   . simp
theorem Eg{W:World}{g:Nat}{l:List Fl}(h:qW W g l):∀j u,(l.flatMap aM)[j]?=some u->W.cell? ((⟨g,0,none⟩:Addr).add j)=some u:=by
 intro j u b;have a:j<(l.flatMap aM).length:=(List.getElem?_eq_some_iff.1 b).1;rw[cP cV]at a;have e:(⟨g,0,none⟩:Addr).add j=⟨g,j,none⟩:=by unfold Addr.add;split<;>simp_all
 rw[e,h.2 _ a,b]
theorem Rd.grownF{B m:Nat}{xs:List Value}(h:Rd w B b m)(c:w.ownsRow (b+1) 28 2 v n xs)(a:w.grownBy w' v.ownBlock):Rd w' B b m:=h.grown a (fun k e=>(a0p c k e).1)
theorem rQ(B b m:Nat)(w:World)(h:Rd w B b m)(hm:m<=60000) :
  Calls Tryz.prog 23 #[.pointer (some ⟨b,0,none⟩)] w fun e w'=>(∃v l,e = .returned v/\l.length<=5/\eQ w' (b+1) v l/\v ≠ .slice none 0 0/\fh l/\NmF l)/\Below b w w'/\∃M,M<=m+3000/\Rd w' B b M:=by
 obtain⟨i0,hi,R,S,T⟩:=a0s Tryz.infoFile;have O:=h.lt;have R0:Hid (Rd (w.alloc (.cells #[] 28)) B b m):=h.alloc _;have O0:Hid (eQ (w.alloc (.cells #[] 28)) (b+1) (.slice (some ⟨w.heap.size,0,none⟩) 0 0) []):=a0P w #[] 0 O (by unfold maxLen;omega) rfl;have K0:Hid (Kn b w (w.alloc (.cells #[] 28))):=dE w _ O;have u:Hid (∀x,x<=40->x<=maxLen/\x*32<=140737488355328):=fun x hx=>by unfold maxLen;omega
 clear h;go_enter Tryz.func23,Tryz.ntmps23;go_wp2_with fail;refine(xY B b m _ (ae R0) (by omega)).mono ?_;rintro e w1 ⟨⟨v1,l,rfl,N,F,P,L⟩,q,f⟩;obtain⟨n,hn⟩:∃n,l.length=n:=⟨_,rfl⟩;obtain⟨g,cap,rfl,aa⟩:=jm hn F P;have O1:=af (eV (ae O0) f (a0l _));have K:qW w1 g l:=by
  have:=F;rw[←hn]at this;exact sD this
 have HF:=af (Eg K);have HL:Hid ((l.flatMap aM).length=n*2):=by show _=_;rw[cP cV,hn]
 have A:=q.lt;have t:=af (a0b q (a0b ((ae K0).trans f) (a0b L (a0b hn N))));have ab:n<=4:=by omega
 clear q f R0 O0 K0 F K L hn N P;go_wp2_with (at_builtin;refine a0v _ rfl _ _ 23 rfl (b+1) 28 i0 (.agg #[.string ⟨#[]⟩,.string ⟨#[]⟩]) 2 32 a0M hi R S T rfl (by decide) _ 0 [] rfl (ae O1) ⟨g,0,none⟩ n cap (l.flatMap aM) rfl (ae HL) (ae HF) (bz _) (ae u _ (by omega)).1 (ae u _ (by omega)).2 A ?_;intro v2 w2 d a c);have Q:v2 ≠ .slice none 0 0:=fun e=>by have:=(c.1 e).1;cases this
 have O2:Hid (eQ w2 (b+1) v2 l):=by
  show World.ownsRow _ _ _ _ _ l.length _;rw[(ae t).2.2.2.1];simpa using d
 have I:=af ((ae t).1.grownF (ae O1) a);have G:Hid (Below b w w2):=(ae t).2.1.1.grown a (a0y A) (fun k e=>by have:=(a0p (ae O1) k e).1;omega);clear d a c O1 HF HL;go_wp2_with fail;refine(bi B b (m+300) _ _ (ae I) (by omega) (by omega) (by omega)).mono ?_;rintro e w3 ⟨r,rfl,r0,r1,C,p⟩;have O3:=af (eV (ae O2) p.kn (a0l _));have y:=af (a0b C ((ae G).trans p.1));clear C p O2 I G;by_cases hr:r=0
 .
  subst hr;go_wp2_with fail;refine(rP B b _ _ (ae y).1 (by omega)).mono ?_;rintro e w4 ⟨nm,E,rfl,D,i⟩;have Y:=Ly nm E;have z:=af (a0b (eV (ae O3) i (a0l _)) (a0b D ((ae y).2.trans i.1)));have V:=af E;clear D i E;go_wp2_with fail;refine(qz B b _ _ (ae z).2.1 (by omega)).mono ?_;rintro e w5 ⟨⟨tx,rfl,ad⟩,s,j⟩;have O5:=eV (ae z).1 j (a0l _);have o:=s.lt;have H:=af ((ae z).2.2.trans j.1);have O6:=af (a0k (aN.own (ae t).2.2.2.1 O5) (.cells #[.string nm,.string tx] 28));have N6:=af (dC.new w5 (b+1) o nm tx 28).news;have J:=af (s.alloc (.cells #[.string nm,.string tx] 28));clear s j z O5;go_wp2_with (at_builtin;refine a0v _ rfl _ _ 23 rfl (b+1) 28 i0 (.agg #[.string ⟨#[]⟩,.string ⟨#[]⟩]) 2 32 a0M hi R S T rfl (by decide) v2 n (l.flatMap aM) rfl (ae O6) ⟨w5.heap.size,0,none⟩ 1 1 (aM ⟨nm,tx⟩) rfl rfl (ae N6) (cW _) (ae u _ (by omega)).1 (ae u _ (by omega)).2 (av o _) ?_;intro v7 w7 d a c);have Z:v7 ≠ .slice none 0 0:=fun e=>Q (c.1 e).1;have O7:Hid (eQ w7 (b+1) v7 (l++[⟨nm,tx⟩])):=aN.snoc (ae t).2.2.2.1 d;have U:Hid (Below b w w7):=((ae H).alloc (a0y o) _).grown a (by simp;omega) (fun k e=>by have:=(a0p (ae O6) k e).1;omega);have W:=af ((ae J).grownF (ae O6) a);clear d a c O6 N6 H J;go_wp2;go_ret;refine⟨⟨v7,l++[⟨nm,tx⟩],rfl,?_,ae O7,Z,(ae t).2.2.1.1.app ?_,fun e X=>(a1j.1 X).elim ((ae t).2.2.1.2 e) fun h=>(by rcases a1g.1 h with rfl;exact ae V)⟩,ae U,_,?_,ae W⟩
  . rw[a0o,(ae t).2.2.2.1];simp;omega
  . intro e X;rcases a1g.1 X with rfl;exact⟨Y,by simp;omega⟩
  . omega
 .
  have ac:(r == 0)=false:=by simpa using hr
  go_wp2;go_ret;refine⟨⟨v2,l,rfl,?_,ae O3,Q,(ae t).2.2.1⟩,(ae y).2,_,?_,(ae y).1⟩
  . have:=ae t;omega
  . omega
end Go.Proofs.YtkdlcomfpffhhaaGreatDoor
