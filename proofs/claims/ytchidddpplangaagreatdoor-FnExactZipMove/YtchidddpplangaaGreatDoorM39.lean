/- Of what the proof is made: 9 texts, one behind the other. -/
import Derived.Test.YtchidddpplangaaGreatDoorM37
import Derived.Test.YtchidddpplangaaGreatDoorM26
import Derived.Test.YtchidddpplangaaGreatDoorM28
import Derived.Test.YtchidddpplangaaGreatDoorM32
import Derived.Test.YtchidddpplangaaGreatDoorM3
import Derived.Lib.QuietBelow
set_option maxRecDepth 100000
set_option linter.unusedSimpArgs false
set_option linter.unusedVariables false
set_option maxHeartbeats 6400000
namespace Go.Proofs.YtchidddpplangaaGreatDoor
open Go.Proofs.Tryz
open Go.RowKit Corb
variable {vs:List Value}{w:World}
def jM(how st crc pk lg:Nat)(nm:ByteArray)(pl:Nat):ByteArray:=(⟨#[80,75,1,2]⟩:ByteArray)++aw (leS 2 20)++er how st crc pk lg nm.size++(⟨#[0,0,0,0,0,0,0,0,0,0]⟩:ByteArray)++aw (leS 4 pl)++nm
theorem gU(how st a b lg:Nat)(nm:ByteArray)(pl:Nat):(jM how st a b lg nm pl).size=46+nm.size:=by
 simp only[jM,a0R,fU,bp,aF];have c:(⟨#[80,75,1,2]⟩:ByteArray).size=4:=rfl;have h2:(⟨#[0,0,0,0,0,0,0,0,0,0]⟩:ByteArray).size=10:=rfl;omega
def dF(many long pl:Nat):ByteArray:=(⟨#[80,75,5,6]⟩:ByteArray)++aw ([0,0,many,many].flatMap (leS 2))++aw (leS 4 long)++aw (leS 4 pl)++aw ([0].flatMap (leS 2))
theorem p6(many long pl:Nat):(dF many long pl).size=22:=by
 simp only[dF,a0R,bp,aF,a0V,a2o,a0j,a0S];have a:(⟨#[80,75,5,6]⟩:ByteArray).size=4:=rfl;omega
def eN(e:En):Nat:=(stN e.y e.mo e.d e.h e.mi e.s).toNat
def loE(e:En):ByteArray:=oj e.n e.t (eN e)
def heE(e:En)(p:Nat):ByteArray:=jM (dH e.t) (eN e) (aE 0 e.t.data.toList) (aY e.t).size e.t.size e.n p
def Oq(s:ByteArray×ByteArray)(e:En):ByteArray×ByteArray:=(s.1++loE e,s.2++heE e s.1.size)
def aI(l:List En):ByteArray×ByteArray:=l.foldl Oq (⟨#[]⟩,⟨#[]⟩)
theorem LJ:aI []=(⟨#[]⟩,⟨#[]⟩):=rfl
theorem kR(l:List En)(k:Nat)(h:k<l.length):aI (l.take (k+1))=Oq (aI (l.take k)) (l.getD k default):=by
 rw[uS l default k h,aI,List.foldl_append];rfl
theorem uf{e:En}(k:gV e=true):30<=(loE e).size/\(loE e).size<=400:=by
 obtain⟨f1,f2,f3⟩:=du (n:=e.n) (t:=e.t) k;have a:=gp e.t;have hb:(aY e.t).size<=300:=by unfold aY;split<;>omega
 have:(loE e).size=30+e.n.size+(aY e.t).size:=by simp only[loE,oj,a0R,tk]
 omega
theorem tj(e:En)(p:Nat):(heE e p).size=46+e.n.size:=gU _ _ _ _ _ _ _
theorem nw(l:List En)(h:∀i,i<l.length->gV (l.getD i default)=true):∀k,k<=l.length->(aI (l.take k)).1.size<=400*k/\(aI (l.take k)).2.size<=100*k
 | 0,_=>by rw[a3S,LJ];exact⟨a0g _,a0g _⟩
 | k+1,hk=>by
  have ih:=nw l h k (by omega);rw[kR l k (by omega)];have a:=uf (h k (by omega));have h2:=(du (n:=(l.getD k default).n) (t:=(l.getD k default).t) (h k (by omega))).1;have b:=tj (l.getD k default) (aI (l.take k)).1.size;simp only[Oq,a0R];omega
theorem jf{l:List En}(h:dm l=true):(∀i,i<l.length->gV (l.getD i default)=true)/\l.length<=6:=by
 simp only[dm,a0n,a0w,a1a]at h;exact⟨fun i a=>((nl l i).mp (h.1 i (List.mem_range.mpr a))).1,h.2⟩
def yG(l:List En):ByteArray:=if dm l then(aI l).1++(aI l).2++dF l.length (aI l).2.size (aI l).1.size else⟨#[]⟩
theorem Ja:aw (leS 4 33639248)=(⟨#[80,75,1,2]⟩:ByteArray):=by decide +kernel
theorem Jk:aw (leS 4 101010256)=(⟨#[80,75,5,6]⟩:ByteArray):=by decide +kernel
theorem I3:aw (leS 2 0)++aw (leS 2 0)++aw (leS 2 0)++aw (leS 4 0)=(⟨#[0,0,0,0,0,0,0,0,0,0]⟩:ByteArray):=by decide +kernel
def vM(e:En):List Value:=[.int .i64 (dH e.t:Nat),.int .i64 (eN e:Nat),.int .i64 (aE 0 e.t.data.toList:Nat),.int .i64 ((aY e.t).size:Nat),.int .i64 (e.t.size:Nat),.string e.n,.string (aY e.t)]
def oU(q:En×Nat):List Value:=[.int .i64 (dH q.1.t:Nat),.int .i64 (eN q.1:Nat),.int .i64 (aE 0 q.1.t.data.toList:Nat),.int .i64 ((aY q.1.t).size:Nat),.int .i64 (q.1.t.size:Nat),.string q.1.n,.int .i64 (q.2:Nat)]
theorem F3(e:En):(vM e).length=7:=rfl
theorem FY(e:En×Nat):(oU e).length=7:=rfl
theorem F4(e:En):∀u∈vM e,u.oneCell'=true:=by
 intro u a;simp only[vM,a0U,a1C,a1q]at a;rcases a with rfl|rfl|rfl|rfl|rfl|rfl|rfl<;>rfl
theorem FZ(e:En×Nat):∀u∈oU e,u.oneCell'=true:=by
 intro u a;simp only[oU,a0U,a1C,a1q]at a;rcases a with rfl|rfl|rfl|rfl|rfl|rfl|rfl<;>rfl
theorem kF(w:World)(a:Array Value)(t:TypeId):∀(j:Nat) (u:Value),a.toList[j]?=some u->(w.alloc (.cells a t)).cell? ((⟨w.heap.size,0,none⟩:Addr).add j)=some u:=by
 intro j u h;have:=(aM w a t).cell j u h;have e:((⟨w.heap.size,0,none⟩:Addr).add j)=⟨w.heap.size,j,none⟩:=by
  unfold Addr.add
  split
  . rename_i h0;rw[h0]
  . simp
 rw[e];exact this
theorem Og{e:En}(k:gV e=true):stI e.y e.mo e.d e.h e.mi e.s=((eN e:Nat):Int):=by
 obtain⟨_,_,f3⟩:=du (n:=e.n) (t:=e.t) k;obtain⟨_,_,_,g4⟩:=pF f3;rw[g4];rfl
theorem Tryz.infoLh:(prog.info? 97).map (fun i=>(i.zero,i.size,i.bytes))=some (some (.agg #[.int .i64 0,.int .i64 0,.int .i64 0,.int .i64 0,.int .i64 0,.string ⟨#[]⟩,.string ⟨#[]⟩]),7,72):=by kernel_rfl
abbrev NC:=bX (α:=En) 97 7 vM
theorem Da(a:Option Addr)(cap n:Nat)(l:List En)(w:World)(U:l.length=n)(h:kj w a l)(T:n<=6)(V:∀i,i<n->gV (l.getD i default)=true)(R:dT w) :
  Calls prog 57 #[.slice a n cap,.func (.func 58) #[] #[]] w fun e w'=>∃v,e = .returned v/\NC w' w.heap.size v l/\Below w.heap.size w w':=by
 have aa:(n:Int)<=6:=by omega
 have u:=ae U;have Hm:=ae T;have HS:=ae V;have Z:=ae h;have Y:=ae R;clear U T V h R;obtain⟨i0,hi,N,O,P⟩:=a0o Tryz.infoLh;go_enter func57,ntmps57;go_wp2_with fail
 go_loopw [5,7,10] (fun o _ i wr=>∃k:Nat,k<=n/\i = .int .i64 k/\NC wr w.heap.size o (l.take k)/\Below w.heap.size w wr) (fun _ _ i _=>n-(intOf i).toNat)
 case atStart=>exact⟨0,a0g _,rfl,bX.nil _ _,a0c _ _⟩
 case round=>
  obtain⟨k,S,rfl,hq,b⟩:=hrel;by_cases K:k<n
  .
   obtain⟨g,o,rfl,hg,z⟩:=(ab Z).later b (by have:=ab u;omega);obtain⟨c0,c1,c2,c3,c4,c5,c6,c7⟩:=z k (by have:=ab u;omega);have L:=ae (uS l default k (by have:=ab u;omega));have B:Hid ((l.take k).length=k):=by show _=_;have:=ab u;simp;omega
   have Hk:=ae S;have H:=ab HS k K;have E:=Og H;have M:=(du (n:=(l.getD k default).n) (t:=(l.getD k default).t) H).2.1;clear z S H;generalize l.getD k default=en at *
   have HP:=ae (fun W (hb:Below w.heap.size w W)=>r8 en.n en.t en.y en.mo en.d en.h en.mi en.s W (by omega) ((ab Y).later hb));rw[E]at HP;clear E M;have Q:Below wr.heap.size wr (wr.alloc (.cells #[.string en.n,.int .i64 en.y,.int .i64 en.mo,.int .i64 en.d,.int .i64 en.h,.int .i64 en.mi,.int .i64 en.s,.string en.t] 31)):=(a0c _ _).alloc (a0a _) _;have G:=ae Q;have F:=ae hq;have c:=ae b;clear Q hq b;go_wp2_with fail;refine(ab HP _ (ai (ab c) (ab G))).mono ?_;rintro e x1 ⟨rfl,x⟩;have I:=ai (ab G) x;have r:=bX.own (ab B) ((ab F).later I (a0a _));have f:=ai (ab c) I;have p:=f.size;have m:Hid (k+1<=maxLen/\(k+1)*72<=140737488355328):=by
    show _/\_;have:=ab Hm;unfold maxLen;omega
   clear F c G x I HP;go_wp2_with (at_builtin;refine a0r _ rfl _ _ 92 rfl w.heap.size 97 i0 (.agg #[.int .i64 0,.int .i64 0,.int .i64 0,.int .i64 0,.int .i64 0,.string ⟨#[]⟩,.string ⟨#[]⟩]) 7 72 underlying92 hi N O P rfl (by decide) _ _ _ rfl (a0k r _) ⟨x1.heap.size,0,none⟩ 1 1 (vM en) rfl rfl (kF x1 _ _) (F4 en) (ab m).1 (ab m).2 (ao p _) ?_;intro v' x2 q j C;clear C);have J:=aC (v:=u5) j r (a0a _) p f;have D:NC x2 w.heap.size v' _:=bX.snoc (ab B) q;rw[←ab L]at D;clear q j r;go_wp2;go_roundw
   case rel=>exact⟨k+1,by have:=ab Hk;omega,by go_num,D,J⟩
   case measure=>simp[intOf];omega
  . have A:l.take k=l:=a0u (by rw[ab u];omega);rw[A]at hq;have F:=ae hq;have X:=ae b;clear hq b A;go_wp2;go_ret;exact⟨_,rfl,ab F,ab X⟩
def BlS(w:World)(vs:List Value)(W:World):Prop:=Below w.heap.size w W/\Blk W w.heap.size vs
theorem BlS.later{W W':World}(k:BlS w vs W)(hb:Below W.heap.size W W'):BlS w vs W':=⟨ai k.1 hb,k.2.later hb k.2.1⟩
theorem BlS.drew{W:World}(k:BlS w vs W):BlS w vs W.drew:=⟨k.1.drew,k.2.drew⟩
theorem yk(W:World)(x:Nat):aZ (W.alloc (.cells #[.int .i64 ((x:Nat):Int)] 3)) (some ⟨W.heap.size,0,none⟩) (cP [x]):=by
 intro _;refine⟨W.heap.size,0,rfl,by simp,fun i a=>?_⟩
 match i,a with
 | 0,_=>simp[cP]
theorem zF(W:World)(x y z u:Nat):aZ (W.alloc (.cells #[.int .i64 ((x:Nat):Int),.int .i64 ((y:Nat):Int),.int .i64 ((z:Nat):Int),.int .i64 ((u:Nat):Int)] 3)) (some ⟨W.heap.size,0,none⟩) (cP [x,y,z,u]):=by
 intro _;refine⟨W.heap.size,0,rfl,by simp,fun i a=>?_⟩
 match i,a with
 | 0,_=>simp[cP]
 | 1,_=>simp[cP]
 | 2,_=>simp[cP]
 | 3,_=>simp[cP]
theorem rx(how st b f lg pl:Nat)(nm:ByteArray)(w:World)(m:how<65536)(n:st<4294967296)(h2:b<4294967296)(o:f<4294967296)(p:lg<4294967296)(q:nm.size<65536)(r:pl<4294967296) :
  Ds 102 #[.agg #[.int .i64 (how:Nat),.int .i64 (st:Nat),.int .i64 (b:Nat),.int .i64 (f:Nat),.int .i64 (lg:Nat),.string nm,.int .i64 (pl:Nat)]] w (.string (jM how st b f lg nm pl)):=by
 have j:prog.follows .mixedOrders=true:=by kernel_rfl
 have t:Hid (∀g W,aZ W (some ⟨g,0,none⟩) (cP [20])->Ds 103 #[.slice (some ⟨g,0,none⟩) 1 1] W (.string (aw (leS 2 20)))):=fun g W h=>by
  have:=dB (some ⟨g,0,none⟩) 1 1 [20] W rfl h (by decide) (by decide);rw[show([20]:List Nat).flatMap (leS 2)=leS 2 20 by simp]at this;exact this
 have CT:Hid (∀W,Ds 135 #[.agg #[.int .i64 (how:Nat),.int .i64 (st:Nat),.int .i64 (b:Nat),.int .i64 (f:Nat),.int .i64 (lg:Nat),.string nm]] W (.string (er how st b f lg nm.size))):=fun W=>BM how st b f lg nm W m n h2 o p q;have s:Hid (∀W,Ds 104 #[.int .i64 (pl:Int)] W (.string (aw (leS 4 pl)))):=fun W=>dA pl W r;have z0:((aw (leS 2 20)).size:Int)<=100:=by rw[bp,aF];omega
 have z1:((er how st b f lg nm.size).size:Int)<=100:=by rw[fU];omega
 have z2:((aw (leS 4 pl)).size:Int)<=100:=by rw[bp,aF];omega
 have u:(nm.size:Int)<65536:=by omega
 unfold jM;generalize aw (leS 2 20)=A0 at *
 generalize er how st b f lg nm.size=A1 at *
 generalize aw (leS 4 pl)=A2 at *
 have T0':Hid (BlS w [.int .i64 (how:Nat),.int .i64 (st:Nat),.int .i64 (b:Nat),.int .i64 (f:Nat),.int .i64 (lg:Nat),.string nm,.int .i64 (pl:Nat)] (w.alloc (.cells #[.int .i64 (how:Nat),.int .i64 (st:Nat),.int .i64 (b:Nat),.int .i64 (f:Nat),.int .i64 (lg:Nat),.string nm,.int .i64 (pl:Nat)] 116))):=⟨(a0c _ _).alloc (a0a _) _,aM w _ _⟩;clear m n h2 o p q r;go_enter func102,ntmps102;go_wp2_with fail;obtain⟨W0,hW0⟩:∃x,w.alloc (.cells #[.int .i64 (how:Nat),.int .i64 (st:Nat),.int .i64 (b:Nat),.int .i64 (f:Nat),.int .i64 (lg:Nat),.string nm,.int .i64 (pl:Nat)] 116)=x:=⟨_,rfl⟩;rw[hW0]at T0';rw[hW0];have T0:=T0';clear T0' hW0;refine wp_region_held_drew (S:=BlS w [.int .i64 (how:Nat),.int .i64 (st:Nat),.int .i64 (b:Nat),.int .i64 (f:Nat),.int .i64 (lg:Nat),.string nm,.int .i64 (pl:Nat)]) j (ab T0).drew (fun c=>?_);refine af 3 (.pointer (some ⟨w.heap.size,0,none⟩)) rfl (by kernel_rfl) (fun _ _ _ h=>h) rfl (fun W a=>by go_simp) c ?_;refine af 4 (.agg #[.int .i64 (how:Nat),.int .i64 (st:Nat),.int .i64 (b:Nat),.int .i64 (f:Nat),.int .i64 (lg:Nat),.string nm]) rfl (by kernel_rfl) (fun _ _ _ h=>h) rfl (fun W a=>by have s0:=a.2.cell 0 _ rfl;have s1:=a.2.cell 1 _ rfl;have s2:=a.2.cell 2 _ rfl;have s3:=a.2.cell 3 _ rfl;have s4:=a.2.cell 4 _ rfl;have s5:=a.2.cell 5 _ rfl;go_simp) c ?_;refine af 8 (.pointer (some ⟨w.heap.size,6,none⟩)) rfl (by kernel_rfl) (fun _ _ _ h=>h) rfl (fun W a=>by go_simp) c ?_;refine af 9 (.int .i64 (pl:Nat)) rfl (by kernel_rfl) (fun _ _ _ h=>h) rfl (fun W a=>by have s6:=a.2.cell 6 _ rfl;go_simp) c ?_;refine af 12 (.pointer (some ⟨w.heap.size,0,none⟩)) rfl (by kernel_rfl) (fun _ _ _ h=>h) rfl (fun W a=>by go_simp) c ?_;refine af 13 (.pointer (some ⟨w.heap.size,5,none⟩)) rfl (by kernel_rfl) (fun _ _ _ h=>h) rfl (fun W a=>by go_simp) c ?_;refine af 14 (.string nm) rfl (by kernel_rfl) (fun _ _ _ h=>h) rfl (fun W a=>by have s5:=a.2.cell 5 _ rfl;go_simp) c ?_;have T1:=ae ((ab T0).drew);generalize W0.drew=W1 at *
 refine ag 0 (by kernel_rfl) rfl fun K d=>?_;go_simp;have i:Below W1.heap.size W1 (W1.alloc (.cells #[.int .i64 20] 3)):=(a0c _ _).alloc (a0a _) _;have T2:=ae ((ab T1).later i);have l:Hid (aZ (W1.alloc (.cells #[.int .i64 20] 3)) (some ⟨W1.heap.size,0,none⟩) (cP [20])):=yk _ _;refine Shut.out d _ _ (ab T2) (fun c=>?_);clear d K i T1;obtain⟨g,hg⟩:∃x,W1.heap.size=x:=⟨_,rfl⟩;obtain⟨W2,hW2⟩:∃x,W1.alloc (.cells #[.int .i64 20] 3)=x:=⟨_,rfl⟩;rw[hW2]at T2 c;rw[hg,hW2]at l;rw[hg,hW2];refine ag 1 (by kernel_rfl) rfl fun K d=>?_;go_simp;go_at_call 103;refine(ab t g W2 (ab l)).mono ?_;rintro e W3 ⟨rfl,i⟩;have T3:=ae ((ab T2).later i);refine Shut.out d _ _ (ab T3) (fun c=>?_);clear d K i T2;refine af 2 (.string ((⟨#[80,75,1,2]⟩:ByteArray)++A0)) rfl (by kernel_rfl) (fun _ _ _ h=>h) rfl (fun W a=>by go_simp<;>omega) c ?_;refine ag 5 (by kernel_rfl) rfl fun K d=>?_;go_simp;go_at_call 135;refine(ab CT W3).mono ?_;rintro e W4 ⟨rfl,i⟩;have T4:=ae ((ab T3).later i);refine Shut.out d _ _ (ab T4) (fun c=>?_);clear d K i T3;refine af 6 (.string ((⟨#[80,75,1,2]⟩:ByteArray)++A0++A1)) rfl (by kernel_rfl) (fun _ _ _ h=>h) rfl (fun W a=>by go_simp<;>omega) c ?_;refine af 7 (.string ((⟨#[80,75,1,2]⟩:ByteArray)++A0++A1++(⟨#[0,0,0,0,0,0,0,0,0,0]⟩:ByteArray))) rfl (by kernel_rfl) (fun _ _ _ h=>h) rfl (fun W a=>by go_simp<;>omega) c ?_;refine ag 10 (by kernel_rfl) rfl fun K d=>?_;go_simp;go_at_call 104;refine(ab s W4).mono ?_;rintro e W5 ⟨rfl,i⟩;have T5:=ae ((ab T4).later i);refine Shut.out d _ _ (ab T5) (fun c=>?_);clear d K i T4;refine af 11 (.string ((⟨#[80,75,1,2]⟩:ByteArray)++A0++A1++(⟨#[0,0,0,0,0,0,0,0,0,0]⟩:ByteArray)++A2)) rfl (by kernel_rfl) (fun _ _ _ h=>h) rfl (fun W a=>by go_simp<;>omega) c ?_;refine af 15 (.string ((⟨#[80,75,1,2]⟩:ByteArray)++A0++A1++(⟨#[0,0,0,0,0,0,0,0,0,0]⟩:ByteArray)++A2++nm)) rfl (by kernel_rfl) (fun _ _ _ h=>h) rfl (fun W a=>by go_simp<;>omega) c ?_;refine ag 16 (by kernel_rfl) rfl fun K d=>?_;go_simp;refine Shut.out d _ _ (ab T5) (fun c=>?_);clear d K;refine wpAnyH_done (by kernel_rfl) ?_ _;clear c;generalize k:(⟨#[80,75,1,2]⟩:ByteArray)++A0++A1++(⟨#[0,0,0,0,0,0,0,0,0,0]⟩:ByteArray)++A2++nm=AA;go_wp2;go_ret;exact⟨by rw[←k];rfl,(ab T5).1⟩
def uX(w:World)(a:Option Addr)(n:Nat)(f:Nat->List Value):Prop:=0<n->∃g,a=some ⟨g,0,none⟩/\g<w.heap.size/\∀i,i<n->∀j u,(f i)[j]?=some u->w.cell? ⟨g,i*7+j,none⟩=some u
theorem uX.later{w':World}{a:Option Addr}{n:Nat}{f:Nat->List Value}(h:uX w a n f)(hb:Below w.heap.size w w'):uX w' a n f:=by
 intro c;obtain⟨g,e,b,d⟩:=h c;exact⟨g,e,a0m b hb.size,fun i k j u l=>(hb.cell (p:=⟨g,i*7+j,none⟩) b).trans (d i k j u l)⟩
theorem uz{α:Type}{T:TypeId}{f:α->List Value}(b:∀x,(f x).length=7){base cap n:Nat}{a:Option Addr}{l:List α}(d:α)(m:l.length=n)(h:bX T 7 f w base (.slice a n cap) l):uX w a n fun i=>f (l.getD i d):=by
 intro o;obtain⟨g,rfl⟩:=h.somes (by omega);refine⟨g,rfl,h.below.2,fun i e j u c=>?_⟩;have k:j<7:=by
  rw[←b (l.getD i d)];exact(List.getElem?_eq_some_iff.mp c).1
 rw[(bX.at b d m h i j e k).1];exact c
def vh(l:List En)(k:Nat):En×Nat:=(l.getD k default,(aI (l.take k)).1.size)
def hdL(l:List En)(n:Nat):List (En×Nat):=(List.range n).map (vh l)
theorem oX(l:List En)(n:Nat):(hdL l n).length=n:=by simp[hdL]
theorem JE(l:List En)(n:Nat):hdL l (n+1)=hdL l n++[vh l n]:=by simp[hdL,a3I]
theorem Mp(l:List En)(n i:Nat)(d:En×Nat)(h:i<n):(hdL l n).getD i d=vh l i:=by simp[hdL,List.getD,h]
theorem Jo(L:ByteArray)(many long pl:Nat):L++(⟨#[80,75,5,6]⟩:ByteArray)++aw ([0,0,many,many].flatMap (leS 2))++aw (leS 4 long)++aw (leS 4 pl)++aw ([0].flatMap (leS 2))=L++dF many long pl:=by
 unfold dF;simp only[ByteArray.append_assoc]
theorem Eu(a:Option Addr)(cap n:Nat)(l:List En)(w:World)(hn:l.length=n)(h:uX w a n fun i=>oU (vh l i))(hm:n<=6)(R:∀i,i<n->gV (l.getD i default)=true) :
  Ds 77 #[.slice a n cap,.int .i64 ((aI l).1.size:Nat)] w (.string ((aI l).2++dF n (aI l).2.size (aI l).1.size)):=by
 have Y:=ae (nw l (fun i hi=>R i (by omega)));have hz:=ab Y n (by omega);rw[a0u (by omega)]at hz;have N:(aI l).1.size<4294967296:=by omega
 have L:(aI l).2.size<4294967296:=by omega
 have M:((aI l).2.size:Int)<=600:=by omega
 have K:=ae hn;have HS:=ae R;have HR:=ae h;have H:Hid (∀g W,aZ W (some ⟨g,0,none⟩) (cP [0,0,n,n])->Ds 103 #[.slice (some ⟨g,0,none⟩) 4 4] W (.string (aw ([0,0,n,n].flatMap (leS 2))))):=fun g W h=>dB (some ⟨g,0,none⟩) 4 4 [0,0,n,n] W rfl h (by decide) (by intro x hx;simp at hx;omega);have G:Hid (∀g W,aZ W (some ⟨g,0,none⟩) (cP [0])->Ds 103 #[.slice (some ⟨g,0,none⟩) 1 1] W (.string (aw ([0].flatMap (leS 2))))):=fun g W h=>dB (some ⟨g,0,none⟩) 1 1 [0] W rfl h (by decide) (by decide);have p:Hid (∀W,Ds 104 #[.int .i64 ((aI l).2.size:Int)] W (.string (aw (leS 4 (aI l).2.size)))):=fun W=>dA _ W L;have q:Hid (∀W,Ds 104 #[.int .i64 ((aI l).1.size:Int)] W (.string (aw (leS 4 (aI l).1.size)))):=fun W=>dA _ W N;have z1:((aw ([0,0,n,n].flatMap (leS 2))).size:Int)<=100:=by rw[bp];simp[aF]
 have z2:((aw ([0].flatMap (leS 2))).size:Int)<=100:=by rw[bp];simp[aF]
 have z3:((aw (leS 4 (aI l).2.size)).size:Int)<=100:=by rw[bp,aF];omega
 have z4:((aw (leS 4 (aI l).1.size)).size:Int)<=100:=by rw[bp,aF];omega
 have V:=ae (Jo (aI l).2 n (aI l).2.size (aI l).1.size);generalize (aI l).2++dF n (aI l).2.size (aI l).1.size=RES at *
 generalize aw ([0,0,n,n].flatMap (leS 2))=A1 at *
 generalize aw ([0].flatMap (leS 2))=A2 at *
 generalize aw (leS 4 (aI l).2.size)=A3 at *
 generalize aw (leS 4 (aI l).1.size)=A4 at *
 obtain⟨PL,hPL⟩:∃x,(aI l).1.size=x:=⟨_,rfl⟩;obtain⟨LI,hLI'⟩:∃x,(aI l).2=x:=⟨_,rfl⟩;rw[hPL]at q N;rw[hLI']at p V M L;have J:=ae hLI';rw[hPL];clear hn h R hz N L hPL hLI';go_enter func77,ntmps77;go_wp2_with fail
 go_loopw [5,7,10] (fun o _ i wr=>∃k:Nat,k<=n/\i = .int .i64 k/\o = .string (aI (l.take k)).2/\Below w.heap.size w wr) (fun _ _ i _=>n-(intOf i).toNat)
 case atStart=>exact⟨0,a0g _,rfl,rfl,a0c _ _⟩
 case round=>
  obtain⟨k,hk,rfl,rfl,b⟩:=hrel;by_cases d:k<n
  .
   obtain⟨g,rfl,hg,c⟩:=(ab HR).later b (by omega);have c0:=c k d 0 _ rfl;have c1:=c k d 1 _ rfl;have c2:=c k d 2 _ rfl;have c3:=c k d 3 _ rfl;have c4:=c k d 4 _ rfl;have c5:=c k d 5 _ rfl;have c6:=c k d 6 _ rfl;simp only[vh]at c0 c1 c2 c3 c4 c5 c6;rw[a1J]at c0;have S:Hid ((aI (l.take (k+1))).2=(aI (l.take k)).2++heE (l.getD k default) (aI (l.take k)).1.size):=by show _=_;rw[kR l k (by have:=ab K;omega)];rfl
   have T:=ab Y k (by have:=ab K;omega);have aa:((aI (l.take k)).2.size:Int)<=600:=by omega
   have m:(aI (l.take k)).1.size<4294967296:=by omega
   have v:=ab HS k d;obtain⟨f1,f2,f3⟩:=du (n:=(l.getD k default).n) (t:=(l.getD k default).t) v;have hN:=(pF f3).2.2;have Q:=tj (l.getD k default) (aI (l.take k)).1.size;have Z:((heE (l.getD k default) (aI (l.take k)).1.size).size:Int)<=100:=by omega
   have E:aE 0 (l.getD k default).t.data.toList<4294967296:=jp _ _ (by omega);have P:=gp (l.getD k default).t;have O:(aY (l.getD k default).t).size<=100000:=by unfold aY;split<;>omega
   have U:dH (l.getD k default).t<=8:=by unfold dH;split<;>omega
   have A:eN (l.getD k default)<4294967296:=by unfold eN;omega
   have HP:=ae (fun W=>rx (dH (l.getD k default).t) (eN (l.getD k default)) (aE 0 (l.getD k default).t.data.toList) (aY (l.getD k default).t).size (l.getD k default).t.size (aI (l.take k)).1.size (l.getD k default).n W (by omega) A E (by omega) (by omega) (by omega) m);have X:Hid (jM (dH (l.getD k default).t) (eN (l.getD k default)) (aE 0 (l.getD k default).t.data.toList) (aY (l.getD k default).t).size (l.getD k default).t.size (l.getD k default).n (aI (l.take k)).1.size=heE (l.getD k default) (aI (l.take k)).1.size):=rfl;rw[ab X]at HP;have r:=ae (a0b b hk);clear c v f1 f2 f3 hN Q T m E P O U A b hk X;generalize dH (l.getD k default).t=v0 at *
   generalize eN (l.getD k default)=v1 at *
   generalize aE 0 (l.getD k default).t.data.toList=v2 at *
   generalize (aY (l.getD k default).t).size=v3 at *
   generalize (l.getD k default).t.size=v4 at *
   generalize (l.getD k default).n=v5 at *
   generalize heE (l.getD k default) (aI (l.take k)).1.size=HE1 at *
   generalize (aI (l.take k)).2=L1 at *
   generalize (aI (l.take k)).1.size=P1 at *
   have y:Hid (Below wr.heap.size wr (wr.alloc (.cells #[.int .i64 (v0:Nat),.int .i64 (v1:Nat),.int .i64 (v2:Nat),.int .i64 (v3:Nat),.int .i64 (v4:Nat),.string v5,.int .i64 (P1:Nat)] 116))):=(a0c _ _).alloc (a0a _) _;go_wp2_with fail;refine(ab HP _).mono ?_;rintro e x1 ⟨rfl,f⟩;have j:=ae (ai (ab r).1 (ai (ab y) f));clear f y;go_wp2;go_roundw
   case rel=>exact⟨k+1,by have:=(ab r).2;omega,by go_num,by rw[ab S],ab j⟩
   case measure=>simp[intOf];omega
  . have F:l.take k=l:=a0u (by rw[ab K];omega);rw[F,ab J];have r:=ae b;clear b F;have y:Hid (Below wr.heap.size wr (wr.alloc (.cells #[.int .i64 0,.int .i64 0,.int .i64 (n:Nat),.int .i64 (n:Nat)] 3))):=(a0c _ _).alloc (a0a _) _;go_wp2_with fail;refine(ab H _ _ (zF wr 0 0 n n)).mono ?_;rintro e x1 ⟨rfl,f⟩;have s:=ae (ai (ab r) (ai (ab y) f));clear f y r;go_wp2_with fail;refine(ab p _).mono ?_;rintro e x2 ⟨rfl,B⟩;have j:=ae (ai (ab s) B);clear B s;go_wp2_with fail;refine(ab q _).mono ?_;rintro e x3 ⟨rfl,C⟩;have u:=ae (ai (ab j) C);clear C j;have z:Hid (Below x3.heap.size x3 (x3.alloc (.cells #[.int .i64 0] 3))):=(a0c _ _).alloc (a0a _) _;go_wp2_with fail;refine(ab G _ _ (yk x3 0)).mono ?_;rintro e x4 ⟨rfl,D⟩;have I:=ae (ai (ab u) (ai (ab z) D));clear D z u;go_wp2;go_ret;exact⟨by rw[←ab V];rfl,ab I⟩
structure Hq where
 how:Nat
 st:Nat
 crc:Nat
 pk:Nat
 lg:Nat
 nm:ByteArray
 pl:Nat
def zq(q:Hq):List Value:=[.int .i64 (q.how:Nat),.int .i64 (q.st:Nat),.int .i64 (q.crc:Nat),.int .i64 (q.pk:Nat),.int .i64 (q.lg:Nat),.string q.nm,.int .i64 (q.pl:Nat)]
theorem Jm(e:Hq):(zq e).length=7:=rfl
theorem Jn(e:Hq):∀u∈zq e,u.oneCell'=true:=by
 intro u a;simp only[zq,a0U,a1C,a1q]at a;rcases a with rfl|rfl|rfl|rfl|rfl|rfl|rfl<;>rfl
def cQ(q:Hq):ByteArray:=jM q.how q.st q.crc q.pk q.lg q.nm q.pl
def okQ(q:Hq):Prop:=q.how<65536/\q.st<4294967296/\q.crc<4294967296/\q.pk<4294967296/\q.lg<4294967296/\q.nm.size<=54/\q.pl<4294967296
def eW(f:Nat->Hq):Nat->ByteArray
 | 0=>⟨#[]⟩
 | k+1=>eW f k++cQ (f k)
theorem ud(f:Nat->Hq):∀k,(∀i,i<k->okQ (f i))->(eW f k).size<=100*k
 | 0,_=>a0g _
 | k+1,h=>by
  have ih:=ud f k (fun i b=>h i (by omega));have a:=(h k (by omega)).2.2.2.2.2.1;have h2:(cQ (f k)).size=46+(f k).nm.size:=gU _ _ _ _ _ _ _;rw[eW,a0R];omega
theorem Cc(a:Option Addr)(cap n P:Nat)(f:Nat->Hq)(w:World)(h:uX w a n fun i=>zq (f i))(hm:n<=6)(J:∀i,i<n->okQ (f i))(Q:P<4294967296) :
  Ds 77 #[.slice a n cap,.int .i64 (P:Nat)] w (.string (eW f n++dF n (eW f n).size P)):=by
 have V:(n:Int)<=6:=by omega
 have O:=ae (fun k (H:k<=n)=>ud f k (fun i hi=>J i (by omega)));have Y:=ab O n (by omega);have E:(eW f n).size<4294967296:=by omega
 have F:((eW f n).size:Int)<=600:=by omega
 have U:=ae J;have T:=ae h;have B:Hid (∀g W,aZ W (some ⟨g,0,none⟩) (cP [0,0,n,n])->Ds 103 #[.slice (some ⟨g,0,none⟩) 4 4] W (.string (aw ([0,0,n,n].flatMap (leS 2))))):=fun g W h=>dB (some ⟨g,0,none⟩) 4 4 [0,0,n,n] W rfl h (by decide) (by intro x X;simp at X;omega);have A:Hid (∀g W,aZ W (some ⟨g,0,none⟩) (cP [0])->Ds 103 #[.slice (some ⟨g,0,none⟩) 1 1] W (.string (aw ([0].flatMap (leS 2))))):=fun g W h=>dB (some ⟨g,0,none⟩) 1 1 [0] W rfl h (by decide) (by decide);have m:Hid (∀W,Ds 104 #[.int .i64 ((eW f n).size:Int)] W (.string (aw (leS 4 (eW f n).size)))):=fun W=>dA _ W E;have z:Hid (∀W,Ds 104 #[.int .i64 (P:Int)] W (.string (aw (leS 4 P)))):=fun W=>dA _ W Q;have z1:((aw ([0,0,n,n].flatMap (leS 2))).size:Int)<=100:=by rw[bp];simp[aF]
 have z2:((aw ([0].flatMap (leS 2))).size:Int)<=100:=by rw[bp];simp[aF]
 have z3:((aw (leS 4 (eW f n).size)).size:Int)<=100:=by rw[bp,aF];omega
 have z4:((aw (leS 4 P)).size:Int)<=100:=by rw[bp,aF];omega
 have M:=ae (Jo (eW f n) n (eW f n).size P);generalize (eW f n)++dF n (eW f n).size P=RES at *
 generalize aw ([0,0,n,n].flatMap (leS 2))=A1 at *
 generalize aw ([0].flatMap (leS 2))=A2 at *
 generalize aw (leS 4 (eW f n).size)=A3 at *
 generalize aw (leS 4 P)=A4 at *
 obtain⟨LI,hLI'⟩:∃x,(eW f n)=x:=⟨_,rfl⟩;rw[hLI']at m M F E;have D:=ae hLI';clear h J Y Q E hLI';go_enter func77,ntmps77;go_wp2_with fail
 go_loopw [5,7,10] (fun o _ i wr=>∃k:Nat,k<=n/\i = .int .i64 k/\o = .string (eW f k)/\Below w.heap.size w wr) (fun _ _ i _=>n-(intOf i).toNat)
 case atStart=>exact⟨0,a0g _,rfl,rfl,a0c _ _⟩
 case round=>
  obtain⟨k,H,rfl,rfl,b⟩:=hrel;by_cases d:k<n
  .
   obtain⟨g,rfl,hg,c⟩:=(ab T).later b (by omega);have c0:=c k d 0 _ rfl;have c1:=c k d 1 _ rfl;have c2:=c k d 2 _ rfl;have c3:=c k d 3 _ rfl;have c4:=c k d 4 _ rfl;have Z:=c k d 5 _ rfl;have c6:=c k d 6 _ rfl;rw[a1J]at c0;have K:Hid (eW f (k+1)=eW f k++cQ (f k)):=rfl;have L:=ab O k (by omega);have S:((eW f k).size:Int)<=600:=by omega
   obtain⟨o0,o1,o2,o3,o4,o5,o6⟩:=ab U k d;have G:(cQ (f k)).size=46+(f k).nm.size:=gU _ _ _ _ _ _ _;have R:((cQ (f k)).size:Int)<=100:=by omega
   have HP:=ae (fun W=>rx (f k).how (f k).st (f k).crc (f k).pk (f k).lg (f k).pl (f k).nm W o0 o1 o2 o3 o4 (by omega) o6);have N:Hid (jM (f k).how (f k).st (f k).crc (f k).pk (f k).lg (f k).nm (f k).pl=cQ (f k)):=rfl;rw[ab N]at HP;have p:=ae (a0b b H);clear c o0 o1 o2 o3 o4 o5 o6 G L b H N;generalize cQ (f k)=HE1 at *
   generalize (f k).how=v0 at *
   generalize (f k).st=v1 at *
   generalize (f k).crc=v2 at *
   generalize (f k).pk=v3 at *
   generalize (f k).lg=v4 at *
   generalize (f k).nm=v5 at *
   generalize (f k).pl=P1 at *
   generalize eW f k=L1 at *
   have s:Hid (Below wr.heap.size wr (wr.alloc (.cells #[.int .i64 (v0:Nat),.int .i64 (v1:Nat),.int .i64 (v2:Nat),.int .i64 (v3:Nat),.int .i64 (v4:Nat),.string v5,.int .i64 (P1:Nat)] 116))):=(a0c _ _).alloc (a0a _) _;go_wp2_with fail;refine(ab HP _).mono ?_;rintro e x1 ⟨rfl,j⟩;have l:=ae (ai (ab p).1 (ai (ab s) j));clear j s;go_wp2;go_roundw
   case rel=>exact⟨k+1,by have:=(ab p).2;omega,by go_num,by rw[ab K],ab l⟩
   case measure=>simp[intOf];omega
  .
   have I:k=n:=by omega
   subst I;rw[ab D];have p:=ae b;clear b;have s:Hid (Below wr.heap.size wr (wr.alloc (.cells #[.int .i64 0,.int .i64 0,.int .i64 (k:Nat),.int .i64 (k:Nat)] 3))):=(a0c _ _).alloc (a0a _) _;go_wp2_with fail;refine(ab B _ _ (zF wr 0 0 k k)).mono ?_;rintro e x1 ⟨rfl,j⟩;have q:=ae (ai (ab p) (ai (ab s) j));clear j s p;go_wp2_with fail;refine(ab m _).mono ?_;rintro e x2 ⟨rfl,u⟩;have l:=ae (ai (ab q) u);clear u q;go_wp2_with fail;refine(ab z _).mono ?_;rintro e x3 ⟨rfl,v⟩;have r:=ae (ai (ab l) v);clear v l;have t:Hid (Below x3.heap.size x3 (x3.alloc (.cells #[.int .i64 0] 3))):=(a0c _ _).alloc (a0a _) _;go_wp2_with fail;refine(ab A _ _ (yk x3 0)).mono ?_;rintro e x4 ⟨rfl,y⟩;have C:=ae (ai (ab r) (ai (ab t) y));clear y t r;go_wp2;go_ret;exact⟨by rw[←ab M];rfl,ab C⟩
theorem JX(many long pl:Nat):aw (leS 4 101010256)++aw (leS 2 0)++aw (leS 2 0)++aw (leS 2 many)++aw (leS 2 many)++aw (leS 4 long)++aw (leS 4 pl)++aw (leS 2 0)=dF many long pl:=by
 unfold dF;rw[Jk];apply kV;simp[aw,a0V]
theorem Gw(n T A4:ByteArray):aw (leS 4 33639248)++aw (leS 2 20)++T++aw (leS 2 0)++aw (leS 2 0)++aw (leS 2 0)++aw (leS 4 0)++A4++n=(⟨#[80,75,1,2]⟩:ByteArray)++aw (leS 2 20)++T++(⟨#[0,0,0,0,0,0,0,0,0,0]⟩:ByteArray)++A4++n:=by
 rw[Ja,←I3];simp only[ByteArray.append_assoc]
theorem wi(many long pl:Nat)(w:World)(x:many<65536)(y:long<4294967296)(h2:pl<4294967296) :
  Ds 29 #[.int .i64 (many:Nat),.int .i64 (long:Nat),.int .i64 (pl:Nat)] w (.string (dF many long pl)):=by
 have s:Hid (∀W,Ds 45 #[.int .i64 101010256,.int .i64 4] W (.string (aw (leS 4 101010256)))):=fun W=>aN 101010256 4 W (by omega) (by omega);have a:Hid (∀W,Ds 45 #[.int .i64 0,.int .i64 2] W (.string (aw (leS 2 0)))):=fun W=>aN 0 2 W (by omega) (by omega);have j:Hid (∀W,Ds 45 #[.int .i64 (many:Nat),.int .i64 2] W (.string (aw (leS 2 many)))):=fun W=>aN many 2 W (by omega) (by omega);have t:Hid (∀W,Ds 45 #[.int .i64 (long:Nat),.int .i64 4] W (.string (aw (leS 4 long)))):=fun W=>aN long 4 W (by omega) (by omega);have u:Hid (∀W,Ds 45 #[.int .i64 (pl:Nat),.int .i64 4] W (.string (aw (leS 4 pl)))):=fun W=>aN pl 4 W (by omega) (by omega);have v:=ae (JX many long pl);have zz:∀many V,many<=4->((aw (leS many V)).size:Int)<=4:=fun many V z=>by rw[bp,aF];omega
 have z1:=zz 4 101010256 (by omega);have z2:=zz 2 0 (by omega);have z3:=zz 2 many (by omega);have z4:=zz 4 long (by omega);have z5:=zz 4 pl (by omega);generalize aw (leS 4 101010256)=A1 at *
 generalize aw (leS 2 0)=A2 at *
 generalize aw (leS 2 many)=A3 at *
 generalize aw (leS 4 long)=A4 at *
 generalize aw (leS 4 pl)=A5 at *
 generalize dF many long pl=RES at *
 clear x y h2 zz;go_enter func29,ntmps29;go_wp2_with fail;refine(ab s _).mono ?_;rintro e x1 ⟨rfl,b⟩;go_wp2_with fail;refine(ab a _).mono ?_;rintro e x2 ⟨rfl,k⟩;have c:=ai b k;clear b k;go_wp2_with fail;refine(ab a _).mono ?_;rintro e x3 ⟨rfl,l⟩;have d:=ai c l;clear c l;go_wp2_with fail;refine(ab j _).mono ?_;rintro e x4 ⟨rfl,m⟩;have f:=ai d m;clear d m;go_wp2_with fail;refine(ab j _).mono ?_;rintro e x5 ⟨rfl,n⟩;have g:=ai f n;clear f n;go_wp2_with fail;refine(ab t _).mono ?_;rintro e x6 ⟨rfl,o⟩;have h:=ai g o;clear g o;go_wp2_with fail;refine(ab u _).mono ?_;rintro e x7 ⟨rfl,p⟩;have i:=ai h p;clear h p;go_wp2_with fail;refine(ab a _).mono ?_;rintro e x8 ⟨rfl,q⟩;have r:=ai i q;clear i q;go_wp2;go_ret;exact⟨by rw[←ab v];rfl,r⟩
theorem vq(n t:ByteArray)(y mo d h mi s:Int)(N pl:Nat)(w:World)(k:(0<=y/\y<=100000)/\(0<=mo/\mo<=100)/\(0<=d/\d<=100)/\(0<=h/\h<=100)/\(0<=mi/\mi<=100) /\ -100<=s/\s<=100)
  (m:(((((y-1980)*16+mo)*32+d)*32+h)*64+mi)*32+Int.tdiv s 2=(N:Int)) (a:N<4294967296) (o:n.size<65536) (p:t.size<=1048576) (J:pl<4294967296) :
  Ds 31 #[.agg #[.string n,.int .i64 y,.int .i64 mo,.int .i64 d,.int .i64 h,.int .i64 mi,.int .i64 s,.string t],.int .i64 (pl:Nat)] w (.string (jM (dH t) N (aE 0 t.data.toList) (aY t).size t.size n pl)):=by
 have b:prog.follows .mixedOrders=true:=by kernel_rfl
 have C:=ae (fun W=>pe n t y mo d h mi s N W k m a o p);have D:Hid (∀W,Ds 45 #[.int .i64 33639248,.int .i64 4] W (.string (aw (leS 4 33639248)))):=fun W=>aN 33639248 4 W (by omega) (by omega);have F:Hid (∀W,Ds 45 #[.int .i64 20,.int .i64 2] W (.string (aw (leS 2 20)))):=fun W=>aN 20 2 W (by omega) (by omega);have A:Hid (∀W,Ds 45 #[.int .i64 0,.int .i64 2] W (.string (aw (leS 2 0)))):=fun W=>aN 0 2 W (by omega) (by omega);have B:Hid (∀W,Ds 45 #[.int .i64 0,.int .i64 4] W (.string (aw (leS 4 0)))):=fun W=>aN 0 4 W (by omega) (by omega);have E:Hid (∀W,Ds 45 #[.int .i64 (pl:Nat),.int .i64 4] W (.string (aw (leS 4 pl)))):=fun W=>aN pl 4 W (by omega) (by omega);have I:(n.size:Int)<65536:=by omega
 have G:=ae (Gw n (er (dH t) N (aE 0 t.data.toList) (aY t).size t.size n.size) (aw (leS 4 pl)));unfold jM;have zz:∀many V,many<=4->((aw (leS many V)).size:Int)<=4:=fun many V S=>by rw[bp,aF];omega
 have z1:=zz 4 33639248 (by omega);have z2:=zz 2 20 (by omega);have z3:((er (dH t) N (aE 0 t.data.toList) (aY t).size t.size n.size).size:Int)<=26:=by rw[fU];omega
 have z4:=zz 2 0 (by omega);have z5:=zz 4 0 (by omega);have z6:=zz 4 pl (by omega);generalize (⟨#[80,75,1,2]⟩:ByteArray)++aw (leS 2 20)++er (dH t) N (aE 0 t.data.toList) (aY t).size t.size n.size++(⟨#[0,0,0,0,0,0,0,0,0,0]⟩:ByteArray)++aw (leS 4 pl)++n=RES at *
 generalize aw (leS 4 33639248)=A1 at *
 generalize aw (leS 2 20)=A2 at *
 generalize er (dH t) N (aE 0 t.data.toList) (aY t).size t.size n.size=A3 at *
 generalize aw (leS 2 0)=A4 at *
 generalize aw (leS 4 0)=A5 at *
 generalize aw (leS 4 pl)=A6 at *
 have T0':Hid (lR w n y mo d h mi s t (w.alloc (.cells #[.string n,.int .i64 y,.int .i64 mo,.int .i64 d,.int .i64 h,.int .i64 mi,.int .i64 s,.string t] 31))):=⟨(a0c _ _).alloc (a0a _) _,by simp,by simp,by simp,by simp,by simp,by simp,by simp,by simp,by simp⟩;clear k m a o p J zz;go_enter func31,ntmps31;go_wp2_with fail;obtain⟨W1,hW1⟩:∃x,w.alloc (.cells #[.string n,.int .i64 y,.int .i64 mo,.int .i64 d,.int .i64 h,.int .i64 mi,.int .i64 s,.string t] 31)=x:=⟨_,rfl⟩;rw[hW1]at T0';rw[hW1];have T1:=T0';clear T0' hW1;obtain⟨c0,c1,c2,c3,c4,i,j,l⟩:=(ab T1).2.2;have k0:=cell_regrown c0;have K:=cell_regrown c1;have L:=cell_regrown c2;have M:=cell_regrown c3;have O:=cell_regrown c4;have P:=cell_regrown i;have Q:=cell_regrown j;have R:=cell_regrown l;have q:=fun d os=>Calls.regrown_of (w:=W1) (d:=d) (os:=os) (ab D _);have r:=fun d os=>Calls.regrown_of (w:=W1) (d:=d) (os:=os) (ab F _);have u:=fun d os=>Calls.regrown_of (w:=W1) (d:=d) (os:=os) (ab C _);have e:=fun d os=>Calls.regrown_of (w:=W1) (d:=d) (os:=os) (ab A _);have v:=fun d os=>Calls.regrown_of (w:=W1) (d:=d) (os:=os) (ab B _);have z:=fun d os=>Calls.regrown_of (w:=W1) (d:=d) (os:=os) (ab E _);have n1:¬ 9223372036854775807<A1.size+A2.size:=by omega
 have n2:¬ 9223372036854775807<A1.size+A2.size+A3.size:=by omega
 have n3:¬ 9223372036854775807<A1.size+A2.size+A3.size+A4.size:=by omega
 have n4:¬ 9223372036854775807<A1.size+A2.size+A3.size+A4.size+A4.size:=by omega
 have n5:¬ 9223372036854775807<A1.size+A2.size+A3.size+A4.size+A4.size+A4.size:=by omega
 have n6:¬ 9223372036854775807<A1.size+A2.size+A3.size+A4.size+A4.size+A4.size+A5.size:=by omega
 have n7:¬ 9223372036854775807<A1.size+A2.size+A3.size+A4.size+A4.size+A4.size+A5.size+A6.size:=by omega
 have n8:¬ 9223372036854775807<A1.size+A2.size+A3.size+A4.size+A4.size+A4.size+A5.size+A6.size+n.size:=by omega
 refine wp_region_quiet_below b (by kernel_rfl) ?_
 quiet_step (exact q _ _)
 quiet_step (exact r _ _)
 quiet_step (fail)
 quiet_step (fail)
 quiet_step (exact u _ _)
 quiet_step (fail)
 quiet_step (exact e _ _)
 quiet_step (fail)
 quiet_step (exact e _ _)
 quiet_step (fail)
 quiet_step (exact e _ _)
 quiet_step (fail)
 quiet_step (exact v _ _)
 quiet_step (fail)
 quiet_step (fail)
 quiet_step (exact z _ _)
 quiet_step (fail)
 quiet_step (fail)
 quiet_step (fail)
 quiet_step (fail)
 quiet_step (fail)
 refine a1D ?_;intro zw g;obtain⟨⟨H,osq⟩,c⟩:=g;have f:=below_regrown W1 H osq;rw[←c]at f;have T9:=ae (ai (ab T1).1 f);clear n1 n2 n3 n4 n5 n6 n7 n8 c f k0 K L M O P Q R q r u e v z c0 c1 c2 c3 c4 i j l;go_wp2;go_ret;exact⟨by rw[←ab G];rfl,ab T9⟩
theorem Gv(a:Option Addr)(cap n:Nat)(l:List En)(w:World)(U:l.length=n)(h:kj w a l)(hm:n<=6)(O:∀i,i<n->gV (l.getD i default)=true) :
  Ds 13 #[.slice a n cap] w (.string ((aI l).1++(aI l).2++dF n (aI l).2.size (aI l).1.size)):=by
 have aa:(n:Int)<=6:=by omega
 have Q:=ae (nw l (fun i hi=>O i (by omega)));have u:=ae U;have Z:=ae O;have Y:=ae h;have V:=ab Q n (by omega);rw[a0u (by omega)]at V;have X:=ae (fun W=>wi n (aI l).2.size (aI l).1.size W (by omega) (by omega) (by omega));have al:((aI l).1.size:Int)<=2400:=by omega
 have an:((aI l).2.size:Int)<=600:=by omega
 have a0:((dF n (aI l).2.size (aI l).1.size).size:Int)<=22:=by rw[p6];omega
 clear U h O hm V;go_enter func13,ntmps13;go_wp2_with fail
 go_loopw [3,4,5] (fun o q i wr=>∃k:Nat,k<=n/\i = .int .i64 k/\o = .string (aI (l.take k)).1/\q = .string (aI (l.take k)).2/\Below w.heap.size w wr) (fun _ _ i _=>n-(intOf i).toNat)
 case atStart=>exact⟨0,a0g _,rfl,rfl,rfl,a0c _ _⟩
 case round=>
  obtain⟨k,S,rfl,rfl,rfl,c⟩:=hrel;by_cases N:k<n
  .
   obtain⟨g,o,rfl,j,D⟩:=(ab Y).later c (by have:=ab u;omega);obtain⟨c0,c1,c2,c3,c4,c5,c6,c7⟩:=D k (by have:=ab u;omega);have E:Hid ((aI (l.take (k+1))).1=(aI (l.take k)).1++loE (l.getD k default)):=by show _=_;rw[kR l k (by have:=ab u;omega)];rfl
   have F:Hid ((aI (l.take (k+1))).2=(aI (l.take k)).2++heE (l.getD k default) (aI (l.take k)).1.size):=by show _=_;rw[kR l k (by have:=ab u;omega)];rfl
   have P:=ab Q k (by have:=ab u;omega);have ac:((aI (l.take k)).1.size:Int)<=2400:=by omega
   have ad:((aI (l.take k)).2.size:Int)<=600:=by omega
   have r:=ab Z k N;obtain⟨f1,f2,f3⟩:=du (n:=(l.getD k default).n) (t:=(l.getD k default).t) r;obtain⟨g1,g2,g3,_⟩:=pF f3;have M:=(uf r).2;have T:((loE (l.getD k default)).size:Int)<=400:=by omega
   have K:=tj (l.getD k default) (aI (l.take k)).1.size;have R:((heE (l.getD k default) (aI (l.take k)).1.size).size:Int)<=100:=by omega
   have H:=ae (fun W=>vq (l.getD k default).n (l.getD k default).t (l.getD k default).y (l.getD k default).mo (l.getD k default).d (l.getD k default).h (l.getD k default).mi (l.getD k default).s (eN (l.getD k default)) (aI (l.take k)).1.size W g1 g2 g3 (by omega) (by omega) (by omega));have I:=ae (fun W=>zZ (l.getD k default).n (l.getD k default).t (l.getD k default).y (l.getD k default).mo (l.getD k default).d (l.getD k default).h (l.getD k default).mi (l.getD k default).s (eN (l.getD k default)) W g1 g2 g3 (by omega) (by omega));have v:Hid (jM (dH (l.getD k default).t) (eN (l.getD k default)) (aE 0 (l.getD k default).t.data.toList) (aY (l.getD k default).t).size (l.getD k default).t.size (l.getD k default).n (aI (l.take k)).1.size=heE (l.getD k default) (aI (l.take k)).1.size):=rfl;have x:Hid (oj (l.getD k default).n (l.getD k default).t (eN (l.getD k default))=loE (l.getD k default)):=rfl;rw[ab v]at H;rw[ab x]at I;have G:=ae (a0b c S);clear D r f1 f2 f3 g1 g2 g3 P M K c S v x;generalize loE (l.getD k default)=LO at *
   generalize heE (l.getD k default) (aI (l.take k)).1.size=HE at *
   generalize (aI (l.take k)).1=F1 at *
   generalize (aI (l.take k)).2=F2 at *
   generalize l.getD k default=en at *
   go_wp2_with fail;refine(ab H _).mono ?_;rintro e x1 ⟨rfl,b⟩;have f:=ae (ai (ab G).1 b);have d0:=(b.cell (p:=⟨g,o+k*8,none⟩) j).trans c0;have d1:=(b.cell (p:=⟨g,o+k*8+1,none⟩) j).trans c1;have d2:=(b.cell (p:=⟨g,o+k*8+2,none⟩) j).trans c2;have d3:=(b.cell (p:=⟨g,o+k*8+3,none⟩) j).trans c3;have d4:=(b.cell (p:=⟨g,o+k*8+4,none⟩) j).trans c4;have d5:=(b.cell (p:=⟨g,o+k*8+5,none⟩) j).trans c5;have d6:=(b.cell (p:=⟨g,o+k*8+6,none⟩) j).trans c6;have d7:=(b.cell (p:=⟨g,o+k*8+7,none⟩) j).trans c7;clear b H;go_wp2_with fail;refine(ab I _).mono ?_;rintro e x2 ⟨rfl,C⟩;have J:=ae (ai (ab f) C);clear C f I;go_wp2;go_roundw
   case rel=>exact⟨k+1,by have:=(ab G).2;omega,by go_num,by rw[ab E],by rw[ab F],ab J⟩
   case measure=>simp[intOf];omega
  .
   have L:k=n:=by omega
   subst L;rw[a0u (by rw[ab u];omega)];have G:=ae c;clear c;generalize z:dF k (aI l).2.size (aI l).1.size=EB at *
   generalize A:(aI l).1=F1 at *
   generalize B:(aI l).2=F2 at *
   have m:=ae (a0b z (a0b A B));clear z A B;go_wp2_with fail;refine(ab X _).mono ?_;rintro e x1 ⟨rfl,b⟩;have f:=ae (ai (ab G) b);clear b;go_wp2;go_ret;exact⟨by rw[(ab m).2.1,(ab m).2.2,(ab m).1];rfl,ab f⟩
theorem Tryz.infoHd:(prog.info? 116).map (fun i=>(i.zero,i.size,i.bytes))=some (some (.agg #[.int .i64 0,.int .i64 0,.int .i64 0,.int .i64 0,.int .i64 0,.string ⟨#[]⟩,.int .i64 0]),7,64):=by kernel_rfl
abbrev wT:=bX (α:=En×Nat) 116 7 oU
theorem Blk.grown{w':World}{b:Nat}{row:Option Nat}(h:Blk w b vs)(a:w.grownBy w' row)(c:some b≠row):Blk w' b vs:=
 ⟨a0m h.1 a.size,fun i v e=>⟨(World.cell?_of_block (a.block b h.1 c)).trans (h.2 i v e).1,(World.frozen?_of_block (a.block b h.1 c)).trans (h.2 i v e).2⟩⟩
theorem Cf(a:Option Addr)(cap n:Nat)(l:List En)(w:World)(hn:l.length=n)(h:uX w a n fun i=>vM (l.getD i default))(hm:n<=6)(Y:∀i,i<n->gV (l.getD i default)=true) :
  Ds 56 #[.slice a n cap] w (.string ((aI l).1++(aI l).2++dF n (aI l).2.size (aI l).1.size)):=by
 have be:(n:Int)<=6:=by omega
 have HZ:=ae (nw l (fun i U=>Y i (by omega)));have Hn:=ae hn;have Hm:=ae hm;have HS:=ae Y;have HR:=ae h;have J:=ae (fun W b c (h:uX W b n fun i=>oU (vh l i))=>Eu b c n l W hn h hm Y);have hz:=ab HZ n (by omega);rw[a0u (by omega)]at hz;have M:Hid (((aI l).2++dF n (aI l).2.size (aI l).1.size).size<=1000):=by
  show _<=_;rw[a0R,p6];omega
 have bl:((aI l).1.size:Int)<=2400:=by omega
 have K:Hid ((aI l).1++(aI l).2++dF n (aI l).2.size (aI l).1.size=(aI l).1++((aI l).2++dF n (aI l).2.size (aI l).1.size)):=ByteArray.append_assoc;rw[ab K];clear hn h Y hm hz K;obtain⟨i0,U,a7,a8,a9⟩:=a0o Tryz.infoHd;go_enter func56,ntmps56;go_wp2_with fail
 go_loopw [3,4,6,9] (fun o q _ i wr=>∃k:Nat,k<=n/\i = .int .i64 k/\o = .string (aI (l.take k)).1/\wT wr w.heap.size q (hdL l k)/\Below w.heap.size w wr) (fun _ _ _ i _=>n-(intOf i).toNat)
 case atStart=>exact⟨0,a0g _,rfl,rfl,bX.nil _ _,a0c _ _⟩
 case round=>
  obtain⟨k,hk,rfl,rfl,hq,m⟩:=hrel;by_cases r:k<n
  .
   obtain⟨g,rfl,hg,p⟩:=(ab HR).later m (by omega);have c0:=p k r 0 _ rfl;have c1:=p k r 1 _ rfl;have c2:=p k r 2 _ rfl;have c3:=p k r 3 _ rfl;have c4:=p k r 4 _ rfl;have c5:=p k r 5 _ rfl;have c6:=p k r 6 _ rfl;rw[a1J]at c0;have a4:Hid ((aI (l.take (k+1))).1=(aI (l.take k)).1++loE (l.getD k default)):=by show _=_;rw[kR l k (by have:=ab Hn;omega)];rfl
   have a3:=ae (JE l k);have a5:=ab HZ k (by have:=ab Hn;omega);have bc:((aI (l.take k)).1.size:Int)<=2400:=by omega
   have G:=ab HS k r;obtain⟨f1,f2,f3⟩:=du (n:=(l.getD k default).n) (t:=(l.getD k default).t) G;have hN:=(pF f3).2.2;have a2:=(uf G).2;have bb:((loE (l.getD k default)).size:Int)<=400:=by omega
   have T:aE 0 (l.getD k default).t.data.toList<4294967296:=jp _ _ (by omega);have a0:=gp (l.getD k default).t;have S:(aY (l.getD k default).t).size<=100000:=by unfold aY;split<;>omega
   have a6:dH (l.getD k default).t<=8:=by unfold dH;split<;>omega
   have P:eN (l.getD k default)<4294967296:=by unfold eN;omega
   have HP:=ae (fun W=>rk (dH (l.getD k default).t) (eN (l.getD k default)) (aE 0 (l.getD k default).t.data.toList) (aY (l.getD k default).t).size (l.getD k default).t.size (l.getD k default).n (aY (l.getD k default).t) W (by omega) P T (by omega) (by omega) (by omega) S);have HX:Hid (eV (dH (l.getD k default).t) (eN (l.getD k default)) (aE 0 (l.getD k default).t.data.toList) (aY (l.getD k default).t).size (l.getD k default).t.size (l.getD k default).n++aY (l.getD k default).t=loE (l.getD k default)):=rfl;rw[ab HX]at HP;have HK:=ae hk;have HQ:=ae hq;have C:=ae m;clear p G f1 f2 f3 hN a5 a2 T a0 S a6 P hk HX hq m;have D:Hid (oU (vh l k)=[.int .i64 (dH (l.getD k default).t:Nat),.int .i64 (eN (l.getD k default):Nat),.int .i64 (aE 0 (l.getD k default).t.data.toList:Nat),.int .i64 ((aY (l.getD k default).t).size:Nat),.int .i64 ((l.getD k default).t.size:Nat),.string (l.getD k default).n,.int .i64 ((aI (l.take k)).1.size:Nat)]):=rfl;have E:=ae (FZ (vh l k));generalize bk:dH (l.getD k default).t=v0 at *
   generalize eN (l.getD k default)=v1 at *
   generalize aE 0 (l.getD k default).t.data.toList=v2 at *
   generalize (aY (l.getD k default).t).size=v3 at *
   generalize (l.getD k default).t.size=v4 at *
   generalize (l.getD k default).n=v5 at *
   generalize aY (l.getD k default).t=v6 at *
   generalize loE (l.getD k default)=LO at *
   generalize (aI (l.take k)).1=F1 at *
   rw[ab D]at E;have X:Hid (Below wr.heap.size wr (wr.alloc (.cells #[.int .i64 (v0:Nat),.int .i64 (v1:Nat),.int .i64 (v2:Nat),.int .i64 (v3:Nat),.int .i64 (v4:Nat),.string v5,.string v6] 97))):=(a0c _ _).alloc (a0a _) _;have z:Hid (k+1<=maxLen/\(k+1)*64<=140737488355328):=by
    show _/\_;have:=ab Hm;unfold maxLen;omega
   have B:=bX.own (oX l k) ((ab HQ).later (ab X) (a0a _));have d:=ai (ab C) (ab X);have y:=d.size;have ac:=ae (bX.own (oX l k) (ab HQ));have A:=ae (aM wr #[.int .i64 (v0:Nat),.int .i64 (v1:Nat),.int .i64 (v2:Nat),.int .i64 (v3:Nat),.int .i64 (v4:Nat),.string v5,.string v6] 97);clear HQ C;obtain⟨W1,hW1⟩:∃x,wr.alloc (.cells #[.int .i64 (v0:Nat),.int .i64 (v1:Nat),.int .i64 (v2:Nat),.int .i64 (v3:Nat),.int .i64 (v4:Nat),.string v5,.string v6] 97)=x:=⟨_,rfl⟩;rw[hW1]at X B d y A;have an:Hid (∀j,Value.ownBlock u4=some j->j<wr.heap.size):=fun j hj=>(a0y (ab ac) j hj).2;have p0:=(ab A).cell 0 _ rfl;have p1:=(ab A).cell 1 _ rfl;have p2:=(ab A).cell 2 _ rfl;have p3:=(ab A).cell 3 _ rfl;have p4:=(ab A).cell 4 _ rfl;have p5:=(ab A).cell 5 _ rfl;go_wp2_with (at_builtin;refine a0r _ rfl _ _ 110 rfl w.heap.size 116 i0 (.agg #[.int .i64 0,.int .i64 0,.int .i64 0,.int .i64 0,.int .i64 0,.string ⟨#[]⟩,.int .i64 0]) 7 64 underlying110 U a7 a8 a9 rfl (by decide) _ _ _ rfl (a0k B _) ⟨W1.heap.size,0,none⟩ 1 1 [.int .i64 (v0:Nat),.int .i64 (v1:Nat),.int .i64 (v2:Nat),.int .i64 (v3:Nat),.int .i64 (v4:Nat),.string v5,.int .i64 (F1.size:Nat)] rfl rfl (kF W1 _ _) (ab E) (ab z).1 (ab z).2 (ao y _) ?_;intro v' x2 F s V;clear V;have f:=ae (Blk.grown (Blk.later (ab A) ((a0c _ _).alloc (a0a _) _) (ab A).1) s (fun e=>absurd (ab an _ e.symm) (a3O _)));have r0:=(ab f).cell 0 _ rfl;have r1:=(ab f).cell 1 _ rfl;have r2:=(ab f).cell 2 _ rfl;have r3:=(ab f).cell 3 _ rfl;have r4:=(ab f).cell 4 _ rfl;have r5:=(ab f).cell 5 _ rfl;have r6:=(ab f).cell 6 _ rfl);refine(ab HP _).mono ?_;rintro e x3 ⟨rfl,H⟩;have R:=aC (v:=u4) s B (a0a _) y d;have I:wT x2 w.heap.size v' (hdL l k++[vh l k]):=bX.snoc (oX l k) (by rw[ab D];exact F);rw[←ab a3]at I;have ad:=ae (I.later H (a0a _));have aa:=ae (ai R H);clear F s B I R H f r0 r1 r2 r3 r4 r5 r6 p0 p1 p2 p3 p4 p5 d y A X hW1;go_wp2;go_roundw
   case rel=>exact⟨k+1,by have:=ab HK;omega,by go_num,by rw[ab a4],ab ad,ab aa⟩
   case measure=>simp[intOf];omega
  .
   have a1:k=n:=by omega
   subst a1;rw[a0u (by rw[ab Hn];omega)];obtain⟨b,c,rfl,ba,_⟩:=hq.formN (oX l k);have HW:=ae (uz FY (default,0) (oX l k) hq);have HB:=ae m;clear hq m;have al:Hid (uX wr b k fun i=>oU (vh l i)):=by
    intro h0;obtain⟨g,e,hg,hc⟩:=ab HW h0;exact⟨g,e,hg,fun i U j u hu=>hc i U j u (by show(oU ((hdL l k).getD i _))[j]?=_;rw[Mp l k i _ U];exact hu)⟩
   have hE:=ab M;have bd:(((aI l).2++dF k (aI l).2.size (aI l).1.size).size:Int)<=1000:=by omega
   clear HW hE M HZ HS HR;generalize N:(aI l).2++dF k (aI l).2.size (aI l).1.size=EN at *
   generalize O:(aI l).1=F1 at *
   have L:=ae (a0b N O);clear N O;go_wp2_with fail;refine(ab J _ _ _ (ab al)).mono ?_;rintro e x1 ⟨rfl,Q⟩;have Z:=ae (ai (ab HB) Q);clear Q;go_wp2;go_ret;exact⟨by rw[←(ab L).1,←(ab L).2];rfl,ab Z⟩
theorem tD(a:Option Addr)(cap:Nat)(l:List En)(n:Nat)(x:l.length=n)(m:Int)(w:World)(h:kj w a l)(I:(n:Int)<=1048576)(r:(n:Int)<=(cap:Int))
  (C:∀i,i<n->(l.getD i default).n.size<=1048576/\((l.getD i default).t.size:Int)<=9223372036854775807) (B:w.cell? ⟨2,0,none⟩=some (.int .i64 m)) (A:pR w) (z:dT w) :
  Ds 36 #[.slice a n cap] w (.string (yG l)):=by
 have g:=ae (vm a cap l n x m w h I r C B A);cases s:dm l
 .
  have HP:Hid (yG l=⟨#[]⟩):=by simp[Hid,yG,s]
  rw[s]at g;clear h C B A z;go_enter func36,ntmps36;go_wp2_with fail;refine(ab g).mono ?_;rintro e x1 ⟨rfl,f⟩;have d:=ae f;clear f;go_wp2;go_ret;exact⟨by rw[ab HP];rfl,ab d⟩
 .
  obtain⟨o,H⟩:=jf s;have HP:Hid (yG l=(aI l).1++(aI l).2++dF n (aI l).2.size (aI l).1.size):=by
   show _=_;rw[yG,a0e s,x]
  have j:Hid (∀i,i<n->gV (l.getD i default)=true):=fun i J=>o i (by omega);have u:=ae x;have D:Hid (n<=6):=by show _<=_;omega
  have G:=ae h;have F:=ae z;rw[s]at g;clear h C B A z o H x;go_enter func36,ntmps36;go_wp2_with fail;refine(ab g).mono ?_;rintro e x1 ⟨rfl,f⟩;have d:=ae f;clear f g;go_wp2_with fail;refine(Da a cap n l _ (ab u) ((ab G).later (ab d)) (ab D) (ab j) ((ab F).later (ab d))).mono ?_;rintro e x2 ⟨v,rfl,hq,p⟩;obtain⟨b,c,rfl,_,_⟩:=hq.formN (ab u);have k:=ae (ai (ab d) p);have E:=ae (uz F3 default (ab u) hq);clear hq p d;go_wp2_with fail;refine(Cf b c n l _ (ab u) (ab E) (ab D) (ab j)).mono ?_;rintro e x3 ⟨rfl,q⟩;have y:=ae (ai (ab k) q);rw[←ab HP];clear q k E;go_wp2;go_ret;exact⟨rfl,ab y⟩
end Go.Proofs.YtchidddpplangaaGreatDoor
