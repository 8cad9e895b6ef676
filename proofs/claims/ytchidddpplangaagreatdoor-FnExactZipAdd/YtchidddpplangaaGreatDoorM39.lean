/- Of what the proof is made: 9 texts, one behind the other. -/
import Derived.Test.YtchidddpplangaaGreatDoorM37
import Derived.Test.YtchidddpplangaaGreatDoorM26
import Derived.Test.YtchidddpplangaaGreatDoorM28
import Derived.Test.YtchidddpplangaaGreatDoorM32
import Derived.Test.YtchidddpplangaaGreatDoorM3
import Derived.Lib.QuietBelow
set_option maxRecDepth 100000
set_option linter.unusedSimpArgs false
set_option linter.unusedVariables false
set_option maxHeartbeats 6400000
namespace Go.Proofs.YtchidddpplangaaGreatDoor
open Go.Proofs.Tryz
open Go.RowKit Corb
variable {vs:List Value}{w:World}
def jC(how st crc pk lg:Nat)(nm:ByteArray)(pl:Nat):ByteArray:=(⟨#[80,75,1,2]⟩:ByteArray)++av (leS 2 20)++eb how st crc pk lg nm.size++(⟨#[0,0,0,0,0,0,0,0,0,0]⟩:ByteArray)++av (leS 4 pl)++nm
theorem gB(how st a b lg:Nat)(nm:ByteArray)(pl:Nat):(jC how st a b lg nm pl).size=46+nm.size:=by
 simp only[jC,a0R,fK,bn,aE];have c:(⟨#[80,75,1,2]⟩:ByteArray).size=4:=rfl;have h2:(⟨#[0,0,0,0,0,0,0,0,0,0]⟩:ByteArray).size=10:=rfl;omega
def dA(many long pl:Nat):ByteArray:=(⟨#[80,75,5,6]⟩:ByteArray)++av ([0,0,many,many].flatMap (leS 2))++av (leS 4 long)++av (leS 4 pl)++av ([0].flatMap (leS 2))
theorem pL(many long pl:Nat):(dA many long pl).size=22:=by
 simp only[dA,a0R,bn,aE,a0T,a2s,a0k,a0S];have a:(⟨#[80,75,5,6]⟩:ByteArray).size=4:=rfl;omega
def eN(e:En):Nat:=(stN e.y e.mo e.d e.h e.mi e.s).toNat
def loE(e:En):ByteArray:=nT e.n e.t (eN e)
def heE(e:En)(p:Nat):ByteArray:=jC (dC e.t) (eN e) (aC 0 e.t.data.toList) (aW e.t).size e.t.size e.n p
def NK(s:ByteArray×ByteArray)(e:En):ByteArray×ByteArray:=(s.1++loE e,s.2++heE e s.1.size)
def aJ(l:List En):ByteArray×ByteArray:=l.foldl NK (⟨#[]⟩,⟨#[]⟩)
theorem Lc:aJ []=(⟨#[]⟩,⟨#[]⟩):=rfl
theorem kJ(l:List En)(k:Nat)(h:k<l.length):aJ (l.take (k+1))=NK (aJ (l.take k)) (l.getD k default):=by
 rw[uG l default k h,aJ,List.foldl_append];rfl
theorem tR{e:En}(k:je e=true):30<=(loE e).size/\(loE e).size<=400:=by
 obtain⟨f1,f2,f3⟩:=dm (n:=e.n) (t:=e.t) k;have a:=fZ e.t;have hb:(aW e.t).size<=300:=by unfold aW;split<;>omega
 have:(loE e).size=30+e.n.size+(aW e.t).size:=by simp only[loE,nT,a0R,sT]
 omega
theorem sS(e:En)(p:Nat):(heE e p).size=46+e.n.size:=gB _ _ _ _ _ _ _
theorem ng(l:List En)(h:∀i,i<l.length->je (l.getD i default)=true):∀k,k<=l.length->(aJ (l.take k)).1.size<=400*k/\(aJ (l.take k)).2.size<=100*k
 | 0,_=>by rw[a3P,Lc];exact⟨a0g _,a0g _⟩
 | k+1,hk=>by
  have ih:=ng l h k (by omega);rw[kJ l k (by omega)];have a:=tR (h k (by omega));have h2:=(dm (n:=(l.getD k default).n) (t:=(l.getD k default).t) (h k (by omega))).1;have b:=sS (l.getD k default) (aJ (l.take k)).1.size;simp only[NK,a0R];omega
theorem jQ{l:List En}(h:dD l=true):(∀i,i<l.length->je (l.getD i default)=true)/\l.length<=6:=by
 simp only[dD,a0o,a0y,a09]at h;exact⟨fun i a=>((mZ l i).mp (h.1 i (List.mem_range.mpr a))).1,h.2⟩
def xZ(l:List En):ByteArray:=if dD l then(aJ l).1++(aJ l).2++dA l.length (aJ l).2.size (aJ l).1.size else⟨#[]⟩
theorem IB:av (leS 4 33639248)=(⟨#[80,75,1,2]⟩:ByteArray):=by decide +kernel
theorem IL:av (leS 4 101010256)=(⟨#[80,75,5,6]⟩:ByteArray):=by decide +kernel
theorem Iu:av (leS 2 0)++av (leS 2 0)++av (leS 2 0)++av (leS 4 0)=(⟨#[0,0,0,0,0,0,0,0,0,0]⟩:ByteArray):=by decide +kernel
def vw(e:En):List Value:=[.int .i64 (dC e.t:Nat),.int .i64 (eN e:Nat),.int .i64 (aC 0 e.t.data.toList:Nat),.int .i64 ((aW e.t).size:Nat),.int .i64 (e.t.size:Nat),.string e.n,.string (aW e.t)]
def oH(q:En×Nat):List Value:=[.int .i64 (dC q.1.t:Nat),.int .i64 (eN q.1:Nat),.int .i64 (aC 0 q.1.t.data.toList:Nat),.int .i64 ((aW q.1.t).size:Nat),.int .i64 (q.1.t.size:Nat),.string q.1.n,.int .i64 (q.2:Nat)]
theorem Fp(e:En):(vw e).length=7:=rfl
theorem Fl(e:En×Nat):(oH e).length=7:=rfl
theorem Fq(e:En):∀u∈vw e,u.oneCell'=true:=by
 intro u a;simp only[vw,a0Z,a1D,a1q]at a;rcases a with rfl|rfl|rfl|rfl|rfl|rfl|rfl<;>rfl
theorem Fo(e:En×Nat):∀u∈oH e,u.oneCell'=true:=by
 intro u a;simp only[oH,a0Z,a1D,a1q]at a;rcases a with rfl|rfl|rfl|rfl|rfl|rfl|rfl<;>rfl
theorem iZ(w:World)(cs:Array Value)(t:TypeId):∀(j:Nat) (u:Value),cs.toList[j]?=some u->(w.alloc (.cells cs t)).cell? ((⟨w.heap.size,0,none⟩:Addr).add j)=some u:=by
 intro j u h;have:=(aI w cs t).cell j u h;have e:((⟨w.heap.size,0,none⟩:Addr).add j)=⟨w.heap.size,j,none⟩:=by
  unfold Addr.add
  split
  . rename_i h0;rw[h0]
  . simp
 rw[e];exact this
theorem NC{e:En}(k:je e=true):stI e.y e.mo e.d e.h e.mi e.s=((eN e:Nat):Int):=by
 obtain⟨_,_,f3⟩:=dm (n:=e.n) (t:=e.t) k;obtain⟨_,_,_,g4⟩:=pn f3;rw[g4];rfl
theorem Tryz.infoLh:(prog.info? 97).map (fun i=>(i.zero,i.size,i.bytes))=some (some (.agg #[.int .i64 0,.int .i64 0,.int .i64 0,.int .i64 0,.int .i64 0,.string ⟨#[]⟩,.string ⟨#[]⟩]),7,72):=by kernel_rfl
abbrev M4:=ce (α:=En) 97 7 vw
theorem BX(a:Option Addr)(cap n:Nat)(l:List En)(w:World)(U:l.length=n)(h:jR w a l)(T:n<=6)(V:∀i,i<n->je (l.getD i default)=true)(R:dH w) :
  Calls prog 57 #[.slice a n cap,.func (.func 58) #[] #[]] w fun e w'=>∃v,e = .returned v/\M4 w' w.heap.size v l/\Below w.heap.size w w':=by
 have aa:(n:Int)<=6:=by omega
 have u:=ae U;have Hm:=ae T;have HS:=ae V;have Z:=ae h;have Y:=ae R;clear U T V h R;obtain⟨i0,hi,N,O,P⟩:=a0p Tryz.infoLh;go_enter func57,ntmps57;go_wp2_with fail
 go_loopw [5,7,10] (fun o _ i wr=>∃k:Nat,k<=n/\i = .int .i64 k/\M4 wr w.heap.size o (l.take k)/\Below w.heap.size w wr) (fun _ _ i _=>n-(intOf i).toNat)
 case atStart=>exact⟨0,a0g _,rfl,ce.nil _ _,a0c _ _⟩
 case round=>
  obtain⟨k,S,rfl,hq,b⟩:=hrel;by_cases K:k<n
  .
   obtain⟨g,o,rfl,hg,z⟩:=(ab Z).later b (by have:=ab u;omega);obtain⟨c0,c1,c2,c3,c4,c5,c6,c7⟩:=z k (by have:=ab u;omega);have L:=ae (uG l default k (by have:=ab u;omega));have B:Hid ((l.take k).length=k):=by show _=_;have:=ab u;simp;omega
   have Hk:=ae S;have H:=ab HS k K;have E:=NC H;have M:=(dm (n:=(l.getD k default).n) (t:=(l.getD k default).t) H).2.1;clear z S H;generalize l.getD k default=en at *
   have HP:=ae (fun W (hb:Below w.heap.size w W)=>rN en.n en.t en.y en.mo en.d en.h en.mi en.s W (by omega) ((ab Y).later hb));rw[E]at HP;clear E M;have Q:Below wr.heap.size wr (wr.alloc (.cells #[.string en.n,.int .i64 en.y,.int .i64 en.mo,.int .i64 en.d,.int .i64 en.h,.int .i64 en.mi,.int .i64 en.s,.string en.t] 31)):=(a0c _ _).alloc (a0a _) _;have G:=ae Q;have F:=ae hq;have c:=ae b;clear Q hq b;go_wp2_with fail;refine(ab HP _ (ai (ab c) (ab G))).mono ?_;rintro e x1 ⟨rfl,x⟩;have I:=ai (ab G) x;have r:=ce.own (ab B) ((ab F).later I (a0a _));have f:=ai (ab c) I;have p:=f.size;have m:Hid (k+1<=maxLen/\(k+1)*72<=140737488355328):=by
    show _/\_;have:=ab Hm;unfold maxLen;omega
   clear F c G x I HP;go_wp2_with (at_builtin;refine a0r _ rfl _ _ 92 rfl w.heap.size 97 i0 (.agg #[.int .i64 0,.int .i64 0,.int .i64 0,.int .i64 0,.int .i64 0,.string ⟨#[]⟩,.string ⟨#[]⟩]) 7 72 underlying92 hi N O P rfl (by decide) _ _ _ rfl (a0j r _) ⟨x1.heap.size,0,none⟩ 1 1 (vw en) rfl rfl (iZ x1 _ _) (Fq en) (ab m).1 (ab m).2 (an p _) ?_;intro v' x2 q j C;clear C);have J:=aB (v:=u5) j r (a0a _) p f;have D:M4 x2 w.heap.size v' _:=ce.snoc (ab B) q;rw[←ab L]at D;clear q j r;go_wp2;go_roundw
   case rel=>exact⟨k+1,by have:=ab Hk;omega,by go_num,D,J⟩
   case measure=>simp[intOf];omega
  . have A:l.take k=l:=a0x (by rw[ab u];omega);rw[A]at hq;have F:=ae hq;have X:=ae b;clear hq b A;go_wp2;go_ret;exact⟨_,rfl,ab F,ab X⟩
def BlS(w:World)(vs:List Value)(W:World):Prop:=Below w.heap.size w W/\Blk W w.heap.size vs
theorem BlS.later{W W':World}(k:BlS w vs W)(hb:Below W.heap.size W W'):BlS w vs W':=⟨ai k.1 hb,k.2.later hb k.2.1⟩
theorem BlS.drew{W:World}(k:BlS w vs W):BlS w vs W.drew:=⟨k.1.drew,k.2.drew⟩
theorem xF(W:World)(x:Nat):aY (W.alloc (.cells #[.int .i64 ((x:Nat):Int)] 3)) (some ⟨W.heap.size,0,none⟩) (cJ [x]):=by
 intro _;refine⟨W.heap.size,0,rfl,by simp,fun i a=>?_⟩
 match i,a with
 | 0,_=>simp[cJ]
theorem y9(W:World)(x y z u:Nat):aY (W.alloc (.cells #[.int .i64 ((x:Nat):Int),.int .i64 ((y:Nat):Int),.int .i64 ((z:Nat):Int),.int .i64 ((u:Nat):Int)] 3)) (some ⟨W.heap.size,0,none⟩) (cJ [x,y,z,u]):=by
 intro _;refine⟨W.heap.size,0,rfl,by simp,fun i a=>?_⟩
 match i,a with
 | 0,_=>simp[cJ]
 | 1,_=>simp[cJ]
 | 2,_=>simp[cJ]
 | 3,_=>simp[cJ]
theorem rf(how st b f lg pl:Nat)(nm:ByteArray)(w:World)(m:how<65536)(n:st<4294967296)(h2:b<4294967296)(o:f<4294967296)(p:lg<4294967296)(q:nm.size<65536)(r:pl<4294967296) :
  Ds 102 #[.agg #[.int .i64 (how:Nat),.int .i64 (st:Nat),.int .i64 (b:Nat),.int .i64 (f:Nat),.int .i64 (lg:Nat),.string nm,.int .i64 (pl:Nat)]] w (.string (jC how st b f lg nm pl)):=by
 have j:prog.follows .mixedOrders=true:=by kernel_rfl
 have t:Hid (∀g W,aY W (some ⟨g,0,none⟩) (cJ [20])->Ds 103 #[.slice (some ⟨g,0,none⟩) 1 1] W (.string (av (leS 2 20)))):=fun g W h=>by
  have:=dw (some ⟨g,0,none⟩) 1 1 [20] W rfl h (by decide) (by decide);rw[show([20]:List Nat).flatMap (leS 2)=leS 2 20 by simp]at this;exact this
 have CT:Hid (∀W,Ds 135 #[.agg #[.int .i64 (how:Nat),.int .i64 (st:Nat),.int .i64 (b:Nat),.int .i64 (f:Nat),.int .i64 (lg:Nat),.string nm]] W (.string (eb how st b f lg nm.size))):=fun W=>Ba how st b f lg nm W m n h2 o p q;have s:Hid (∀W,Ds 104 #[.int .i64 (pl:Int)] W (.string (av (leS 4 pl)))):=fun W=>du pl W r;have z0:((av (leS 2 20)).size:Int)<=100:=by rw[bn,aE];omega
 have z1:((eb how st b f lg nm.size).size:Int)<=100:=by rw[fK];omega
 have z2:((av (leS 4 pl)).size:Int)<=100:=by rw[bn,aE];omega
 have u:(nm.size:Int)<65536:=by omega
 unfold jC;generalize av (leS 2 20)=A0 at *
 generalize eb how st b f lg nm.size=A1 at *
 generalize av (leS 4 pl)=A2 at *
 have T0':Hid (BlS w [.int .i64 (how:Nat),.int .i64 (st:Nat),.int .i64 (b:Nat),.int .i64 (f:Nat),.int .i64 (lg:Nat),.string nm,.int .i64 (pl:Nat)] (w.alloc (.cells #[.int .i64 (how:Nat),.int .i64 (st:Nat),.int .i64 (b:Nat),.int .i64 (f:Nat),.int .i64 (lg:Nat),.string nm,.int .i64 (pl:Nat)] 116))):=⟨(a0c _ _).alloc (a0a _) _,aI w _ _⟩;clear m n h2 o p q r;go_enter func102,ntmps102;go_wp2_with fail;obtain⟨W0,hW0⟩:∃x,w.alloc (.cells #[.int .i64 (how:Nat),.int .i64 (st:Nat),.int .i64 (b:Nat),.int .i64 (f:Nat),.int .i64 (lg:Nat),.string nm,.int .i64 (pl:Nat)] 116)=x:=⟨_,rfl⟩;rw[hW0]at T0';rw[hW0];have T0:=T0';clear T0' hW0;refine wp_region_held_drew (S:=BlS w [.int .i64 (how:Nat),.int .i64 (st:Nat),.int .i64 (b:Nat),.int .i64 (f:Nat),.int .i64 (lg:Nat),.string nm,.int .i64 (pl:Nat)]) j (ab T0).drew (fun c=>?_);refine af 3 (.pointer (some ⟨w.heap.size,0,none⟩)) rfl (by kernel_rfl) (fun _ _ _ h=>h) rfl (fun W a=>by go_simp) c ?_;refine af 4 (.agg #[.int .i64 (how:Nat),.int .i64 (st:Nat),.int .i64 (b:Nat),.int .i64 (f:Nat),.int .i64 (lg:Nat),.string nm]) rfl (by kernel_rfl) (fun _ _ _ h=>h) rfl (fun W a=>by have s0:=a.2.cell 0 _ rfl;have s1:=a.2.cell 1 _ rfl;have s2:=a.2.cell 2 _ rfl;have s3:=a.2.cell 3 _ rfl;have s4:=a.2.cell 4 _ rfl;have s5:=a.2.cell 5 _ rfl;go_simp) c ?_;refine af 8 (.pointer (some ⟨w.heap.size,6,none⟩)) rfl (by kernel_rfl) (fun _ _ _ h=>h) rfl (fun W a=>by go_simp) c ?_;refine af 9 (.int .i64 (pl:Nat)) rfl (by kernel_rfl) (fun _ _ _ h=>h) rfl (fun W a=>by have s6:=a.2.cell 6 _ rfl;go_simp) c ?_;refine af 12 (.pointer (some ⟨w.heap.size,0,none⟩)) rfl (by kernel_rfl) (fun _ _ _ h=>h) rfl (fun W a=>by go_simp) c ?_;refine af 13 (.pointer (some ⟨w.heap.size,5,none⟩)) rfl (by kernel_rfl) (fun _ _ _ h=>h) rfl (fun W a=>by go_simp) c ?_;refine af 14 (.string nm) rfl (by kernel_rfl) (fun _ _ _ h=>h) rfl (fun W a=>by have s5:=a.2.cell 5 _ rfl;go_simp) c ?_;have T1:=ae ((ab T0).drew);generalize W0.drew=W1 at *
 refine ag 0 (by kernel_rfl) rfl fun K d=>?_;go_simp;have i:Below W1.heap.size W1 (W1.alloc (.cells #[.int .i64 20] 3)):=(a0c _ _).alloc (a0a _) _;have T2:=ae ((ab T1).later i);have l:Hid (aY (W1.alloc (.cells #[.int .i64 20] 3)) (some ⟨W1.heap.size,0,none⟩) (cJ [20])):=xF _ _;refine Shut.out d _ _ (ab T2) (fun c=>?_);clear d K i T1;obtain⟨g,hg⟩:∃x,W1.heap.size=x:=⟨_,rfl⟩;obtain⟨W2,hW2⟩:∃x,W1.alloc (.cells #[.int .i64 20] 3)=x:=⟨_,rfl⟩;rw[hW2]at T2 c;rw[hg,hW2]at l;rw[hg,hW2];refine ag 1 (by kernel_rfl) rfl fun K d=>?_;go_simp;go_at_call 103;refine(ab t g W2 (ab l)).mono ?_;rintro e W3 ⟨rfl,i⟩;have T3:=ae ((ab T2).later i);refine Shut.out d _ _ (ab T3) (fun c=>?_);clear d K i T2;refine af 2 (.string ((⟨#[80,75,1,2]⟩:ByteArray)++A0)) rfl (by kernel_rfl) (fun _ _ _ h=>h) rfl (fun W a=>by go_simp<;>omega) c ?_;refine ag 5 (by kernel_rfl) rfl fun K d=>?_;go_simp;go_at_call 135;refine(ab CT W3).mono ?_;rintro e W4 ⟨rfl,i⟩;have T4:=ae ((ab T3).later i);refine Shut.out d _ _ (ab T4) (fun c=>?_);clear d K i T3;refine af 6 (.string ((⟨#[80,75,1,2]⟩:ByteArray)++A0++A1)) rfl (by kernel_rfl) (fun _ _ _ h=>h) rfl (fun W a=>by go_simp<;>omega) c ?_;refine af 7 (.string ((⟨#[80,75,1,2]⟩:ByteArray)++A0++A1++(⟨#[0,0,0,0,0,0,0,0,0,0]⟩:ByteArray))) rfl (by kernel_rfl) (fun _ _ _ h=>h) rfl (fun W a=>by go_simp<;>omega) c ?_;refine ag 10 (by kernel_rfl) rfl fun K d=>?_;go_simp;go_at_call 104;refine(ab s W4).mono ?_;rintro e W5 ⟨rfl,i⟩;have T5:=ae ((ab T4).later i);refine Shut.out d _ _ (ab T5) (fun c=>?_);clear d K i T4;refine af 11 (.string ((⟨#[80,75,1,2]⟩:ByteArray)++A0++A1++(⟨#[0,0,0,0,0,0,0,0,0,0]⟩:ByteArray)++A2)) rfl (by kernel_rfl) (fun _ _ _ h=>h) rfl (fun W a=>by go_simp<;>omega) c ?_;refine af 15 (.string ((⟨#[80,75,1,2]⟩:ByteArray)++A0++A1++(⟨#[0,0,0,0,0,0,0,0,0,0]⟩:ByteArray)++A2++nm)) rfl (by kernel_rfl) (fun _ _ _ h=>h) rfl (fun W a=>by go_simp<;>omega) c ?_;refine ag 16 (by kernel_rfl) rfl fun K d=>?_;go_simp;refine Shut.out d _ _ (ab T5) (fun c=>?_);clear d K;refine wpAnyH_done (by kernel_rfl) ?_ _;clear c;generalize k:(⟨#[80,75,1,2]⟩:ByteArray)++A0++A1++(⟨#[0,0,0,0,0,0,0,0,0,0]⟩:ByteArray)++A2++nm=AA;go_wp2;go_ret;exact⟨by rw[←k];rfl,(ab T5).1⟩
def uK(w:World)(a:Option Addr)(n:Nat)(f:Nat->List Value):Prop:=0<n->∃g,a=some ⟨g,0,none⟩/\g<w.heap.size/\∀i,i<n->∀j u,(f i)[j]?=some u->w.cell? ⟨g,i*7+j,none⟩=some u
theorem uK.later{w':World}{a:Option Addr}{n:Nat}{f:Nat->List Value}(h:uK w a n f)(hb:Below w.heap.size w w'):uK w' a n f:=by
 intro c;obtain⟨g,e,b,d⟩:=h c;exact⟨g,e,a0m b hb.size,fun i k j u l=>(hb.cell (p:=⟨g,i*7+j,none⟩) b).trans (d i k j u l)⟩
theorem ui{α:Type}{T:TypeId}{f:α->List Value}(b:∀x,(f x).length=7){base cap n:Nat}{a:Option Addr}{l:List α}(d:α)(m:l.length=n)(h:ce T 7 f w base (.slice a n cap) l):uK w a n fun i=>f (l.getD i d):=by
 intro o;obtain⟨g,rfl⟩:=h.somes (by omega);refine⟨g,rfl,h.below.2,fun i e j u c=>?_⟩;have k:j<7:=by
  rw[←b (l.getD i d)];exact(List.getElem?_eq_some_iff.mp c).1
 rw[(ce.at b d m h i j e k).1];exact c
def uT(l:List En)(k:Nat):En×Nat:=(l.getD k default,(aJ (l.take k)).1.size)
def hdL(l:List En)(n:Nat):List (En×Nat):=(List.range n).map (uT l)
theorem oK(l:List En)(n:Nat):(hdL l n).length=n:=by simp[hdL]
theorem I8(l:List En)(n:Nat):hdL l (n+1)=hdL l n++[uT l n]:=by simp[hdL,a3F]
theorem LK(l:List En)(n i:Nat)(d:En×Nat)(h:i<n):(hdL l n).getD i d=uT l i:=by simp[hdL,List.getD,h]
theorem IU(L:ByteArray)(many long pl:Nat):L++(⟨#[80,75,5,6]⟩:ByteArray)++av ([0,0,many,many].flatMap (leS 2))++av (leS 4 long)++av (leS 4 pl)++av ([0].flatMap (leS 2))=L++dA many long pl:=by
 unfold dA;simp only[ByteArray.append_assoc]
theorem DV(a:Option Addr)(cap n:Nat)(l:List En)(w:World)(hn:l.length=n)(h:uK w a n fun i=>oH (uT l i))(hm:n<=6)(R:∀i,i<n->je (l.getD i default)=true) :
  Ds 77 #[.slice a n cap,.int .i64 ((aJ l).1.size:Nat)] w (.string ((aJ l).2++dA n (aJ l).2.size (aJ l).1.size)):=by
 have Y:=ae (ng l (fun i hi=>R i (by omega)));have hz:=ab Y n (by omega);rw[a0x (by omega)]at hz;have N:(aJ l).1.size<4294967296:=by omega
 have L:(aJ l).2.size<4294967296:=by omega
 have M:((aJ l).2.size:Int)<=600:=by omega
 have K:=ae hn;have HS:=ae R;have HR:=ae h;have H:Hid (∀g W,aY W (some ⟨g,0,none⟩) (cJ [0,0,n,n])->Ds 103 #[.slice (some ⟨g,0,none⟩) 4 4] W (.string (av ([0,0,n,n].flatMap (leS 2))))):=fun g W h=>dw (some ⟨g,0,none⟩) 4 4 [0,0,n,n] W rfl h (by decide) (by intro x hx;simp at hx;omega);have G:Hid (∀g W,aY W (some ⟨g,0,none⟩) (cJ [0])->Ds 103 #[.slice (some ⟨g,0,none⟩) 1 1] W (.string (av ([0].flatMap (leS 2))))):=fun g W h=>dw (some ⟨g,0,none⟩) 1 1 [0] W rfl h (by decide) (by decide);have p:Hid (∀W,Ds 104 #[.int .i64 ((aJ l).2.size:Int)] W (.string (av (leS 4 (aJ l).2.size)))):=fun W=>du _ W L;have q:Hid (∀W,Ds 104 #[.int .i64 ((aJ l).1.size:Int)] W (.string (av (leS 4 (aJ l).1.size)))):=fun W=>du _ W N;have z1:((av ([0,0,n,n].flatMap (leS 2))).size:Int)<=100:=by rw[bn];simp[aE]
 have z2:((av ([0].flatMap (leS 2))).size:Int)<=100:=by rw[bn];simp[aE]
 have z3:((av (leS 4 (aJ l).2.size)).size:Int)<=100:=by rw[bn,aE];omega
 have z4:((av (leS 4 (aJ l).1.size)).size:Int)<=100:=by rw[bn,aE];omega
 have V:=ae (IU (aJ l).2 n (aJ l).2.size (aJ l).1.size);generalize (aJ l).2++dA n (aJ l).2.size (aJ l).1.size=RES at *
 generalize av ([0,0,n,n].flatMap (leS 2))=A1 at *
 generalize av ([0].flatMap (leS 2))=A2 at *
 generalize av (leS 4 (aJ l).2.size)=A3 at *
 generalize av (leS 4 (aJ l).1.size)=A4 at *
 obtain⟨PL,hPL⟩:∃x,(aJ l).1.size=x:=⟨_,rfl⟩;obtain⟨LI,hLI'⟩:∃x,(aJ l).2=x:=⟨_,rfl⟩;rw[hPL]at q N;rw[hLI']at p V M L;have J:=ae hLI';rw[hPL];clear hn h R hz N L hPL hLI';go_enter func77,ntmps77;go_wp2_with fail
 go_loopw [5,7,10] (fun o _ i wr=>∃k:Nat,k<=n/\i = .int .i64 k/\o = .string (aJ (l.take k)).2/\Below w.heap.size w wr) (fun _ _ i _=>n-(intOf i).toNat)
 case atStart=>exact⟨0,a0g _,rfl,rfl,a0c _ _⟩
 case round=>
  obtain⟨k,hk,rfl,rfl,b⟩:=hrel;by_cases d:k<n
  .
   obtain⟨g,rfl,hg,c⟩:=(ab HR).later b (by omega);have c0:=c k d 0 _ rfl;have c1:=c k d 1 _ rfl;have c2:=c k d 2 _ rfl;have c3:=c k d 3 _ rfl;have c4:=c k d 4 _ rfl;have c5:=c k d 5 _ rfl;have c6:=c k d 6 _ rfl;simp only[uT]at c0 c1 c2 c3 c4 c5 c6;rw[a1w]at c0;have S:Hid ((aJ (l.take (k+1))).2=(aJ (l.take k)).2++heE (l.getD k default) (aJ (l.take k)).1.size):=by show _=_;rw[kJ l k (by have:=ab K;omega)];rfl
   have T:=ab Y k (by have:=ab K;omega);have aa:((aJ (l.take k)).2.size:Int)<=600:=by omega
   have m:(aJ (l.take k)).1.size<4294967296:=by omega
   have v:=ab HS k d;obtain⟨f1,f2,f3⟩:=dm (n:=(l.getD k default).n) (t:=(l.getD k default).t) v;have hN:=(pn f3).2.2;have Q:=sS (l.getD k default) (aJ (l.take k)).1.size;have Z:((heE (l.getD k default) (aJ (l.take k)).1.size).size:Int)<=100:=by omega
   have E:aC 0 (l.getD k default).t.data.toList<4294967296:=jc _ _ (by omega);have P:=fZ (l.getD k default).t;have O:(aW (l.getD k default).t).size<=100000:=by unfold aW;split<;>omega
   have U:dC (l.getD k default).t<=8:=by unfold dC;split<;>omega
   have A:eN (l.getD k default)<4294967296:=by unfold eN;omega
   have HP:=ae (fun W=>rf (dC (l.getD k default).t) (eN (l.getD k default)) (aC 0 (l.getD k default).t.data.toList) (aW (l.getD k default).t).size (l.getD k default).t.size (aJ (l.take k)).1.size (l.getD k default).n W (by omega) A E (by omega) (by omega) (by omega) m);have X:Hid (jC (dC (l.getD k default).t) (eN (l.getD k default)) (aC 0 (l.getD k default).t.data.toList) (aW (l.getD k default).t).size (l.getD k default).t.size (l.getD k default).n (aJ (l.take k)).1.size=heE (l.getD k default) (aJ (l.take k)).1.size):=rfl;rw[ab X]at HP;have r:=ae (a0b b hk);clear c v f1 f2 f3 hN Q T m E P O U A b hk X;generalize dC (l.getD k default).t=v0 at *
   generalize eN (l.getD k default)=v1 at *
   generalize aC 0 (l.getD k default).t.data.toList=v2 at *
   generalize (aW (l.getD k default).t).size=v3 at *
   generalize (l.getD k default).t.size=v4 at *
   generalize (l.getD k default).n=v5 at *
   generalize heE (l.getD k default) (aJ (l.take k)).1.size=HE1 at *
   generalize (aJ (l.take k)).2=L1 at *
   generalize (aJ (l.take k)).1.size=P1 at *
   have y:Hid (Below wr.heap.size wr (wr.alloc (.cells #[.int .i64 (v0:Nat),.int .i64 (v1:Nat),.int .i64 (v2:Nat),.int .i64 (v3:Nat),.int .i64 (v4:Nat),.string v5,.int .i64 (P1:Nat)] 116))):=(a0c _ _).alloc (a0a _) _;go_wp2_with fail;refine(ab HP _).mono ?_;rintro e x1 ⟨rfl,f⟩;have j:=ae (ai (ab r).1 (ai (ab y) f));clear f y;go_wp2;go_roundw
   case rel=>exact⟨k+1,by have:=(ab r).2;omega,by go_num,by rw[ab S],ab j⟩
   case measure=>simp[intOf];omega
  . have F:l.take k=l:=a0x (by rw[ab K];omega);rw[F,ab J];have r:=ae b;clear b F;have y:Hid (Below wr.heap.size wr (wr.alloc (.cells #[.int .i64 0,.int .i64 0,.int .i64 (n:Nat),.int .i64 (n:Nat)] 3))):=(a0c _ _).alloc (a0a _) _;go_wp2_with fail;refine(ab H _ _ (y9 wr 0 0 n n)).mono ?_;rintro e x1 ⟨rfl,f⟩;have s:=ae (ai (ab r) (ai (ab y) f));clear f y r;go_wp2_with fail;refine(ab p _).mono ?_;rintro e x2 ⟨rfl,B⟩;have j:=ae (ai (ab s) B);clear B s;go_wp2_with fail;refine(ab q _).mono ?_;rintro e x3 ⟨rfl,C⟩;have u:=ae (ai (ab j) C);clear C j;have z:Hid (Below x3.heap.size x3 (x3.alloc (.cells #[.int .i64 0] 3))):=(a0c _ _).alloc (a0a _) _;go_wp2_with fail;refine(ab G _ _ (xF x3 0)).mono ?_;rintro e x4 ⟨rfl,D⟩;have I:=ae (ai (ab u) (ai (ab z) D));clear D z u;go_wp2;go_ret;exact⟨by rw[←ab V];rfl,ab I⟩
structure Hq where
 how:Nat
 st:Nat
 crc:Nat
 pk:Nat
 lg:Nat
 nm:ByteArray
 pl:Nat
def yT(q:Hq):List Value:=[.int .i64 (q.how:Nat),.int .i64 (q.st:Nat),.int .i64 (q.crc:Nat),.int .i64 (q.pk:Nat),.int .i64 (q.lg:Nat),.string q.nm,.int .i64 (q.pl:Nat)]
theorem IQ(e:Hq):(yT e).length=7:=rfl
theorem IR(e:Hq):∀u∈yT e,u.oneCell'=true:=by
 intro u a;simp only[yT,a0Z,a1D,a1q]at a;rcases a with rfl|rfl|rfl|rfl|rfl|rfl|rfl<;>rfl
def cQ(q:Hq):ByteArray:=jC q.how q.st q.crc q.pk q.lg q.nm q.pl
def okQ(q:Hq):Prop:=q.how<65536/\q.st<4294967296/\q.crc<4294967296/\q.pk<4294967296/\q.lg<4294967296/\q.nm.size<=54/\q.pl<4294967296
def eK(f:Nat->Hq):Nat->ByteArray
 | 0=>⟨#[]⟩
 | k+1=>eK f k++cQ (f k)
theorem tP(f:Nat->Hq):∀k,(∀i,i<k->okQ (f i))->(eK f k).size<=100*k
 | 0,_=>a0g _
 | k+1,h=>by
  have ih:=tP f k (fun i b=>h i (by omega));have a:=(h k (by omega)).2.2.2.2.2.1;have h2:(cQ (f k)).size=46+(f k).nm.size:=gB _ _ _ _ _ _ _;rw[eK,a0R];omega
theorem Bt(a:Option Addr)(cap n P:Nat)(f:Nat->Hq)(w:World)(h:uK w a n fun i=>yT (f i))(hm:n<=6)(J:∀i,i<n->okQ (f i))(Q:P<4294967296) :
  Ds 77 #[.slice a n cap,.int .i64 (P:Nat)] w (.string (eK f n++dA n (eK f n).size P)):=by
 have V:(n:Int)<=6:=by omega
 have O:=ae (fun k (H:k<=n)=>tP f k (fun i hi=>J i (by omega)));have Y:=ab O n (by omega);have E:(eK f n).size<4294967296:=by omega
 have F:((eK f n).size:Int)<=600:=by omega
 have U:=ae J;have T:=ae h;have B:Hid (∀g W,aY W (some ⟨g,0,none⟩) (cJ [0,0,n,n])->Ds 103 #[.slice (some ⟨g,0,none⟩) 4 4] W (.string (av ([0,0,n,n].flatMap (leS 2))))):=fun g W h=>dw (some ⟨g,0,none⟩) 4 4 [0,0,n,n] W rfl h (by decide) (by intro x X;simp at X;omega);have A:Hid (∀g W,aY W (some ⟨g,0,none⟩) (cJ [0])->Ds 103 #[.slice (some ⟨g,0,none⟩) 1 1] W (.string (av ([0].flatMap (leS 2))))):=fun g W h=>dw (some ⟨g,0,none⟩) 1 1 [0] W rfl h (by decide) (by decide);have m:Hid (∀W,Ds 104 #[.int .i64 ((eK f n).size:Int)] W (.string (av (leS 4 (eK f n).size)))):=fun W=>du _ W E;have z:Hid (∀W,Ds 104 #[.int .i64 (P:Int)] W (.string (av (leS 4 P)))):=fun W=>du _ W Q;have z1:((av ([0,0,n,n].flatMap (leS 2))).size:Int)<=100:=by rw[bn];simp[aE]
 have z2:((av ([0].flatMap (leS 2))).size:Int)<=100:=by rw[bn];simp[aE]
 have z3:((av (leS 4 (eK f n).size)).size:Int)<=100:=by rw[bn,aE];omega
 have z4:((av (leS 4 P)).size:Int)<=100:=by rw[bn,aE];omega
 have M:=ae (IU (eK f n) n (eK f n).size P);generalize (eK f n)++dA n (eK f n).size P=RES at *
 generalize av ([0,0,n,n].flatMap (leS 2))=A1 at *
 generalize av ([0].flatMap (leS 2))=A2 at *
 generalize av (leS 4 (eK f n).size)=A3 at *
 generalize av (leS 4 P)=A4 at *
 obtain⟨LI,hLI'⟩:∃x,(eK f n)=x:=⟨_,rfl⟩;rw[hLI']at m M F E;have D:=ae hLI';clear h J Y Q E hLI';go_enter func77,ntmps77;go_wp2_with fail
 go_loopw [5,7,10] (fun o _ i wr=>∃k:Nat,k<=n/\i = .int .i64 k/\o = .string (eK f k)/\Below w.heap.size w wr) (fun _ _ i _=>n-(intOf i).toNat)
 case atStart=>exact⟨0,a0g _,rfl,rfl,a0c _ _⟩
 case round=>
  obtain⟨k,H,rfl,rfl,b⟩:=hrel;by_cases d:k<n
  .
   obtain⟨g,rfl,hg,c⟩:=(ab T).later b (by omega);have c0:=c k d 0 _ rfl;have c1:=c k d 1 _ rfl;have c2:=c k d 2 _ rfl;have c3:=c k d 3 _ rfl;have c4:=c k d 4 _ rfl;have Z:=c k d 5 _ rfl;have c6:=c k d 6 _ rfl;rw[a1w]at c0;have K:Hid (eK f (k+1)=eK f k++cQ (f k)):=rfl;have L:=ab O k (by omega);have S:((eK f k).size:Int)<=600:=by omega
   obtain⟨o0,o1,o2,o3,o4,o5,o6⟩:=ab U k d;have G:(cQ (f k)).size=46+(f k).nm.size:=gB _ _ _ _ _ _ _;have R:((cQ (f k)).size:Int)<=100:=by omega
   have HP:=ae (fun W=>rf (f k).how (f k).st (f k).crc (f k).pk (f k).lg (f k).pl (f k).nm W o0 o1 o2 o3 o4 (by omega) o6);have N:Hid (jC (f k).how (f k).st (f k).crc (f k).pk (f k).lg (f k).nm (f k).pl=cQ (f k)):=rfl;rw[ab N]at HP;have p:=ae (a0b b H);clear c o0 o1 o2 o3 o4 o5 o6 G L b H N;generalize cQ (f k)=HE1 at *
   generalize (f k).how=v0 at *
   generalize (f k).st=v1 at *
   generalize (f k).crc=v2 at *
   generalize (f k).pk=v3 at *
   generalize (f k).lg=v4 at *
   generalize (f k).nm=v5 at *
   generalize (f k).pl=P1 at *
   generalize eK f k=L1 at *
   have s:Hid (Below wr.heap.size wr (wr.alloc (.cells #[.int .i64 (v0:Nat),.int .i64 (v1:Nat),.int .i64 (v2:Nat),.int .i64 (v3:Nat),.int .i64 (v4:Nat),.string v5,.int .i64 (P1:Nat)] 116))):=(a0c _ _).alloc (a0a _) _;go_wp2_with fail;refine(ab HP _).mono ?_;rintro e x1 ⟨rfl,j⟩;have l:=ae (ai (ab p).1 (ai (ab s) j));clear j s;go_wp2;go_roundw
   case rel=>exact⟨k+1,by have:=(ab p).2;omega,by go_num,by rw[ab K],ab l⟩
   case measure=>simp[intOf];omega
  .
   have I:k=n:=by omega
   subst I;rw[ab D];have p:=ae b;clear b;have s:Hid (Below wr.heap.size wr (wr.alloc (.cells #[.int .i64 0,.int .i64 0,.int .i64 (k:Nat),.int .i64 (k:Nat)] 3))):=(a0c _ _).alloc (a0a _) _;go_wp2_with fail;refine(ab B _ _ (y9 wr 0 0 k k)).mono ?_;rintro e x1 ⟨rfl,j⟩;have q:=ae (ai (ab p) (ai (ab s) j));clear j s p;go_wp2_with fail;refine(ab m _).mono ?_;rintro e x2 ⟨rfl,u⟩;have l:=ae (ai (ab q) u);clear u q;go_wp2_with fail;refine(ab z _).mono ?_;rintro e x3 ⟨rfl,v⟩;have r:=ae (ai (ab l) v);clear v l;have t:Hid (Below x3.heap.size x3 (x3.alloc (.cells #[.int .i64 0] 3))):=(a0c _ _).alloc (a0a _) _;go_wp2_with fail;refine(ab A _ _ (xF x3 0)).mono ?_;rintro e x4 ⟨rfl,y⟩;have C:=ae (ai (ab r) (ai (ab t) y));clear y t r;go_wp2;go_ret;exact⟨by rw[←ab M];rfl,ab C⟩
theorem Jq(many long pl:Nat):av (leS 4 101010256)++av (leS 2 0)++av (leS 2 0)++av (leS 2 many)++av (leS 2 many)++av (leS 4 long)++av (leS 4 pl)++av (leS 2 0)=dA many long pl:=by
 unfold dA;rw[IL];apply kO;simp[av,a0T]
theorem FT(n T A4:ByteArray):av (leS 4 33639248)++av (leS 2 20)++T++av (leS 2 0)++av (leS 2 0)++av (leS 2 0)++av (leS 4 0)++A4++n=(⟨#[80,75,1,2]⟩:ByteArray)++av (leS 2 20)++T++(⟨#[0,0,0,0,0,0,0,0,0,0]⟩:ByteArray)++A4++n:=by
 rw[IB,←Iu];simp only[ByteArray.append_assoc]
theorem vN(many long pl:Nat)(w:World)(x:many<65536)(y:long<4294967296)(h2:pl<4294967296) :
  Ds 29 #[.int .i64 (many:Nat),.int .i64 (long:Nat),.int .i64 (pl:Nat)] w (.string (dA many long pl)):=by
 have s:Hid (∀W,Ds 45 #[.int .i64 101010256,.int .i64 4] W (.string (av (leS 4 101010256)))):=fun W=>aL 101010256 4 W (by omega) (by omega);have a:Hid (∀W,Ds 45 #[.int .i64 0,.int .i64 2] W (.string (av (leS 2 0)))):=fun W=>aL 0 2 W (by omega) (by omega);have j:Hid (∀W,Ds 45 #[.int .i64 (many:Nat),.int .i64 2] W (.string (av (leS 2 many)))):=fun W=>aL many 2 W (by omega) (by omega);have t:Hid (∀W,Ds 45 #[.int .i64 (long:Nat),.int .i64 4] W (.string (av (leS 4 long)))):=fun W=>aL long 4 W (by omega) (by omega);have u:Hid (∀W,Ds 45 #[.int .i64 (pl:Nat),.int .i64 4] W (.string (av (leS 4 pl)))):=fun W=>aL pl 4 W (by omega) (by omega);have v:=ae (Jq many long pl);have zz:∀many V,many<=4->((av (leS many V)).size:Int)<=4:=fun many V z=>by rw[bn,aE];omega
 have z1:=zz 4 101010256 (by omega);have z2:=zz 2 0 (by omega);have z3:=zz 2 many (by omega);have z4:=zz 4 long (by omega);have z5:=zz 4 pl (by omega);generalize av (leS 4 101010256)=A1 at *
 generalize av (leS 2 0)=A2 at *
 generalize av (leS 2 many)=A3 at *
 generalize av (leS 4 long)=A4 at *
 generalize av (leS 4 pl)=A5 at *
 generalize dA many long pl=RES at *
 clear x y h2 zz;go_enter func29,ntmps29;go_wp2_with fail;refine(ab s _).mono ?_;rintro e x1 ⟨rfl,b⟩;go_wp2_with fail;refine(ab a _).mono ?_;rintro e x2 ⟨rfl,k⟩;have c:=ai b k;clear b k;go_wp2_with fail;refine(ab a _).mono ?_;rintro e x3 ⟨rfl,l⟩;have d:=ai c l;clear c l;go_wp2_with fail;refine(ab j _).mono ?_;rintro e x4 ⟨rfl,m⟩;have f:=ai d m;clear d m;go_wp2_with fail;refine(ab j _).mono ?_;rintro e x5 ⟨rfl,n⟩;have g:=ai f n;clear f n;go_wp2_with fail;refine(ab t _).mono ?_;rintro e x6 ⟨rfl,o⟩;have h:=ai g o;clear g o;go_wp2_with fail;refine(ab u _).mono ?_;rintro e x7 ⟨rfl,p⟩;have i:=ai h p;clear h p;go_wp2_with fail;refine(ab a _).mono ?_;rintro e x8 ⟨rfl,q⟩;have r:=ai i q;clear i q;go_wp2;go_ret;exact⟨by rw[←ab v];rfl,r⟩
theorem uZ(n t:ByteArray)(y mo d h mi s:Int)(N pl:Nat)(w:World)(k:(0<=y/\y<=100000)/\(0<=mo/\mo<=100)/\(0<=d/\d<=100)/\(0<=h/\h<=100)/\(0<=mi/\mi<=100) /\ -100<=s/\s<=100)
  (m:(((((y-1980)*16+mo)*32+d)*32+h)*64+mi)*32+Int.tdiv s 2=(N:Int)) (a:N<4294967296) (o:n.size<65536) (p:t.size<=1048576) (J:pl<4294967296) :
  Ds 31 #[.agg #[.string n,.int .i64 y,.int .i64 mo,.int .i64 d,.int .i64 h,.int .i64 mi,.int .i64 s,.string t],.int .i64 (pl:Nat)] w (.string (jC (dC t) N (aC 0 t.data.toList) (aW t).size t.size n pl)):=by
 have b:prog.follows .mixedOrders=true:=by kernel_rfl
 have C:=ae (fun W=>oP n t y mo d h mi s N W k m a o p);have D:Hid (∀W,Ds 45 #[.int .i64 33639248,.int .i64 4] W (.string (av (leS 4 33639248)))):=fun W=>aL 33639248 4 W (by omega) (by omega);have F:Hid (∀W,Ds 45 #[.int .i64 20,.int .i64 2] W (.string (av (leS 2 20)))):=fun W=>aL 20 2 W (by omega) (by omega);have A:Hid (∀W,Ds 45 #[.int .i64 0,.int .i64 2] W (.string (av (leS 2 0)))):=fun W=>aL 0 2 W (by omega) (by omega);have B:Hid (∀W,Ds 45 #[.int .i64 0,.int .i64 4] W (.string (av (leS 4 0)))):=fun W=>aL 0 4 W (by omega) (by omega);have E:Hid (∀W,Ds 45 #[.int .i64 (pl:Nat),.int .i64 4] W (.string (av (leS 4 pl)))):=fun W=>aL pl 4 W (by omega) (by omega);have I:(n.size:Int)<65536:=by omega
 have G:=ae (FT n (eb (dC t) N (aC 0 t.data.toList) (aW t).size t.size n.size) (av (leS 4 pl)));unfold jC;have zz:∀many V,many<=4->((av (leS many V)).size:Int)<=4:=fun many V S=>by rw[bn,aE];omega
 have z1:=zz 4 33639248 (by omega);have z2:=zz 2 20 (by omega);have z3:((eb (dC t) N (aC 0 t.data.toList) (aW t).size t.size n.size).size:Int)<=26:=by rw[fK];omega
 have z4:=zz 2 0 (by omega);have z5:=zz 4 0 (by omega);have z6:=zz 4 pl (by omega);generalize (⟨#[80,75,1,2]⟩:ByteArray)++av (leS 2 20)++eb (dC t) N (aC 0 t.data.toList) (aW t).size t.size n.size++(⟨#[0,0,0,0,0,0,0,0,0,0]⟩:ByteArray)++av (leS 4 pl)++n=RES at *
 generalize av (leS 4 33639248)=A1 at *
 generalize av (leS 2 20)=A2 at *
 generalize eb (dC t) N (aC 0 t.data.toList) (aW t).size t.size n.size=A3 at *
 generalize av (leS 2 0)=A4 at *
 generalize av (leS 4 0)=A5 at *
 generalize av (leS 4 pl)=A6 at *
 have T0':Hid (lH w n y mo d h mi s t (w.alloc (.cells #[.string n,.int .i64 y,.int .i64 mo,.int .i64 d,.int .i64 h,.int .i64 mi,.int .i64 s,.string t] 31))):=⟨(a0c _ _).alloc (a0a _) _,by simp,by simp,by simp,by simp,by simp,by simp,by simp,by simp,by simp⟩;clear k m a o p J zz;go_enter func31,ntmps31;go_wp2_with fail;obtain⟨W1,hW1⟩:∃x,w.alloc (.cells #[.string n,.int .i64 y,.int .i64 mo,.int .i64 d,.int .i64 h,.int .i64 mi,.int .i64 s,.string t] 31)=x:=⟨_,rfl⟩;rw[hW1]at T0';rw[hW1];have T1:=T0';clear T0' hW1;obtain⟨c0,c1,c2,c3,c4,i,j,l⟩:=(ab T1).2.2;have k0:=cell_regrown c0;have K:=cell_regrown c1;have L:=cell_regrown c2;have M:=cell_regrown c3;have O:=cell_regrown c4;have P:=cell_regrown i;have Q:=cell_regrown j;have R:=cell_regrown l;have q:=fun d os=>Calls.regrown_of (w:=W1) (d:=d) (os:=os) (ab D _);have r:=fun d os=>Calls.regrown_of (w:=W1) (d:=d) (os:=os) (ab F _);have u:=fun d os=>Calls.regrown_of (w:=W1) (d:=d) (os:=os) (ab C _);have e:=fun d os=>Calls.regrown_of (w:=W1) (d:=d) (os:=os) (ab A _);have v:=fun d os=>Calls.regrown_of (w:=W1) (d:=d) (os:=os) (ab B _);have z:=fun d os=>Calls.regrown_of (w:=W1) (d:=d) (os:=os) (ab E _);have n1:¬ 9223372036854775807<A1.size+A2.size:=by omega
 have n2:¬ 9223372036854775807<A1.size+A2.size+A3.size:=by omega
 have n3:¬ 9223372036854775807<A1.size+A2.size+A3.size+A4.size:=by omega
 have n4:¬ 9223372036854775807<A1.size+A2.size+A3.size+A4.size+A4.size:=by omega
 have n5:¬ 9223372036854775807<A1.size+A2.size+A3.size+A4.size+A4.size+A4.size:=by omega
 have n6:¬ 9223372036854775807<A1.size+A2.size+A3.size+A4.size+A4.size+A4.size+A5.size:=by omega
 have n7:¬ 9223372036854775807<A1.size+A2.size+A3.size+A4.size+A4.size+A4.size+A5.size+A6.size:=by omega
 have n8:¬ 9223372036854775807<A1.size+A2.size+A3.size+A4.size+A4.size+A4.size+A5.size+A6.size+n.size:=by omega
 refine wp_region_quiet_below b (by kernel_rfl) ?_
 quiet_step (exact q _ _)
 quiet_step (exact r _ _)
 quiet_step (fail)
 quiet_step (fail)
 quiet_step (exact u _ _)
 quiet_step (fail)
 quiet_step (exact e _ _)
 quiet_step (fail)
 quiet_step (exact e _ _)
 quiet_step (fail)
 quiet_step (exact e _ _)
 quiet_step (fail)
 quiet_step (exact v _ _)
 quiet_step (fail)
 quiet_step (fail)
 quiet_step (exact z _ _)
 quiet_step (fail)
 quiet_step (fail)
 quiet_step (fail)
 quiet_step (fail)
 quiet_step (fail)
 refine a1E ?_;intro zw g;obtain⟨⟨H,osq⟩,c⟩:=g;have f:=below_regrown W1 H osq;rw[←c]at f;have T9:=ae (ai (ab T1).1 f);clear n1 n2 n3 n4 n5 n6 n7 n8 c f k0 K L M O P Q R q r u e v z c0 c1 c2 c3 c4 i j l;go_wp2;go_ret;exact⟨by rw[←ab G];rfl,ab T9⟩
theorem FR(a:Option Addr)(cap n:Nat)(l:List En)(w:World)(U:l.length=n)(h:jR w a l)(hm:n<=6)(O:∀i,i<n->je (l.getD i default)=true) :
  Ds 13 #[.slice a n cap] w (.string ((aJ l).1++(aJ l).2++dA n (aJ l).2.size (aJ l).1.size)):=by
 have aa:(n:Int)<=6:=by omega
 have Q:=ae (ng l (fun i hi=>O i (by omega)));have u:=ae U;have Z:=ae O;have Y:=ae h;have V:=ab Q n (by omega);rw[a0x (by omega)]at V;have X:=ae (fun W=>vN n (aJ l).2.size (aJ l).1.size W (by omega) (by omega) (by omega));have al:((aJ l).1.size:Int)<=2400:=by omega
 have a0:((aJ l).2.size:Int)<=600:=by omega
 have a1:((dA n (aJ l).2.size (aJ l).1.size).size:Int)<=22:=by rw[pL];omega
 clear U h O hm V;go_enter func13,ntmps13;go_wp2_with fail
 go_loopw [3,4,5] (fun o q i wr=>∃k:Nat,k<=n/\i = .int .i64 k/\o = .string (aJ (l.take k)).1/\q = .string (aJ (l.take k)).2/\Below w.heap.size w wr) (fun _ _ i _=>n-(intOf i).toNat)
 case atStart=>exact⟨0,a0g _,rfl,rfl,rfl,a0c _ _⟩
 case round=>
  obtain⟨k,S,rfl,rfl,rfl,c⟩:=hrel;by_cases N:k<n
  .
   obtain⟨g,o,rfl,j,D⟩:=(ab Y).later c (by have:=ab u;omega);obtain⟨c0,c1,c2,c3,c4,c5,c6,c7⟩:=D k (by have:=ab u;omega);have E:Hid ((aJ (l.take (k+1))).1=(aJ (l.take k)).1++loE (l.getD k default)):=by show _=_;rw[kJ l k (by have:=ab u;omega)];rfl
   have F:Hid ((aJ (l.take (k+1))).2=(aJ (l.take k)).2++heE (l.getD k default) (aJ (l.take k)).1.size):=by show _=_;rw[kJ l k (by have:=ab u;omega)];rfl
   have P:=ab Q k (by have:=ab u;omega);have ac:((aJ (l.take k)).1.size:Int)<=2400:=by omega
   have ad:((aJ (l.take k)).2.size:Int)<=600:=by omega
   have r:=ab Z k N;obtain⟨f1,f2,f3⟩:=dm (n:=(l.getD k default).n) (t:=(l.getD k default).t) r;obtain⟨g1,g2,g3,_⟩:=pn f3;have M:=(tR r).2;have T:((loE (l.getD k default)).size:Int)<=400:=by omega
   have K:=sS (l.getD k default) (aJ (l.take k)).1.size;have R:((heE (l.getD k default) (aJ (l.take k)).1.size).size:Int)<=100:=by omega
   have H:=ae (fun W=>uZ (l.getD k default).n (l.getD k default).t (l.getD k default).y (l.getD k default).mo (l.getD k default).d (l.getD k default).h (l.getD k default).mi (l.getD k default).s (eN (l.getD k default)) (aJ (l.take k)).1.size W g1 g2 g3 (by omega) (by omega) (by omega));have I:=ae (fun W=>zv (l.getD k default).n (l.getD k default).t (l.getD k default).y (l.getD k default).mo (l.getD k default).d (l.getD k default).h (l.getD k default).mi (l.getD k default).s (eN (l.getD k default)) W g1 g2 g3 (by omega) (by omega));have v:Hid (jC (dC (l.getD k default).t) (eN (l.getD k default)) (aC 0 (l.getD k default).t.data.toList) (aW (l.getD k default).t).size (l.getD k default).t.size (l.getD k default).n (aJ (l.take k)).1.size=heE (l.getD k default) (aJ (l.take k)).1.size):=rfl;have x:Hid (nT (l.getD k default).n (l.getD k default).t (eN (l.getD k default))=loE (l.getD k default)):=rfl;rw[ab v]at H;rw[ab x]at I;have G:=ae (a0b c S);clear D r f1 f2 f3 g1 g2 g3 P M K c S v x;generalize loE (l.getD k default)=LO at *
   generalize heE (l.getD k default) (aJ (l.take k)).1.size=HE at *
   generalize (aJ (l.take k)).1=F1 at *
   generalize (aJ (l.take k)).2=F2 at *
   generalize l.getD k default=en at *
   go_wp2_with fail;refine(ab H _).mono ?_;rintro e x1 ⟨rfl,b⟩;have f:=ae (ai (ab G).1 b);have d0:=(b.cell (p:=⟨g,o+k*8,none⟩) j).trans c0;have d1:=(b.cell (p:=⟨g,o+k*8+1,none⟩) j).trans c1;have d2:=(b.cell (p:=⟨g,o+k*8+2,none⟩) j).trans c2;have d3:=(b.cell (p:=⟨g,o+k*8+3,none⟩) j).trans c3;have d4:=(b.cell (p:=⟨g,o+k*8+4,none⟩) j).trans c4;have d5:=(b.cell (p:=⟨g,o+k*8+5,none⟩) j).trans c5;have d6:=(b.cell (p:=⟨g,o+k*8+6,none⟩) j).trans c6;have d7:=(b.cell (p:=⟨g,o+k*8+7,none⟩) j).trans c7;clear b H;go_wp2_with fail;refine(ab I _).mono ?_;rintro e x2 ⟨rfl,C⟩;have J:=ae (ai (ab f) C);clear C f I;go_wp2;go_roundw
   case rel=>exact⟨k+1,by have:=(ab G).2;omega,by go_num,by rw[ab E],by rw[ab F],ab J⟩
   case measure=>simp[intOf];omega
  .
   have L:k=n:=by omega
   subst L;rw[a0x (by rw[ab u];omega)];have G:=ae c;clear c;generalize z:dA k (aJ l).2.size (aJ l).1.size=EB at *
   generalize A:(aJ l).1=F1 at *
   generalize B:(aJ l).2=F2 at *
   have m:=ae (a0b z (a0b A B));clear z A B;go_wp2_with fail;refine(ab X _).mono ?_;rintro e x1 ⟨rfl,b⟩;have f:=ae (ai (ab G) b);clear b;go_wp2;go_ret;exact⟨by rw[(ab m).2.1,(ab m).2.2,(ab m).1];rfl,ab f⟩
theorem Tryz.infoHd:(prog.info? 116).map (fun i=>(i.zero,i.size,i.bytes))=some (some (.agg #[.int .i64 0,.int .i64 0,.int .i64 0,.int .i64 0,.int .i64 0,.string ⟨#[]⟩,.int .i64 0]),7,64):=by kernel_rfl
abbrev wy:=ce (α:=En×Nat) 116 7 oH
theorem Blk.grown{w':World}{b:Nat}{row:Option Nat}(h:Blk w b vs)(a:w.grownBy w' row)(c:some b≠row):Blk w' b vs:=
 ⟨a0m h.1 a.size,fun i v e=>⟨(World.cell?_of_block (a.block b h.1 c)).trans (h.2 i v e).1,(World.frozen?_of_block (a.block b h.1 c)).trans (h.2 i v e).2⟩⟩
theorem Bw(a:Option Addr)(cap n:Nat)(l:List En)(w:World)(hn:l.length=n)(h:uK w a n fun i=>vw (l.getD i default))(hm:n<=6)(Y:∀i,i<n->je (l.getD i default)=true) :
  Ds 56 #[.slice a n cap] w (.string ((aJ l).1++(aJ l).2++dA n (aJ l).2.size (aJ l).1.size)):=by
 have bk:(n:Int)<=6:=by omega
 have HZ:=ae (ng l (fun i U=>Y i (by omega)));have Hn:=ae hn;have Hm:=ae hm;have HS:=ae Y;have HR:=ae h;have J:=ae (fun W b c (h:uK W b n fun i=>oH (uT l i))=>DV b c n l W hn h hm Y);have hz:=ab HZ n (by omega);rw[a0x (by omega)]at hz;have M:Hid (((aJ l).2++dA n (aJ l).2.size (aJ l).1.size).size<=1000):=by
  show _<=_;rw[a0R,pL];omega
 have bs:((aJ l).1.size:Int)<=2400:=by omega
 have K:Hid ((aJ l).1++(aJ l).2++dA n (aJ l).2.size (aJ l).1.size=(aJ l).1++((aJ l).2++dA n (aJ l).2.size (aJ l).1.size)):=ByteArray.append_assoc;rw[ab K];clear hn h Y hm hz K;obtain⟨i0,U,a8,a9,ba⟩:=a0p Tryz.infoHd;go_enter func56,ntmps56;go_wp2_with fail
 go_loopw [3,4,6,9] (fun o q _ i wr=>∃k:Nat,k<=n/\i = .int .i64 k/\o = .string (aJ (l.take k)).1/\wy wr w.heap.size q (hdL l k)/\Below w.heap.size w wr) (fun _ _ _ i _=>n-(intOf i).toNat)
 case atStart=>exact⟨0,a0g _,rfl,rfl,ce.nil _ _,a0c _ _⟩
 case round=>
  obtain⟨k,hk,rfl,rfl,hq,m⟩:=hrel;by_cases r:k<n
  .
   obtain⟨g,rfl,hg,p⟩:=(ab HR).later m (by omega);have c0:=p k r 0 _ rfl;have c1:=p k r 1 _ rfl;have c2:=p k r 2 _ rfl;have c3:=p k r 3 _ rfl;have c4:=p k r 4 _ rfl;have c5:=p k r 5 _ rfl;have c6:=p k r 6 _ rfl;rw[a1w]at c0;have a5:Hid ((aJ (l.take (k+1))).1=(aJ (l.take k)).1++loE (l.getD k default)):=by show _=_;rw[kJ l k (by have:=ab Hn;omega)];rfl
   have a4:=ae (I8 l k);have a6:=ab HZ k (by have:=ab Hn;omega);have bd:((aJ (l.take k)).1.size:Int)<=2400:=by omega
   have G:=ab HS k r;obtain⟨f1,f2,f3⟩:=dm (n:=(l.getD k default).n) (t:=(l.getD k default).t) G;have hN:=(pn f3).2.2;have a3:=(tR G).2;have bc:((loE (l.getD k default)).size:Int)<=400:=by omega
   have T:aC 0 (l.getD k default).t.data.toList<4294967296:=jc _ _ (by omega);have a1:=fZ (l.getD k default).t;have S:(aW (l.getD k default).t).size<=100000:=by unfold aW;split<;>omega
   have a7:dC (l.getD k default).t<=8:=by unfold dC;split<;>omega
   have P:eN (l.getD k default)<4294967296:=by unfold eN;omega
   have HP:=ae (fun W=>qS (dC (l.getD k default).t) (eN (l.getD k default)) (aC 0 (l.getD k default).t.data.toList) (aW (l.getD k default).t).size (l.getD k default).t.size (l.getD k default).n (aW (l.getD k default).t) W (by omega) P T (by omega) (by omega) (by omega) S);have HX:Hid (eJ (dC (l.getD k default).t) (eN (l.getD k default)) (aC 0 (l.getD k default).t.data.toList) (aW (l.getD k default).t).size (l.getD k default).t.size (l.getD k default).n++aW (l.getD k default).t=loE (l.getD k default)):=rfl;rw[ab HX]at HP;have HK:=ae hk;have HQ:=ae hq;have C:=ae m;clear p G f1 f2 f3 hN a6 a3 T a1 S a7 P hk HX hq m;have D:Hid (oH (uT l k)=[.int .i64 (dC (l.getD k default).t:Nat),.int .i64 (eN (l.getD k default):Nat),.int .i64 (aC 0 (l.getD k default).t.data.toList:Nat),.int .i64 ((aW (l.getD k default).t).size:Nat),.int .i64 ((l.getD k default).t.size:Nat),.string (l.getD k default).n,.int .i64 ((aJ (l.take k)).1.size:Nat)]):=rfl;have E:=ae (Fo (uT l k));generalize bl:dC (l.getD k default).t=v0 at *
   generalize eN (l.getD k default)=v1 at *
   generalize aC 0 (l.getD k default).t.data.toList=v2 at *
   generalize (aW (l.getD k default).t).size=v3 at *
   generalize (l.getD k default).t.size=v4 at *
   generalize (l.getD k default).n=v5 at *
   generalize aW (l.getD k default).t=v6 at *
   generalize loE (l.getD k default)=LO at *
   generalize (aJ (l.take k)).1=F1 at *
   rw[ab D]at E;have X:Hid (Below wr.heap.size wr (wr.alloc (.cells #[.int .i64 (v0:Nat),.int .i64 (v1:Nat),.int .i64 (v2:Nat),.int .i64 (v3:Nat),.int .i64 (v4:Nat),.string v5,.string v6] 97))):=(a0c _ _).alloc (a0a _) _;have z:Hid (k+1<=maxLen/\(k+1)*64<=140737488355328):=by
    show _/\_;have:=ab Hm;unfold maxLen;omega
   have B:=ce.own (oK l k) ((ab HQ).later (ab X) (a0a _));have d:=ai (ab C) (ab X);have y:=d.size;have ac:=ae (ce.own (oK l k) (ab HQ));have A:=ae (aI wr #[.int .i64 (v0:Nat),.int .i64 (v1:Nat),.int .i64 (v2:Nat),.int .i64 (v3:Nat),.int .i64 (v4:Nat),.string v5,.string v6] 97);clear HQ C;obtain⟨W1,hW1⟩:∃x,wr.alloc (.cells #[.int .i64 (v0:Nat),.int .i64 (v1:Nat),.int .i64 (v2:Nat),.int .i64 (v3:Nat),.int .i64 (v4:Nat),.string v5,.string v6] 97)=x:=⟨_,rfl⟩;rw[hW1]at X B d y A;have a0:Hid (∀j,Value.ownBlock u4=some j->j<wr.heap.size):=fun j hj=>(a0w (ab ac) j hj).2;have p0:=(ab A).cell 0 _ rfl;have p1:=(ab A).cell 1 _ rfl;have p2:=(ab A).cell 2 _ rfl;have p3:=(ab A).cell 3 _ rfl;have p4:=(ab A).cell 4 _ rfl;have p5:=(ab A).cell 5 _ rfl;go_wp2_with (at_builtin;refine a0r _ rfl _ _ 110 rfl w.heap.size 116 i0 (.agg #[.int .i64 0,.int .i64 0,.int .i64 0,.int .i64 0,.int .i64 0,.string ⟨#[]⟩,.int .i64 0]) 7 64 underlying110 U a8 a9 ba rfl (by decide) _ _ _ rfl (a0j B _) ⟨W1.heap.size,0,none⟩ 1 1 [.int .i64 (v0:Nat),.int .i64 (v1:Nat),.int .i64 (v2:Nat),.int .i64 (v3:Nat),.int .i64 (v4:Nat),.string v5,.int .i64 (F1.size:Nat)] rfl rfl (iZ W1 _ _) (ab E) (ab z).1 (ab z).2 (an y _) ?_;intro v' x2 F s V;clear V;have f:=ae (Blk.grown (Blk.later (ab A) ((a0c _ _).alloc (a0a _) _) (ab A).1) s (fun e=>absurd (ab a0 _ e.symm) (a3K _)));have r0:=(ab f).cell 0 _ rfl;have r1:=(ab f).cell 1 _ rfl;have r2:=(ab f).cell 2 _ rfl;have r3:=(ab f).cell 3 _ rfl;have r4:=(ab f).cell 4 _ rfl;have r5:=(ab f).cell 5 _ rfl;have r6:=(ab f).cell 6 _ rfl);refine(ab HP _).mono ?_;rintro e x3 ⟨rfl,H⟩;have R:=aB (v:=u4) s B (a0a _) y d;have I:wy x2 w.heap.size v' (hdL l k++[uT l k]):=ce.snoc (oK l k) (by rw[ab D];exact F);rw[←ab a4]at I;have ad:=ae (I.later H (a0a _));have aa:=ae (ai R H);clear F s B I R H f r0 r1 r2 r3 r4 r5 r6 p0 p1 p2 p3 p4 p5 d y A X hW1;go_wp2;go_roundw
   case rel=>exact⟨k+1,by have:=ab HK;omega,by go_num,by rw[ab a5],ab ad,ab aa⟩
   case measure=>simp[intOf];omega
  .
   have a2:k=n:=by omega
   subst a2;rw[a0x (by rw[ab Hn];omega)];obtain⟨b,c,rfl,bb,_⟩:=hq.formN (oK l k);have HW:=ae (ui Fl (default,0) (oK l k) hq);have HB:=ae m;clear hq m;have al:Hid (uK wr b k fun i=>oH (uT l i)):=by
    intro h0;obtain⟨g,e,hg,hc⟩:=ab HW h0;exact⟨g,e,hg,fun i U j u hu=>hc i U j u (by show(oH ((hdL l k).getD i _))[j]?=_;rw[LK l k i _ U];exact hu)⟩
   have hE:=ab M;have be:(((aJ l).2++dA k (aJ l).2.size (aJ l).1.size).size:Int)<=1000:=by omega
   clear HW hE M HZ HS HR;generalize N:(aJ l).2++dA k (aJ l).2.size (aJ l).1.size=EN at *
   generalize O:(aJ l).1=F1 at *
   have L:=ae (a0b N O);clear N O;go_wp2_with fail;refine(ab J _ _ _ (ab al)).mono ?_;rintro e x1 ⟨rfl,Q⟩;have Z:=ae (ai (ab HB) Q);clear Q;go_wp2;go_ret;exact⟨by rw[←(ab L).1,←(ab L).2];rfl,ab Z⟩
theorem tg(a:Option Addr)(cap:Nat)(l:List En)(n:Nat)(x:l.length=n)(m:Int)(w:World)(h:jR w a l)(I:(n:Int)<=1048576)(r:(n:Int)<=(cap:Int))
  (C:∀i,i<n->(l.getD i default).n.size<=1048576/\((l.getD i default).t.size:Int)<=9223372036854775807) (B:w.cell? ⟨2,0,none⟩=some (.int .i64 m)) (A:ox w) (z:dH w) :
  Ds 36 #[.slice a n cap] w (.string (xZ l)):=by
 have g:=ae (uW a cap l n x m w h I r C B A);cases s:dD l
 .
  have HP:Hid (xZ l=⟨#[]⟩):=by simp[Hid,xZ,s]
  rw[s]at g;clear h C B A z;go_enter func36,ntmps36;go_wp2_with fail;refine(ab g).mono ?_;rintro e x1 ⟨rfl,f⟩;have d:=ae f;clear f;go_wp2;go_ret;exact⟨by rw[ab HP];rfl,ab d⟩
 .
  obtain⟨o,H⟩:=jQ s;have HP:Hid (xZ l=(aJ l).1++(aJ l).2++dA n (aJ l).2.size (aJ l).1.size):=by
   show _=_;rw[xZ,a0e s,x]
  have j:Hid (∀i,i<n->je (l.getD i default)=true):=fun i J=>o i (by omega);have u:=ae x;have D:Hid (n<=6):=by show _<=_;omega
  have G:=ae h;have F:=ae z;rw[s]at g;clear h C B A z o H x;go_enter func36,ntmps36;go_wp2_with fail;refine(ab g).mono ?_;rintro e x1 ⟨rfl,f⟩;have d:=ae f;clear f g;go_wp2_with fail;refine(BX a cap n l _ (ab u) ((ab G).later (ab d)) (ab D) (ab j) ((ab F).later (ab d))).mono ?_;rintro e x2 ⟨v,rfl,hq,p⟩;obtain⟨b,c,rfl,_,_⟩:=hq.formN (ab u);have k:=ae (ai (ab d) p);have E:=ae (ui Fp default (ab u) hq);clear hq p d;go_wp2_with fail;refine(Bw b c n l _ (ab u) (ab E) (ab D) (ab j)).mono ?_;rintro e x3 ⟨rfl,q⟩;have y:=ae (ai (ab k) q);rw[←ab HP];clear q k E;go_wp2;go_ret;exact⟨rfl,ab y⟩
end Go.Proofs.YtchidddpplangaaGreatDoor
