/- Of what the proof is made: 8 texts, one behind the other. -/
import Derived.Test.YtkdlcomfpffhhaaGreatDoorM40
import Derived.Test.YtkdlcomfpffhhaaGreatDoorM27
import Derived.Test.YtkdlcomfpffhhaaGreatDoorM26
import Derived.Test.YtkdlcomfpffhhaaGreatDoorM33
import Derived.Test.YtkdlcomfpffhhaaGreatDoorM3
import Derived.Lib.QuietBelow
set_option maxRecDepth 100000
set_option linter.unusedSimpArgs false
set_option linter.unusedVariables false
set_option maxHeartbeats 6400000
namespace Go.Proofs.YtkdlcomfpffhhaaGreatDoor
open Go.Proofs.Tryz
open Go.RowKit Corb
variable {vs:List Value}{w:World}
def jg(how st crc pk lg:Nat)(nm:ByteArray)(pl:Nat):ByteArray:=(⟨#[80,75,1,2]⟩:ByteArray)++az (leS 2 20)++dI how st crc pk lg nm.size++(⟨#[0,0,0,0,0,0,0,0,0,0]⟩:ByteArray)++az (leS 4 pl)++nm
theorem fU(how st a b lg:Nat)(nm:ByteArray)(pl:Nat):(jg how st a b lg nm pl).size=46+nm.size:=by
 simp only[jg,a0N,fg,bu,aH];have c:(⟨#[80,75,1,2]⟩:ByteArray).size=4:=rfl;have h2:(⟨#[0,0,0,0,0,0,0,0,0,0]⟩:ByteArray).size=10:=rfl;omega
def ec(many long pl:Nat):ByteArray:=(⟨#[80,75,5,6]⟩:ByteArray)++az ([0,0,many,many].flatMap (leS 2))++az (leS 4 long)++az (leS 4 pl)++az ([0].flatMap (leS 2))
theorem oF(many long pl:Nat):(ec many long pl).size=22:=by
 simp only[ec,a0N,bu,aH,a1c,a2s,a0o,a04];have a:(⟨#[80,75,5,6]⟩:ByteArray).size=4:=rfl;omega
def eN(e:En):Nat:=(stN e.y e.mo e.d e.h e.mi e.s).toNat
def loE(e:En):ByteArray:=mM e.n e.t (eN e)
def heE(e:En)(p:Nat):ByteArray:=jg (gp e.t) (eN e) (aL 0 e.t.data.toList) (bV e.t).size e.t.size e.n p
def Nx(s:ByteArray×ByteArray)(e:En):ByteArray×ByteArray:=(s.1++loE e,s.2++heE e s.1.size)
def cx(l:List En):ByteArray×ByteArray:=l.foldl Nx (⟨#[]⟩,⟨#[]⟩)
theorem Ki:cx []=(⟨#[]⟩,⟨#[]⟩):=rfl
theorem pD(l:List En)(k:Nat)(h:k<l.length):cx (l.take (k+1))=Nx (cx (l.take k)) (l.getD k default):=by
 rw[j6 l default k h,cx,a3p];rfl
theorem yr{e:En}(k:jk e=true):30<=(loE e).size/\(loE e).size<=400:=by
 obtain⟨f1,f2,f3⟩:=ee (n:=e.n) (t:=e.t) k;have a:=jI e.t;have hb:(bV e.t).size<=300:=by unfold bV;split<;>omega
 have:(loE e).size=30+e.n.size+(bV e.t).size:=by simp only[loE,mM,a0N,ry]
 omega
theorem xK(e:En)(p:Nat):(heE e p).size=46+e.n.size:=fU _ _ _ _ _ _ _
theorem pC(l:List En)(h:∀i,i<l.length->jk (l.getD i default)=true):∀k,k<=l.length->(cx (l.take k)).1.size<=400*k/\(cx (l.take k)).2.size<=100*k
 | 0,_=>by rw[List.take_zero,Ki];exact⟨a0h _,a0h _⟩
 | k+1,hk=>by
  have ih:=pC l h k (by omega);rw[pD l k (by omega)];have a:=yr (h k (by omega));have h2:=(ee (n:=(l.getD k default).n) (t:=(l.getD k default).t) (h k (by omega))).1;have b:=xK (l.getD k default) (cx (l.take k)).1.size;simp only[Nx,a0N];omega
theorem gW{l:List En}(h:dS l=true):(∀i,i<l.length->jk (l.getD i default)=true)/\l.length<=6:=by
 simp only[dS,a0n,a0E,a06]at h;exact⟨fun i a=>((lJ l i).mp (h.1 i (List.mem_range.mpr a))).1,h.2⟩
def wH(l:List En):ByteArray:=if dS l then(cx l).1++(cx l).2++ec l.length (cx l).2.size (cx l).1.size else⟨#[]⟩
theorem GZ:az (leS 4 33639248)=(⟨#[80,75,1,2]⟩:ByteArray):=by decide +kernel
theorem Hi:az (leS 4 101010256)=(⟨#[80,75,5,6]⟩:ByteArray):=by decide +kernel
theorem GT:az (leS 2 0)++az (leS 2 0)++az (leS 2 0)++az (leS 4 0)=(⟨#[0,0,0,0,0,0,0,0,0,0]⟩:ByteArray):=by decide +kernel
def NQ(q:En×Nat):List Value:=[.int .i64 (gp q.1.t:Nat),.int .i64 (eN q.1:Nat),.int .i64 (aL 0 q.1.t.data.toList:Nat),.int .i64 ((bV q.1.t).size:Nat),.int .i64 (q.1.t.size:Nat),.string q.1.n,.int .i64 (q.2:Nat)]
theorem ia(w:World)(a:Array Value)(t:TypeId):∀(j:Nat) (u:Value),a.toList[j]?=some u->(w.alloc (.cells a t)).cell? ((⟨w.heap.size,0,none⟩:Addr).add j)=some u:=by
 intro j u h;have:=(aP w a t).cell j u h;have e:((⟨w.heap.size,0,none⟩:Addr).add j)=⟨w.heap.size,j,none⟩:=by
  unfold Addr.add
  split
  . rename_i h0;rw[h0]
  . simp
 rw[e];exact this
theorem IA(many long pl:Nat):az (leS 4 101010256)++az (leS 2 0)++az (leS 2 0)++az (leS 2 many)++az (leS 2 many)++az (leS 4 long)++az (leS 4 pl)++az (leS 2 0)=ec many long pl:=by
 unfold ec;rw[Hi];apply ii;simp[az,a1c]
theorem EL(n T A4:ByteArray):az (leS 4 33639248)++az (leS 2 20)++T++az (leS 2 0)++az (leS 2 0)++az (leS 2 0)++az (leS 4 0)++A4++n=(⟨#[80,75,1,2]⟩:ByteArray)++az (leS 2 20)++T++(⟨#[0,0,0,0,0,0,0,0,0,0]⟩:ByteArray)++A4++n:=by
 rw[GZ,←GT];simp only[ByteArray.append_assoc]
theorem uA(many long pl:Nat)(w:World)(x:many<65536)(y:long<4294967296)(h2:pl<4294967296) :
  CD 73 #[.int .i64 (many:Nat),.int .i64 (long:Nat),.int .i64 (pl:Nat)] w (.string (ec many long pl)):=by
 have s:Hid (∀W,CD 103 #[.int .i64 101010256,.int .i64 4] W (.string (az (leS 4 101010256)))):=fun W=>aJ 101010256 4 W (by omega) (by omega);have a:Hid (∀W,CD 103 #[.int .i64 0,.int .i64 2] W (.string (az (leS 2 0)))):=fun W=>aJ 0 2 W (by omega) (by omega);have j:Hid (∀W,CD 103 #[.int .i64 (many:Nat),.int .i64 2] W (.string (az (leS 2 many)))):=fun W=>aJ many 2 W (by omega) (by omega);have t:Hid (∀W,CD 103 #[.int .i64 (long:Nat),.int .i64 4] W (.string (az (leS 4 long)))):=fun W=>aJ long 4 W (by omega) (by omega);have u:Hid (∀W,CD 103 #[.int .i64 (pl:Nat),.int .i64 4] W (.string (az (leS 4 pl)))):=fun W=>aJ pl 4 W (by omega) (by omega);have v:=af (IA many long pl);have zz:∀many V,many<=4->((az (leS many V)).size:Int)<=4:=fun many V z=>by rw[bu,aH];omega
 have z1:=zz 4 101010256 (by omega);have z2:=zz 2 0 (by omega);have z3:=zz 2 many (by omega);have z4:=zz 4 long (by omega);have z5:=zz 4 pl (by omega);generalize az (leS 4 101010256)=A1 at *
 generalize az (leS 2 0)=A2 at *
 generalize az (leS 2 many)=A3 at *
 generalize az (leS 4 long)=A4 at *
 generalize az (leS 4 pl)=A5 at *
 generalize ec many long pl=RES at *
 clear x y h2 zz;go_enter func73,ntmps73;go_wp2_with fail;refine(ae s _).mono ?_;rintro e x1 ⟨rfl,b⟩;go_wp2_with fail;refine(ae a _).mono ?_;rintro e x2 ⟨rfl,k⟩;have c:=am b k;clear b k;go_wp2_with fail;refine(ae a _).mono ?_;rintro e x3 ⟨rfl,l⟩;have d:=am c l;clear c l;go_wp2_with fail;refine(ae j _).mono ?_;rintro e x4 ⟨rfl,m⟩;have f:=am d m;clear d m;go_wp2_with fail;refine(ae j _).mono ?_;rintro e x5 ⟨rfl,n⟩;have g:=am f n;clear f n;go_wp2_with fail;refine(ae t _).mono ?_;rintro e x6 ⟨rfl,o⟩;have h:=am g o;clear g o;go_wp2_with fail;refine(ae u _).mono ?_;rintro e x7 ⟨rfl,p⟩;have i:=am h p;clear h p;go_wp2_with fail;refine(ae a _).mono ?_;rintro e x8 ⟨rfl,q⟩;have r:=am i q;clear i q;go_wp2;go_ret;exact⟨by rw[←ae v];rfl,r⟩
theorem tH(n t:ByteArray)(y mo d h mi s:Int)(N pl:Nat)(w:World)(k:(0<=y/\y<=100000)/\(0<=mo/\mo<=100)/\(0<=d/\d<=100)/\(0<=h/\h<=100)/\(0<=mi/\mi<=100) /\ -100<=s/\s<=100)
  (m:(((((y-1980)*16+mo)*32+d)*32+h)*64+mi)*32+Int.tdiv s 2=(N:Int)) (a:N<4294967296) (o:n.size<65536) (p:t.size<=1048576) (J:pl<4294967296) :
  CD 107 #[.agg #[.string n,.int .i64 y,.int .i64 mo,.int .i64 d,.int .i64 h,.int .i64 mi,.int .i64 s,.string t],.int .i64 (pl:Nat)] w (.string (jg (gp t) N (aL 0 t.data.toList) (bV t).size t.size n pl)):=by
 have b:prog.follows .mixedOrders=true:=by kernel_rfl
 have C:=af (fun W=>nJ n t y mo d h mi s N W k m a o p);have D:Hid (∀W,CD 103 #[.int .i64 33639248,.int .i64 4] W (.string (az (leS 4 33639248)))):=fun W=>aJ 33639248 4 W (by omega) (by omega);have F:Hid (∀W,CD 103 #[.int .i64 20,.int .i64 2] W (.string (az (leS 2 20)))):=fun W=>aJ 20 2 W (by omega) (by omega);have A:Hid (∀W,CD 103 #[.int .i64 0,.int .i64 2] W (.string (az (leS 2 0)))):=fun W=>aJ 0 2 W (by omega) (by omega);have B:Hid (∀W,CD 103 #[.int .i64 0,.int .i64 4] W (.string (az (leS 4 0)))):=fun W=>aJ 0 4 W (by omega) (by omega);have E:Hid (∀W,CD 103 #[.int .i64 (pl:Nat),.int .i64 4] W (.string (az (leS 4 pl)))):=fun W=>aJ pl 4 W (by omega) (by omega);have I:(n.size:Int)<65536:=by omega
 have G:=af (EL n (dI (gp t) N (aL 0 t.data.toList) (bV t).size t.size n.size) (az (leS 4 pl)));unfold jg;have zz:∀many V,many<=4->((az (leS many V)).size:Int)<=4:=fun many V S=>by rw[bu,aH];omega
 have z1:=zz 4 33639248 (by omega);have z2:=zz 2 20 (by omega);have z3:((dI (gp t) N (aL 0 t.data.toList) (bV t).size t.size n.size).size:Int)<=26:=by rw[fg];omega
 have z4:=zz 2 0 (by omega);have z5:=zz 4 0 (by omega);have z6:=zz 4 pl (by omega);generalize (⟨#[80,75,1,2]⟩:ByteArray)++az (leS 2 20)++dI (gp t) N (aL 0 t.data.toList) (bV t).size t.size n.size++(⟨#[0,0,0,0,0,0,0,0,0,0]⟩:ByteArray)++az (leS 4 pl)++n=RES at *
 generalize az (leS 4 33639248)=A1 at *
 generalize az (leS 2 20)=A2 at *
 generalize dI (gp t) N (aL 0 t.data.toList) (bV t).size t.size n.size=A3 at *
 generalize az (leS 2 0)=A4 at *
 generalize az (leS 4 0)=A5 at *
 generalize az (leS 4 pl)=A6 at *
 have T0':Hid (mn w n y mo d h mi s t (w.alloc (.cells #[.string n,.int .i64 y,.int .i64 mo,.int .i64 d,.int .i64 h,.int .i64 mi,.int .i64 s,.string t] 32))):=⟨(a0c _ _).alloc (a0a _) _,by simp,by simp,by simp,by simp,by simp,by simp,by simp,by simp,by simp⟩;clear k m a o p J zz;go_enter func107,ntmps107;go_wp2_with fail;obtain⟨W1,hW1⟩:∃x,w.alloc (.cells #[.string n,.int .i64 y,.int .i64 mo,.int .i64 d,.int .i64 h,.int .i64 mi,.int .i64 s,.string t] 32)=x:=⟨_,rfl⟩;rw[hW1]at T0';rw[hW1];have T1:=T0';clear T0' hW1;obtain⟨c0,c1,c2,c3,c4,i,j,l⟩:=(ae T1).2.2;have k0:=cell_regrown c0;have K:=cell_regrown c1;have L:=cell_regrown c2;have M:=cell_regrown c3;have O:=cell_regrown c4;have P:=cell_regrown i;have Q:=cell_regrown j;have R:=cell_regrown l;have q:=fun d os=>Calls.regrown_of (w:=W1) (d:=d) (os:=os) (ae D _);have r:=fun d os=>Calls.regrown_of (w:=W1) (d:=d) (os:=os) (ae F _);have u:=fun d os=>Calls.regrown_of (w:=W1) (d:=d) (os:=os) (ae C _);have e:=fun d os=>Calls.regrown_of (w:=W1) (d:=d) (os:=os) (ae A _);have v:=fun d os=>Calls.regrown_of (w:=W1) (d:=d) (os:=os) (ae B _);have z:=fun d os=>Calls.regrown_of (w:=W1) (d:=d) (os:=os) (ae E _);have n1:¬ 9223372036854775807<A1.size+A2.size:=by omega
 have n2:¬ 9223372036854775807<A1.size+A2.size+A3.size:=by omega
 have n3:¬ 9223372036854775807<A1.size+A2.size+A3.size+A4.size:=by omega
 have n4:¬ 9223372036854775807<A1.size+A2.size+A3.size+A4.size+A4.size:=by omega
 have n5:¬ 9223372036854775807<A1.size+A2.size+A3.size+A4.size+A4.size+A4.size:=by omega
 have n6:¬ 9223372036854775807<A1.size+A2.size+A3.size+A4.size+A4.size+A4.size+A5.size:=by omega
 have n7:¬ 9223372036854775807<A1.size+A2.size+A3.size+A4.size+A4.size+A4.size+A5.size+A6.size:=by omega
 have n8:¬ 9223372036854775807<A1.size+A2.size+A3.size+A4.size+A4.size+A4.size+A5.size+A6.size+n.size:=by omega
 refine wp_region_quiet_below b (by kernel_rfl) ?_
 quiet_step (exact q _ _)
 quiet_step (exact r _ _)
 quiet_step (fail)
 quiet_step (fail)
 quiet_step (exact u _ _)
 quiet_step (fail)
 quiet_step (exact e _ _)
 quiet_step (fail)
 quiet_step (exact e _ _)
 quiet_step (fail)
 quiet_step (exact e _ _)
 quiet_step (fail)
 quiet_step (exact v _ _)
 quiet_step (fail)
 quiet_step (fail)
 quiet_step (exact z _ _)
 quiet_step (fail)
 quiet_step (fail)
 quiet_step (fail)
 quiet_step (fail)
 quiet_step (fail)
 refine a1p ?_;intro zw g;obtain⟨⟨H,osq⟩,c⟩:=g;have f:=below_regrown W1 H osq;rw[←c]at f;have T9:=af (am (ae T1).1 f);clear n1 n2 n3 n4 n5 n6 n7 n8 c f k0 K L M O P Q R q r u e v z c0 c1 c2 c3 c4 i j l;go_wp2;go_ret;exact⟨by rw[←ae G];rfl,ae T9⟩
theorem EK(a:Option Addr)(cap n:Nat)(l:List En)(w:World)(U:l.length=n)(h:lT w a l)(hm:n<=6)(O:∀i,i<n->jk (l.getD i default)=true) :
  CD 75 #[.slice a n cap] w (.string ((cx l).1++(cx l).2++ec n (cx l).2.size (cx l).1.size)):=by
 have aa:(n:Int)<=6:=by omega
 have Q:=af (pC l (fun i hi=>O i (by omega)));have u:=af U;have Z:=af O;have Y:=af h;have V:=ae Q n (by omega);rw[a0D (by omega)]at V;have X:=af (fun W=>uA n (cx l).2.size (cx l).1.size W (by omega) (by omega) (by omega));have ad:((cx l).1.size:Int)<=2400:=by omega
 have al:((cx l).2.size:Int)<=600:=by omega
 have an:((ec n (cx l).2.size (cx l).1.size).size:Int)<=22:=by rw[oF];omega
 clear U h O hm V;go_enter func75,ntmps75;go_wp2_with fail
 go_loopw [3,4,5] (fun o q i wr=>∃k:Nat,k<=n/\i = .int .i64 k/\o = .string (cx (l.take k)).1/\q = .string (cx (l.take k)).2/\Below w.heap.size w wr) (fun _ _ i _=>n-(intOf i).toNat)
 case atStart=>exact⟨0,a0h _,rfl,rfl,rfl,a0c _ _⟩
 case round=>
  obtain⟨k,S,rfl,rfl,rfl,c⟩:=hrel;by_cases N:k<n
  .
   obtain⟨g,o,rfl,j,D⟩:=(ae Y).later c (by have:=ae u;omega);obtain⟨c0,c1,c2,c3,c4,c5,c6,c7⟩:=D k (by have:=ae u;omega);have E:Hid ((cx (l.take (k+1))).1=(cx (l.take k)).1++loE (l.getD k default)):=by show _=_;rw[pD l k (by have:=ae u;omega)];rfl
   have F:Hid ((cx (l.take (k+1))).2=(cx (l.take k)).2++heE (l.getD k default) (cx (l.take k)).1.size):=by show _=_;rw[pD l k (by have:=ae u;omega)];rfl
   have P:=ae Q k (by have:=ae u;omega);have ab:((cx (l.take k)).1.size:Int)<=2400:=by omega
   have ac:((cx (l.take k)).2.size:Int)<=600:=by omega
   have r:=ae Z k N;obtain⟨f1,f2,f3⟩:=ee (n:=(l.getD k default).n) (t:=(l.getD k default).t) r;obtain⟨g1,g2,g3,_⟩:=JM f3;have M:=(yr r).2;have T:((loE (l.getD k default)).size:Int)<=400:=by omega
   have K:=xK (l.getD k default) (cx (l.take k)).1.size;have R:((heE (l.getD k default) (cx (l.take k)).1.size).size:Int)<=100:=by omega
   have H:=af (fun W=>tH (l.getD k default).n (l.getD k default).t (l.getD k default).y (l.getD k default).mo (l.getD k default).d (l.getD k default).h (l.getD k default).mi (l.getD k default).s (eN (l.getD k default)) (cx (l.take k)).1.size W g1 g2 g3 (by omega) (by omega) (by omega));have I:=af (fun W=>yf (l.getD k default).n (l.getD k default).t (l.getD k default).y (l.getD k default).mo (l.getD k default).d (l.getD k default).h (l.getD k default).mi (l.getD k default).s (eN (l.getD k default)) W g1 g2 g3 (by omega) (by omega));have v:Hid (jg (gp (l.getD k default).t) (eN (l.getD k default)) (aL 0 (l.getD k default).t.data.toList) (bV (l.getD k default).t).size (l.getD k default).t.size (l.getD k default).n (cx (l.take k)).1.size=heE (l.getD k default) (cx (l.take k)).1.size):=rfl;have x:Hid (mM (l.getD k default).n (l.getD k default).t (eN (l.getD k default))=loE (l.getD k default)):=rfl;rw[ae v]at H;rw[ae x]at I;have G:=af (a0b c S);clear D r f1 f2 f3 g1 g2 g3 P M K c S v x;generalize loE (l.getD k default)=LO at *
   generalize heE (l.getD k default) (cx (l.take k)).1.size=HE at *
   generalize (cx (l.take k)).1=F1 at *
   generalize (cx (l.take k)).2=F2 at *
   generalize l.getD k default=en at *
   go_wp2_with fail;refine(ae H _).mono ?_;rintro e x1 ⟨rfl,b⟩;have f:=af (am (ae G).1 b);have d0:=(b.cell (p:=⟨g,o+k*8,none⟩) j).trans c0;have d1:=(b.cell (p:=⟨g,o+k*8+1,none⟩) j).trans c1;have d2:=(b.cell (p:=⟨g,o+k*8+2,none⟩) j).trans c2;have d3:=(b.cell (p:=⟨g,o+k*8+3,none⟩) j).trans c3;have d4:=(b.cell (p:=⟨g,o+k*8+4,none⟩) j).trans c4;have d5:=(b.cell (p:=⟨g,o+k*8+5,none⟩) j).trans c5;have d6:=(b.cell (p:=⟨g,o+k*8+6,none⟩) j).trans c6;have d7:=(b.cell (p:=⟨g,o+k*8+7,none⟩) j).trans c7;clear b H;go_wp2_with fail;refine(ae I _).mono ?_;rintro e x2 ⟨rfl,C⟩;have J:=af (am (ae f) C);clear C f I;go_wp2;go_roundw
   case rel=>exact⟨k+1,by have:=(ae G).2;omega,by go_num,by rw[ae E],by rw[ae F],ae J⟩
   case measure=>simp[intOf];omega
  .
   have L:k=n:=by omega
   subst L;rw[a0D (by rw[ae u];omega)];have G:=af c;clear c;generalize z:ec k (cx l).2.size (cx l).1.size=EB at *
   generalize A:(cx l).1=F1 at *
   generalize B:(cx l).2=F2 at *
   have m:=af (a0b z (a0b A B));clear z A B;go_wp2_with fail;refine(ae X _).mono ?_;rintro e x1 ⟨rfl,b⟩;have f:=af (am (ae G) b);clear b;go_wp2;go_ret;exact⟨by rw[(ae m).2.1,(ae m).2.2,(ae m).1];rfl,ae f⟩
def BlS(w:World)(vs:List Value)(W:World):Prop:=Below w.heap.size w W/\Blk W w.heap.size vs
theorem BlS.later{W W':World}(k:BlS w vs W)(hb:Below W.heap.size W W'):BlS w vs W':=⟨am k.1 hb,k.2.later hb k.2.1⟩
theorem BlS.drew{W:World}(k:BlS w vs W):BlS w vs W.drew:=⟨k.1.drew,k.2.drew⟩
theorem Dm(W:World)(x:Nat):bn (W.alloc (.cells #[.int .i64 ((x:Nat):Int)] 3)) (some ⟨W.heap.size,0,none⟩) (cJ [x]):=by
 intro _;refine⟨W.heap.size,0,rfl,by simp,fun i a=>?_⟩
 match i,a with
 | 0,_=>simp[cJ]
theorem Ic(W:World)(x y z u:Nat):bn (W.alloc (.cells #[.int .i64 ((x:Nat):Int),.int .i64 ((y:Nat):Int),.int .i64 ((z:Nat):Int),.int .i64 ((u:Nat):Int)] 3)) (some ⟨W.heap.size,0,none⟩) (cJ [x,y,z,u]):=by
 intro _;refine⟨W.heap.size,0,rfl,by simp,fun i a=>?_⟩
 match i,a with
 | 0,_=>simp[cJ]
 | 1,_=>simp[cJ]
 | 2,_=>simp[cJ]
 | 3,_=>simp[cJ]
theorem yj(how st b f lg pl:Nat)(nm:ByteArray)(w:World)(m:how<65536)(n:st<4294967296)(h2:b<4294967296)(o:f<4294967296)(p:lg<4294967296)(q:nm.size<65536)(r:pl<4294967296) :
  CD 88 #[.agg #[.int .i64 (how:Nat),.int .i64 (st:Nat),.int .i64 (b:Nat),.int .i64 (f:Nat),.int .i64 (lg:Nat),.string nm,.int .i64 (pl:Nat)]] w (.string (jg how st b f lg nm pl)):=by
 have j:prog.follows .mixedOrders=true:=by kernel_rfl
 have t:Hid (∀g W,bn W (some ⟨g,0,none⟩) (cJ [20])->CD 89 #[.slice (some ⟨g,0,none⟩) 1 1] W (.string (az (leS 2 20)))):=fun g W h=>by
  have:=ez (some ⟨g,0,none⟩) 1 1 [20] W rfl h (by decide) (by decide);rw[show([20]:List Nat).flatMap (leS 2)=leS 2 20 by simp]at this;exact this
 have CT:Hid (∀W,CD 130 #[.agg #[.int .i64 (how:Nat),.int .i64 (st:Nat),.int .i64 (b:Nat),.int .i64 (f:Nat),.int .i64 (lg:Nat),.string nm]] W (.string (dI how st b f lg nm.size))):=fun W=>zG how st b f lg nm W m n h2 o p q;have s:Hid (∀W,CD 90 #[.int .i64 (pl:Int)] W (.string (az (leS 4 pl)))):=fun W=>dW pl W r;have z0:((az (leS 2 20)).size:Int)<=100:=by rw[bu,aH];omega
 have z1:((dI how st b f lg nm.size).size:Int)<=100:=by rw[fg];omega
 have z2:((az (leS 4 pl)).size:Int)<=100:=by rw[bu,aH];omega
 have u:(nm.size:Int)<65536:=by omega
 unfold jg;generalize az (leS 2 20)=A0 at *
 generalize dI how st b f lg nm.size=A1 at *
 generalize az (leS 4 pl)=A2 at *
 have T0':Hid (BlS w [.int .i64 (how:Nat),.int .i64 (st:Nat),.int .i64 (b:Nat),.int .i64 (f:Nat),.int .i64 (lg:Nat),.string nm,.int .i64 (pl:Nat)] (w.alloc (.cells #[.int .i64 (how:Nat),.int .i64 (st:Nat),.int .i64 (b:Nat),.int .i64 (f:Nat),.int .i64 (lg:Nat),.string nm,.int .i64 (pl:Nat)] 95))):=⟨(a0c _ _).alloc (a0a _) _,aP w _ _⟩;clear m n h2 o p q r;go_enter func88,ntmps88;go_wp2_with fail;obtain⟨W0,hW0⟩:∃x,w.alloc (.cells #[.int .i64 (how:Nat),.int .i64 (st:Nat),.int .i64 (b:Nat),.int .i64 (f:Nat),.int .i64 (lg:Nat),.string nm,.int .i64 (pl:Nat)] 95)=x:=⟨_,rfl⟩;rw[hW0]at T0';rw[hW0];have T0:=T0';clear T0' hW0;refine a0H (S:=BlS w [.int .i64 (how:Nat),.int .i64 (st:Nat),.int .i64 (b:Nat),.int .i64 (f:Nat),.int .i64 (lg:Nat),.string nm,.int .i64 (pl:Nat)]) j (ae T0).drew (fun c=>?_);refine ag 3 (.pointer (some ⟨w.heap.size,0,none⟩)) rfl (by kernel_rfl) (fun _ _ _ h=>h) rfl (fun W a=>by go_simp) c ?_;refine ag 4 (.agg #[.int .i64 (how:Nat),.int .i64 (st:Nat),.int .i64 (b:Nat),.int .i64 (f:Nat),.int .i64 (lg:Nat),.string nm]) rfl (by kernel_rfl) (fun _ _ _ h=>h) rfl (fun W a=>by have s0:=a.2.cell 0 _ rfl;have s1:=a.2.cell 1 _ rfl;have s2:=a.2.cell 2 _ rfl;have s3:=a.2.cell 3 _ rfl;have s4:=a.2.cell 4 _ rfl;have s5:=a.2.cell 5 _ rfl;go_simp) c ?_;refine ag 8 (.pointer (some ⟨w.heap.size,6,none⟩)) rfl (by kernel_rfl) (fun _ _ _ h=>h) rfl (fun W a=>by go_simp) c ?_;refine ag 9 (.int .i64 (pl:Nat)) rfl (by kernel_rfl) (fun _ _ _ h=>h) rfl (fun W a=>by have s6:=a.2.cell 6 _ rfl;go_simp) c ?_;refine ag 12 (.pointer (some ⟨w.heap.size,0,none⟩)) rfl (by kernel_rfl) (fun _ _ _ h=>h) rfl (fun W a=>by go_simp) c ?_;refine ag 13 (.pointer (some ⟨w.heap.size,5,none⟩)) rfl (by kernel_rfl) (fun _ _ _ h=>h) rfl (fun W a=>by go_simp) c ?_;refine ag 14 (.string nm) rfl (by kernel_rfl) (fun _ _ _ h=>h) rfl (fun W a=>by have s5:=a.2.cell 5 _ rfl;go_simp) c ?_;have T1:=af ((ae T0).drew);generalize W0.drew=W1 at *
 refine ah 0 (by kernel_rfl) rfl fun K d=>?_;go_simp;have i:Below W1.heap.size W1 (W1.alloc (.cells #[.int .i64 20] 3)):=(a0c _ _).alloc (a0a _) _;have T2:=af ((ae T1).later i);have l:Hid (bn (W1.alloc (.cells #[.int .i64 20] 3)) (some ⟨W1.heap.size,0,none⟩) (cJ [20])):=Dm _ _;refine a0f d _ _ (ae T2) (fun c=>?_);clear d K i T1;obtain⟨g,hg⟩:∃x,W1.heap.size=x:=⟨_,rfl⟩;obtain⟨W2,hW2⟩:∃x,W1.alloc (.cells #[.int .i64 20] 3)=x:=⟨_,rfl⟩;rw[hW2]at T2 c;rw[hg,hW2]at l;rw[hg,hW2];refine ah 1 (by kernel_rfl) rfl fun K d=>?_;go_simp;go_at_call 89;refine(ae t g W2 (ae l)).mono ?_;rintro e W3 ⟨rfl,i⟩;have T3:=af ((ae T2).later i);refine a0f d _ _ (ae T3) (fun c=>?_);clear d K i T2;refine ag 2 (.string ((⟨#[80,75,1,2]⟩:ByteArray)++A0)) rfl (by kernel_rfl) (fun _ _ _ h=>h) rfl (fun W a=>by go_simp<;>omega) c ?_;refine ah 5 (by kernel_rfl) rfl fun K d=>?_;go_simp;go_at_call 130;refine(ae CT W3).mono ?_;rintro e W4 ⟨rfl,i⟩;have T4:=af ((ae T3).later i);refine a0f d _ _ (ae T4) (fun c=>?_);clear d K i T3;refine ag 6 (.string ((⟨#[80,75,1,2]⟩:ByteArray)++A0++A1)) rfl (by kernel_rfl) (fun _ _ _ h=>h) rfl (fun W a=>by go_simp<;>omega) c ?_;refine ag 7 (.string ((⟨#[80,75,1,2]⟩:ByteArray)++A0++A1++(⟨#[0,0,0,0,0,0,0,0,0,0]⟩:ByteArray))) rfl (by kernel_rfl) (fun _ _ _ h=>h) rfl (fun W a=>by go_simp<;>omega) c ?_;refine ah 10 (by kernel_rfl) rfl fun K d=>?_;go_simp;go_at_call 90;refine(ae s W4).mono ?_;rintro e W5 ⟨rfl,i⟩;have T5:=af ((ae T4).later i);refine a0f d _ _ (ae T5) (fun c=>?_);clear d K i T4;refine ag 11 (.string ((⟨#[80,75,1,2]⟩:ByteArray)++A0++A1++(⟨#[0,0,0,0,0,0,0,0,0,0]⟩:ByteArray)++A2)) rfl (by kernel_rfl) (fun _ _ _ h=>h) rfl (fun W a=>by go_simp<;>omega) c ?_;refine ag 15 (.string ((⟨#[80,75,1,2]⟩:ByteArray)++A0++A1++(⟨#[0,0,0,0,0,0,0,0,0,0]⟩:ByteArray)++A2++nm)) rfl (by kernel_rfl) (fun _ _ _ h=>h) rfl (fun W a=>by go_simp<;>omega) c ?_;refine ah 16 (by kernel_rfl) rfl fun K d=>?_;go_simp;refine a0f d _ _ (ae T5) (fun c=>?_);clear d K;refine a0u (by kernel_rfl) ?_ _;clear c;generalize k:(⟨#[80,75,1,2]⟩:ByteArray)++A0++A1++(⟨#[0,0,0,0,0,0,0,0,0,0]⟩:ByteArray)++A2++nm=AA;go_wp2;go_ret;exact⟨by rw[←k];rfl,(ae T5).1⟩
def DL(w:World)(a:Option Addr)(n:Nat)(f:Nat->List Value):Prop:=0<n->∃g,a=some ⟨g,0,none⟩/\g<w.heap.size/\∀i,i<n->∀j u,(f i)[j]?=some u->w.cell? ⟨g,i*7+j,none⟩=some u
theorem DL.later{w':World}{a:Option Addr}{n:Nat}{f:Nat->List Value}(h:DL w a n f)(hb:Below w.heap.size w w'):DL w' a n f:=by
 intro c;obtain⟨g,e,b,d⟩:=h c;exact⟨g,e,a0i b hb.size,fun i k j u l=>(hb.cell (p:=⟨g,i*7+j,none⟩) b).trans (d i k j u l)⟩
theorem Jj{α:Type}{T:TypeId}{f:α->List Value}(b:∀x,(f x).length=7){base cap n:Nat}{a:Option Addr}{l:List α}(d:α)(m:l.length=n)(h:aN T 7 f w base (.slice a n cap) l):DL w a n fun i=>f (l.getD i d):=by
 intro o;obtain⟨g,rfl⟩:=h.somes (by omega);refine⟨g,rfl,h.below.2,fun i e j u c=>?_⟩;have k:j<7:=by
  rw[←b (l.getD i d)];exact(List.getElem?_eq_some_iff.mp c).1
 rw[(aN.at b d m h i j e k).1];exact c
theorem M1(L:ByteArray)(many long pl:Nat):L++(⟨#[80,75,5,6]⟩:ByteArray)++az ([0,0,many,many].flatMap (leS 2))++az (leS 4 long)++az (leS 4 pl)++az ([0].flatMap (leS 2))=L++ec many long pl:=by
 unfold ec;simp only[ByteArray.append_assoc]
structure Hq where
 how:Nat
 st:Nat
 crc:Nat
 pk:Nat
 lg:Nat
 nm:ByteArray
 pl:Nat
def xr(q:Hq):List Value:=[.int .i64 (q.how:Nat),.int .i64 (q.st:Nat),.int .i64 (q.crc:Nat),.int .i64 (q.pk:Nat),.int .i64 (q.lg:Nat),.string q.nm,.int .i64 (q.pl:Nat)]
theorem Hv(e:Hq):(xr e).length=7:=rfl
theorem Hw(e:Hq):∀u∈xr e,u.oneCell'=true:=by
 intro u a;simp only[xr,a1h,a1M,a1C]at a;rcases a with rfl|rfl|rfl|rfl|rfl|rfl|rfl<;>rfl
def cQ(q:Hq):ByteArray:=jg q.how q.st q.crc q.pk q.lg q.nm q.pl
def okQ(q:Hq):Prop:=q.how<65536/\q.st<4294967296/\q.crc<4294967296/\q.pk<4294967296/\q.lg<4294967296/\q.nm.size<=54/\q.pl<4294967296
def dV(f:Nat->Hq):Nat->ByteArray
 | 0=>⟨#[]⟩
 | k+1=>dV f k++cQ (f k)
theorem se(f:Nat->Hq):∀k,(∀i,i<k->okQ (f i))->(dV f k).size<=100*k
 | 0,_=>a0h _
 | k+1,h=>by
  have ih:=se f k (fun i b=>h i (by omega));have a:=(h k (by omega)).2.2.2.2.2.1;have h2:(cQ (f k)).size=46+(f k).nm.size:=fU _ _ _ _ _ _ _;rw[dV,a0N];omega
theorem zX(a:Option Addr)(cap n P:Nat)(f:Nat->Hq)(w:World)(h:DL w a n fun i=>xr (f i))(hm:n<=6)(J:∀i,i<n->okQ (f i))(Q:P<4294967296) :
  CD 61 #[.slice a n cap,.int .i64 (P:Nat)] w (.string (dV f n++ec n (dV f n).size P)):=by
 have V:(n:Int)<=6:=by omega
 have O:=af (fun k (H:k<=n)=>se f k (fun i hi=>J i (by omega)));have Y:=ae O n (by omega);have E:(dV f n).size<4294967296:=by omega
 have F:((dV f n).size:Int)<=600:=by omega
 have U:=af J;have T:=af h;have B:Hid (∀g W,bn W (some ⟨g,0,none⟩) (cJ [0,0,n,n])->CD 89 #[.slice (some ⟨g,0,none⟩) 4 4] W (.string (az ([0,0,n,n].flatMap (leS 2))))):=fun g W h=>ez (some ⟨g,0,none⟩) 4 4 [0,0,n,n] W rfl h (by decide) (by intro x X;simp at X;omega);have A:Hid (∀g W,bn W (some ⟨g,0,none⟩) (cJ [0])->CD 89 #[.slice (some ⟨g,0,none⟩) 1 1] W (.string (az ([0].flatMap (leS 2))))):=fun g W h=>ez (some ⟨g,0,none⟩) 1 1 [0] W rfl h (by decide) (by decide);have m:Hid (∀W,CD 90 #[.int .i64 ((dV f n).size:Int)] W (.string (az (leS 4 (dV f n).size)))):=fun W=>dW _ W E;have z:Hid (∀W,CD 90 #[.int .i64 (P:Int)] W (.string (az (leS 4 P)))):=fun W=>dW _ W Q;have z1:((az ([0,0,n,n].flatMap (leS 2))).size:Int)<=100:=by rw[bu];simp[aH]
 have z2:((az ([0].flatMap (leS 2))).size:Int)<=100:=by rw[bu];simp[aH]
 have z3:((az (leS 4 (dV f n).size)).size:Int)<=100:=by rw[bu,aH];omega
 have z4:((az (leS 4 P)).size:Int)<=100:=by rw[bu,aH];omega
 have M:=af (M1 (dV f n) n (dV f n).size P);generalize (dV f n)++ec n (dV f n).size P=RES at *
 generalize az ([0,0,n,n].flatMap (leS 2))=A1 at *
 generalize az ([0].flatMap (leS 2))=A2 at *
 generalize az (leS 4 (dV f n).size)=A3 at *
 generalize az (leS 4 P)=A4 at *
 obtain⟨LI,hLI'⟩:∃x,(dV f n)=x:=⟨_,rfl⟩;rw[hLI']at m M F E;have D:=af hLI';clear h J Y Q E hLI';go_enter func61,ntmps61;go_wp2_with fail
 go_loopw [5,7,10] (fun o _ i wr=>∃k:Nat,k<=n/\i = .int .i64 k/\o = .string (dV f k)/\Below w.heap.size w wr) (fun _ _ i _=>n-(intOf i).toNat)
 case atStart=>exact⟨0,a0h _,rfl,rfl,a0c _ _⟩
 case round=>
  obtain⟨k,H,rfl,rfl,b⟩:=hrel;by_cases d:k<n
  .
   obtain⟨g,rfl,hg,c⟩:=(ae T).later b (by omega);have c0:=c k d 0 _ rfl;have c1:=c k d 1 _ rfl;have c2:=c k d 2 _ rfl;have c3:=c k d 3 _ rfl;have c4:=c k d 4 _ rfl;have Z:=c k d 5 _ rfl;have c6:=c k d 6 _ rfl;rw[a1H]at c0;have K:Hid (dV f (k+1)=dV f k++cQ (f k)):=rfl;have L:=ae O k (by omega);have S:((dV f k).size:Int)<=600:=by omega
   obtain⟨o0,o1,o2,o3,o4,o5,o6⟩:=ae U k d;have G:(cQ (f k)).size=46+(f k).nm.size:=fU _ _ _ _ _ _ _;have R:((cQ (f k)).size:Int)<=100:=by omega
   have HP:=af (fun W=>yj (f k).how (f k).st (f k).crc (f k).pk (f k).lg (f k).pl (f k).nm W o0 o1 o2 o3 o4 (by omega) o6);have N:Hid (jg (f k).how (f k).st (f k).crc (f k).pk (f k).lg (f k).nm (f k).pl=cQ (f k)):=rfl;rw[ae N]at HP;have p:=af (a0b b H);clear c o0 o1 o2 o3 o4 o5 o6 G L b H N;generalize cQ (f k)=HE1 at *
   generalize (f k).how=v0 at *
   generalize (f k).st=v1 at *
   generalize (f k).crc=v2 at *
   generalize (f k).pk=v3 at *
   generalize (f k).lg=v4 at *
   generalize (f k).nm=v5 at *
   generalize (f k).pl=P1 at *
   generalize dV f k=L1 at *
   have s:Hid (Below wr.heap.size wr (wr.alloc (.cells #[.int .i64 (v0:Nat),.int .i64 (v1:Nat),.int .i64 (v2:Nat),.int .i64 (v3:Nat),.int .i64 (v4:Nat),.string v5,.int .i64 (P1:Nat)] 95))):=(a0c _ _).alloc (a0a _) _;go_wp2_with fail;refine(ae HP _).mono ?_;rintro e x1 ⟨rfl,j⟩;have l:=af (am (ae p).1 (am (ae s) j));clear j s;go_wp2;go_roundw
   case rel=>exact⟨k+1,by have:=(ae p).2;omega,by go_num,by rw[ae K],ae l⟩
   case measure=>simp[intOf];omega
  .
   have I:k=n:=by omega
   subst I;rw[ae D];have p:=af b;clear b;have s:Hid (Below wr.heap.size wr (wr.alloc (.cells #[.int .i64 0,.int .i64 0,.int .i64 (k:Nat),.int .i64 (k:Nat)] 3))):=(a0c _ _).alloc (a0a _) _;go_wp2_with fail;refine(ae B _ _ (Ic wr 0 0 k k)).mono ?_;rintro e x1 ⟨rfl,j⟩;have q:=af (am (ae p) (am (ae s) j));clear j s p;go_wp2_with fail;refine(ae m _).mono ?_;rintro e x2 ⟨rfl,u⟩;have l:=af (am (ae q) u);clear u q;go_wp2_with fail;refine(ae z _).mono ?_;rintro e x3 ⟨rfl,v⟩;have r:=af (am (ae l) v);clear v l;have t:Hid (Below x3.heap.size x3 (x3.alloc (.cells #[.int .i64 0] 3))):=(a0c _ _).alloc (a0a _) _;go_wp2_with fail;refine(ae A _ _ (Dm x3 0)).mono ?_;rintro e x4 ⟨rfl,y⟩;have C:=af (am (ae r) (am (ae t) y));clear y t r;go_wp2;go_ret;exact⟨by rw[←ae M];rfl,ae C⟩
theorem Tryz.infoHd:(prog.info? 95).map (fun i=>(i.zero,i.size,i.bytes))=some (some (.agg #[.int .i64 0,.int .i64 0,.int .i64 0,.int .i64 0,.int .i64 0,.string ⟨#[]⟩,.int .i64 0]),7,64):=by kernel_rfl
abbrev Ae:=aN (α:=En×Nat) 95 7 NQ
theorem Blk.grown{w':World}{b:Nat}{row:Option Nat}(h:Blk w b vs)(a:w.grownBy w' row)(c:some b≠row):Blk w' b vs:=
 ⟨a0i h.1 a.size,fun i v e=>⟨(World.cell?_of_block (a.block b h.1 c)).trans (h.2 i v e).1,(World.frozen?_of_block (a.block b h.1 c)).trans (h.2 i v e).2⟩⟩
end Go.Proofs.YtkdlcomfpffhhaaGreatDoor
