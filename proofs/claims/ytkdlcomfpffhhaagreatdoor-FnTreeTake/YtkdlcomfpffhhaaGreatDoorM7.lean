/- Of what the proof is made: 7 texts, one behind the other. -/
import Derived.Test.YtkdlcomfpffhhaaGreatDoorM5
import Derived.OpenShut
import Derived.Laws.OwnMore
import Derived.BigQuiet
set_option linter.unusedSimpArgs false
set_option linter.unusedVariables false
set_option maxHeartbeats 1600000
namespace Go.Proofs.YtkdlcomfpffhhaaGreatDoor
open Go.Proofs.Tryz
open Go.RowKit
variable {B b c m o:Nat}{a:Option Addr}{d h mi mo s y:Int}{w w':World}{z:Nat->Int}
def Gr(k:IntKind)(w:World)(a:Option Addr)(len cap:Nat)(zs:List Int):Prop:=
 (a=none/\len=0/\cap=0/\zs=[]) ∨
 ∃x,a=some x/\len<=cap/\cap<=maxLen/\zs.length=cap/\(∀i,i<zs.length->w.cell? (x.add i)=some (.int k (zs.getD i 0)))/\∀n∈zs,(Lit.int k n).wf=true
def Src(w:World)(a:Option Addr)(len:Nat)(z:Nat->Int):Prop:=
 (∀i,0<=z i/\z i<256)/\(0<len->∃ab ao,a=some ⟨ab,ao,none⟩/\ab<w.heap.size/\∀i,i<len->w.cell? ⟨ab,ao+i,none⟩=some (.int .u8 (z i)))
theorem Np{len cap:Nat}{zs:List Int}(h:Gr .u8 w a len cap zs):(∃z,Src w a len z)/\len<=cap/\len<=maxLen:=by
 rcases h with⟨rfl,rfl,rfl,rfl⟩|⟨x,rfl,k,j,n,f,l⟩
 . exact⟨⟨fun _=>0,fun _=>⟨a26 _,by show(0:Int)<256;omega⟩,fun h=>absurd h (by omega)⟩,by omega,by unfold maxLen;omega⟩
 .
  refine⟨⟨fun i=>zs.getD i 0,fun i=>?_,fun m=>?_⟩,k,by omega⟩
  .
   by_cases g:i<zs.length
   .
    have j:zs.getD i 0∈zs:=by simp[List.getD,g]
    have hb:=bounds_u8 (l _ j);exact⟨hb.1,Int.lt_of_le_of_lt hb.2 (by omega)⟩
   . simp[List.getD,List.getElem?_eq_none (by omega:zs.length<=i)]
  .
   obtain⟨b,off,spot⟩:=x;have d:=f 0 (by omega);have c:spot=none:=by simpa[Addr.add]using World.cell?_spot d
   subst c;refine⟨b,off,rfl,?_,fun i g=>?_⟩
   . have:=World.block_lt_of_cell? _ _ d;simpa[Addr.add]using this
   .
    have:=f i (by omega);by_cases e:i=0
    . subst e;simpa[Addr.add]using this
    . simpa[Addr.add,e]using this
theorem Jv{len cap:Nat}(h:Src w a len z)(g:len<=2000)(t:TypeId) :
  Rd (w.alloc (.cells #[.slice a len cap,.int .i64 0] t)) w.heap.size w.heap.size 0:=by
 refine⟨a,len,cap,0,z,g,a0a _,a0a _,⟨by simp,by simp,by simp,by simp,by simp⟩,h.1,fun c=>?_⟩;obtain⟨ab,ao,e,b,d⟩:=h.2 c;refine⟨ab,ao,e,b,fun i f=>?_⟩;rw[World.cell?_alloc_past _ _ _ b];exact d i f
theorem Src.less{len:Nat}(h:Src w a len z)(f:2000<len):Src w a 2000 z:=by
 refine⟨h.1,fun _=>?_⟩;obtain⟨ab,ao,e,b,c⟩:=h.2 (by omega);exact⟨ab,ao,e,b,fun i d=>c i (by omega)⟩
theorem A9(a:Option Addr)(len cap:Nat)(z:Nat->Int)(w:World)(h:Src w a len z)(f:len<=cap)(d:len<=maxLen) :
  Calls prog 24 #[.slice a len cap] w fun e w'=>e = .returned (.pointer (some ⟨w.heap.size,0,none⟩))/\Rd w' w.heap.size w.heap.size 0/\Below w.heap.size w w'/\w'.heap.size=w.heap.size+1:=by
 unfold maxLen at d;by_cases g:(2000:Int)<(len:Int)
 .
  have h2:=af (h.less (by omega));obtain⟨ab,ao,rfl,c,_⟩:=h.2 (by omega);have b:(2000:Int)<=(cap:Int):=by omega
  clear h;go_enter func24,ntmps24;go_wp2;go_ret;exact⟨rfl,Jv (ae h2) (a0a _) _,(a0c _ _).alloc (a0a _) _,by simp⟩
 . have h2:=af h;clear h;go_enter func24,ntmps24;go_wp2;go_ret;exact⟨rfl,Jv (ae h2) (by omega) _,(a0c _ _).alloc (a0a _) _,by simp⟩
theorem LD(B b m lb lo n cap:Nat)(v:Nat->Int)(w:World)(h:Rd w B b m)(l:m<=100000)(n1:0<n)(n2:n<=70000)(d:lb≠b)(g:∀i,i<n->w.cell? ⟨lb,lo+i,none⟩=some (.int .i64 (v i))) :
  Calls prog 156 #[.pointer (some ⟨b,0,none⟩),.slice (some ⟨lb,lo,none⟩) n cap] w fun e w'=>∃i:Nat,i<n/\e = .returned (.int .i64 (v i))/\Rd w' B b (m+1)/\kw b w w':=by
 have n1':(1:Int)<=(n:Int):=by omega
 have n2':(n:Int)<=70000:=by omega
 have c:=af g;clear g;go_enter func156,ntmps156;go_wp2_with (go_at_call 51;refine(bi B b m _ _ h l n1' n2').mono ?_;rintro e w' ⟨r,rfl,o,q,f,a⟩;obtain⟨k,rfl⟩:=a0r o;have j:w'.cell? ⟨lb,lo+k,none⟩=some (.int .i64 (v k)):=(a.cell (p:=⟨lb,lo+k,none⟩) d).trans (ae c k (by omega)));go_ret;exact⟨k,by omega,rfl,f,a⟩
theorem Rd.alloc(h:Rd w B b m)(o:Obj):Rd (w.alloc o) B b m:=by
 obtain⟨a,len,cap,p,z,n,q,j,d,r,c⟩:=h;obtain⟨c0,c1,f0,f1,hb⟩:=d;refine⟨a,len,cap,p,z,n,q,j,⟨?_,?_,?_,?_,?_⟩,r,fun g=>?_⟩
 . rw[World.cell?_alloc_past _ _ _ hb];exact c0
 . rw[World.cell?_alloc_past _ _ _ hb];exact c1
 . rw[World.frozen?_alloc_past _ _ _ hb];exact f0
 . rw[World.frozen?_alloc_past _ _ _ hb];exact f1
 . simp;omega
 . obtain⟨ab,ao,e,f,k⟩:=c g;refine⟨ab,ao,e,f,fun i l=>?_⟩;rw[World.cell?_alloc_past _ _ _ (by omega)];exact k i l
theorem Rd.lt(h:Rd w B b m):b<w.heap.size:=by
 obtain⟨a,len,cap,p,z,f,g,e,c,i,d⟩:=h;exact c.2.2.2.2
theorem Rd.mono{n:Nat}(h:Rd w B b m)(e:m<=n):Rd w B b n:=by
 obtain⟨a,len,cap,p,z,c,f,d⟩:=h;exact⟨a,len,cap,p,z,c,by omega,d⟩
theorem Rd.kept(h:Rd w B b m)(hb:Below (b+1) w w'):Rd w' B b m:=by
 obtain⟨a,len,cap,p,z,n,o,j,f,q,d⟩:=h;obtain⟨c0,c1,f0,f1,c⟩:=f;refine⟨a,len,cap,p,z,n,o,j,⟨?_,?_,?_,?_,?_⟩,q,fun g=>?_⟩
 . exact(hb.cell (p:=⟨b,0,none⟩) (a0l b)).trans c0
 . exact(hb.cell (p:=⟨b,1,none⟩) (a0l b)).trans c1
 . exact(hb.frozen (p:=⟨b,0,none⟩) (a0l b)).trans f0
 . exact(hb.frozen (p:=⟨b,1,none⟩) (a0l b)).trans f1
 . exact a0i c hb.size
 . obtain⟨ab,ao,e,c,k⟩:=d g;refine⟨ab,ao,e,c,fun i l=>?_⟩;exact(hb.cell (p:=⟨ab,ao+i,none⟩) (by show ab<b+1;omega)).trans (k i l)
theorem kw.grown(h:kw b w w'):w.grownBy w' (some b):=
 ⟨h.1.os,h.1.tape,h.1.output,by rw[h.2.2];exact a0a _,fun k _ a=>h.2.1 k (fun e=>a (by rw[e]))⟩
theorem uM{base:Nat}{e:TypeId}{size:Nat}{v:Value}{n:Nat}{xs:List Value}(h:w.ownsRow base e size v n xs)(a:kw b w w')(hb:b<base):w'.ownsRow base e size v n xs:=
 h.kept a.grown (by
  cases c:v.ownBlock with
  | none=>exact .inl rfl
  | some k=>exact .inr (fun e=>by have:=(h.lt k c).1;cases e;omega))
theorem Rd.grown{row:Option Nat}(h:Rd w B b m)(a:w.grownBy w' row)(d:∀k,row=some k->b<k):Rd w' B b m:=by
 have c:=h.lt;exact h.kept ((a0c _ _).grown a (by omega) (fun k e=>d k e))
theorem E7(w:World)(l:List Int)(t:TypeId):∀i,i<l.length->(w.alloc (.cells (l.map (Value.int .i64)).toArray t)).cell? ⟨w.heap.size,0+i,none⟩=some (.int .i64 (l.getD i 0)):=by
 intro i a;simp[a]
theorem Src.later{len:Nat}(h:Src w a len z)(hb:Below w.heap.size w w'):Src w' a len z:=by
 refine⟨h.1,fun c=>?_⟩;obtain⟨ab,ao,e,b,d⟩:=h.2 c;exact⟨ab,ao,e,a0i b hb.size,fun i f=>(hb.cell (p:=⟨ab,ao+i,none⟩) b).trans (d i f)⟩
theorem am{w1 w2:World}(h:Below w.heap.size w w1)(k:Below w1.heap.size w1 w2):Below w.heap.size w w2:=h.trans (k.mono h.size)
def stF(L G k:Nat):Nat×Nat:=if k<G then(L+k,0)else(L+(G+k%G)*p2 (k/G-1),k/G-1)
theorem Kd(n:Int)(h : -9223372036854775808<=n/\n<=9223372036854775807):wrap64 n=n:=by unfold wrap64;omega
theorem JO(L G M k:Nat)(w:World)(l:L<=3)(g:1<=G)(c:G<=4)(n:k/G<=15)(d:k<=60) :
  CD 227 #[.agg #[.int .i64 (L:Nat),.int .i64 (G:Nat),.int .i64 (M:Nat)],.int .i64 (k:Nat)] w (.tuple #[.int .i64 ((stF L G k).1:Nat),.int .i64 ((stF L G k).2:Nat)]):=by
 have u:(L:Int)<=3:=by omega
 have t:(1:Int)<=(G:Int):=by omega
 have j:(G:Int)<=4:=by omega
 have x:(k:Int)<=60:=by omega
 by_cases a:k<G
 .
  have f:(k:Int)<(G:Int):=by omega
  have e:stF L G k=(L+k,0):=by unfold stF;rw[a0e a]
  rw[e];clear n d a l g c e;go_enter func227,ntmps227;go_wp2
  go_ret2
  exact⟨by simp,(a0c _ _).alloc (a0a _) _⟩
 .
  have f:¬ (k:Int)<(G:Int):=by omega
  obtain⟨q,hq⟩:∃q,k/G=q:=⟨_,rfl⟩;have h:1<=q:=by rw[←hq];exact(Nat.le_div_iff_mul_le g).2 (by omega)
  obtain⟨b,hb⟩:∃b,q-1=b:=⟨_,rfl⟩;obtain⟨r,hr⟩:∃r,k%G=r:=⟨_,rfl⟩;have i:r<4:=by rw[←hr];exact a0i (a05 _ g) c
  have y:(k:Int)/(G:Int)=(q:Int):=by rw[←hq];exact(Int.natCast_ediv k G).symm
  have v:(q:Int)-1=(b:Int):=by omega
  have z:(k:Int)%(G:Int)=(r:Int):=by rw[←hr];exact(Int.natCast_emod k G).symm
  have m:(b:Int)<=14:=by omega
  have o:(r:Int)<4:=by omega
  have e:stF L G k=(L+(G+r)*p2 b,b):=by unfold stF;rw[a0d a,hq,hb,hr]
  have p:Hid (wrap64 ((L:Int)+wrap64 (((G:Int)+(r:Int))*2 ^ b))=((L+(G+r)*p2 b:Nat):Int)):=by
   show _=_;have A:p2 b<=p2 14:=a0W (by omega) (by omega);have h2:p2 14=16384:=by decide
   have B:(G+r)*p2 b<=7*16384:=a2z (by omega) (by omega);have s:((G:Int)+(r:Int))*2 ^ b=(((G+r)*p2 b:Nat):Int):=by rw[a1I,pd];simp
   rw[s];generalize (G+r)*p2 b=Q at *
   rw[Kd (Q:Int) (by omega),Kd ((L:Int)+(Q:Int)) (by omega)];omega
  rw[e];clear n d a l g c e hq hb hr i h;go_enter func227,ntmps227;go_wp2
  go_quiet (fail)
  go_wp2
  go_ret2
  exact⟨by rw[←ae p];rfl,below_drewN ((a0c _ _).alloc (a0a _) _) _⟩
theorem jd(k:Nat)(n:Int)(b:0<=n)(d:n<9223372036854775808)(c:k<=20):bits .and .i64 n ((2 ^ k-1:Nat):Int)=n%(2 ^ k:Nat):=by
 obtain⟨a,rfl⟩:=a0r b;have e:2 ^ k<=2 ^ 20:=a0W (by omega) c;rw[kJ a (2 ^ k-1) (by omega) (by omega),Nat.and_two_pow_sub_one_eq_mod];omega
theorem Ih{n:Int}(a:0<=n):gOk n=cb (gY n) (gM n) (gD n) (gH n) (gI n) (gS n):=by
 cases h:inB n 0 4294967295
 . have hb:=dK.1 h;have:cb (gY n) (gM n) (gD n) (gH n) (gI n) (gS n)=false:=JN (.inr (.inl (by unfold gY;omega)));rw[this];simp[gOk,h]
 . simp[gOk,h]
theorem oM(n:Int)(w:World)(k:(Lit.int .i64 n).wf=true) :
  CD 118 #[.int .i64 n] w (.tuple #[stG n,.bool (gOk n)]):=by
 have hb:=bounds_i64 k;obtain⟨lo,t⟩:=hb;by_cases i:0<=n
 .
  have a1:bits .and .i64 (n/2097152) 15=gM n:=jd 4 _ (by omega) (by omega) (by omega);have a2:bits .and .i64 (n/65536) 31=gD n:=jd 5 _ (by omega) (by omega) (by omega);have a3:bits .and .i64 (n/2048) 31=gH n:=jd 5 _ (by omega) (by omega) (by omega);have a4:bits .and .i64 (n/32) 63=gI n:=jd 6 _ (by omega) (by omega) (by omega);have a5:bits .and .i64 n 31=n%32:=jd 5 _ (by omega) (by omega) (by omega);have b:=Ih i;have gy:1980+n/33554432=gY n:=by unfold gY;omega
  have gs:2*(n%32)=gS n:=rfl;cases f:cb (gY n) (gM n) (gD n) (gH n) (gI n) (gS n)
  . rw[f]at b;rw[b,JK b];go_enter func118,ntmps118;go_wp2_with fail;refine(eW _ _ _ _ _ _ _).mono ?_;rintro e w2 ⟨rfl,a⟩;rw[f];have c:=((jt w 0 0 0 0 0 0 30).later ((a0c _ _).alloc (a0a _) _) (by simp)).later a (by simp;omega);obtain⟨⟨z0,z1,z2,z3,z4,z5⟩,_,_⟩:=c.store 0 0 0 0 0 0;obtain⟨⟨c0,c1,c2,c3,c4,h⟩,⟨f0,f1,f2,f3,f4,f5⟩,d⟩:=c;go_wp2;refine a0R (v:=.tuple #[.agg #[.int .i64 0,.int .i64 0,.int .i64 0,.int .i64 0,.int .i64 0,.int .i64 0],.bool false]) (by simp[results,results118,go_sem,z0,z1,z2,z3,z4,z5]) rfl ⟨rfl,?_⟩;exact po ((((a0c _ _).alloc (a0a _) _).alloc (by simp) _).trans (a.mono (by simp;omega))) (a0a _) _ _ _ _ _ _
  .
   rw[f]at b;rw[b,Md b];go_enter func118,ntmps118;go_wp2_with fail;refine(eW _ _ _ _ _ _ _).mono ?_;rintro e w2 ⟨rfl,a⟩;rw[f];have c:=((jt w 0 0 0 0 0 0 30).later ((a0c _ _).alloc (a0a _) _) (by simp)).later a (by simp;omega);have j:=(jt (w.alloc (.cells #[.int .i64 0,.int .i64 0,.int .i64 0,.int .i64 0,.int .i64 0,.int .i64 0] 30)) (gY n) (gM n) (gD n) (gH n) (gI n) (gS n) 30).later a (by simp);have g:Six w2 (w.heap.size+1) (gY n) (gM n) (gD n) (gH n) (gI n) (gS n):=by simpa using j
   clear j;obtain⟨⟨z0,z1,z2,z3,z4,z5⟩,_,_⟩:=c.store (gY n) (gM n) (gD n) (gH n) (gI n) (gS n);obtain⟨⟨c0,c1,c2,c3,c4,h⟩,⟨f0,f1,f2,f3,f4,f5⟩,d⟩:=c;obtain⟨⟨m,o,p,q,r,s⟩,_,_⟩:=g;go_wp2;refine a0R (v:=.tuple #[.agg #[.int .i64 (gY n),.int .i64 (gM n),.int .i64 (gD n),.int .i64 (gH n),.int .i64 (gI n),.int .i64 (gS n)],.bool true]) (by simp[results,results118,go_sem,z0,z1,z2,z3,z4,z5]) rfl ⟨rfl,?_⟩;exact po ((((a0c _ _).alloc (a0a _) _).alloc (by simp) _).trans (a.mono (by simp;omega))) (a0a _) _ _ _ _ _ _
 .
  have b:gOk n=false:=by simp[gOk,inB,i]
  rw[b,JK b];have l:1980+n/33554432<1980:=by omega
  go_enter func118,ntmps118;go_wp2_with fail;refine(eW _ _ _ _ _ _ _).mono ?_;rintro e w2 ⟨rfl,a⟩;rw[JN (.inl l)];have c:=((jt w 0 0 0 0 0 0 30).later ((a0c _ _).alloc (a0a _) _) (by simp)).later a (by simp;omega);obtain⟨⟨z0,z1,z2,z3,z4,z5⟩,_,_⟩:=c.store 0 0 0 0 0 0;obtain⟨⟨c0,c1,c2,c3,c4,h⟩,⟨f0,f1,f2,f3,f4,f5⟩,d⟩:=c;go_wp2;refine a0R (v:=.tuple #[.agg #[.int .i64 0,.int .i64 0,.int .i64 0,.int .i64 0,.int .i64 0,.int .i64 0],.bool false]) (by simp[results,results118,go_sem,z0,z1,z2,z3,z4,z5]) rfl ⟨rfl,?_⟩;exact po ((((a0c _ _).alloc (a0a _) _).alloc (by simp) _).trans (a.mono (by simp;omega))) (a0a _) _ _ _ _ _ _
def Kn(b:Nat)(w w':World):Prop:=Below b w w'/\(∀k,k<w.heap.size->k≠b->w'.heap[k]?=w.heap[k]?)/\w.heap.size<=w'.heap.size
theorem Kn.trans{u v:World}(h:Kn b u v)(k:Kn b v w):Kn b u w:=
 ⟨h.1.trans k.1,fun i a hb=>(k.2.1 i (a0i a h.2.2) hb).trans (h.2.1 i a hb),a0G h.2.2 k.2.2⟩
theorem kw.kn(h:kw b w w'):Kn b w w':=⟨h.1,fun k _ a=>h.2.1 k a,by rw[h.2.2];exact a0a _⟩
theorem dE(w:World)(o:Obj)(hb:b<w.heap.size):Kn b w (w.alloc o):=
 ⟨(a0c _ _).alloc (a0y hb) _,fun k a _=>((a0c w.heap.size w).alloc (a0a _) o).block k a,by simp⟩
theorem Lz(B b m lb lo n cap:Nat)(v:Nat->ByteArray)(w:World)(h:Rd w B b m)(l:m<=100000)(n1:0<n)(n2:n<=70000)(d:lb≠b)(g:∀i,i<n->w.cell? ⟨lb,lo+i,none⟩=some (.string (v i))) :
  Calls prog 74 #[.pointer (some ⟨b,0,none⟩),.slice (some ⟨lb,lo,none⟩) n cap] w fun e w'=>∃i:Nat,i<n/\e = .returned (.string (v i))/\Rd w' B b (m+1)/\kw b w w':=by
 have n1':(1:Int)<=(n:Int):=by omega
 have n2':(n:Int)<=70000:=by omega
 have c:=af g;clear g;go_enter func74,ntmps74;go_wp2_with (go_at_call 51;refine(bi B b m _ _ h l n1' n2').mono ?_;rintro e w' ⟨r,rfl,o,q,f,a⟩;obtain⟨k,rfl⟩:=a0r o;have j:w'.cell? ⟨lb,lo+k,none⟩=some (.string (v k)):=(a.cell (p:=⟨lb,lo+k,none⟩) d).trans (ae c k (by omega)));go_ret;exact⟨k,by omega,rfl,f,a⟩
theorem Bo(w:World)(l:List ByteArray)(t:TypeId):∀i,i<l.length->(w.alloc (.cells (l.map Value.string).toArray t)).cell? ⟨w.heap.size,0+i,none⟩=some (.string (l.getD i ByteArray.empty)):=by
 intro i a;simp[a]
theorem MH(B b m n lb:Nat)(l:List ByteArray)(t:TypeId)(w:World)(hb:w.heap.size=lb)(g:l.length=n)(h:Rd w B b m)(f:m<=100000)(n1:0<n)(n2:n<=70000) :
  Calls prog 74 #[.pointer (some ⟨b,0,none⟩),.slice (some ⟨lb,0,none⟩) n n] (w.alloc (.cells (l.map Value.string).toArray t)) fun e w'=>∃v:ByteArray,v∈l/\e = .returned (.string v)/\Rd w' B b (m+1)/\Kn b w w':=by
 subst g hb;have a:=h.lt;refine(Lz B b m w.heap.size 0 l.length l.length (fun i=>l.getD i ByteArray.empty) _ (h.alloc _) f n1 n2 (a14 a) (Bo w l t)).mono ?_;rintro e w' ⟨i,d,c,k,j⟩;refine⟨l.getD i ByteArray.empty,?_,c,k,(dE w _ a).trans j.kn⟩;simp[List.getD,d]
def dx:List ByteArray:=[⟨#[97]⟩,⟨#[98,46,116,120,116]⟩,⟨#[100,105,114,47,97]⟩,⟨#[100,105,114,47,98]⟩,⟨#[120,45,121,95,122]⟩,⟨#[97,47,98,47,99,47,100]⟩,⟨#[114,101,97,100,109,101]⟩]
def lH:List ByteArray:=[⟨#[]⟩,⟨#[47]⟩,⟨#[97,47]⟩,⟨#[46,46]⟩,⟨#[97,47,46,46,47,98]⟩,⟨#[65]⟩,⟨#[97,32,98]⟩,⟨#[101,108,101,118,101,110,108,101,116,116,101]⟩,⟨#[97,47,98,47,99,47,100,47,101]⟩]
theorem kO(B b m:Nat)(w:World)(h:Rd w B b m)(g:m<=99000) :
  Calls prog 82 #[.pointer (some ⟨b,0,none⟩)] w fun e w'=>∃v,v∈dx/\e = .returned (.string v)/\Rd w' B b (m+1)/\Kn b w w':=by
 go_enter func82,ntmps82;go_wp2_with fail;refine(MH B b m 7 w.heap.size dx 9 w rfl rfl h (by omega) (by omega) (by omega)).mono ?_;rintro e w1 ⟨v,a,rfl,f,d⟩;have c:=af a;clear a;go_wp2;go_ret;exact⟨v,ae c,rfl,f,d⟩
theorem rP(B b m:Nat)(w:World)(h:Rd w B b m)(l:m<=98000) :
  Calls prog 52 #[.pointer (some ⟨b,0,none⟩)] w fun e w'=>∃v,v∈lH++dx/\e = .returned (.string v)/\Rd w' B b (m+2)/\Kn b w w':=by
 go_enter func52,ntmps52;go_wp2_with fail;refine(bi B b m 6 _ h (by omega) (by omega) (by omega)).mono ?_;rintro e w1 ⟨r,rfl,n,o,d,a⟩;have k:=af d;have j:=af a.kn;clear h d a;by_cases c:r=0
 . subst c;go_wp2_with fail;refine(MH B b _ 9 w1.heap.size lH 9 w1 rfl rfl (ae k) (by omega) (by omega) (by omega)).mono ?_;rintro e w2 ⟨v,f,rfl,c,i⟩;have g:=af f;clear f;go_wp2;go_ret;exact⟨v,a1j.2 (.inl (ae g)),rfl,c,(ae j).trans i⟩
 . go_wp2_with fail;refine(kO B b _ _ (ae k) (by omega)).mono ?_;rintro e w2 ⟨v,f,rfl,c,i⟩;have g:=af f;clear f;go_wp2;go_ret;exact⟨v,a1j.2 (.inr (ae g)),rfl,c,(ae j).trans i⟩
theorem Nh(B b m lb lo n cap:Nat)(v:Nat->ByteArray)(w:World)(h:Rd w B b m)(l:m<=100000)(n1:0<n)(n2:n<=70000)(d:lb≠b)(g:∀i,i<n->w.cell? ⟨lb,lo+i,none⟩=some (.string (v i))) :
  Calls prog 74 #[.pointer (some ⟨b,0,none⟩),.slice (some ⟨lb,lo,none⟩) n cap] w fun e w'=>∃i:Nat,i<n/\e = .returned (.string (v i))/\Rd w' B b (m+1)/\kw b w w':=by
 have n1':(1:Int)<=(n:Int):=by omega
 have n2':(n:Int)<=70000:=by omega
 have c:=af g;clear g;go_enter func74,ntmps74;go_wp2_with (go_at_call 51;refine(bi B b m _ _ h l n1' n2').mono ?_;rintro e w' ⟨r,rfl,o,q,f,a⟩;obtain⟨k,rfl⟩:=a0r o;have j:w'.cell? ⟨lb,lo+k,none⟩=some (.string (v k)):=(a.cell (p:=⟨lb,lo+k,none⟩) d).trans (ae c k (by omega)));go_ret;exact⟨k,by omega,rfl,f,a⟩
theorem Fc(x n o:Nat)(T:Nat)(h:x*n+o=T):(x+x)*(n/2)+(if n%2=1 then o+x else o)=T:=by
 have a:(x+x)*(n/2)=x*(2*(n/2)):=by rw[←Nat.two_mul,a1E 2 x,a2x]
 rw[a]
 split
 .
  rename_i h2;have:2*(n/2)+1=n:=by omega
  have b:x*n=x*(2*(n/2))+x:=by rw[←this,a2w,a2l,this]
  omega
 .
  rename_i h2;have:2*(n/2)=n:=by omega
  rw[this];exact h
theorem Lr(x n o T:Nat)(a:0<n)(h:x*n+o=T):x<=T/\o+x<=T:=by
 have:x*1<=x*n:=Nat.mul_le_mul_left x a;omega
theorem mG(s:ByteArray)(n:Int)(w:World)(n0:0<=n)(n1:n<=1000)(r:s.size<=100) :
  Calls prog 84 #[.string s,.int .i64 n] w fun e w'=>(∃t:ByteArray,e = .returned (.string t)/\t.size=s.size*n.toNat)/\w'=w:=by
 obtain⟨N,rfl⟩:=a0r n0;rw[a0x];have u:s.size*N<=100*1000:=a2z r (by omega);generalize d:s.size*N=T at *
 have l:=af d;clear d;go_enter func84,ntmps84;go_wp2
 go_loop [0,1,5] (fun s' n' o'=>∃(x:ByteArray) (k:Nat) (o:ByteArray),s' = .string x/\n' = .int .i64 k/\o' = .string o/\k<=N/\x.size*k+o.size=T/\x.size<=2*T+100) (fun _ n' _=>(intOf n').toNat)
 case atStart=>exact⟨s,N,ByteArray.empty,rfl,rfl,rfl,a0a _,by have:=ae l;simpa using this,by omega⟩
 case round=>
  obtain⟨x,k,o,rfl,rfl,rfl,j,a,y⟩:=hrel;by_cases v:(0:Int)<(k:Int)
  .
   have q:=Lr x.size k o.size T (by omega) a;have f:=af (Fc x.size k o.size T a);have i:=af j;have p:(k:Int)<=1000:=by omega
   clear a j;by_cases b:(k:Int)%2=1
   .
    have c:=af b;go_wp2
    go_round
    case rel=>
     have h2:=ae f;rw[a0e (by have:=ae c;omega)]at h2;exact⟨x++x,k/2,o++x,rfl,by go_num,rfl,by have:=ae i;omega,by rw[a0N,a0N];exact h2,by rw[a0N];omega⟩
    case measure=>simp[intOf];omega
   .
    have c:=af b;have m:(k:Int)%2=0:=by omega
    clear b;go_wp2
    go_round
    case rel=>
     have h2:=ae f;rw[a0d (by have:=ae c;omega)]at h2;exact⟨x++x,k/2,o,rfl,by go_num,rfl,by have:=ae i;omega,by rw[a0N];exact h2,by rw[a0N];omega⟩
    case measure=>simp[intOf];omega
  .
   have h:k=0:=by omega
   subst h;have g:=af a;clear a;go_wp2;go_ret;exact⟨⟨o,rfl,by have:=ae g;omega⟩,rfl⟩
def Kb(b:Nat)(w w':World):Prop:=Below b w w'/\(∀k,k<w.heap.size->k≠b->w'.heap[k]?=w.heap[k]?)/\w.heap.size<=w'.heap.size
theorem Kb.refl(b:Nat)(w:World):Kb b w w:=⟨a0c _ _,fun _ _ _=>rfl,a0a _⟩
theorem Kb.trans{u v:World}(h:Kb b u v)(k:Kb b v w):Kb b u w:=
 ⟨h.1.trans k.1,fun i a hb=>(k.2.1 i (a0i a h.2.2) hb).trans (h.2.1 i a hb),a0G h.2.2 k.2.2⟩
theorem kw.kb(h:kw b w w'):Kb b w w':=⟨h.1,fun k _ a=>h.2.1 k a,by rw[h.2.2];exact a0a _⟩
theorem xU(w:World)(o:Obj)(hb:b<w.heap.size):Kb b w (w.alloc o):=
 ⟨(a0c _ _).alloc (a0y hb) _,fun k a _=>((a0c w.heap.size w).alloc (a0a _) o).block k a,by simp⟩
theorem Kb.below(h:Kb b w w')(a:B<=b):Below B w w':=h.1.mono a
theorem Six.kb(k:Six w c y mo d h mi s)(f:Kb b w w')(i:c≠b):Six w' c y mo d h mi s:=by
 obtain⟨⟨c0,c1,c2,c3,c4,g⟩,⟨f0,f1,f2,f3,f4,f5⟩,a⟩:=k;have e:=f.2.1 c a i;refine⟨⟨?_,?_,?_,?_,?_,?_⟩,⟨?_,?_,?_,?_,?_,?_⟩,a0i a f.2.2⟩
 . exact(World.cell?_of_block (w:=w) e).trans c0
 . exact(World.cell?_of_block (w:=w) e).trans c1
 . exact(World.cell?_of_block (w:=w) e).trans c2
 . exact(World.cell?_of_block (w:=w) e).trans c3
 . exact(World.cell?_of_block (w:=w) e).trans c4
 . exact(World.cell?_of_block (w:=w) e).trans g
 . exact(World.frozen?_of_block (w:=w) e).trans f0
 . exact(World.frozen?_of_block (w:=w) e).trans f1
 . exact(World.frozen?_of_block (w:=w) e).trans f2
 . exact(World.frozen?_of_block (w:=w) e).trans f3
 . exact(World.frozen?_of_block (w:=w) e).trans f4
 . exact(World.frozen?_of_block (w:=w) e).trans f5
theorem oQ{a:World}(h:Kb b a w)(v:Value)(e:a.heap.size<=c)(hb:b<a.heap.size):Kb b a (w.setCell ⟨c,o,none⟩ v):=
 ⟨ap h.1 (a0G (a0y hb) e) _,fun k f d=>(a0T w ⟨c,o,none⟩ v k (by show k≠c;omega)).trans (h.2.1 k f d),by simpa using h.2.2⟩
theorem M7{a:World}(h:Kb b a w)(d:a.heap.size<=c)(hb:b<a.heap.size)(v0 v1 v2 v3 v4 v5:Value):Kb b a ((((((w.setCell ⟨c,0,none⟩ v0).setCell ⟨c,1,none⟩ v1).setCell ⟨c,2,none⟩ v2).setCell ⟨c,3,none⟩ v3).setCell ⟨c,4,none⟩ v4).setCell ⟨c,5,none⟩ v5):=
 oQ (oQ (oQ (oQ (oQ (oQ h _ d hb) _ d hb) _ d hb) _ d hb) _ d hb) _ d hb
theorem pg(h:Rd w B b m)(v:Value)(a:b<c):Rd (w.setCell ⟨c,o,none⟩ v) B b m:=
 h.kept (ap (a0c _ _) (by omega) _)
theorem Nk(h:Rd w B b m)(a:b<c)(v0 v1 v2 v3 v4 v5:Value):Rd ((((((w.setCell ⟨c,0,none⟩ v0).setCell ⟨c,1,none⟩ v1).setCell ⟨c,2,none⟩ v2).setCell ⟨c,3,none⟩ v3).setCell ⟨c,4,none⟩ v4).setCell ⟨c,5,none⟩ v5) B b m:=
 pg (pg (pg (pg (pg (pg h _ a) _ a) _ a) _ a) _ a) _ a
theorem Ni(B b m n lb:Nat)(l:List Int)(t:TypeId)(w:World)(hb:w.heap.size=lb)(g:l.length=n)(h:Rd w B b m)(f:m<=100000)(n1:0<n)(n2:n<=70000) :
  Calls prog 156 #[.pointer (some ⟨b,0,none⟩),.slice (some ⟨lb,0,none⟩) n n] (w.alloc (.cells (l.map (Value.int .i64)).toArray t)) fun e w'=>∃v:Int,v∈l/\e = .returned (.int .i64 v)/\Rd w' B b (m+1)/\Kb b w w':=by
 subst g hb;have a:=h.lt;refine(LD B b m w.heap.size 0 l.length l.length (fun i=>l.getD i 0) _ (h.alloc _) f n1 n2 (a14 a) (E7 w l t)).mono ?_;rintro e w' ⟨i,d,c,k,j⟩;refine⟨l.getD i 0,?_,c,k,(xU w _ a).trans j.kb⟩;simp[List.getD,d]
def DrS(y mo d h mi s:Int):Prop:=(1900<=y/\y<=2108)/\(0<=mo/\mo<=13)/\(0<=d/\d<=32)/\(0<=h/\h<=23)/\(0<=mi/\mi<=59) /\ -2<=s/\s<=60
theorem KG(y m:Int):28<=fy y m:=by
 unfold fy;repeat' split;all_goals omega
theorem Hh(y0:1980<=y)(y1:y<=2107)(m0:0<=mo)(m1:mo<12)(a:0<=d)(b:d<28)(c:0<=h)(e:h<24)(i0:0<=mi)(i1:mi<60)(s0:0<=s)(s1:s<30):cb y (1+mo) (1+d) h mi (2*s)=true:=by
 have:=KG y (1+mo);simp only[cb,inB,a0n,a0E];omega
theorem mf(B b m:Nat)(w:World)(h:Rd w B b m)(I:m<=99000) :
  Calls prog 112 #[.pointer (some ⟨b,0,none⟩)] w fun e w'=>∃y mo d h mi s,e = .returned (.agg #[.int .i64 y,.int .i64 mo,.int .i64 d,.int .i64 h,.int .i64 mi,.int .i64 s])/\(DrS y mo d h mi s/\cb y mo d h mi s=true)/\Rd w' B b (m+6)/\Kb b w w':=by
 have c:=h.lt;have r:=af (xU w (.cells #[.int .i64 0,.int .i64 0,.int .i64 0,.int .i64 0,.int .i64 0,.int .i64 0] 30) c);have X0:=af (jt w 0 0 0 0 0 0 30);have C:=af (h.alloc (.cells #[.int .i64 0,.int .i64 0,.int .i64 0,.int .i64 0,.int .i64 0,.int .i64 0] 30));have i:w.heap.size≠b:=by omega
 have a:=af i;have g:=af c;have f:=af I;clear h i c I;go_enter func112,ntmps112;go_wp2_with fail;refine(Ni B b m 4 (w.heap.size+1) [1980,2000,2024,2107] 3 (w.alloc (.cells #[.int .i64 0,.int .i64 0,.int .i64 0,.int .i64 0,.int .i64 0,.int .i64 0] 30)) (by simp) rfl (ae C) (by have:=ae f;omega) (by omega) (by omega)).mono ?_;rintro e w1 ⟨y,j,rfl,J,k⟩;have t:=af ((ae r).trans k);have X1:=af ((ae X0).kb k (ae a));have D:=af J;clear r X0 C k J;have y0:1980<=y:=by simp at j;omega
 have y1:y<=2107:=by simp at j;omega
 clear j;go_wp2_with fail;refine(bi B b _ 12 _ (ae D) (by have:=ae f;omega) (by omega) (by omega)).mono ?_;rintro e w2 ⟨mo,rfl,m0,m1,K,l⟩;have u:=af ((ae t).trans l.kb);have X2:=af ((ae X1).kb l.kb (ae a));have E:=af K;clear t X1 D l K;go_wp2_with fail;refine(bi B b _ 28 _ (ae E) (by have:=ae f;omega) (by omega) (by omega)).mono ?_;rintro e w3 ⟨d,rfl,S,T,L,n⟩;have x:=af ((ae u).trans n.kb);have X3:=af ((ae X2).kb n.kb (ae a));have F:=af L;clear u X2 E n L;go_wp2_with fail;refine(bi B b _ 24 _ (ae F) (by have:=ae f;omega) (by omega) (by omega)).mono ?_;rintro e w4 ⟨h,rfl,U,V,M,o⟩;have z:=af ((ae x).trans o.kb);have X4:=af ((ae X3).kb o.kb (ae a));have G:=af M;clear x X3 F o M;go_wp2_with fail;refine(bi B b _ 60 _ (ae G) (by have:=ae f;omega) (by omega) (by omega)).mono ?_;rintro e w5 ⟨mi,rfl,i0,i1,N,p⟩;have A:=af ((ae z).trans p.kb);have X5:=af ((ae X4).kb p.kb (ae a));have H:=af N;clear z X4 G p N;go_wp2_with fail;refine(bi B b _ 30 _ (ae H) (by have:=ae f;omega) (by omega) (by omega)).mono ?_;rintro e w6 ⟨s,rfl,s0,s1,O,q⟩;have Q:=af ((ae A).trans q.kb);have X6:=af ((ae X5).kb q.kb (ae a));have R:=af O;clear A X5 H q O;have P:=af ((ae X6).store y (1+mo) (1+d) h mi (2*s));obtain⟨⟨c0,c1,c2,c3,c4,X⟩,⟨f0,f1,f2,f3,f4,f5⟩,W⟩:=ae X6;clear X6;go_wp2;obtain⟨⟨z0,z1,z2,z3,z4,z5⟩,_,_⟩:=ae P;refine a0R (v:=.agg #[.int .i64 y,.int .i64 (1+mo),.int .i64 (1+d),.int .i64 h,.int .i64 mi,.int .i64 (2*s)]) (by simp[results,results112,go_sem,z0,z1,z2,z3,z4,z5]) rfl ⟨y,1+mo,1+d,h,mi,2*s,rfl,⟨⟨by omega,by omega,by omega,by omega,by omega,by omega⟩,Hh y0 y1 m0 m1 S T U V i0 i1 s0 s1⟩,?_,?_⟩
 . exact Nk (ae R) (ae g) _ _ _ _ _ _
 . exact M7 (ae Q) (a0a _) (ae g) _ _ _ _ _ _
theorem we(B b m:Nat)(w:World)(h:Rd w B b m)(c:m<=99000) :
  Calls prog 112 #[.pointer (some ⟨b,0,none⟩)] w fun e w'=>∃y mo d h mi s,e = .returned (.agg #[.int .i64 y,.int .i64 mo,.int .i64 d,.int .i64 h,.int .i64 mi,.int .i64 s])/\DrS y mo d h mi s/\Rd w' B b (m+6)/\Kb b w w':=by
 refine(mf B b m w h c).mono ?_;rintro e w' ⟨y,mo,d,h,mi,s,a,hd,r⟩;exact⟨y,mo,d,h,mi,s,a,hd.1,r⟩
theorem Six.set_other(k:Six w b y mo d h mi s)(v:Value)(g:b≠c):Six (w.setCell ⟨c,o,none⟩ v) b y mo d h mi s:=by
 have e:(w.setCell ⟨c,o,none⟩ v).heap[b]?=w.heap[b]?:=a0T w ⟨c,o,none⟩ v b g;obtain⟨⟨c0,c1,c2,c3,c4,f⟩,⟨f0,f1,f2,f3,f4,f5⟩,a⟩:=k;refine⟨⟨?_,?_,?_,?_,?_,?_⟩,⟨?_,?_,?_,?_,?_,?_⟩,by simpa using a⟩
 . exact(World.cell?_of_block (w:=w) e).trans c0
 . exact(World.cell?_of_block (w:=w) e).trans c1
 . exact(World.cell?_of_block (w:=w) e).trans c2
 . exact(World.cell?_of_block (w:=w) e).trans c3
 . exact(World.cell?_of_block (w:=w) e).trans c4
 . exact(World.cell?_of_block (w:=w) e).trans f
 . exact(World.frozen?_of_block (w:=w) e).trans f0
 . exact(World.frozen?_of_block (w:=w) e).trans f1
 . exact(World.frozen?_of_block (w:=w) e).trans f2
 . exact(World.frozen?_of_block (w:=w) e).trans f3
 . exact(World.frozen?_of_block (w:=w) e).trans f4
 . exact(World.frozen?_of_block (w:=w) e).trans f5
end Go.Proofs.YtkdlcomfpffhhaaGreatDoor
