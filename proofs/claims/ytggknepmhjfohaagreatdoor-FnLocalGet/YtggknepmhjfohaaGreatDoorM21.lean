/- Of what the proof is made: 6 texts, one behind the other. -/
import Derived.Test.YtggknepmhjfohaaGreatDoorM16
import Derived.Test.YtggknepmhjfohaaGreatDoorM8
import Derived.Test.YtggknepmhjfohaaGreatDoorM10
import Derived.Test.YtggknepmhjfohaaGreatDoorM19
import Derived.Test.YtggknepmhjfohaaGreatDoorM13
set_option maxRecDepth 100000
set_option linter.unusedSimpArgs false
set_option linter.unusedVariables false
set_option maxHeartbeats 6400000
namespace Go.Proofs.YtggknepmhjfohaaGreatDoor
open Go.Proofs.Tryz
open Go.RowKit Corb
variable {D L l o:List Int}{T:List UInt8}{V k n p q r sz:Nat}{i:Int}
theorem JK{f:Nat}(b:n+f=15)(d:nx l n<=cd V p n)(h:mL l V sz p f n=some (i,q)):q<=sz/\p<q/\0<=i/\i<(l.length:Int):=by
 induction f generalizing n with
 | zero=>simp[mL]at h
 | succ f ih=>
  by_cases a:sz<p+n+1
  . rw[nf a]at h;cases h
  .
   by_cases h2:cd V p (n+1)<nx l (n+1)
   . rw[nW a h2]at h;simp only[a0i,a0R]at h;obtain⟨rfl,rfl⟩:=h;obtain⟨k,g,_,_,e⟩:=qf (l:=l) (n:=n) (c:=cd V p (n+1)) (by omega) (by simp only[cd];omega) h2;rw[e];omega
   . rw[mr a h2]at h;exact ih (by omega) (by omega) h
theorem fm(h:dec l V sz p=some (i,q)):q<=sz/\p<q/\0<=i/\i<(l.length:Int):=JK rfl (a0g _) h
def rdN(V sz p k:Nat):Option (Nat×Nat):=if p+k<=sz then some (V/2 ^ p%2 ^ k,p+k)else none
theorem cH(h:p+k<=sz):rdN V sz p k=some (V/2 ^ p%2 ^ k,p+k):=a0d h
theorem ez(h:¬ p+k<=sz):rdN V sz p k=none:=a0e h
theorem bE{x:Nat}(h:rdN V sz p k=some (x,q)):q<=sz/\q=p+k/\x=V/2 ^ p%2 ^ k/\x<2 ^ k:=by
 unfold rdN at h
 split at h
 . simp only[a0i,a0R]at h;obtain⟨rfl,rfl⟩:=h;exact⟨by assumption,rfl,rfl,a0W _ (a1i k)⟩
 . cases h
def scG(V sz least group many k q:Nat):Option (Nat×Nat):=if k<many then(rdN V sz q (stF least group k).2).bind fun x=>some ((stF least group k).1+x.1,x.2)else none
def ft(V sz:Nat)(D:List Int)(k q:Nat):Option (Tk×Nat):=
 (scG V sz 3 4 28 k q).bind fun a=>(dec D V sz a.2).bind fun j=>(scG V sz 1 2 30 j.1.toNat j.2).bind fun c=>some ((0,((a.1:Nat):Int),((c.1:Nat):Int)),c.2)
def oneG(V sz:Nat)(D:List Int)(k:Int)(q:Nat):Option (Tk×Nat):=if k<256 then some ((k,0,0),q)else ft V sz D (k.toNat-257) q
theorem Ca{least group many x:Nat}(h:scG V sz least group many k q=some (x,r)):r<=sz/\q<=r:=by
 unfold scG at h
 split at h
 .
  rcases a:rdN V sz q (stF least group k).2 with _|⟨y,t⟩
  . rw[a]at h;cases h
  . rw[a]at h;simp only[a0f,a0i,a0R]at h;have:=bE a;omega
 . cases h
theorem wY{t:Tk}(h:ft V sz D k q=some (t,r)):r<=sz/\q<=r:=by
 unfold ft at h;rcases b:scG V sz 3 4 28 k q with _|⟨a,a2⟩
 . rw[b]at h;cases h
 rw[b]at h;simp only[a0f]at h;rcases h2:dec D V sz a2 with _|⟨j,j2⟩
 . rw[h2]at h;cases h
 rw[h2]at h;simp only[a0f]at h;rcases d:scG V sz 1 2 30 j.toNat j2 with _|⟨c,c2⟩
 . rw[d]at h;cases h
 rw[d]at h;simp only[a0f,a0i,a0R]at h;have e:=Ca b;have f:=fm h2;have g:=Ca d;omega
theorem rr{k:Int}{t:Tk}(h:oneG V sz D k q=some (t,r))(hq:q<=sz):r<=sz/\q<=r:=by
 unfold oneG at h
 split at h
 . simp only[a0i,a0R]at h;omega
 . exact wY h
def nK(V sz:Nat)(L D:List Int):Nat->Nat->List UInt8->Option (List UInt8×Nat)
 | 0,_,_=>none
 | f+1,p,T=>(dec L V sz p).bind fun k=>if k.1=256 then some (T,k.2)else(oneG V sz D k.1 k.2).bind fun t=>(dR T t.1).bind fun T'=>nK V sz L D f t.2 T'
def gm(V sz:Nat)(L D:List Int)(p:Nat)(T:List UInt8):Option (List UInt8×Nat):=nK V sz L D (sz+1-p) p T
theorem FA: ∀(n f p:Nat) (T:List UInt8),sz+1-p<=n->sz+1-p<=f->nK V sz L D f p T=nK V sz L D (sz+1-p) p T:=by
 intro n;induction n with
 | zero=>
  intro f p T b h2;have e:sz+1-p=0:=by omega
  rw[e];cases f with
  | zero=>rfl
  | succ f=>
   have hd:dec L V sz p=none:=by
    rcases h:dec L V sz p with _|⟨i,q⟩
    . rfl
    . have:=fm h;omega
   simp only[nK,hd,a1V]
 | succ n ih=>
  intro f p T b h2;rcases hd:dec L V sz p with _|⟨i,q⟩
  .
   cases f with
   | zero=>rw[show sz+1-p=0 by omega]
   | succ f=>
    rcases a:sz+1-p with _|m
    . simp only[nK,hd,a1V]
    . simp only[nK,hd,a1V]
  .
   have hb:=fm hd;obtain⟨f',rfl⟩:∃g,f=g+1:=⟨f-1,by omega⟩;obtain⟨m,a⟩:∃g,sz+1-p=g+1:=⟨sz-p,by omega⟩;rw[a];simp only[nK,hd,a0f]
   split
   . rfl
   .
    rcases c:oneG V sz D i q with _|⟨t,r⟩
    . rfl
    .
     simp only[a0f];have d:=rr c hb.1;rcases dR T t with _|T'
     . rfl
     . simp only[a0f];rw[ih f' r T' (by omega) (by omega),ih m r T' (by omega) (by omega)]
theorem vu(h:dec L V sz p=none):gm V sz L D p T=none:=by
 unfold gm;rcases a:sz+1-p with _|m
 . rfl
 . simp only[nK,h,a1V]
theorem tT(h:dec L V sz p=some (256,q)):gm V sz L D p T=some (T,q):=by
 have hb:=fm h;unfold gm;obtain⟨m,hm⟩:∃g,sz+1-p=g+1:=⟨sz-p,by omega⟩;rw[hm];simp only[nK,h,a0f,a0T]
theorem qj(h:dec L V sz p=some (i,q))(a:i≠256):gm V sz L D p T=(oneG V sz D i q).bind fun t=>(dR T t.1).bind fun T'=>gm V sz L D t.2 T':=by
 have hb:=fm h;unfold gm;obtain⟨m,hm⟩:∃g,sz+1-p=g+1:=⟨sz-p,by omega⟩;rw[hm];simp only[nK,h,a0f,a0e a];rcases b:oneG V sz D i q with _|⟨t,r⟩
 . rfl
 .
  simp only[a0f];have c:=rr b hb.1;rcases dR T t with _|T'
  . rfl
  . simp only[a0f];exact FA m m r T' (by omega) (by omega)
theorem KR: ∀(f p:Nat) (T T':List UInt8) (q:Nat),nK V sz L D f p T=some (T',q)->q<=sz/\p<q/\(T.length<=300->T'.length<=300):=by
 intro f;induction f with
 | zero=>intro p T T' q h;simp[nK]at h
 | succ f ih=>
  intro p T T' q h;rcases hd:dec L V sz p with _|⟨i,r⟩
  . simp[nK,hd]at h
  .
   have hb:=fm hd;simp only[nK,hd,a0f]at h
   split at h
   . simp only[a0i,a0R]at h;obtain⟨rfl,rfl⟩:=h;exact⟨hb.1,hb.2.1,id⟩
   .
    rcases b:oneG V sz D i r with _|⟨t,u⟩
    . rw[b]at h;simp at h
    .
     rw[b]at h;simp only[a0f]at h;have e:=rr b hb.1;rcases a:dR T t with _|T2
     . rw[a]at h;simp at h
     . rw[a]at h;simp only[a0f]at h;obtain⟨c,h2,d⟩:=ih u T2 T' q h;exact⟨c,by omega,fun _=>d (nQ a)⟩
theorem wQ{T':List UInt8}(h:gm V sz L D p T=some (T',q)):q<=sz/\p<q/\(T.length<=300->T'.length<=300):=KR _ _ _ _ _ h
theorem vz(w:World)(x y:Value)(t:TypeId)(g:Nat)(a:w.heap.size=g):(w.alloc (.cells #[x,y] t)).cell? ⟨g,0,none⟩=some x/\(w.alloc (.cells #[x,y] t)).cell? ⟨g,1,none⟩=some y:=by
 subst a;simp
def mj(w:World)(b:Nat):Nat:=match w.cell? ⟨b,0,none⟩with|some v=>sliceLen v|none=>0
theorem lQ(a:Option Addr)(cap n:Nat)(l:List Int)(w:World)(hn:l.length=n)(h:bp w a l)(hm:n<=300)(hc:∀i,i<l.length->0<=l.getD i 0/\l.getD i 0<=100000)(h2:1<(az l l.length).length) :
  Calls prog 123 #[.slice a n cap] w fun e w'=>e = .returned (.slice (some ⟨w.heap.size,0,none⟩) n n)/\ak w' w.heap.size (.slice (some ⟨w.heap.size,0,none⟩) n n) (bQ l)/\Below w.heap.size w w':=by
 have fn:(n:Int)<=300:=by omega
 obtain⟨i0,hi,et,ey,e0⟩:=a0t Tryz.infoInt;have E:=af (a0b hn (a0b hm (a0b hc h2)));have HR:=af h;have d3:Hid (∀k,(az l l.length).length-k<=1->(k<(az l l.length).length∨k=0)->bQ l=(ay l k).2):=by
  intro k h3 h4;unfold bQ;rw[a0e (by omega)]
  congr 2;omega
 clear hc h2 h;go_enter func123,ntmps123;go_wp2_with (at_make;refine a1y _ rfl _ _ 56 rfl w.heap.size 3 i0 (.int .i64 0) 1 a0D hi et ey .i64 .i64 _ _ n rfl rfl rfl rfl (by rw[e0];omega) (by unfold maxLen;omega) (a0a _) ?_;intro w1 bc V);have cr:ak w1 w.heap.size (.slice (some ⟨w.heap.size,0,none⟩) n n) (List.replicate l.length 0):=by
  rw[hn];exact cZ bc
 have b5:Below w.heap.size w w1:=(a0c _ _).grown V (a0a _) (fun k h=>by cases h);have fv:w.heap.size+1<=w1.heap.size:=cr.below.2;have c6:=af (uo a cap n l w1 hn ((ae HR).later b5) hm);have bk:=af (a0b cr b5);clear bc V hn hm cr b5 hi et ey e0;refine(ae c6).mono ?_;rintro e w2 ⟨rfl,L0,va0,vc0,d4,dl,bs,ei,I⟩;have eb:=(ae bk).1.later I (a0a _);have d2:=ap (ae bk).2 I;rw[←(ae E).1]at bs;clear c6 bk;generalize hB:w1.heap.size=B at *
 clear hB;go_wp2_with fail
 go_loopw [5,6,7,9] (fun _ _ _ _ wq=>∃(j:Nat) (L:List Grp) (va:Option Addr) (vc:Nat),(j<(az l l.length).length∨j=0)/\(L.map bare).Perm (ay l j).1/\cM wq B (B+1) (.slice va L.length vc) L/\HP L/\dE wq (B+1) L/\ak wq w.heap.size (.slice (some ⟨w.heap.size,0,none⟩) n n) (ay l j).2/\Below w.heap.size w wq) (fun _ _ _ _ wq=>mj wq B)
 case atStart=>exact⟨0,L0,va0,vc0,.inr rfl,bs,d4,dl,ei,eb,d2⟩
 case round=>
  obtain⟨j,L,va,vc,hj,hL,hh,hP,hs,hp,d⟩:=hrel;clear bs d4 dl ei eb d2 I;have HZ:=af (iF B (B+1) L.length vc va L wr hh);have cc:L.length=(az l l.length).length-j:=by
   have O:=hL.length_eq;rw[a0N,(bZ l j hj).2.2.2]at O;exact O
  by_cases a6:1<L.length
  .
   obtain⟨q,hq⟩:∃q,L.length=q+2:=⟨L.length-2,by omega⟩;obtain⟨g,rfl⟩:=hh.2.somes (by omega);rw[hq]at HZ;have cs:q+2<=300:=by
    have h2:=nE l l.length;have:=(ae E).1;have:=(ae E).2.1;omega
   have fr:(q:Int)+2<=300:=by omega
   have b9:cM wr B (B+1) (.slice (some ⟨g,0,none⟩) (q+1+1) vc) L:=by rw[hq]at hh;exact hh
   have c7:=af (zM B g (q+1) vc L wr hs hq (by omega) b9 hP);have H:=af (a0b hj (a0b hL (a0b b9 (a0b hP (a0b hs (a0b hp (a0b d a6)))))));clear hj hL b9 hP hs hp d a6 cc hh cs;go_wp2_with fail;refine(ae HZ).mono ?_;rintro e y1 ⟨rfl,ad⟩;rw[ad];clear ad y1;go_wp2_with fail;refine(ae c7).mono ?_;rintro e x1 ⟨rfl,M1,r,ao,d5,a4,X⟩;have f:Hid (Calls prog 165 #[.pointer (some ⟨B,0,none⟩)] x1 fun e w'=>e = .returned (.agg #[.int .i64 (M1.getD 0 g0).cnt,.int .i64 (M1.getD 0 g0).fst,(M1.getD 0 g0).val])/\∃M:List Grp,(M1.getD 0 g0 :: M).Perm M1/\HP M/\cM w' B (B+1) (.slice (some ⟨g,0,none⟩) q vc) M/\Below B x1 w'/\bj 3 x1 w'):=by
    obtain⟨hj,hL,hh,hP,hs,hp,d,a6⟩:=ae H;have a7:M1.length=q+1:=by have:=r.length_eq;simp at this;omega
    exact zM B g q vc M1 x1 ((X.syms hs).sub (fun y hy=>r.mem_iff.1 (by simp[hy]))) a7 (by omega) d5 ao
   have bl:=af (a0b r (a0b ao (a0b a4 X)));obtain⟨aa,ac,b4⟩:=((ae H).2.2.2.2.1 (L.getD 0 g0) (fy L 0 (by omega))).form;rw[b4];have dd:=fy L 0 (by omega);have cv:=af (a0b b4 dd);clear r ao d5 a4 X b4 dd;generalize c9:L.getD 0 g0=A at *
   have cy:=af c9;clear c9;go_wp2_with fail;refine(ae f).mono ?_;rintro e x2 ⟨rfl,M2,Q,dq,b8,I,d7⟩;have HF:Hid (M1.length=q+1/\M2.length=q/\ak x2 (B+1) A.val A.syms/\ak x2 (B+1) (M1.getD 0 g0).val (M1.getD 0 g0).syms/\dE x2 (B+1) M2/\ak x2 w.heap.size (.slice (some ⟨w.heap.size,0,none⟩) n n) (ay l j).2/\Below w.heap.size w x2/\M2.Perm M2):=by
    obtain⟨hj,hL,hh,hP,hs,hp,d,a6⟩:=ae H;obtain⟨r,ao,a4,X⟩:=ae bl;have a7:M1.length=q+1:=by have:=r.length_eq;simp at this;omega
    have d8:M2.length=q:=by have:=Q.length_eq;simp at this;omega
    have hk:=X.trans d7;have ej:dE x2 (B+1) M1:=(hk.syms hs).sub (fun y hy=>r.mem_iff.1 (by simp[hy]));exact⟨a7,d8,hk.ints (hs _ (ae cv).2),ej _ (fy M1 0 (by omega)),ej.sub (fun y hy=>Q.mem_iff.1 (by simp[hy])),hk.ints hp,(d.trans (a4.mono (by omega))).trans (I.mono (by omega)),a2i _⟩
   have c8:=af (a0b Q (a0b dq b8));obtain⟨ga,gc,b7⟩:=(ae HF).2.2.2.1.form;have D:=af (GF (ae E).2.2.1 (by rw[(ae E).1];exact(ae E).2.1) (ae H).1 (ae H).2.1 (ae H).2.2.2.1 (by omega) (by rw[ae cy];exact(ae bl).1) (ae bl).2.1 Q);rw[ae cy]at D;rw[b7];have e1:=af b7;have fc:=b8.lt;clear Q dq b8 I d7 b7;generalize M1.getD 0 g0=G at *
   clear c7 f HZ;go_wp2_with fail;have a3:Below x2.heap.size x2 (((x2.alloc (.cells #[.int .i64 A.cnt,.int .i64 A.fst,.slice aa A.syms.length ac] 222)).alloc (.cells #[.int .i64 G.cnt,.int .i64 G.fst,.slice ga G.syms.length gc] 222)).alloc (.cells #[.slice aa A.syms.length ac,.slice ga G.syms.length gc] 56)):=
    (((a0c _ _).alloc (a0a _) _).alloc (by simp) _).alloc (by simp;omega) _
   have dv:Three (((x2.alloc (.cells #[.int .i64 A.cnt,.int .i64 A.fst,.slice aa A.syms.length ac] 222)).alloc (.cells #[.int .i64 G.cnt,.int .i64 G.fst,.slice ga G.syms.length gc] 222)).alloc (.cells #[.slice aa A.syms.length ac,.slice ga G.syms.length gc] 56)) x2.heap.size (.int .i64 A.cnt) (.int .i64 A.fst) (.slice aa A.syms.length ac):=
    ((oU x2 _ _ _ _).later ((a0c _ _).alloc (a0a _) _)).later ((a0c _ _).alloc (a0a _) _)
   have d1:Three (((x2.alloc (.cells #[.int .i64 A.cnt,.int .i64 A.fst,.slice aa A.syms.length ac] 222)).alloc (.cells #[.int .i64 G.cnt,.int .i64 G.fst,.slice ga G.syms.length gc] 222)).alloc (.cells #[.slice aa A.syms.length ac,.slice ga G.syms.length gc] 56)) (x2.heap.size+1) (.int .i64 G.cnt) (.int .i64 G.fst) (.slice ga G.syms.length gc):=by
    have O:=oU (x2.alloc (.cells #[.int .i64 A.cnt,.int .i64 A.fst,.slice aa A.syms.length ac] 222)) (.int .i64 G.cnt) (.int .i64 G.fst) (.slice ga G.syms.length gc) 222;have e:(x2.alloc (.cells #[.int .i64 A.cnt,.int .i64 A.fst,.slice aa A.syms.length ac] 222)).heap.size=x2.heap.size+1:=by simp
    rw[e]at O;exact O.later ((a0c _ _).alloc (a0a _) _)
   have ds:iC (((x2.alloc (.cells #[.int .i64 A.cnt,.int .i64 A.fst,.slice aa A.syms.length ac] 222)).alloc (.cells #[.int .i64 G.cnt,.int .i64 G.fst,.slice ga G.syms.length gc] 222)).alloc (.cells #[.slice aa A.syms.length ac,.slice ga G.syms.length gc] 56)) (x2.heap.size+1+1) (B+1) [(.slice aa A.syms.length ac,A.syms.map (Value.int .i64)),(.slice ga G.syms.length gc,G.syms.map (Value.int .i64))]:=by
    have co:=(ae HF).2.2.1.later a3 (a0a _);have cp:=(ae HF).2.2.2.1.later a3 (a0a _);rw[(ae cv).1]at co;rw[ae e1]at cp;intro i hi
    match i,hi with
    | 0,_=>exact⟨(vz _ _ _ _ _ (by simp)).1,_,co,a1n .i64 _⟩
    | 1,_=>exact⟨(vz _ _ _ _ _ (by simp)).2,_,cp,a1n .i64 _⟩
   have e2:(((x2.alloc (.cells #[.int .i64 A.cnt,.int .i64 A.fst,.slice aa A.syms.length ac] 222)).alloc (.cells #[.int .i64 G.cnt,.int .i64 G.fst,.slice ga G.syms.length gc] 222)).alloc (.cells #[.slice aa A.syms.length ac,.slice ga G.syms.length gc] 56)).heap.size=x2.heap.size+3:=by simp
   generalize ((x2.alloc (.cells #[.int .i64 A.cnt,.int .i64 A.fst,.slice aa A.syms.length ac] 222)).alloc (.cells #[.int .i64 G.cnt,.int .i64 G.fst,.slice ga G.syms.length gc] 222)).alloc (.cells #[.slice aa A.syms.length ac,.slice ga G.syms.length gc] 56)=W3 at *
   have C:aK [(Value.slice aa A.syms.length ac,A.syms.map (Value.int .i64)),(Value.slice ga G.syms.length gc,G.syms.map (Value.int .i64))]=(A.syms++G.syms).length:=by simp[aK,cw]
   have R:dk [(Value.slice aa A.syms.length ac,A.syms.map (Value.int .i64)),(Value.slice ga G.syms.length gc,G.syms.map (Value.int .i64))]=(A.syms++G.syms).map (Value.int .i64):=by simp[dk]
   refine(pi (x2.heap.size+1+1) (B+1) 2 2 _ W3 rfl (by omega) (by omega) ds (by rw[C];have:=(ae D).2.2.2.2.2.1;omega)).mono ?_;rintro e x3 ⟨v,rfl,ch,T⟩;rw[C,R]at ch;have b3:ak x3 W3.heap.size v (A.syms++G.syms):=ch;have a8:=dv.later T;have a9:=d1.later T;have m:=ap a3 T;have N:Hid (cM x3 B (B+1) (.slice (some ⟨g,0,none⟩) q vc) M2/\dE x3 (B+1) M2/\ak x3 w.heap.size (.slice (some ⟨w.heap.size,0,none⟩) n n) (ay l j).2/\Below w.heap.size w x3/\ak x3 W3.heap.size v (A.syms++G.syms)/\Three x3 x2.heap.size (.int .i64 A.cnt) (.int .i64 A.fst) (.slice aa A.syms.length ac)/\Three x3 (x2.heap.size+1) (.int .i64 G.cnt) (.int .i64 G.fst) (.slice ga G.syms.length gc)/\x2.heap.size+3<=x3.heap.size):=by
    obtain⟨a7,d8,co,cp,e8,e7,e3,_⟩:=ae HF;refine⟨(ae c8).2.2.later m,e8.later m (a0a _),e7.later m (a0a _),e3.trans (m.mono (by omega)),b3,a8,a9,?_⟩;have:=T.size;omega
   obtain⟨sa,sc,el⟩:=b3.form;have a2:Hid ((A.syms++G.syms).length<=300/\0<(A.syms++G.syms).length/\(∀x∈A.syms++G.syms,0<=x/\x<(l.length:Int))):=by
    obtain⟨t1,t2,t3,t4,t5,t6,t7,t8,t9⟩:=ae D;refine⟨t6,?_,t9⟩;rw[a0m];omega
   clear a3 dv d1 ds ch T b3 a8 a9 m R C;generalize hS:A.syms++G.syms=S at *
   clear hS;obtain⟨gs,e4⟩:=(show ak x3 W3.heap.size (.slice sa S.length sc) S by rw[←el];exact(ae N).2.2.2.2.1).somes (ae a2).2.1;subst e4;subst el;have sI:(S.length:Int)<=300:=by have:=(ae a2).1;omega
   go_wp2_with fail;have e6:=af (se l (fun i hi=>((ae E).2.2.1 i hi).2) (by rw[(ae E).1];exact(ae E).2.1) j (ae H).1);have e5:Hid ((j:Int)<=300):=by
    show(j:Int)<=300;have O:=(ae H).1;have h2:=nE l l.length;have:=(ae E).1;have:=(ae E).2.1;omega
   have c5:Hid (mj wr B=q+2):=by
    show mj wr B=q+2;unfold mj;rw[(ae H).2.2.1.cell];rfl
   go_loopw [9,30] (fun _ i wq=>∃t:Nat,t<=S.length/\i = .int .i64 t/\ak wq w.heap.size (.slice (some ⟨w.heap.size,0,none⟩) n n) (bump (ay l j).2 (S.take t))/\Touch (some ⟨w.heap.size,0,none⟩) x3 wq/\Below w.heap.size w wq) (fun _ i _=>S.length-(intOf i).toNat)
   case atStart=>exact⟨0,a0g _,rfl,(ae N).2.2.1,Touch.refl _ _,(ae N).2.2.2.1⟩
   case round=>
    obtain⟨t,ht,rfl,J,c,a5⟩:=hrel;have cg:Hid ((bump (ay l j).2 (S.take t)).length=n):=by show(bump (ay l j).2 (S.take t)).length=n;rw[nT,dT,(ae E).1]
    have em:Hid (t<=S.length):=ht;clear ht;by_cases Y:t<S.length
    .
     have bd:=(ae N).2.2.2.2.1.touch c (jc _ _ (by omega));obtain⟨c0,_,_,_⟩:=bd.at rfl Y;have hx:=(ae a2).2.2 (S.getD t 0) (by simp[List.getD,Y]);rw[(ae E).1]at hx;have U:=af (uv (ay l j).2 S t Y);have bb:=af (rM (ae e6) (S.take t));obtain⟨p,eg⟩:=a0n hx.1;rw[eg]at c0 U;have ed:p<n:=by omega
     obtain⟨d0,f0,_,_⟩:=J.at (ae cg) ed;have cu:=ae bb p (by rw[ae cg];exact ed);have Z:=J.put (j:=p) (ae cg) ((bump (ay l j).2 (S.take t)).getD p 0+1);have ek:Hid (bump (ay l j).2 (S.take (t+1))=(bump (ay l j).2 (S.take t)).set p ((bump (ay l j).2 (S.take t)).getD p 0+1)):=by
      show bump (ay l j).2 (S.take (t+1))=_;rw[ae U];unfold fu;rw[a0p]
     have f2:(bump (ay l j).2 (S.take t)).getD p 0<=100000:=by
      have O:=cu.2;have h2:(S.take t).length<=300:=by rw[a0H];have:=(ae a2).1;omega
      have:=ae e5;omega
     have fz:=cu.1;have ba:=ah a5 (b:=w.heap.size) (o:=p) (a0a _) (.int .i64 ((bump (ay l j).2 (S.take t)).getD p 0+1));have ab:=c.set (o:=p) rfl (.int .i64 ((bump (ay l j).2 (S.take t)).getD p 0+1));have fb:(p:Int)<(n:Int):=by omega
     rw[←ae ek]at Z;generalize (bump (ay l j).2 (S.take t)).getD p 0=y at *
     have K:=af (a0b Z (a0b ba ab));have fa:(t:Int)<(S.length:Int):=by omega
     clear Z ba ab ek cu bb U eg hx bd c a5 J;go_wp2;go_roundw
     case rel=>exact⟨t+1,by have:=ae em;omega,by go_num,(ae K).1,(ae K).2.2,(ae K).2.1⟩
     case measure=>simp[intOf];omega
    .
     obtain rfl:t=S.length:=by have:=ae em;omega
     rw[a0F (a0a _)]at J;obtain⟨h3,s3,_,_,o3,tA,tG,z3⟩:=ae N;have HY:Hid (cM wr B (B+1) (.slice (some ⟨g,0,none⟩) q vc) M2/\dE wr (B+1) M2/\ak wr (B+1) (.slice (some ⟨gs,0,none⟩) S.length sc) S):=by
      refine⟨⟨(c.2 B (fun g' e=>by simp only[a0i,a0A,a0V]at e;omega)).trans h3.1,mT h3.2 c (jc _ _ (by omega))⟩,fun y hy=>(s3 y hy).touch c (jc _ _ (by omega)),?_⟩;have h4:=o3.touch c (jc _ _ (by omega));exact ak.mono h4 (by omega)
     obtain⟨a0,a1,_,_,_,_,abl⟩:=tA;obtain⟨b0,b1,_,_,_,_,fl⟩:=tG;have a0':=(gP c (p:=⟨x2.heap.size,0,none⟩) (by show x2.heap.size≠w.heap.size;omega)).trans a0;have a1':=(gP c (p:=⟨x2.heap.size,1,none⟩) (by show x2.heap.size≠w.heap.size;omega)).trans a1;have fh:=(gP c (p:=⟨x2.heap.size+1,0,none⟩) (by show x2.heap.size+1≠w.heap.size;omega)).trans b0;have fk:=(gP c (p:=⟨x2.heap.size+1,1,none⟩) (by show x2.heap.size+1≠w.heap.size;omega)).trans b1;obtain⟨t1,t2,t3,t4,t5,t6,t7,t8,t9⟩:=ae D;obtain⟨F,hF⟩:∃F:Int,F=if G.fst<A.fst then G.fst else A.fst:=⟨_,rfl⟩
     rw[←hF]at t2;have f:=af (a0b t1 t2);have al:=af (yE B q vc (some ⟨g,0,none⟩) M2 ⟨A.cnt+G.cnt,F,S,.slice (some ⟨gs,0,none⟩) S.length sc⟩ wr (ae HY).2.1 (ae HY).2.2 (ae HF).2.1 (by omega) (ae HY).1 (ae c8).2.1);have an:=af (a0b J a5);clear h3 s3 o3 z3 a0 a1 b0 b1 c J a5 e2 t1 t2 t6 t7 t8 t9;by_cases e9:A.fst<=G.fst
     .
      have P:F=A.fst:=by rw[hF,a0e (by omega)]
      rw[P]at al f;clear hF P;go_wp2_with fail;refine(ae al).mono ?_;rintro e x5 ⟨rfl,M3,g',c',s,b2,W,b6,z⟩;go_wp2;go_roundw
      case rel=>
       have ca:M3.length=q+1:=by rw[s.length_eq,a0m,(ae HF).2.1];rfl
       have u:=(ae an).1;refine⟨j+1,M3,some ⟨g',0,none⟩,c',.inl ?_,(ae f).2 M3 _ s,by rw[ca];exact W,b2,?_,?_,(ae an).2.trans (b6.mono (by omega))⟩
       . have O:=(ae H).2.1.length_eq;rw[a0N,(bZ l j (ae H).1).2.2.2]at O;omega
       . exact(((z.syms (ae HY).2.1)).snoc (z.ints (ae HY).2.2)).perm s
       . show ak x5 w.heap.size _ (bump (ay l j).2 (bf (ay l j).1));rw[(ae f).1];exact z.ints u
      case measure=>
       rw[ae c5];unfold mj;rw[W.cell];simp[sliceLen]
     .
      have P:F=G.fst:=by rw[hF,a0d (by omega)]
      rw[P]at al f;clear hF P;go_wp2_with fail;refine(ae al).mono ?_;rintro e x5 ⟨rfl,M3,g',c',s,b2,W,b6,z⟩;go_wp2;go_roundw
      case rel=>
       have ca:M3.length=q+1:=by rw[s.length_eq,a0m,(ae HF).2.1];rfl
       have u:=(ae an).1;refine⟨j+1,M3,some ⟨g',0,none⟩,c',.inl ?_,(ae f).2 M3 _ s,by rw[ca];exact W,b2,?_,?_,(ae an).2.trans (b6.mono (by omega))⟩
       . have O:=(ae H).2.1.length_eq;rw[a0N,(bZ l j (ae H).1).2.2.2]at O;omega
       . exact(((z.syms (ae HY).2.1)).snoc (z.ints (ae HY).2.2)).perm s
       . show ak x5 w.heap.size _ (bump (ay l j).2 (bf (ay l j).1));rw[(ae f).1];exact z.ints u
      case measure=>
       rw[ae c5];unfold mj;rw[W.cell];simp[sliceLen]
  . obtain⟨va',vc',hform⟩:∃x y,Value.slice va L.length vc = .slice x L.length y:=⟨_,_,rfl⟩;have eh:=ae d3 j (by omega) hj;rw[←eh]at hp;clear hform;go_wp2_with fail;refine(ae HZ).mono ?_;rintro e y1 ⟨rfl,ad⟩;rw[ad];clear ad y1;go_wp2;go_ret;exact⟨rfl,hp,d⟩
theorem tg(h:bP o k<o.getD k 0):bP o (k+1)=o.getD k 0:=by simp only[bP];rw[a0d h]
theorem wB(h:¬ bP o k<o.getD k 0):bP o (k+1)=bP o k:=by simp only[bP];rw[a0e h]
theorem H9(b:0<=o.getD 0 0):bP o 1=o.getD 0 0:=by
 by_cases h:bP o 0<o.getD 0 0
 . exact tg h
 . have a:bP o 1=bP o 0:=wB h;have e:bP o 0=0:=rfl;rw[e]at h a;rw[a];exact(Int.le_antisymm (Int.not_lt.1 h) b).symm
def Ch(v:Value)(w:World)(n:Nat):Nat:=match v with
 | .slice (some a) _ _=>((List.range n).map (fun i=>(intOf ((w.cell? ⟨a.block,a.off+i,none⟩).getD (.int .i64 0))).toNat)).sum
 | _=>0
theorem Dz{w:World}{a:Option Addr}{c:Nat}(e:l.length=n)(b:1<=n)(h:bp w a l):Ch (.slice a n c) w n=jg l:=by
 obtain⟨g,o,rfl,f,d⟩:=h (by omega);unfold Ch jg;simp only
 congr 1
 apply a2g
 . simp[e]
 . intro i b h2;simp only[a0N,List.length_range]at b;simp only[List.getElem_map,List.getElem_range];rw[d i (by omega)];simp[intOf,List.getD,show i<l.length by omega]
theorem tc(a:Option Addr)(cap n:Nat)(o:List Int)(w:World)(t:o.length=n)(h:bp w a o)(r:1<=n)(z:n<=300)(d:∀i,i<o.length->0<=o.getD i 0) :
  Calls prog 119 #[.slice a n cap] w fun e w'=>e = .returned (.int .i64 (bP o n))/\w'=w:=by
 have A:(n:Int)<=300:=by omega
 have x:(1:Int)<=(n:Int):=by omega
 have p:=af (a0b t (a0b r d));obtain⟨g,off,rfl,E,f⟩:=h (by omega);have c0:=f 0 (by omega);have e0:=af (H9 (d 0 (by omega)));rw[a1q]at c0;have v:=af f;clear t h z d f r;generalize B:o.getD 0 0=y0 at *
 clear B;go_enter func119,ntmps119;go_wp2_with fail
 go_loop [3,4] (fun m i=>∃k:Nat,1<=k/\k<=n/\i = .int .i64 k/\m = .int .i64 (bP o k)) (fun _ i=>n-(intOf i).toNat)
 case atStart=>exact⟨1,a0a _,(ae p).2.1,rfl,by rw[ae e0]⟩
 case round=>
  obtain⟨k,u,s,rfl,rfl⟩:=hrel;have C:=af (a0b u s);by_cases j:k<n
  .
   have D:=ae v k (by rw[(ae p).1];exact j);have c:=af (fun h=>tg (o:=o) (k:=k) h);have l:=af (fun h=>wB (o:=o) (k:=k) h);clear s u c0;generalize o.getD k 0=y at *
   generalize bP o k=q at *
   by_cases b:q<y
   .
    have e1:=af (ae c b);go_wp2
    go_round
    case rel=>exact⟨k+1,by omega,by omega,by go_num,by rw[ae e1]⟩
    case measure=>simp[intOf];omega
   .
    have e1:=af (ae l b);go_wp2
    go_round
    case rel=>exact⟨k+1,by omega,by omega,by go_num,by rw[ae e1]⟩
    case measure=>simp[intOf];omega
  .
   obtain rfl:k=n:=by omega
   go_wp2;go_ret;exact⟨rfl,rfl⟩
theorem AY(x:Int)(w:World)(a:0<=x)(b:x<=1000000) :
  Calls prog 124 #[.int .i64 x] w fun e w'=>e = .returned (.int .i64 (g9 x))/\w'=w:=by
 go_enter func124,ntmps124;go_wp2;go_ret;exact⟨rfl,rfl⟩
theorem vP(a:Option Addr)(cap n:Nat)(l:List Int)(w:World)(H:l.length=n)(h:bp w a l)(G:n<=1048576)(E:okC l) :
  Calls prog 121 #[.slice a n cap,.func (.func 124) #[] #[]] w fun e w'=>∃v,e = .returned v/\ak w' w.heap.size v (bo l)/\Below w.heap.size w w':=by
 have M:(n:Int)<=1048576:=by omega
 have p:=af H;have K:=af G;have I:=af E;clear H G E;obtain⟨i0,L,B,C,D⟩:=a0t Tryz.infoInt;go_enter func121,ntmps121;go_wp2_with fail
 go_loopw [5,7,10] (fun o _ i wr=>∃k:Nat,k<=n/\i = .int .i64 k/\ak wr w.heap.size o (bo (l.take k))/\Below w.heap.size w wr) (fun _ _ i _=>n-(intOf i).toNat)
 case atStart=>exact⟨0,a0g _,rfl,a05 _ _ _ _,a0c _ _⟩
 case round=>
  obtain⟨k,F,rfl,hq,b⟩:=hrel;have q:=b.size;by_cases m:k<n
  .
   obtain⟨g,o,rfl,N,r⟩:=(h.later b) (by rw[ae p];omega);have c0:=r k (by rw[ae p];exact m);obtain⟨y0,y1⟩:=ae I k (by rw[ae p];exact m);have A:Hid (bo (l.take (k+1))=bo (l.take k)++[g9 (l.getD k 0)]):=by
    show _=_;unfold bo;rw[ci l k (by rw[ae p];exact m),a0I];rfl
   have z:Hid ((bo (l.take k)).length=k):=by show _=k;have:=ae p;rw[dY];simp;omega
   have J:=af F;clear r F h;generalize l.getD k 0=y at *
   have HP:=af (AY y wr (by omega) (by omega));generalize g9 y=R at *
   go_wp2_with fail;refine(ae HP).mono ?_;rintro e x1 ⟨rfl,u⟩;rw[u];clear u x1;have d:Hid ((bo (l.take k)).length+1<=maxLen/\((bo (l.take k)).length+1)*8<=140737488355328):=by
    show _/\_;rw[ae z];have:=ae K;unfold maxLen;omega
   clear HP;go_wp2_with (at_builtin;refine a0x _ rfl _ _ 56 rfl w.heap.size 3 i0 (.int .i64 0) 1 8 a0D L B C D rfl (by decide) _ _ _ rfl (a0r hq _) ⟨wr.heap.size,0,none⟩ 1 1 [.int .i64 R] rfl rfl (bD _ _ rfl _ _) (en _) (ae d).1 (ae d).2 (ax q _) ?_;intro v' x2 j c s;clear s);have x:=aG (v:=u5) c hq (a0a _) q b;have t:=mw j;rw[←ae A]at t;clear j c hq;go_wp2;go_roundw
   case rel=>exact⟨k+1,by have:=ae J;omega,by go_num,t,x⟩
   case measure=>simp[intOf];omega
  . have f:l.take k=l:=a0F (by rw[ae p];omega);rw[f]at hq;obtain⟨va,vc,rfl⟩:=hq.form;clear f h;go_wp2;go_ret;exact⟨_,rfl,hq,b⟩
theorem IQ(l:List Int)(k i:Nat)(d:i<k)(c:0<l.getD i 0):∃g∈az l k,g.fst=(i:Int):=by
 induction k with
 | zero=>omega
 | succ k ih=>
  by_cases e:i=k
  . subst e;refine⟨⟨l.getD i 0,(i:Int),[(i:Int)],.slice none 0 0⟩,?_,rfl⟩;rw[tJ c];simp
  .
   obtain⟨g,a,b⟩:=ih (by omega);refine⟨g,?_,b⟩;simp only[az]
   split
   . simp[a]
   . exact a
theorem IR(l:List Int)(k:Nat):∀g∈az l k,∃i:Nat,g.fst=(i:Int)/\i<k/\0<l.getD i 0:=by
 induction k with
 | zero=>intro g a;simp[az]at a
 | succ k ih=>
  intro g a;simp only[az]at a
  split at a
  .
   rename_i hp;simp only[a0X,a02]at a;rcases a with a|rfl
   . obtain⟨i,b,h2,c⟩:=ih g a;exact⟨i,b,by omega,c⟩
   . exact⟨k,rfl,by omega,hp⟩
  . obtain⟨i,b,h2,c⟩:=ih g a;exact⟨i,b,by omega,c⟩
theorem we(m:okC l)(a:(az l l.length).length=1):bQ l=l.map gE:=by
 unfold bQ;rw[a0d a];obtain⟨x,hx⟩:∃x,az l l.length=[x]:=by
  cases j:az l l.length with
  | nil=>rw[j]at a;simp at a
  | cons x t=>rw[j]at a;simp at a;exact⟨x,by rw[a]⟩
 obtain⟨q,hq,p,h⟩:=IR l l.length x (by rw[hx];simp);rw[hx];simp only[List.getD_cons_zero];rw[hq,a0p];apply a2g
 . simp
 .
  intro i h2 k;have f:i<l.length:=by simpa using k
  have e:l.getD i 0=l[i]:=by simp[List.getD,f]
  have b:=m i f;rw[List.getElem_set,List.getElem_map,List.getElem_replicate];by_cases c:q=i
  .
   subst c;rw[a0d rfl];rw[e]at h b;unfold gE
   split<;>omega
  .
   rw[a0e c];have r:¬ 0<l.getD i 0:=by
    intro o;obtain⟨g,d,n⟩:=IQ l l.length i f o;rw[hx]at d;simp only[a02]at d;subst d;rw[hq]at n;omega
   rw[e]at r b;unfold gE
   split<;>omega
theorem JQ{m:Int}(j:1<=m)(b:okC l)(d:(az l l.length).length=1):dc m l=l.map gE:=by
 have g:fits (bQ l) m=true:=by
  refine CX (by omega) ?_;rw[we b d];intro i h;have a:i<l.length:=by simpa using h
  have e:(l.map gE).getD i 0=gE l[i]:=by simp[List.getD,a]
  have e2:l.getD i 0=l[i]:=by simp[List.getD,a]
  have c:=b i a;rw[e2]at c;rw[e];unfold gE
  split<;>omega
 rw[←we b d];unfold dc;cases jg l with
 | zero=>rfl
 | succ f=>simp only[oa];rw[g];rfl
theorem J0(b:okC l)(c:l.length<=300)(h2:1<(az l l.length).length):∀i,i<(bQ l).length->0<=(bQ l).getD i 0:=by
 intro i a;have e:bQ l=(ay l ((az l l.length).length-1)).2:=by unfold bQ;rw[a0e (by omega)]
 rw[e]at a ⊢;exact((se l (fun i a=>(b i a).2) c _ (.inl (by omega))) i a).1
theorem sg(a:Option Addr)(cap n:Nat)(l:List Int)(m:Int)(w:World)(g:l.length=n)(h:bp w a l)(f:n<=1048576)(c:uS l m=false) :
  CD 95 #[.slice a n cap,.int .i64 m] w (.slice none 0 0):=by
 have j:=af (lz a cap n l w g h f);by_cases v:m<1
 .
  clear g h f c;generalize iA l=U at *
  go_enter a2L,a2M;go_wp2_with fail;refine(ae j).mono ?_;rintro e x1 ⟨rfl,d⟩;rw[d];go_wp2;go_ret;exact⟨rfl,a0c _ _⟩
 .
  by_cases p:15<m
  .
   clear g h f c;generalize iA l=U at *
   go_enter a2L,a2M;go_wp2_with fail;refine(ae j).mono ?_;rintro e x1 ⟨rfl,d⟩;rw[d];go_wp2;go_ret;exact⟨rfl,a0c _ _⟩
  .
   by_cases i:iA l<1
   .
    clear g h f c;generalize iA l=U at *
    go_enter a2L,a2M;go_wp2_with fail;refine(ae j).mono ?_;rintro e x1 ⟨rfl,d⟩;rw[d];go_wp2;go_ret;exact⟨rfl,a0c _ _⟩
   .
    obtain⟨mm,rfl⟩:∃mm:Nat,m=(mm:Int)+1:=⟨(m-1).toNat,by omega⟩;have b:(decide (l.length<=300)&&inC l)=true:=by
     cases u:decide (l.length<=300)&&inC l
     . exfalso;apply i;unfold iA;rw[u];simp
     . rfl
    have k:(p2 mm:Int)<iA l:=by
     simp only[a0l,a0u]at b;rw[mH b.1 b.2]at i ⊢;unfold uS at c;rw[a0v b.1,b.2,aC.2 ⟨by omega,by omega⟩]at c;have e3:((mm:Int)+1).toNat=mm+1:=by omega
     rw[e3,wG]at c;simp only[a2U]at c;have:=dZ.1 c;omega
    have s:iA l<=300:=by
     simp only[a0l,a0u]at b;rw[mH b.1 b.2];have:=qS l;omega
    have r:(1:Int)*2 ^ mm=(p2 mm:Int):=by rw[Int.one_mul,jI]
    have o:(2:Int) ^ mm=(p2 mm:Int):=(jI mm).symm;have q:(mm:Int)<=14:=by omega
    have t:IntKind.i64.wrap (p2 mm:Int)=(p2 mm:Int):=bF _ (by omega) (by omega);clear g h f c b;generalize iA l=U at *
    generalize p2 mm=PW at *
    go_enter a2L,a2M;go_wp2_with fail;refine(ae j).mono ?_;rintro e x1 ⟨rfl,d⟩;rw[d];go_wp2;go_ret;exact⟨rfl,a0c _ _⟩
def sP(o:List Int)(i:Nat):Nat:=(o.getD i 0).toNat
theorem Hu(l:List Int)(i:Nat)(h:i<l.length):l.getD i 0∈l:=by simp[List.getD,h]
theorem uJ(h2:2<=(az l l.length).length) :
  (∀i,i<l.length->0<=(bQ l).getD i 0/\(bQ l).getD i 0<=(((az l l.length).length-1:Nat):Int)) /\
  (∀i,i<l.length->(0<(bQ l).getD i 0<->0<l.getD i 0)) /\
  (∀D,(az l l.length).length<=D->krR l (sP (bQ l)) D l.length=2 ^ D) /\
  nZ l (bQ l) l.length=qn ((az l l.length).length-1) (az l l.length):=by
 obtain⟨U,hU⟩:∃U,(az l l.length).length=U+2:=⟨(az l l.length).length-2,by omega⟩;have A:bQ l=(ay l (U+1)).2:=by
  unfold bQ;rw[a0e (by omega),hU];rfl
 have k:U+1<(az l l.length).length∨U+1=0:=.inl (by omega);have m:=kE l (U+1) k;have b:(ay l (U+1)).1.length=1:=by have:=(bZ l (U+1) k).2.2.2;omega
 have B:(ay l U).1.length=2:=by have:=(bZ l U (by omega)).2.2.2;omega
 obtain⟨g,hg⟩:∃g,(ay l (U+1)).1=[g]:=by
  cases v:(ay l (U+1)).1 with
  | nil=>rw[v]at b;simp at b
  | cons x t=>rw[v]at b;simp at b;exact⟨x,by rw[b]⟩
 have a:=mt l (U+1) k;have p:(g.syms).Perm (bm (az l l.length)):=by
  rw[hg]at a
  simpa[bm]using a
 rw[A];refine⟨?_,?_,?_,?_⟩
 .
  intro i h;have:=m i (by rw[dT];exact h);refine⟨this.1,?_⟩;have e:(((az l l.length).length-1:Nat):Int)=((U+1:Nat):Int):=by rw[hU];omega
  rw[e];exact this.2
 .
  intro i h;constructor
  .
   intro u;apply Classical.byContradiction;intro C;have H:=uI l i h (fun q=>by
    obtain⟨j,d,s,w⟩:=(xT l l.length (i:Int)).1 q;have:i=j:=by omega
    subst this;exact C w) (U+1) k
   omega
  .
   intro u;have q:(i:Int)∈bm (az l l.length):=(xT l l.length (i:Int)).2 ⟨i,rfl,h,u⟩;have f:1<(ay l U).1.length:=by omega
   have n:=gx l U (by omega);have c:=ja _ f;have G:=dj (ay l U).1 (by omega);have E:=dj (ar (ay l U).1) (by omega);have o:ar (ar (ay l U).1)=[]:=a2x (by omega);rw[o]at c;have r:(i:Int)∈bf (ay l U).1:=by
    have d:=(mt l U (by omega)).mem_iff.2 q;have s:=c.mem_iff.2 d;simpa[bm]using s
   have hb:=ly (ay l U).2 (bf (ay l U).1) i (i7 f n.1).1 (fun y F=>(n.2 y (c.mem_iff.1 (by simp[F]))).1) (by rw[dT];exact h);rw[a0d r]at hb;have hd:=(kE l U (by omega)) i (by rw[dT];exact h);show 0<(bump (ay l U).2 (bf (ay l U).1)).getD i 0;omega
 . intro D z;have d:=JZ l D z (U+1) k g (by rw[hg];simp);rw[←ud,←d];exact(EZ _ p).symm
 .
  have d:=JY l (U+1) k;have e:(az l l.length).length-1-(U+1)=0:=by omega
  rw[e]at d;simp only[qn,Int.add_zero]at d;exact d
theorem GU{len:Nat->Nat}{D E:Nat}(b:E<=D)(h:∀i,i<n->0<l.getD i 0->len i<=E):krR l len D n=2 ^ (D-E)*krR l len E n:=by
 induction n with
 | zero=>rfl
 | succ n ih=>
  simp only[krR];rw[ih (fun i c=>h i (by omega)),a2d];by_cases a:0<l.getD n 0
  .
   rw[a0d a,a0d a];have:=h n (by omega) a;rw[←a0S]
   congr 2
   omega
  . rw[a0e a,a0e a];rfl
theorem GV{E:Nat}(h2:2<=(az l l.length).length)(h:∀i,i<l.length->(bQ l).getD i 0<=(E:Int)):krR l (sP (bQ l)) E l.length=2 ^ E:=by
 obtain⟨e,_,d,_⟩:=uJ h2;have b:∀i,i<l.length->0<l.getD i 0->sP (bQ l) i<=E:=by
  intro i c _;have:=h i c;unfold sP;omega
 have a:=GU (D:=E+(az l l.length).length) (Nat.le_add_right _ _) b;rw[d _ (Nat.le_add_left _ _),a19,a0S,a1d]at a;exact(Nat.eq_of_mul_eq_mul_left (Nat.pow_pos (by omega)) a).symm
theorem J8(e:o.length=l.length)(h:∀i,i<l.length->(0<o.getD i 0<->0<l.getD i 0))(k:Nat)(d:k<=l.length):kr (o.take k)=krR l (sP o) 15 k/\us (o.take k)=(az l k).length:=by
 induction k with
 | zero=>exact⟨rfl,rfl⟩
 | succ k ih=>
  obtain⟨c,h2⟩:=ih (by omega);rw[wh o k (by omega),oW o k (by omega),c,h2];simp only[krR];have b:=h k (by omega);by_cases a:0<l.getD k 0
  .
   rw[a0d a,a0d (b.2 a),iO a];refine⟨?_,by simp⟩;unfold krN sP p2;rw[a0d (b.2 a)]
   congr 2
   have:=b.2 a;omega
  . rw[a0e a,a0e (fun x=>a (b.1 x)),lX a];refine⟨?_,rfl⟩;unfold krN;rw[a0e (fun x=>a (b.1 x))]
theorem Ae(c:o.length=l.length)(j:l.length<=300)(h:∀i,i<l.length->(0<o.getD i 0<->0<l.getD i 0))(b:∀i,i<l.length->0<=o.getD i 0/\o.getD i 0<=15)(a:krR l (sP o) 15 l.length=32768∨((az l l.length).length=1/\krR l (sP o) 15 l.length=16384)):au o=true:=by
 obtain⟨d,h2⟩:=J8 c h l.length (a0a _);rw[←c,a3H,c]at d h2;unfold au kX;simp only[a0l,a1h,a0u];refine⟨⟨?_,by omega⟩,?_⟩
 .
  unfold inL;rw[a1m];intro x g;obtain⟨i,f,rfl⟩:=a18 g;have:=b i (by omega);have e:o.getD i 0=o[i]:=by simp[List.getD,f]
  rw[e]at this;exact aC.2 this
 .
  rw[d,h2];rcases a with a|a
  . exact .inl a
  . exact .inr a
theorem Dj(o:List Int)(k i:Nat)(a:i<k):o.getD i 0<=bP o k:=by
 induction k with
 | zero=>omega
 | succ k ih=>
  by_cases h:bP o k<o.getD k 0
  .
   rw[tg h];by_cases e:i=k
   . subst e;exact a2y _
   . have:=ih (by omega);omega
  .
   rw[wB h];by_cases e:i=k
   . subst e;omega
   . exact ih (by omega)
theorem Ed(m:Nat):∀(f:Nat) (l:List Int),okC l->1<=(az l l.length).length->(az l l.length).length<=p2 m->jg l<=f ->
  ∃c:List Int,c.length=l.length/\okC c/\(∀i,i<l.length->(0<c.getD i 0<->0<l.getD i 0))/\oa ((m:Int)+1) f l=bQ c/\(∀i,i<l.length->(bQ c).getD i 0<=(m:Int)+1)/\(az c c.length).length=(az l l.length).length:=by
 intro f;induction f with
 | zero=>
  intro l e k _ v;exfalso;obtain⟨g,u⟩:∃g,g∈az l l.length:=by
   cases b:az l l.length with
   | nil=>rw[b]at k;simp at k
   | cons x t=>exact⟨x,by simp⟩
  obtain⟨_,i,_,d,q,_⟩:=oL l l.length g u;have:∀(a:List Int) (x:Int),x∈a->0<x->0<jg a:=by
   intro a x j q;induction a with
   | nil=>cases j
   | cons y a ih=>
    simp only[jg,a0B,a0P]at ih ⊢;simp only[a08]at j;rcases j with rfl|j
    . omega
    . have:=ih j;omega
  have:=this l (l.getD i 0) (Hu l i d) q;omega
 | succ f ih=>
  intro l e k p v;cases h:fits (bQ l) ((m:Int)+1)
  .
   have hex:=tj p h;have r:=(tO l (wC e)).2 hex;have b:=pS l (fun i d=>(e i d).1) l.length (a0a _);obtain⟨c,c1,c2,c3,c4,n,o⟩:=ih (bo l) (tp e) (by rw[dY,b];exact k) (by rw[dY,b];exact p) (by omega);rw[dY]at c1 c3 n o;refine⟨c,c1,c2,?_,?_,n,by rw[o,b]⟩
   . intro i d;rw[c3 i d,pu l i d];unfold g9;have:=(e i d).1;omega
   . simp only[oa];rw[h];exact c4
  .
   refine⟨l,rfl,e,fun i _=>Iff.rfl,?_,?_,rfl⟩
   . simp only[oa];rw[h];rfl
   . intro i d;unfold fits at h;have s:=a3h h;rw[hH]at s;have:=Dj (bQ l) l.length i d;omega
theorem uU{c:List Int}(d:okC c)(g:(az c c.length).length=1)(i:Nat)(b:i<c.length):(bQ c).getD i 0=if 0<c.getD i 0 then 1 else 0:=by
 rw[we d g];have e:(c.map gE).getD i 0=gE c[i]:=by simp[List.getD,b]
 have e2:c.getD i 0=c[i]:=by simp[List.getD,b]
 have a:=d i b;rw[e2]at a ⊢;rw[e];unfold gE;by_cases f:0<c[i]
 . rw[a0d f];split<;>omega
 . rw[a0e f];split<;>omega
theorem Lx{c:List Int}(d:okC c)(k:Nat)(f:k<=c.length)(b:(az c c.length).length=1):krR c (sP (bQ c)) 15 k=(az c k).length*16384:=by
 induction k with
 | zero=>simp[krR,az]
 | succ k ih=>
  simp only[krR];rw[ih (by omega)];have h:=uU d b k (by omega);by_cases a:0<c.getD k 0
  .
   rw[a0d a,iO a];have e:sP (bQ c) k=1:=by unfold sP;rw[h,a0d a];rfl
   have e2:(2:Nat) ^ (15-1)=16384:=by decide
   rw[e,e2,a0m,a1g,a1W,Nat.one_mul]
  . rw[a0e a,lX a,a1q]
theorem sU{m:Nat}(p:okC l)(s:l.length<=300)(n:1<=(az l l.length).length)(o:(az l l.length).length<=p2 m)(t:m<=14) :
  (dc ((m:Int)+1) l).length=l.length/\au (dc ((m:Int)+1) l)=true/\∀i,i<l.length->0<=(dc ((m:Int)+1) l).getD i 0/\(dc ((m:Int)+1) l).getD i 0<=(m:Int)+1/\(0<(dc ((m:Int)+1) l).getD i 0<->0<l.getD i 0):=by
 obtain⟨c,c1,c2,c3,c4,j,r⟩:=Ed m (jg l) l p n o (a0a _);have e:dc ((m:Int)+1) l=bQ c:=c4;rw[e];by_cases b:(az c c.length).length=1
 .
  have q:=uU c2 b;have d:∀i,i<l.length->0<=(bQ c).getD i 0/\(bQ c).getD i 0<=1/\(0<(bQ c).getD i 0<->0<l.getD i 0):=by
   intro i a;have h:=q i (by omega);have k:=c3 i a;by_cases g:0<c.getD i 0
   . rw[a0d g]at h;rw[h];exact⟨by omega,by omega,⟨fun _=>k.1 g,fun _=>by omega⟩⟩
   . rw[a0e g]at h;rw[h];exact⟨by omega,by omega,⟨fun x=>by omega,fun x=>absurd (k.2 x) g⟩⟩
  refine⟨by rw[hH,c1],?_,fun i a=>⟨(d i a).1,j i a,(d i a).2.2⟩⟩;refine Ae (l:=c) (hH c) (by omega) ?_ ?_ (.inr ⟨b,by rw[Lx c2 _ (a0a _) b,b]⟩)
  . intro i a;exact(d i (by omega)).2.2.trans (c3 i (by omega)).symm
  . intro i a;have:=d i (by omega);exact⟨this.1,by omega⟩
 .
  have h2:2<=(az c c.length).length:=by omega
  obtain⟨f0,f1,_,_⟩:=uJ h2;refine⟨by rw[hH,c1],?_,fun i a=>⟨(f0 i (by omega)).1,j i a,(f1 i (by omega)).trans (c3 i a)⟩⟩;have f:∀i,i<c.length->(bQ c).getD i 0<=((15:Nat):Int):=fun i a=>by have:=j i (by omega);omega
  refine Ae (l:=c) (hH c) (by omega) f1 (fun i a=>⟨(f0 i a).1,f i a⟩) (.inl (GV h2 f))
theorem si(a:Option Addr)(cap n mm:Nat)(l:List Int)(w:World)(M:l.length=n)(h:bp w a l)(hm:n<=300)(hc:inC l=true)(Z:mm<=14)(al:1<=us l)(P:us l<=p2 mm) :
  Calls prog 95 #[.slice a n cap,.int .i64 ((mm:Int)+1)] w fun e w'=>(∃v,e = .returned v/\ak w' w.heap.size v (dc ((mm:Int)+1) l))/\Below w.heap.size w w':=by
 have Y:=qS l;have HU:=af (lz a cap n l w M h (by omega));rw[mH (by omega) hc]at HU;have a3:(us l:Int)<=300:=by omega
 have a1:(1:Int)<=(us l:Int):=by omega
 have a2:(us l:Int)<=(p2 mm:Int):=by omega
 have ba:(1:Int)*2 ^ mm=(p2 mm:Int):=by rw[Int.one_mul,jI]
 have a8:(2:Int) ^ mm=(p2 mm:Int):=(jI mm).symm;have a9:(mm:Int)<=14:=by omega
 have ab:p2 mm<=16384:=by
  have h1:p2 mm<=p2 14:=a0Q (by omega) (by omega);have h2:p2 14=16384:=rfl;omega
 have bb:IntKind.i64.wrap (p2 mm:Int)=(p2 mm:Int):=bF _ (by omega) (by omega);have y:=LH hc;by_cases s:us l=1
 .
  have HE:=af (xL a cap n l w M h (by omega) y);have j:Hid (dc ((mm:Int)+1) l=l.map gE):=JQ (by omega) y (by rw[eE];exact s);rw[s]at a2 HU;have Hn:=af M;clear M h hm hc Z al P Y a3 a1 s y ab;generalize p2 mm=PW at *
  go_enter a2L,a2M;go_wp2_with fail;refine(ae HU).mono ?_;rintro e x1 ⟨rfl,E⟩;rw[E];clear E x1;go_wp2_with fail;refine(ae HE).mono ?_;rintro e x2 ⟨v,rfl,ho,hb⟩;obtain⟨va,vc,rfl⟩:=ho.formN (n:=n) (by rw[a0N,ae Hn]);go_wp2;go_ret;exact⟨⟨_,rfl,by rw[ae j];exact ho⟩,hb⟩
 .
  have a7:((us l:Int) == 1)=false:=by simp;omega
  have O:1<(az l l.length).length:=by rw[eE];omega
  have HN:=af (a0b M (a0b hm (a0b y (show(az l l.length).length<=p2 mm by rw[eE];exact P))));have N:Hid (1<=n):=by show 1<=n;omega
  have HP:=af (lQ a cap n l w M h hm y O);have HH:=af (a0b h O);clear M h hm hc Z al P Y s y ab O;have r:Hid (n<=300):=(ae HN).2.1;generalize us l=U at *
  generalize V:p2 mm=PW at *
  have R:=af V;clear V;go_enter a2L,a2M;go_wp2_with fail;refine(ae HU).mono ?_;rintro e x1 ⟨rfl,E⟩;rw[E];clear E x1;go_wp2_with fail;refine(ae HP).mono ?_;rintro e x2 ⟨rfl,ho,hb⟩;go_wp2_with fail
  go_loopw [0,6] (fun c v wr=>∃(b:List Int) (f ob T:Nat) (S:Option Addr),b.length=n/\okC b/\(az b b.length).length<=PW/\1<(az b b.length).length/\jg b<=f/\dc ((mm:Int)+1) l=oa ((mm:Int)+1) f b/\c = .slice S n T/\v = .slice (some ⟨ob,0,none⟩) n n/\w.heap.size<=ob/\ak wr ob (.slice (some ⟨ob,0,none⟩) n n) (bQ b)/\bp wr S b/\Below w.heap.size w wr) (fun c _ wr=>Ch c wr n)
  case atStart=>exact⟨l,jg l,w.heap.size,cap,a,(ae HN).1,(ae HN).2.2.1,(ae HN).2.2.2,(ae HH).2,a0a _,rfl,rfl,rfl,a0a _,ho,(ae HH).1.later hb,hb⟩
  case round=>
   obtain⟨b,f,ob,T,S,k,g,p,u,H,j,rfl,rfl,J,D,B,q⟩:=hrel;clear ho hb;have m:(bQ b).length=n:=(hH b).trans k;have Q:=af (tc (some ⟨ob,0,none⟩) n n (bQ b) wr m (D.rowN m) (ae N) (ae r) (J0 g (by rw[k];exact ae r) u));have C:Hid (fits (bQ b) ((mm:Int)+1)=decide (bP (bQ b) n<=(mm:Int)+1)):=by show _=_;unfold fits;rw[m]
   have HQ:=af (a0b k (a0b g (a0b p (a0b u (a0b H j)))));have HO:=af (a0b D (a0b B (a0b q J)));have HE:=af (vP S T n b wr k B (by have:=ae r;omega) g);have HS:=af (Dz (c:=T) k (ae N) B);clear k g p u H j m D B q J;generalize bP (bQ b) n=mo at *
   by_cases a6:(mm:Int)+1<mo
   .
    have I:fits (bQ b) ((mm:Int)+1)=false:=by rw[ae C];exact a0j (by omega)
    obtain⟨k,g,p,u,H,j⟩:=ae HQ;rw[←ae R]at p;have hex:=tj p I;have K:=(tO b (wC g)).2 hex;obtain⟨f',hff⟩:∃f',f=f'+1:=⟨f-1,by omega⟩;have L:Hid (dc ((mm:Int)+1) l=oa ((mm:Int)+1) f' (bo b)):=by
     show _=_;rw[j,hff];simp only[oa];rw[I];rfl
    have X:Hid (jg (bo b)<=f'):=by show _<=_;omega
    have ao:=af K;have A:=af (tp g);have ad:=pS b (fun i hi=>(g i hi).1) b.length (a0a _);have z:Hid ((az (bo b) (bo b).length).length<=PW/\1<(az (bo b) (bo b).length).length):=by
     show _/\_;rw[dY,ad,←ae R];exact⟨p,u⟩
    have o:Hid ((bo b).length=n):=(dY b).trans k;clear k g p H j hex K hff ad u;go_wp2_with fail;refine(ae Q).mono ?_;rintro e x3 ⟨rfl,F⟩;rw[F];clear F x3;go_wp2_with fail;refine(ae HE).mono ?_;rintro e x4 ⟨v,rfl,x,W⟩;obtain⟨va,vc,rfl⟩:=x.formN (ae o);have d:=x.rowN (ae o);have t:Below w.heap.size w x4:=ap (ae HO).2.2.1 W;have an:=af (lQ va vc n (bo b) x4 (ae o) d (ae r) (ae A) (ae z).2);have a0:=af (a0b x (a0b t d));clear x W d t;go_wp2_with fail;refine(ae an).mono ?_;rintro e x5 ⟨rfl,aa,G⟩;obtain⟨x,t,d⟩:=ae a0;have a4:Hid (Ch (.slice va n vc) x5 n<Ch (.slice S n T) wr n):=by
     show Ch _ _ _<Ch _ _ _;rw[Dz (ae o) (ae N) (d.later G),ae HS];exact ae ao
    have HR:=af (a0b aa (a0b (d.later G) (ap t G)));have a5:Hid (w.heap.size<=x4.heap.size):=t.size;clear x t d aa G;go_wp2;go_roundw
    case rel=>exact⟨bo b,f',x4.heap.size,vc,va,ae o,ae A,(ae z).1,(ae z).2,ae X,ae L,rfl,rfl,ae a5,(ae HR).1,(ae HR).2.1,(ae HR).2.2⟩
    case measure=>exact ae a4
   .
    have I:fits (bQ b) ((mm:Int)+1)=true:=by rw[ae C];exact a0v (by omega)
    have ac:Hid (dc ((mm:Int)+1) l=bQ b):=by
     show _=_;rw[(ae HQ).2.2.2.2.2];cases f with
     | zero=>rfl
     | succ f=>simp only[oa];rw[I];rfl
    go_wp2_with fail;refine(ae Q).mono ?_;rintro e x3 ⟨rfl,F⟩;rw[F];clear F x3;obtain⟨D,B,q,J⟩:=ae HO;go_wp2;go_ret;exact⟨⟨_,rfl,by rw[ae ac];exact D.mono J⟩,q⟩
theorem iT(a:Option Addr)(cap n:Nat)(l:List Int)(m:Int)(w:World)(i:l.length=n)(h:bp w a l)(j:n<=1048576) :
  Calls prog 95 #[.slice a n cap,.int .i64 m] w fun e w'=>(∃v,e = .returned v/\ak w' w.heap.size v (jl l m))/\Below w.heap.size w w':=by
 cases b:uS l m
 . refine(sg a cap n l m w i h j b).mono ?_;rintro e w' ⟨rfl,hb⟩;refine⟨⟨_,rfl,?_⟩,hb⟩;unfold jl;rw[b];exact a05 _ _ _ _
 .
  have f:=b;unfold uS at f;simp only[a0l,a0u]at f;obtain⟨⟨⟨k,g⟩,d⟩,c⟩:=f;obtain⟨m1,m2⟩:=aC.1 g;obtain⟨mm,rfl⟩:∃mm:Nat,m=(mm:Int)+1:=⟨(m-1).toNat,by omega⟩;have e3:((mm:Int)+1).toNat=mm+1:=by omega
  rw[e3,wG]at c;obtain⟨u1,u2⟩:=aC.1 c;have:=si a cap n mm l w i h (by omega) d (by omega) (by omega) (by omega);unfold jl;rw[b];exact this
end Go.Proofs.YtggknepmhjfohaaGreatDoor
