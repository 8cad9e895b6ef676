/- Of what the proof is made: 6 texts, one behind the other. -/
import Derived.Test.YtchidddpplangaaGreatDoorM19
import Derived.Test.YtchidddpplangaaGreatDoorM9
import Derived.Test.YtchidddpplangaaGreatDoorM11
import Derived.Test.YtchidddpplangaaGreatDoorM17
import Derived.Test.YtchidddpplangaaGreatDoorM14
set_option maxRecDepth 100000
set_option linter.unusedSimpArgs false
set_option linter.unusedVariables false
set_option maxHeartbeats 6400000
namespace Go.Proofs.YtchidddpplangaaGreatDoor
open Go.Proofs.Tryz
open Go.RowKit Corb
variable {D L l o:List Int}{T:List UInt8}{V k n p q r sz:Nat}{i:Int}
theorem Me{f:Nat}(b:n+f=15)(d:nx l n<=cd V p n)(h:nY l V sz p f n=some (i,q)):q<=sz/\p<q/\0<=i/\i<(l.length:Int):=by
 induction f generalizing n with
 | zero=>simp[nY]at h
 | succ f ih=>
  by_cases a:sz<p+n+1
  . rw[nZ a]at h;cases h
  .
   by_cases h2:cd V p (n+1)<nx l (n+1)
   . rw[sY a h2]at h;simp only[a0l,a08]at h;obtain⟨rfl,rfl⟩:=h;obtain⟨k,g,_,_,e⟩:=qQ (l:=l) (n:=n) (c:=cd V p (n+1)) (by omega) (by simp only[cd];omega) h2;rw[e];omega
   . rw[pY a h2]at h;exact ih (by omega) (by omega) h
theorem fE(h:dec l V sz p=some (i,q)):q<=sz/\p<q/\0<=i/\i<(l.length:Int):=Me rfl (a0g _) h
def rdN(V sz p k:Nat):Option (Nat×Nat):=if p+k<=sz then some (V/2 ^ p%2 ^ k,p+k)else none
theorem cR(h:p+k<=sz):rdN V sz p k=some (V/2 ^ p%2 ^ k,p+k):=a0e h
theorem fi(h:¬ p+k<=sz):rdN V sz p k=none:=a0d h
theorem bF{x:Nat}(h:rdN V sz p k=some (x,q)):q<=sz/\q=p+k/\x=V/2 ^ p%2 ^ k/\x<2 ^ k:=by
 unfold rdN at h
 split at h
 . simp only[a0l,a08]at h;obtain⟨rfl,rfl⟩:=h;exact⟨by assumption,rfl,rfl,a0Y _ (a1r k)⟩
 . cases h
def scG(V sz least group many k q:Nat):Option (Nat×Nat):=if k<many then(rdN V sz q (stF least group k).2).bind fun x=>some ((stF least group k).1+x.1,x.2)else none
def fV(V sz:Nat)(D:List Int)(k q:Nat):Option (Tk×Nat):=
 (scG V sz 3 4 28 k q).bind fun a=>(dec D V sz a.2).bind fun j=>(scG V sz 1 2 30 j.1.toNat j.2).bind fun c=>some ((0,((a.1:Nat):Int),((c.1:Nat):Int)),c.2)
def oneG(V sz:Nat)(D:List Int)(k:Int)(q:Nat):Option (Tk×Nat):=if k<256 then some ((k,0,0),q)else fV V sz D (k.toNat-257) q
theorem D6{least group many x:Nat}(h:scG V sz least group many k q=some (x,r)):r<=sz/\q<=r:=by
 unfold scG at h
 split at h
 .
  rcases a:rdN V sz q (stF least group k).2 with _|⟨y,t⟩
  . rw[a]at h;cases h
  . rw[a]at h;simp only[a0f,a0l,a08]at h;have:=bF a;omega
 . cases h
theorem yN{t:Tk}(h:fV V sz D k q=some (t,r)):r<=sz/\q<=r:=by
 unfold fV at h;rcases b:scG V sz 3 4 28 k q with _|⟨a,a2⟩
 . rw[b]at h;cases h
 rw[b]at h;simp only[a0f]at h;rcases h2:dec D V sz a2 with _|⟨j,j2⟩
 . rw[h2]at h;cases h
 rw[h2]at h;simp only[a0f]at h;rcases d:scG V sz 1 2 30 j.toNat j2 with _|⟨c,c2⟩
 . rw[d]at h;cases h
 rw[d]at h;simp only[a0f,a0l,a08]at h;have e:=D6 b;have f:=fE h2;have g:=D6 d;omega
theorem sC{k:Int}{t:Tk}(h:oneG V sz D k q=some (t,r))(hq:q<=sz):r<=sz/\q<=r:=by
 unfold oneG at h
 split at h
 . simp only[a0l,a08]at h;omega
 . exact yN h
def oG(V sz:Nat)(L D:List Int):Nat->Nat->List UInt8->Option (List UInt8×Nat)
 | 0,_,_=>none
 | f+1,p,T=>(dec L V sz p).bind fun k=>if k.1=256 then some (T,k.2)else(oneG V sz D k.1 k.2).bind fun t=>(eT T t.1).bind fun T'=>oG V sz L D f t.2 T'
def iK(V sz:Nat)(L D:List Int)(p:Nat)(T:List UInt8):Option (List UInt8×Nat):=oG V sz L D (sz+1-p) p T
theorem Ij: ∀(n f p:Nat) (T:List UInt8),sz+1-p<=n->sz+1-p<=f->oG V sz L D f p T=oG V sz L D (sz+1-p) p T:=by
 intro n;induction n with
 | zero=>
  intro f p T b h2;have e:sz+1-p=0:=by omega
  rw[e];cases f with
  | zero=>rfl
  | succ f=>
   have hd:dec L V sz p=none:=by
    rcases h:dec L V sz p with _|⟨i,q⟩
    . rfl
    . have:=fE h;omega
   simp only[oG,hd,a15]
 | succ n ih=>
  intro f p T b h2;rcases hd:dec L V sz p with _|⟨i,q⟩
  .
   cases f with
   | zero=>rw[show sz+1-p=0 by omega]
   | succ f=>
    rcases a:sz+1-p with _|m
    . simp only[oG,hd,a15]
    . simp only[oG,hd,a15]
  .
   have hb:=fE hd;obtain⟨f',rfl⟩:∃g,f=g+1:=⟨f-1,by omega⟩;obtain⟨m,a⟩:∃g,sz+1-p=g+1:=⟨sz-p,by omega⟩;rw[a];simp only[oG,hd,a0f]
   split
   . rfl
   .
    rcases c:oneG V sz D i q with _|⟨t,r⟩
    . rfl
    .
     simp only[a0f];have d:=sC c hb.1;rcases eT T t with _|T'
     . rfl
     . simp only[a0f];rw[ih f' r T' (by omega) (by omega),ih m r T' (by omega) (by omega)]
theorem wJ(h:dec L V sz p=none):iK V sz L D p T=none:=by
 unfold iK;rcases a:sz+1-p with _|m
 . rfl
 . simp only[oG,h,a15]
theorem BE(h:dec L V sz p=some (256,q)):iK V sz L D p T=some (T,q):=by
 have hb:=fE h;unfold iK;obtain⟨m,hm⟩:∃g,sz+1-p=g+1:=⟨sz-p,by omega⟩;rw[hm];simp only[oG,h,a0f,a0X]
theorem wK(h:dec L V sz p=some (i,q))(a:i≠256):iK V sz L D p T=(oneG V sz D i q).bind fun t=>(eT T t.1).bind fun T'=>iK V sz L D t.2 T':=by
 have hb:=fE h;unfold iK;obtain⟨m,hm⟩:∃g,sz+1-p=g+1:=⟨sz-p,by omega⟩;rw[hm];simp only[oG,h,a0f,a0d a];rcases b:oneG V sz D i q with _|⟨t,r⟩
 . rfl
 .
  simp only[a0f];have c:=sC b hb.1;rcases eT T t with _|T'
  . rfl
  . simp only[a0f];exact Ij m m r T' (by omega) (by omega)
theorem Nc: ∀(f p:Nat) (T T':List UInt8) (q:Nat),oG V sz L D f p T=some (T',q)->q<=sz/\p<q/\(T.length<=300->T'.length<=300):=by
 intro f;induction f with
 | zero=>intro p T T' q h;simp[oG]at h
 | succ f ih=>
  intro p T T' q h;rcases hd:dec L V sz p with _|⟨i,r⟩
  . simp[oG,hd]at h
  .
   have hb:=fE hd;simp only[oG,hd,a0f]at h
   split at h
   . simp only[a0l,a08]at h;obtain⟨rfl,rfl⟩:=h;exact⟨hb.1,hb.2.1,id⟩
   .
    rcases b:oneG V sz D i r with _|⟨t,u⟩
    . rw[b]at h;simp at h
    .
     rw[b]at h;simp only[a0f]at h;have e:=sC b hb.1;rcases a:eT T t with _|T2
     . rw[a]at h;simp at h
     . rw[a]at h;simp only[a0f]at h;obtain⟨c,h2,d⟩:=ih u T2 T' q h;exact⟨c,by omega,fun _=>d (oL a)⟩
theorem yB{T':List UInt8}(h:iK V sz L D p T=some (T',q)):q<=sz/\p<q/\(T.length<=300->T'.length<=300):=Nc _ _ _ _ _ h
theorem wN(w:World)(x y:Value)(t:TypeId)(g:Nat)(a:w.heap.size=g):(w.alloc (.cells #[x,y] t)).cell? ⟨g,0,none⟩=some x/\(w.alloc (.cells #[x,y] t)).cell? ⟨g,1,none⟩=some y:=by
 subst a;simp
def mW(w:World)(b:Nat):Nat:=match w.cell? ⟨b,0,none⟩with|some v=>sliceLen v|none=>0
theorem mx(a:Option Addr)(cap n:Nat)(l:List Int)(w:World)(hn:l.length=n)(h:aZ w a l)(hm:n<=300)(hc:∀i,i<l.length->0<=l.getD i 0/\l.getD i 0<=100000)(h2:1<(ay l l.length).length) :
  Calls prog 190 #[.slice a n cap] w fun e w'=>e = .returned (.slice (some ⟨w.heap.size,0,none⟩) n n)/\am w' w.heap.size (.slice (some ⟨w.heap.size,0,none⟩) n n) (bS l)/\Below w.heap.size w w':=by
 have fk:(n:Int)<=300:=by omega
 obtain⟨i0,hi,en,eu,ev⟩:=a0o Tryz.infoInt;have E:=ae (a0b hn (a0b hm (a0b hc h2)));have HR:=ae h;have d3:Hid (∀k,(ay l l.length).length-k<=1->(k<(ay l l.length).length∨k=0)->bS l=(ax l k).2):=by
  intro k h3 h4;unfold bS;rw[a0d (by omega)]
  congr 2;omega
 clear hc h2 h;go_enter func190,ntmps190;go_wp2_with (at_make;refine a1w _ rfl _ _ 137 rfl w.heap.size 3 i0 (.int .i64 0) 1 a0C hi en eu .i64 .i64 _ _ n rfl rfl rfl rfl (by rw[ev];omega) (by unfold maxLen;omega) (a0a _) ?_;intro w1 be V);have cr:am w1 w.heap.size (.slice (some ⟨w.heap.size,0,none⟩) n n) (List.replicate l.length 0):=by
  rw[hn];exact cY be
 have b5:Below w.heap.size w w1:=(a0c _ _).grown V (a0a _) (fun k h=>by cases h);have fn:w.heap.size+1<=w1.heap.size:=cr.below.2;have c6:=ae (vB a cap n l w1 hn ((ab HR).later b5) hm);have bl:=ae (a0b cr b5);clear be V hn hm cr b5 hi en eu ev;refine(ab c6).mono ?_;rintro e w2 ⟨rfl,L0,va0,vc0,d4,dl,bs,ei,I⟩;have d8:=(ab bl).1.later I (a0a _);have d2:=ai (ab bl).2 I;rw[←(ab E).1]at bs;clear c6 bl;generalize hB:w1.heap.size=B at *
 clear hB;go_wp2_with fail
 go_loopw [5,6,7,9] (fun _ _ _ _ wq=>∃(j:Nat) (L:List Grp) (va:Option Addr) (vc:Nat),(j<(ay l l.length).length∨j=0)/\(L.map bare).Perm (ax l j).1/\cK wq B (B+1) (.slice va L.length vc) L/\HP L/\dM wq (B+1) L/\am wq w.heap.size (.slice (some ⟨w.heap.size,0,none⟩) n n) (ax l j).2/\Below w.heap.size w wq) (fun _ _ _ _ wq=>mW wq B)
 case atStart=>exact⟨0,L0,va0,vc0,.inr rfl,bs,d4,dl,ei,d8,d2⟩
 case round=>
  obtain⟨j,L,va,vc,hj,hL,hh,hP,hs,hp,d⟩:=hrel;clear bs d4 dl ei d8 d2 I;have HZ:=ae (jc B (B+1) L.length vc va L wr hh);have cc:L.length=(ay l l.length).length-j:=by
   have O:=hL.length_eq;rw[a0K,(cb l j hj).2.2.2]at O;exact O
  by_cases a8:1<L.length
  .
   obtain⟨q,hq⟩:∃q,L.length=q+2:=⟨L.length-2,by omega⟩;obtain⟨g,rfl⟩:=hh.2.somes (by omega);rw[hq]at HZ;have cs:q+2<=300:=by
    have h2:=oC l l.length;have:=(ab E).1;have:=(ab E).2.1;omega
   have fl:(q:Int)+2<=300:=by omega
   have b9:cK wr B (B+1) (.slice (some ⟨g,0,none⟩) (q+1+1) vc) L:=by rw[hq]at hh;exact hh
   have c7:=ae (Bz B g (q+1) vc L wr hs hq (by omega) b9 hP);have H:=ae (a0b hj (a0b hL (a0b b9 (a0b hP (a0b hs (a0b hp (a0b d a8)))))));clear hj hL b9 hP hs hp d a8 cc hh cs;go_wp2_with fail;refine(ab HZ).mono ?_;rintro e y1 ⟨rfl,al⟩;rw[al];clear al y1;go_wp2_with fail;refine(ab c7).mono ?_;rintro e x1 ⟨rfl,M1,r,a3,d5,a6,X⟩;have f:Hid (Calls prog 221 #[.pointer (some ⟨B,0,none⟩)] x1 fun e w'=>e = .returned (.agg #[.int .i64 (M1.getD 0 g0).cnt,.int .i64 (M1.getD 0 g0).fst,(M1.getD 0 g0).val])/\∃M:List Grp,(M1.getD 0 g0 :: M).Perm M1/\HP M/\cK w' B (B+1) (.slice (some ⟨g,0,none⟩) q vc) M/\Below B x1 w'/\bm 3 x1 w'):=by
    obtain⟨hj,hL,hh,hP,hs,hp,d,a8⟩:=ab H;have a9:M1.length=q+1:=by have:=r.length_eq;simp at this;omega
    exact Bz B g q vc M1 x1 ((X.syms hs).sub (fun y hy=>r.mem_iff.1 (by simp[hy]))) a9 (by omega) d5 a3
   have bn:=ae (a0b r (a0b a3 (a0b a6 X)));obtain⟨aa,ac,b4⟩:=((ab H).2.2.2.2.1 (L.getD 0 g0) (fK L 0 (by omega))).form;rw[b4];have dd:=fK L 0 (by omega);have cv:=ae (a0b b4 dd);clear r a3 d5 a6 X b4 dd;generalize c9:L.getD 0 g0=A at *
   have cy:=ae c9;clear c9;go_wp2_with fail;refine(ab f).mono ?_;rintro e x2 ⟨rfl,M2,Q,dq,b8,I,d6⟩;have HF:Hid (M1.length=q+1/\M2.length=q/\am x2 (B+1) A.val A.syms/\am x2 (B+1) (M1.getD 0 g0).val (M1.getD 0 g0).syms/\dM x2 (B+1) M2/\am x2 w.heap.size (.slice (some ⟨w.heap.size,0,none⟩) n n) (ax l j).2/\Below w.heap.size w x2/\M2.Perm M2):=by
    obtain⟨hj,hL,hh,hP,hs,hp,d,a8⟩:=ab H;obtain⟨r,a3,a6,X⟩:=ab bn;have a9:M1.length=q+1:=by have:=r.length_eq;simp at this;omega
    have d7:M2.length=q:=by have:=Q.length_eq;simp at this;omega
    have hk:=X.trans d6;have ej:dM x2 (B+1) M1:=(hk.syms hs).sub (fun y hy=>r.mem_iff.1 (by simp[hy]));exact⟨a9,d7,hk.ints (hs _ (ab cv).2),ej _ (fK M1 0 (by omega)),ej.sub (fun y hy=>Q.mem_iff.1 (by simp[hy])),hk.ints hp,(d.trans (a6.mono (by omega))).trans (I.mono (by omega)),a2l _⟩
   have c8:=ae (a0b Q (a0b dq b8));obtain⟨ga,gc,b7⟩:=(ab HF).2.2.2.1.form;have D:=ae (JI (ab E).2.2.1 (by rw[(ab E).1];exact(ab E).2.1) (ab H).1 (ab H).2.1 (ab H).2.2.2.1 (by omega) (by rw[ab cy];exact(ab bn).1) (ab bn).2.1 Q);rw[ab cy]at D;rw[b7];have ey:=ae b7;have fa:=b8.lt;clear Q dq b8 I d6 b7;generalize M1.getD 0 g0=G at *
   clear c7 f HZ;go_wp2_with fail;have a5:Below x2.heap.size x2 (((x2.alloc (.cells #[.int .i64 A.cnt,.int .i64 A.fst,.slice aa A.syms.length ac] 302)).alloc (.cells #[.int .i64 G.cnt,.int .i64 G.fst,.slice ga G.syms.length gc] 302)).alloc (.cells #[.slice aa A.syms.length ac,.slice ga G.syms.length gc] 137)):=
    (((a0c _ _).alloc (a0a _) _).alloc (by simp) _).alloc (by simp;omega) _
   have dv:Three (((x2.alloc (.cells #[.int .i64 A.cnt,.int .i64 A.fst,.slice aa A.syms.length ac] 302)).alloc (.cells #[.int .i64 G.cnt,.int .i64 G.fst,.slice ga G.syms.length gc] 302)).alloc (.cells #[.slice aa A.syms.length ac,.slice ga G.syms.length gc] 137)) x2.heap.size (.int .i64 A.cnt) (.int .i64 A.fst) (.slice aa A.syms.length ac):=
    ((pK x2 _ _ _ _).later ((a0c _ _).alloc (a0a _) _)).later ((a0c _ _).alloc (a0a _) _)
   have d1:Three (((x2.alloc (.cells #[.int .i64 A.cnt,.int .i64 A.fst,.slice aa A.syms.length ac] 302)).alloc (.cells #[.int .i64 G.cnt,.int .i64 G.fst,.slice ga G.syms.length gc] 302)).alloc (.cells #[.slice aa A.syms.length ac,.slice ga G.syms.length gc] 137)) (x2.heap.size+1) (.int .i64 G.cnt) (.int .i64 G.fst) (.slice ga G.syms.length gc):=by
    have O:=pK (x2.alloc (.cells #[.int .i64 A.cnt,.int .i64 A.fst,.slice aa A.syms.length ac] 302)) (.int .i64 G.cnt) (.int .i64 G.fst) (.slice ga G.syms.length gc) 302;have e:(x2.alloc (.cells #[.int .i64 A.cnt,.int .i64 A.fst,.slice aa A.syms.length ac] 302)).heap.size=x2.heap.size+1:=by simp
    rw[e]at O;exact O.later ((a0c _ _).alloc (a0a _) _)
   have ds:i6 (((x2.alloc (.cells #[.int .i64 A.cnt,.int .i64 A.fst,.slice aa A.syms.length ac] 302)).alloc (.cells #[.int .i64 G.cnt,.int .i64 G.fst,.slice ga G.syms.length gc] 302)).alloc (.cells #[.slice aa A.syms.length ac,.slice ga G.syms.length gc] 137)) (x2.heap.size+1+1) (B+1) [(.slice aa A.syms.length ac,A.syms.map (Value.int .i64)),(.slice ga G.syms.length gc,G.syms.map (Value.int .i64))]:=by
    have co:=(ab HF).2.2.1.later a5 (a0a _);have cp:=(ab HF).2.2.2.1.later a5 (a0a _);rw[(ab cv).1]at co;rw[ab ey]at cp;intro i hi
    match i,hi with
    | 0,_=>exact⟨(wN _ _ _ _ _ (by simp)).1,_,co,a1l .i64 _⟩
    | 1,_=>exact⟨(wN _ _ _ _ _ (by simp)).2,_,cp,a1l .i64 _⟩
   have e0:(((x2.alloc (.cells #[.int .i64 A.cnt,.int .i64 A.fst,.slice aa A.syms.length ac] 302)).alloc (.cells #[.int .i64 G.cnt,.int .i64 G.fst,.slice ga G.syms.length gc] 302)).alloc (.cells #[.slice aa A.syms.length ac,.slice ga G.syms.length gc] 137)).heap.size=x2.heap.size+3:=by simp
   generalize ((x2.alloc (.cells #[.int .i64 A.cnt,.int .i64 A.fst,.slice aa A.syms.length ac] 302)).alloc (.cells #[.int .i64 G.cnt,.int .i64 G.fst,.slice ga G.syms.length gc] 302)).alloc (.cells #[.slice aa A.syms.length ac,.slice ga G.syms.length gc] 137)=W3 at *
   have C:aO [(Value.slice aa A.syms.length ac,A.syms.map (Value.int .i64)),(Value.slice ga G.syms.length gc,G.syms.map (Value.int .i64))]=(A.syms++G.syms).length:=by simp[aO,cw]
   have R:dj [(Value.slice aa A.syms.length ac,A.syms.map (Value.int .i64)),(Value.slice ga G.syms.length gc,G.syms.map (Value.int .i64))]=(A.syms++G.syms).map (Value.int .i64):=by simp[dj]
   refine(pV (x2.heap.size+1+1) (B+1) 2 2 _ W3 rfl (by omega) (by omega) ds (by rw[C];have:=(ab D).2.2.2.2.2.1;omega)).mono ?_;rintro e x3 ⟨v,rfl,ch,T⟩;rw[C,R]at ch;have b3:am x3 W3.heap.size v (A.syms++G.syms):=ch;have ba:=dv.later T;have bb:=d1.later T;have m:=ai a5 T;have N:Hid (cK x3 B (B+1) (.slice (some ⟨g,0,none⟩) q vc) M2/\dM x3 (B+1) M2/\am x3 w.heap.size (.slice (some ⟨w.heap.size,0,none⟩) n n) (ax l j).2/\Below w.heap.size w x3/\am x3 W3.heap.size v (A.syms++G.syms)/\Three x3 x2.heap.size (.int .i64 A.cnt) (.int .i64 A.fst) (.slice aa A.syms.length ac)/\Three x3 (x2.heap.size+1) (.int .i64 G.cnt) (.int .i64 G.fst) (.slice ga G.syms.length gc)/\x2.heap.size+3<=x3.heap.size):=by
    obtain⟨a9,d7,co,cp,e6,e5,e1,_⟩:=ab HF;refine⟨(ab c8).2.2.later m,e6.later m (a0a _),e5.later m (a0a _),e1.trans (m.mono (by omega)),b3,ba,bb,?_⟩;have:=T.size;omega
   obtain⟨sa,sc,el⟩:=b3.form;have a4:Hid ((A.syms++G.syms).length<=300/\0<(A.syms++G.syms).length/\(∀x∈A.syms++G.syms,0<=x/\x<(l.length:Int))):=by
    obtain⟨t1,t2,t3,t4,t5,t6,t7,t8,t9⟩:=ab D;refine⟨t6,?_,t9⟩;rw[a0j];omega
   clear a5 dv d1 ds ch T b3 ba bb m R C;generalize hS:A.syms++G.syms=S at *
   clear hS;obtain⟨gs,e2⟩:=(show am x3 W3.heap.size (.slice sa S.length sc) S by rw[←el];exact(ab N).2.2.2.2.1).somes (ab a4).2.1;subst e2;subst el;have sI:(S.length:Int)<=300:=by have:=(ab a4).1;omega
   go_wp2_with fail;have e4:=ae (tr l (fun i hi=>((ab E).2.2.1 i hi).2) (by rw[(ab E).1];exact(ab E).2.1) j (ab H).1);have e3:Hid ((j:Int)<=300):=by
    show(j:Int)<=300;have O:=(ab H).1;have h2:=oC l l.length;have:=(ab E).1;have:=(ab E).2.1;omega
   have c5:Hid (mW wr B=q+2):=by
    show mW wr B=q+2;unfold mW;rw[(ab H).2.2.1.cell];rfl
   go_loopw [9,30] (fun _ i wq=>∃t:Nat,t<=S.length/\i = .int .i64 t/\am wq w.heap.size (.slice (some ⟨w.heap.size,0,none⟩) n n) (bump (ax l j).2 (S.take t))/\Touch (some ⟨w.heap.size,0,none⟩) x3 wq/\Below w.heap.size w wq) (fun _ i _=>S.length-(intOf i).toNat)
   case atStart=>exact⟨0,a0g _,rfl,(ab N).2.2.1,Touch.refl _ _,(ab N).2.2.2.1⟩
   case round=>
    obtain⟨t,ht,rfl,J,c,a7⟩:=hrel;have cg:Hid ((bump (ax l j).2 (S.take t)).length=n):=by show(bump (ax l j).2 (S.take t)).length=n;rw[oN,eo,(ab E).1]
    have em:Hid (t<=S.length):=ht;clear ht;by_cases Y:t<S.length
    .
     have bk:=(ab N).2.2.2.2.1.touch c (jF _ _ (by omega));obtain⟨c0,_,_,_⟩:=bk.at rfl Y;have hx:=(ab a4).2.2 (S.getD t 0) (by simp[List.getD,Y]);rw[(ab E).1]at hx;have U:=ae (vF (ax l j).2 S t Y);have bd:=ae (sT (ab e4) (S.take t));obtain⟨p,eg⟩:=a0t hx.1;rw[eg]at c0 U;have ed:p<n:=by omega
     obtain⟨d0,f0,_,_⟩:=J.at (ab cg) ed;have cu:=ab bd p (by rw[ab cg];exact ed);have Z:=J.put (j:=p) (ab cg) ((bump (ax l j).2 (S.take t)).getD p 0+1);have ek:Hid (bump (ax l j).2 (S.take (t+1))=(bump (ax l j).2 (S.take t)).set p ((bump (ax l j).2 (S.take t)).getD p 0+1)):=by
      show bump (ax l j).2 (S.take (t+1))=_;rw[ab U];unfold fI;rw[a0p]
     have fv:(bump (ax l j).2 (S.take t)).getD p 0<=100000:=by
      have O:=cu.2;have h2:(S.take t).length<=300:=by rw[a0s];have:=(ab a4).1;omega
      have:=ab e3;omega
     have fr:=cu.1;have bc:=ah a7 (b:=w.heap.size) (o:=p) (a0a _) (.int .i64 ((bump (ax l j).2 (S.take t)).getD p 0+1));have ad:=c.set (o:=p) rfl (.int .i64 ((bump (ax l j).2 (S.take t)).getD p 0+1));have e9:(p:Int)<(n:Int):=by omega
     rw[←ab ek]at Z;generalize (bump (ax l j).2 (S.take t)).getD p 0=y at *
     have K:=ae (a0b Z (a0b bc ad));have e8:(t:Int)<(S.length:Int):=by omega
     clear Z bc ad ek cu bd U eg hx bk c a7 J;go_wp2;go_roundw
     case rel=>exact⟨t+1,by have:=ab em;omega,by go_num,(ab K).1,(ab K).2.2,(ab K).2.1⟩
     case measure=>simp[intOf];omega
    .
     obtain rfl:t=S.length:=by have:=ab em;omega
     rw[a0u (a0a _)]at J;obtain⟨h3,s3,_,_,o3,tA,tG,z3⟩:=ab N;have HY:Hid (cK wr B (B+1) (.slice (some ⟨g,0,none⟩) q vc) M2/\dM wr (B+1) M2/\am wr (B+1) (.slice (some ⟨gs,0,none⟩) S.length sc) S):=by
      refine⟨⟨(c.2 B (fun g' e=>by simp only[a0l,a0B,a0P]at e;omega)).trans h3.1,nN h3.2 c (jF _ _ (by omega))⟩,fun y hy=>(s3 y hy).touch c (jF _ _ (by omega)),?_⟩;have h4:=o3.touch c (jF _ _ (by omega));exact am.mono h4 (by omega)
     obtain⟨a0,a1,_,_,_,_,abl⟩:=tA;obtain⟨b0,b1,_,_,_,_,fh⟩:=tG;have a0':=(ik c (p:=⟨x2.heap.size,0,none⟩) (by show x2.heap.size≠w.heap.size;omega)).trans a0;have a1':=(ik c (p:=⟨x2.heap.size,1,none⟩) (by show x2.heap.size≠w.heap.size;omega)).trans a1;have fb:=(ik c (p:=⟨x2.heap.size+1,0,none⟩) (by show x2.heap.size+1≠w.heap.size;omega)).trans b0;have fc:=(ik c (p:=⟨x2.heap.size+1,1,none⟩) (by show x2.heap.size+1≠w.heap.size;omega)).trans b1;obtain⟨t1,t2,t3,t4,t5,t6,t7,t8,t9⟩:=ab D;obtain⟨F,hF⟩:∃F:Int,F=if G.fst<A.fst then G.fst else A.fst:=⟨_,rfl⟩
     rw[←hF]at t2;have f:=ae (a0b t1 t2);have an:=ae (Ad B q vc (some ⟨g,0,none⟩) M2 ⟨A.cnt+G.cnt,F,S,.slice (some ⟨gs,0,none⟩) S.length sc⟩ wr (ab HY).2.1 (ab HY).2.2 (ab HF).2.1 (by omega) (ab HY).1 (ab c8).2.1);have a2:=ae (a0b J a7);clear h3 s3 o3 z3 a0 a1 b0 b1 c J a7 e0 t1 t2 t6 t7 t8 t9;by_cases e7:A.fst<=G.fst
     .
      have P:F=A.fst:=by rw[hF,a0d (by omega)]
      rw[P]at an f;clear hF P;go_wp2_with fail;refine(ab an).mono ?_;rintro e x5 ⟨rfl,M3,g',c',s,b2,W,b6,z⟩;go_wp2;go_roundw
      case rel=>
       have ca:M3.length=q+1:=by rw[s.length_eq,a0j,(ab HF).2.1];rfl
       have u:=(ab a2).1;refine⟨j+1,M3,some ⟨g',0,none⟩,c',.inl ?_,(ab f).2 M3 _ s,by rw[ca];exact W,b2,?_,?_,(ab a2).2.trans (b6.mono (by omega))⟩
       . have O:=(ab H).2.1.length_eq;rw[a0K,(cb l j (ab H).1).2.2.2]at O;omega
       . exact(((z.syms (ab HY).2.1)).snoc (z.ints (ab HY).2.2)).perm s
       . show am x5 w.heap.size _ (bump (ax l j).2 (bh (ax l j).1));rw[(ab f).1];exact z.ints u
      case measure=>
       rw[ab c5];unfold mW;rw[W.cell];simp[sliceLen]
     .
      have P:F=G.fst:=by rw[hF,a0e (by omega)]
      rw[P]at an f;clear hF P;go_wp2_with fail;refine(ab an).mono ?_;rintro e x5 ⟨rfl,M3,g',c',s,b2,W,b6,z⟩;go_wp2;go_roundw
      case rel=>
       have ca:M3.length=q+1:=by rw[s.length_eq,a0j,(ab HF).2.1];rfl
       have u:=(ab a2).1;refine⟨j+1,M3,some ⟨g',0,none⟩,c',.inl ?_,(ab f).2 M3 _ s,by rw[ca];exact W,b2,?_,?_,(ab a2).2.trans (b6.mono (by omega))⟩
       . have O:=(ab H).2.1.length_eq;rw[a0K,(cb l j (ab H).1).2.2.2]at O;omega
       . exact(((z.syms (ab HY).2.1)).snoc (z.ints (ab HY).2.2)).perm s
       . show am x5 w.heap.size _ (bump (ax l j).2 (bh (ax l j).1));rw[(ab f).1];exact z.ints u
      case measure=>
       rw[ab c5];unfold mW;rw[W.cell];simp[sliceLen]
  . obtain⟨va',vc',hform⟩:∃x y,Value.slice va L.length vc = .slice x L.length y:=⟨_,_,rfl⟩;have eh:=ab d3 j (by omega) hj;rw[←eh]at hp;clear hform;go_wp2_with fail;refine(ab HZ).mono ?_;rintro e y1 ⟨rfl,al⟩;rw[al];clear al y1;go_wp2;go_ret;exact⟨rfl,hp,d⟩
theorem un(h:bR o k<o.getD k 0):bR o (k+1)=o.getD k 0:=by simp only[bR];rw[a0e h]
theorem ye(h:¬ bR o k<o.getD k 0):bR o (k+1)=bR o k:=by simp only[bR];rw[a0d h]
theorem Ko(b:0<=o.getD 0 0):bR o 1=o.getD 0 0:=by
 by_cases h:bR o 0<o.getD 0 0
 . exact un h
 . have a:bR o 1=bR o 0:=ye h;have e:bR o 0=0:=rfl;rw[e]at h a;rw[a];exact(Int.le_antisymm (Int.not_lt.1 h) b).symm
def Eb(v:Value)(w:World)(n:Nat):Nat:=match v with
 | .slice (some a) _ _=>((List.range n).map (fun i=>(intOf ((w.cell? ⟨a.block,a.off+i,none⟩).getD (.int .i64 0))).toNat)).sum
 | _=>0
theorem Fq{w:World}{a:Option Addr}{c:Nat}(e:l.length=n)(b:1<=n)(h:aZ w a l):Eb (.slice a n c) w n=jJ l:=by
 obtain⟨g,o,rfl,f,d⟩:=h (by omega);unfold Eb jJ;simp only
 congr 1
 apply a2D
 . simp[e]
 . intro i b h2;simp only[a0K,List.length_range]at b;simp only[List.getElem_map,List.getElem_range];rw[d i (by omega)];simp[intOf,List.getD,show i<l.length by omega]
theorem uj(a:Option Addr)(cap n:Nat)(o:List Int)(w:World)(t:o.length=n)(h:aZ w a o)(r:1<=n)(z:n<=300)(d:∀i,i<o.length->0<=o.getD i 0) :
  Calls prog 186 #[.slice a n cap] w fun e w'=>e = .returned (.int .i64 (bR o n))/\w'=w:=by
 have A:(n:Int)<=300:=by omega
 have x:(1:Int)<=(n:Int):=by omega
 have p:=ae (a0b t (a0b r d));obtain⟨g,off,rfl,E,f⟩:=h (by omega);have c0:=f 0 (by omega);have e0:=ae (Ko (d 0 (by omega)));rw[a1J]at c0;have v:=ae f;clear t h z d f r;generalize B:o.getD 0 0=y0 at *
 clear B;go_enter func186,ntmps186;go_wp2_with fail
 go_loop [3,4] (fun m i=>∃k:Nat,1<=k/\k<=n/\i = .int .i64 k/\m = .int .i64 (bR o k)) (fun _ i=>n-(intOf i).toNat)
 case atStart=>exact⟨1,a0a _,(ab p).2.1,rfl,by rw[ab e0]⟩
 case round=>
  obtain⟨k,u,s,rfl,rfl⟩:=hrel;have C:=ae (a0b u s);by_cases j:k<n
  .
   have D:=ab v k (by rw[(ab p).1];exact j);have c:=ae (fun h=>un (o:=o) (k:=k) h);have l:=ae (fun h=>ye (o:=o) (k:=k) h);clear s u c0;generalize o.getD k 0=y at *
   generalize bR o k=q at *
   by_cases b:q<y
   .
    have e1:=ae (ab c b);go_wp2
    go_round
    case rel=>exact⟨k+1,by omega,by omega,by go_num,by rw[ab e1]⟩
    case measure=>simp[intOf];omega
   .
    have e1:=ae (ab l b);go_wp2
    go_round
    case rel=>exact⟨k+1,by omega,by omega,by go_num,by rw[ab e1]⟩
    case measure=>simp[intOf];omega
  .
   obtain rfl:k=n:=by omega
   go_wp2;go_ret;exact⟨rfl,rfl⟩
theorem Di(x:Int)(w:World)(a:0<=x)(b:x<=1000000) :
  Calls prog 191 #[.int .i64 x] w fun e w'=>e = .returned (.int .i64 (iE x))/\w'=w:=by
 go_enter func191,ntmps191;go_wp2;go_ret;exact⟨rfl,rfl⟩
theorem xz(a:Option Addr)(cap n:Nat)(l:List Int)(w:World)(H:l.length=n)(h:aZ w a l)(G:n<=1048576)(E:okC l) :
  Calls prog 188 #[.slice a n cap,.func (.func 191) #[] #[]] w fun e w'=>∃v,e = .returned v/\am w' w.heap.size v (bq l)/\Below w.heap.size w w':=by
 have M:(n:Int)<=1048576:=by omega
 have p:=ae H;have K:=ae G;have I:=ae E;clear H G E;obtain⟨i0,L,B,C,D⟩:=a0o Tryz.infoInt;go_enter func188,ntmps188;go_wp2_with fail
 go_loopw [5,7,10] (fun o _ i wr=>∃k:Nat,k<=n/\i = .int .i64 k/\am wr w.heap.size o (bq (l.take k))/\Below w.heap.size w wr) (fun _ _ i _=>n-(intOf i).toNat)
 case atStart=>exact⟨0,a0g _,rfl,a00 _ _ _ _,a0c _ _⟩
 case round=>
  obtain⟨k,F,rfl,hq,b⟩:=hrel;have q:=b.size;by_cases m:k<n
  .
   obtain⟨g,o,rfl,N,r⟩:=(h.later b) (by rw[ab p];omega);have c0:=r k (by rw[ab p];exact m);obtain⟨y0,y1⟩:=ab I k (by rw[ab p];exact m);have A:Hid (bq (l.take (k+1))=bq (l.take k)++[iE (l.getD k 0)]):=by
    show _=_;unfold bq;rw[ci l k (by rw[ab p];exact m),a0I];rfl
   have z:Hid ((bq (l.take k)).length=k):=by show _=k;have:=ab p;rw[eE];simp;omega
   have J:=ae F;clear r F h;generalize l.getD k 0=y at *
   have HP:=ae (Di y wr (by omega) (by omega));generalize iE y=R at *
   go_wp2_with fail;refine(ab HP).mono ?_;rintro e x1 ⟨rfl,u⟩;rw[u];clear u x1;have d:Hid ((bq (l.take k)).length+1<=maxLen/\((bq (l.take k)).length+1)*8<=140737488355328):=by
    show _/\_;rw[ab z];have:=ab K;unfold maxLen;omega
   clear HP;go_wp2_with (at_builtin;refine a0r _ rfl _ _ 137 rfl w.heap.size 3 i0 (.int .i64 0) 1 8 a0C L B C D rfl (by decide) _ _ _ rfl (a0k hq _) ⟨wr.heap.size,0,none⟩ 1 1 [.int .i64 R] rfl rfl (bE _ _ rfl _ _) (eO _) (ab d).1 (ab d).2 (ao q _) ?_;intro v' x2 j c s;clear s);have x:=aC (v:=u5) c hq (a0a _) q b;have t:=nc j;rw[←ab A]at t;clear j c hq;go_wp2;go_roundw
   case rel=>exact⟨k+1,by have:=ab J;omega,by go_num,t,x⟩
   case measure=>simp[intOf];omega
  . have f:l.take k=l:=a0u (by rw[ab p];omega);rw[f]at hq;obtain⟨va,vc,rfl⟩:=hq.form;clear f h;go_wp2;go_ret;exact⟨_,rfl,hq,b⟩
theorem Lb(l:List Int)(k i:Nat)(d:i<k)(c:0<l.getD i 0):∃g∈ay l k,g.fst=(i:Int):=by
 induction k with
 | zero=>omega
 | succ k ih=>
  by_cases e:i=k
  . subst e;refine⟨⟨l.getD i 0,(i:Int),[(i:Int)],.slice none 0 0⟩,?_,rfl⟩;rw[uK c];simp
  .
   obtain⟨g,a,b⟩:=ih (by omega);refine⟨g,?_,b⟩;simp only[ay]
   split
   . simp[a]
   . exact a
theorem Lc(l:List Int)(k:Nat):∀g∈ay l k,∃i:Nat,g.fst=(i:Int)/\i<k/\0<l.getD i 0:=by
 induction k with
 | zero=>intro g a;simp[ay]at a
 | succ k ih=>
  intro g a;simp only[ay]at a
  split at a
  .
   rename_i hp;simp only[a0T,a07]at a;rcases a with a|rfl
   . obtain⟨i,b,h2,c⟩:=ih g a;exact⟨i,b,by omega,c⟩
   . exact⟨k,rfl,by omega,hp⟩
  . obtain⟨i,b,h2,c⟩:=ih g a;exact⟨i,b,by omega,c⟩
theorem xS(m:okC l)(a:(ay l l.length).length=1):bS l=l.map hH:=by
 unfold bS;rw[a0e a];obtain⟨x,hx⟩:∃x,ay l l.length=[x]:=by
  cases j:ay l l.length with
  | nil=>rw[j]at a;simp at a
  | cons x t=>rw[j]at a;simp at a;exact⟨x,by rw[a]⟩
 obtain⟨q,hq,p,h⟩:=Lc l l.length x (by rw[hx];simp);rw[hx];simp only[List.getD_cons_zero];rw[hq,a0p];apply a2D
 . simp
 .
  intro i h2 k;have f:i<l.length:=by simpa using k
  have e:l.getD i 0=l[i]:=by simp[List.getD,f]
  have b:=m i f;rw[List.getElem_set,List.getElem_map,List.getElem_replicate];by_cases c:q=i
  .
   subst c;rw[a0e rfl];rw[e]at h b;unfold hH
   split<;>omega
  .
   rw[a0d c];have r:¬ 0<l.getD i 0:=by
    intro o;obtain⟨g,d,n⟩:=Lb l l.length i f o;rw[hx]at d;simp only[a07]at d;subst d;rw[hq]at n;omega
   rw[e]at r b;unfold hH
   split<;>omega
theorem Mk{m:Int}(j:1<=m)(b:okC l)(d:(ay l l.length).length=1):db m l=l.map hH:=by
 have g:fits (bS l) m=true:=by
  refine EJ (by omega) ?_;rw[xS b d];intro i h;have a:i<l.length:=by simpa using h
  have e:(l.map hH).getD i 0=hH l[i]:=by simp[List.getD,a]
  have e2:l.getD i 0=l[i]:=by simp[List.getD,a]
  have c:=b i a;rw[e2]at c;rw[e];unfold hH
  split<;>omega
 rw[←xS b d];unfold db;cases jJ l with
 | zero=>rfl
 | succ f=>simp only[oV];rw[g];rfl
theorem Mv(b:okC l)(c:l.length<=300)(h2:1<(ay l l.length).length):∀i,i<(bS l).length->0<=(bS l).getD i 0:=by
 intro i a;have e:bS l=(ax l ((ay l l.length).length-1)).2:=by unfold bS;rw[a0d (by omega)]
 rw[e]at a ⊢;exact((tr l (fun i a=>(b i a).2) c _ (.inl (by omega))) i a).1
theorem tt(a:Option Addr)(cap n:Nat)(l:List Int)(m:Int)(w:World)(g:l.length=n)(h:aZ w a l)(f:n<=1048576)(c:wl l m=false) :
  Ds 144 #[.slice a n cap,.int .i64 m] w (.slice none 0 0):=by
 have j:=ae (lY a cap n l w g h f);by_cases v:m<1
 .
  clear g h f c;generalize iY l=U at *
  go_enter a2O,a2P;go_wp2_with fail;refine(ab j).mono ?_;rintro e x1 ⟨rfl,d⟩;rw[d];go_wp2;go_ret;exact⟨rfl,a0c _ _⟩
 .
  by_cases p:15<m
  .
   clear g h f c;generalize iY l=U at *
   go_enter a2O,a2P;go_wp2_with fail;refine(ab j).mono ?_;rintro e x1 ⟨rfl,d⟩;rw[d];go_wp2;go_ret;exact⟨rfl,a0c _ _⟩
  .
   by_cases i:iY l<1
   .
    clear g h f c;generalize iY l=U at *
    go_enter a2O,a2P;go_wp2_with fail;refine(ab j).mono ?_;rintro e x1 ⟨rfl,d⟩;rw[d];go_wp2;go_ret;exact⟨rfl,a0c _ _⟩
   .
    obtain⟨mm,rfl⟩:∃mm:Nat,m=(mm:Int)+1:=⟨(m-1).toNat,by omega⟩;have b:(decide (l.length<=300)&&inC l)=true:=by
     cases u:decide (l.length<=300)&&inC l
     . exfalso;apply i;unfold iY;rw[u];simp
     . rfl
    have k:(p2 mm:Int)<iY l:=by
     simp only[a0n,a0w]at b;rw[nv b.1 b.2]at i ⊢;unfold wl at c;rw[a0v b.1,b.2,aB.2 ⟨by omega,by omega⟩]at c;have e3:((mm:Int)+1).toNat=mm+1:=by omega
     rw[e3,yo]at c;simp only[a3w]at c;have:=dN.1 c;omega
    have s:iY l<=300:=by
     simp only[a0n,a0w]at b;rw[nv b.1 b.2];have:=rP l;omega
    have r:(1:Int)*2 ^ mm=(p2 mm:Int):=by rw[Int.one_mul,j9]
    have o:(2:Int) ^ mm=(p2 mm:Int):=(j9 mm).symm;have q:(mm:Int)<=14:=by omega
    have t:IntKind.i64.wrap (p2 mm:Int)=(p2 mm:Int):=bK _ (by omega) (by omega);clear g h f c b;generalize iY l=U at *
    generalize p2 mm=PW at *
    go_enter a2O,a2P;go_wp2_with fail;refine(ab j).mono ?_;rintro e x1 ⟨rfl,d⟩;rw[d];go_wp2;go_ret;exact⟨rfl,a0c _ _⟩
def tX(o:List Int)(i:Nat):Nat:=(o.getD i 0).toNat
theorem Kl(l:List Int)(i:Nat)(h:i<l.length):l.getD i 0∈l:=by simp[List.getD,h]
theorem vZ(h2:2<=(ay l l.length).length) :
  (∀i,i<l.length->0<=(bS l).getD i 0/\(bS l).getD i 0<=(((ay l l.length).length-1:Nat):Int)) /\
  (∀i,i<l.length->(0<(bS l).getD i 0<->0<l.getD i 0)) /\
  (∀D,(ay l l.length).length<=D->krR l (tX (bS l)) D l.length=2 ^ D) /\
  oS l (bS l) l.length=qZ ((ay l l.length).length-1) (ay l l.length):=by
 obtain⟨U,hU⟩:∃U,(ay l l.length).length=U+2:=⟨(ay l l.length).length-2,by omega⟩;have A:bS l=(ax l (U+1)).2:=by
  unfold bS;rw[a0d (by omega),hU];rfl
 have k:U+1<(ay l l.length).length∨U+1=0:=.inl (by omega);have m:=lj l (U+1) k;have b:(ax l (U+1)).1.length=1:=by have:=(cb l (U+1) k).2.2.2;omega
 have B:(ax l U).1.length=2:=by have:=(cb l U (by omega)).2.2.2;omega
 obtain⟨g,hg⟩:∃g,(ax l (U+1)).1=[g]:=by
  cases v:(ax l (U+1)).1 with
  | nil=>rw[v]at b;simp at b
  | cons x t=>rw[v]at b;simp at b;exact⟨x,by rw[b]⟩
 have a:=na l (U+1) k;have p:(g.syms).Perm (bo (ay l l.length)):=by
  rw[hg]at a
  simpa[bo]using a
 rw[A];refine⟨?_,?_,?_,?_⟩
 .
  intro i h;have:=m i (by rw[eo];exact h);refine⟨this.1,?_⟩;have e:(((ay l l.length).length-1:Nat):Int)=((U+1:Nat):Int):=by rw[hU];omega
  rw[e];exact this.2
 .
  intro i h;constructor
  .
   intro u;apply Classical.byContradiction;intro C;have H:=vY l i h (fun q=>by
    obtain⟨j,d,s,w⟩:=(zC l l.length (i:Int)).1 q;have:i=j:=by omega
    subst this;exact C w) (U+1) k
   omega
  .
   intro u;have q:(i:Int)∈bo (ay l l.length):=(zC l l.length (i:Int)).2 ⟨i,rfl,h,u⟩;have f:1<(ax l U).1.length:=by omega
   have n:=gW l U (by omega);have c:=jE _ f;have G:=di (ax l U).1 (by omega);have E:=di (ap (ax l U).1) (by omega);have o:ap (ap (ax l U).1)=[]:=a2A (by omega);rw[o]at c;have r:(i:Int)∈bh (ax l U).1:=by
    have d:=(na l U (by omega)).mem_iff.2 q;have s:=c.mem_iff.2 d;simpa[bo]using s
   have hb:=lX (ax l U).2 (bh (ax l U).1) i (jC f n.1).1 (fun y F=>(n.2 y (c.mem_iff.1 (by simp[F]))).1) (by rw[eo];exact h);rw[a0e r]at hb;have hd:=(lj l U (by omega)) i (by rw[eo];exact h);show 0<(bump (ax l U).2 (bh (ax l U).1)).getD i 0;omega
 . intro D z;have d:=Mu l D z (U+1) k g (by rw[hg];simp);rw[←vg,←d];exact(GT _ p).symm
 .
  have d:=Mt l (U+1) k;have e:(ay l l.length).length-1-(U+1)=0:=by omega
  rw[e]at d;simp only[qZ,Int.add_zero]at d;exact d
theorem JV{len:Nat->Nat}{D E:Nat}(b:E<=D)(h:∀i,i<n->0<l.getD i 0->len i<=E):krR l len D n=2 ^ (D-E)*krR l len E n:=by
 induction n with
 | zero=>rfl
 | succ n ih=>
  simp only[krR];rw[ih (fun i c=>h i (by omega)),a2t];by_cases a:0<l.getD n 0
  .
   rw[a0e a,a0e a];have:=h n (by omega) a;rw[←a0W]
   congr 2
   omega
  . rw[a0d a,a0d a];rfl
theorem JW{E:Nat}(h2:2<=(ay l l.length).length)(h:∀i,i<l.length->(bS l).getD i 0<=(E:Int)):krR l (tX (bS l)) E l.length=2 ^ E:=by
 obtain⟨e,_,d,_⟩:=vZ h2;have b:∀i,i<l.length->0<l.getD i 0->tX (bS l) i<=E:=by
  intro i c _;have:=h i c;unfold tX;omega
 have a:=JV (D:=E+(ay l l.length).length) (Nat.le_add_right _ _) b;rw[d _ (Nat.le_add_left _ _),a10,a0W,a1s]at a;exact(Nat.eq_of_mul_eq_mul_left (Nat.pow_pos (by omega)) a).symm
theorem My(e:o.length=l.length)(h:∀i,i<l.length->(0<o.getD i 0<->0<l.getD i 0))(k:Nat)(d:k<=l.length):kr (o.take k)=krR l (tX o) 15 k/\us (o.take k)=(ay l k).length:=by
 induction k with
 | zero=>exact⟨rfl,rfl⟩
 | succ k ih=>
  obtain⟨c,h2⟩:=ih (by omega);rw[xU o k (by omega),pM o k (by omega),c,h2];simp only[krR];have b:=h k (by omega);by_cases a:0<l.getD k 0
  .
   rw[a0e a,a0e (b.2 a),jk a];refine⟨?_,by simp⟩;unfold krN tX p2;rw[a0e (b.2 a)]
   congr 2
   have:=b.2 a;omega
  . rw[a0d a,a0d (fun x=>a (b.1 x)),mG a];refine⟨?_,rfl⟩;unfold krN;rw[a0d (fun x=>a (b.1 x))]
theorem BX(c:o.length=l.length)(j:l.length<=300)(h:∀i,i<l.length->(0<o.getD i 0<->0<l.getD i 0))(b:∀i,i<l.length->0<=o.getD i 0/\o.getD i 0<=15)(a:krR l (tX o) 15 l.length=32768∨((ay l l.length).length=1/\krR l (tX o) 15 l.length=16384)):au o=true:=by
 obtain⟨d,h2⟩:=My c h l.length (a0a _);rw[←c,List.take_length,c]at d h2;unfold au lF;simp only[a0n,a1y,a0w];refine⟨⟨?_,by omega⟩,?_⟩
 .
  unfold inL;rw[a1a];intro x g;obtain⟨i,f,rfl⟩:=a1z g;have:=b i (by omega);have e:o.getD i 0=o[i]:=by simp[List.getD,f]
  rw[e]at this;exact aB.2 this
 .
  rw[d,h2];rcases a with a|a
  . exact .inl a
  . exact .inr a
theorem EZ(o:List Int)(k i:Nat)(a:i<k):o.getD i 0<=bR o k:=by
 induction k with
 | zero=>omega
 | succ k ih=>
  by_cases h:bR o k<o.getD k 0
  .
   rw[un h];by_cases e:i=k
   . subst e;exact a29 _
   . have:=ih (by omega);omega
  .
   rw[ye h];by_cases e:i=k
   . subst e;omega
   . exact ih (by omega)
theorem F7(m:Nat):∀(f:Nat) (l:List Int),okC l->1<=(ay l l.length).length->(ay l l.length).length<=p2 m->jJ l<=f ->
  ∃c:List Int,c.length=l.length/\okC c/\(∀i,i<l.length->(0<c.getD i 0<->0<l.getD i 0))/\oV ((m:Int)+1) f l=bS c/\(∀i,i<l.length->(bS c).getD i 0<=(m:Int)+1)/\(ay c c.length).length=(ay l l.length).length:=by
 intro f;induction f with
 | zero=>
  intro l e k _ v;exfalso;obtain⟨g,u⟩:∃g,g∈ay l l.length:=by
   cases b:ay l l.length with
   | nil=>rw[b]at k;simp at k
   | cons x t=>exact⟨x,by simp⟩
  obtain⟨_,i,_,d,q,_⟩:=pE l l.length g u;have:∀(a:List Int) (x:Int),x∈a->0<x->0<jJ a:=by
   intro a x j q;induction a with
   | nil=>cases j
   | cons y a ih=>
    simp only[jJ,a0H,a0M]at ih ⊢;simp only[a0U]at j;rcases j with rfl|j
    . omega
    . have:=ih j;omega
  have:=this l (l.getD i 0) (Kl l i d) q;omega
 | succ f ih=>
  intro l e k p v;cases h:fits (bS l) ((m:Int)+1)
  .
   have hex:=uq p h;have r:=(uO l (yj e)).2 hex;have b:=qJ l (fun i d=>(e i d).1) l.length (a0a _);obtain⟨c,c1,c2,c3,c4,n,o⟩:=ih (bq l) (uu e) (by rw[eE,b];exact k) (by rw[eE,b];exact p) (by omega);rw[eE]at c1 c3 n o;refine⟨c,c1,c2,?_,?_,n,by rw[o,b]⟩
   . intro i d;rw[c3 i d,qj l i d];unfold iE;have:=(e i d).1;omega
   . simp only[oV];rw[h];exact c4
  .
   refine⟨l,rfl,e,fun i _=>Iff.rfl,?_,?_,rfl⟩
   . simp only[oV];rw[h];rfl
   . intro i d;unfold fits at h;have s:=a3n h;rw[iF]at s;have:=EZ (bS l) l.length i d;omega
theorem wn{c:List Int}(d:okC c)(g:(ay c c.length).length=1)(i:Nat)(b:i<c.length):(bS c).getD i 0=if 0<c.getD i 0 then 1 else 0:=by
 rw[xS d g];have e:(c.map hH).getD i 0=hH c[i]:=by simp[List.getD,b]
 have e2:c.getD i 0=c[i]:=by simp[List.getD,b]
 have a:=d i b;rw[e2]at a ⊢;rw[e];unfold hH;by_cases f:0<c[i]
 . rw[a0e f];split<;>omega
 . rw[a0d f];split<;>omega
theorem N0{c:List Int}(d:okC c)(k:Nat)(f:k<=c.length)(b:(ay c c.length).length=1):krR c (tX (bS c)) 15 k=(ay c k).length*16384:=by
 induction k with
 | zero=>simp[krR,ay]
 | succ k ih=>
  simp only[krR];rw[ih (by omega)];have h:=wn d b k (by omega);by_cases a:0<c.getD k 0
  .
   rw[a0e a,jk a];have e:tX (bS c) k=1:=by unfold tX;rw[h,a0e a];rfl
   have e2:(2:Nat) ^ (15-1)=16384:=by decide
   rw[e,e2,a0j,a1o,a1t,a2G]
  . rw[a0d a,mG a,a1J]
theorem ub{m:Nat}(p:okC l)(s:l.length<=300)(n:1<=(ay l l.length).length)(o:(ay l l.length).length<=p2 m)(t:m<=14) :
  (db ((m:Int)+1) l).length=l.length/\au (db ((m:Int)+1) l)=true/\∀i,i<l.length->0<=(db ((m:Int)+1) l).getD i 0/\(db ((m:Int)+1) l).getD i 0<=(m:Int)+1/\(0<(db ((m:Int)+1) l).getD i 0<->0<l.getD i 0):=by
 obtain⟨c,c1,c2,c3,c4,j,r⟩:=F7 m (jJ l) l p n o (a0a _);have e:db ((m:Int)+1) l=bS c:=c4;rw[e];by_cases b:(ay c c.length).length=1
 .
  have q:=wn c2 b;have d:∀i,i<l.length->0<=(bS c).getD i 0/\(bS c).getD i 0<=1/\(0<(bS c).getD i 0<->0<l.getD i 0):=by
   intro i a;have h:=q i (by omega);have k:=c3 i a;by_cases g:0<c.getD i 0
   . rw[a0e g]at h;rw[h];exact⟨by omega,by omega,⟨fun _=>k.1 g,fun _=>by omega⟩⟩
   . rw[a0d g]at h;rw[h];exact⟨by omega,by omega,⟨fun x=>by omega,fun x=>absurd (k.2 x) g⟩⟩
  refine⟨by rw[iF,c1],?_,fun i a=>⟨(d i a).1,j i a,(d i a).2.2⟩⟩;refine BX (l:=c) (iF c) (by omega) ?_ ?_ (.inr ⟨b,by rw[N0 c2 _ (a0a _) b,b]⟩)
  . intro i a;exact(d i (by omega)).2.2.trans (c3 i (by omega)).symm
  . intro i a;have:=d i (by omega);exact⟨this.1,by omega⟩
 .
  have h2:2<=(ay c c.length).length:=by omega
  obtain⟨f0,f1,_,_⟩:=vZ h2;refine⟨by rw[iF,c1],?_,fun i a=>⟨(f0 i (by omega)).1,j i a,(f1 i (by omega)).trans (c3 i a)⟩⟩;have f:∀i,i<c.length->(bS c).getD i 0<=((15:Nat):Int):=fun i a=>by have:=j i (by omega);omega
  refine BX (l:=c) (iF c) (by omega) f1 (fun i a=>⟨(f0 i a).1,f i a⟩) (.inl (JW h2 f))
theorem tu(a:Option Addr)(cap n mm:Nat)(l:List Int)(w:World)(M:l.length=n)(h:aZ w a l)(hm:n<=300)(hc:inC l=true)(Z:mm<=14)(an:1<=us l)(P:us l<=p2 mm) :
  Calls prog 144 #[.slice a n cap,.int .i64 ((mm:Int)+1)] w fun e w'=>(∃v,e = .returned v/\am w' w.heap.size v (db ((mm:Int)+1) l))/\Below w.heap.size w w':=by
 have Y:=rP l;have HU:=ae (lY a cap n l w M h (by omega));rw[nv (by omega) hc]at HU;have a5:(us l:Int)<=300:=by omega
 have a3:(1:Int)<=(us l:Int):=by omega
 have a4:(us l:Int)<=(p2 mm:Int):=by omega
 have bc:(1:Int)*2 ^ mm=(p2 mm:Int):=by rw[Int.one_mul,j9]
 have ba:(2:Int) ^ mm=(p2 mm:Int):=(j9 mm).symm;have bb:(mm:Int)<=14:=by omega
 have ac:p2 mm<=16384:=by
  have h1:p2 mm<=p2 14:=a0N (by omega) (by omega);have h2:p2 14=16384:=rfl;omega
 have bd:IntKind.i64.wrap (p2 mm:Int)=(p2 mm:Int):=bK _ (by omega) (by omega);have y:=Oa hc;by_cases s:us l=1
 .
  have HE:=ae (zp a cap n l w M h (by omega) y);have j:Hid (db ((mm:Int)+1) l=l.map hH):=Mk (by omega) y (by rw[fj];exact s);rw[s]at a4 HU;have Hn:=ae M;clear M h hm hc Z an P Y a5 a3 s y ac;generalize p2 mm=PW at *
  go_enter a2O,a2P;go_wp2_with fail;refine(ab HU).mono ?_;rintro e x1 ⟨rfl,E⟩;rw[E];clear E x1;go_wp2_with fail;refine(ab HE).mono ?_;rintro e x2 ⟨v,rfl,ho,hb⟩;obtain⟨va,vc,rfl⟩:=ho.formN (n:=n) (by rw[a0K,ab Hn]);go_wp2;go_ret;exact⟨⟨_,rfl,by rw[ab j];exact ho⟩,hb⟩
 .
  have a9:((us l:Int) == 1)=false:=by simp;omega
  have O:1<(ay l l.length).length:=by rw[fj];omega
  have HN:=ae (a0b M (a0b hm (a0b y (show(ay l l.length).length<=p2 mm by rw[fj];exact P))));have N:Hid (1<=n):=by show 1<=n;omega
  have HP:=ae (mx a cap n l w M h hm y O);have HH:=ae (a0b h O);clear M h hm hc Z an P Y s y ac O;have r:Hid (n<=300):=(ab HN).2.1;generalize us l=U at *
  generalize V:p2 mm=PW at *
  have R:=ae V;clear V;go_enter a2O,a2P;go_wp2_with fail;refine(ab HU).mono ?_;rintro e x1 ⟨rfl,E⟩;rw[E];clear E x1;go_wp2_with fail;refine(ab HP).mono ?_;rintro e x2 ⟨rfl,ho,hb⟩;go_wp2_with fail
  go_loopw [0,6] (fun c v wr=>∃(b:List Int) (f ob T:Nat) (S:Option Addr),b.length=n/\okC b/\(ay b b.length).length<=PW/\1<(ay b b.length).length/\jJ b<=f/\db ((mm:Int)+1) l=oV ((mm:Int)+1) f b/\c = .slice S n T/\v = .slice (some ⟨ob,0,none⟩) n n/\w.heap.size<=ob/\am wr ob (.slice (some ⟨ob,0,none⟩) n n) (bS b)/\aZ wr S b/\Below w.heap.size w wr) (fun c _ wr=>Eb c wr n)
  case atStart=>exact⟨l,jJ l,w.heap.size,cap,a,(ab HN).1,(ab HN).2.2.1,(ab HN).2.2.2,(ab HH).2,a0a _,rfl,rfl,rfl,a0a _,ho,(ab HH).1.later hb,hb⟩
  case round=>
   obtain⟨b,f,ob,T,S,k,g,p,u,H,j,rfl,rfl,J,D,B,q⟩:=hrel;clear ho hb;have m:(bS b).length=n:=(iF b).trans k;have Q:=ae (uj (some ⟨ob,0,none⟩) n n (bS b) wr m (D.rowN m) (ab N) (ab r) (Mv g (by rw[k];exact ab r) u));have C:Hid (fits (bS b) ((mm:Int)+1)=decide (bR (bS b) n<=(mm:Int)+1)):=by show _=_;unfold fits;rw[m]
   have HQ:=ae (a0b k (a0b g (a0b p (a0b u (a0b H j)))));have HO:=ae (a0b D (a0b B (a0b q J)));have HE:=ae (xz S T n b wr k B (by have:=ab r;omega) g);have HS:=ae (Fq (c:=T) k (ab N) B);clear k g p u H j m D B q J;generalize bR (bS b) n=mo at *
   by_cases a8:(mm:Int)+1<mo
   .
    have I:fits (bS b) ((mm:Int)+1)=false:=by rw[ab C];exact a0h (by omega)
    obtain⟨k,g,p,u,H,j⟩:=ab HQ;rw[←ab R]at p;have hex:=uq p I;have K:=(uO b (yj g)).2 hex;obtain⟨f',hff⟩:∃f',f=f'+1:=⟨f-1,by omega⟩;have L:Hid (db ((mm:Int)+1) l=oV ((mm:Int)+1) f' (bq b)):=by
     show _=_;rw[j,hff];simp only[oV];rw[I];rfl
    have X:Hid (jJ (bq b)<=f'):=by show _<=_;omega
    have a1:=ae K;have A:=ae (uu g);have al:=qJ b (fun i hi=>(g i hi).1) b.length (a0a _);have z:Hid ((ay (bq b) (bq b).length).length<=PW/\1<(ay (bq b) (bq b).length).length):=by
     show _/\_;rw[eE,al,←ab R];exact⟨p,u⟩
    have o:Hid ((bq b).length=n):=(eE b).trans k;clear k g p H j hex K hff al u;go_wp2_with fail;refine(ab Q).mono ?_;rintro e x3 ⟨rfl,F⟩;rw[F];clear F x3;go_wp2_with fail;refine(ab HE).mono ?_;rintro e x4 ⟨v,rfl,x,W⟩;obtain⟨va,vc,rfl⟩:=x.formN (ab o);have d:=x.rowN (ab o);have t:Below w.heap.size w x4:=ai (ab HO).2.2.1 W;have a0:=ae (mx va vc n (bq b) x4 (ab o) d (ab r) (ab A) (ab z).2);have a2:=ae (a0b x (a0b t d));clear x W d t;go_wp2_with fail;refine(ab a0).mono ?_;rintro e x5 ⟨rfl,aa,G⟩;obtain⟨x,t,d⟩:=ab a2;have a6:Hid (Eb (.slice va n vc) x5 n<Eb (.slice S n T) wr n):=by
     show Eb _ _ _<Eb _ _ _;rw[Fq (ab o) (ab N) (d.later G),ab HS];exact ab a1
    have HR:=ae (a0b aa (a0b (d.later G) (ai t G)));have a7:Hid (w.heap.size<=x4.heap.size):=t.size;clear x t d aa G;go_wp2;go_roundw
    case rel=>exact⟨bq b,f',x4.heap.size,vc,va,ab o,ab A,(ab z).1,(ab z).2,ab X,ab L,rfl,rfl,ab a7,(ab HR).1,(ab HR).2.1,(ab HR).2.2⟩
    case measure=>exact ab a6
   .
    have I:fits (bS b) ((mm:Int)+1)=true:=by rw[ab C];exact a0v (by omega)
    have ad:Hid (db ((mm:Int)+1) l=bS b):=by
     show _=_;rw[(ab HQ).2.2.2.2.2];cases f with
     | zero=>rfl
     | succ f=>simp only[oV];rw[I];rfl
    go_wp2_with fail;refine(ab Q).mono ?_;rintro e x3 ⟨rfl,F⟩;rw[F];clear F x3;obtain⟨D,B,q,J⟩:=ab HO;go_wp2;go_ret;exact⟨⟨_,rfl,by rw[ab ad];exact D.mono J⟩,q⟩
theorem jr(a:Option Addr)(cap n:Nat)(l:List Int)(m:Int)(w:World)(i:l.length=n)(h:aZ w a l)(j:n<=1048576) :
  Calls prog 144 #[.slice a n cap,.int .i64 m] w fun e w'=>(∃v,e = .returned v/\am w' w.heap.size v (jP l m))/\Below w.heap.size w w':=by
 cases b:wl l m
 . refine(tt a cap n l m w i h j b).mono ?_;rintro e w' ⟨rfl,hb⟩;refine⟨⟨_,rfl,?_⟩,hb⟩;unfold jP;rw[b];exact a00 _ _ _ _
 .
  have f:=b;unfold wl at f;simp only[a0n,a0w]at f;obtain⟨⟨⟨k,g⟩,d⟩,c⟩:=f;obtain⟨m1,m2⟩:=aB.1 g;obtain⟨mm,rfl⟩:∃mm:Nat,m=(mm:Int)+1:=⟨(m-1).toNat,by omega⟩;have e3:((mm:Int)+1).toNat=mm+1:=by omega
  rw[e3,yo]at c;obtain⟨u1,u2⟩:=aB.1 c;have:=tu a cap n mm l w i h (by omega) d (by omega) (by omega) (by omega);unfold jP;rw[b];exact this
end Go.Proofs.YtchidddpplangaaGreatDoor
