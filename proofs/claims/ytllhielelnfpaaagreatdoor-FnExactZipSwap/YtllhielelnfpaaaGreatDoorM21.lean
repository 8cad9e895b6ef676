/- Of what the proof is made: 6 texts, one behind the other. -/
import Derived.Test.YtllhielelnfpaaaGreatDoorM19
import Derived.Test.YtllhielelnfpaaaGreatDoorM11
import Derived.Test.YtllhielelnfpaaaGreatDoorM17
import Derived.Test.YtllhielelnfpaaaGreatDoorM14
set_option maxRecDepth 100000
set_option linter.unusedSimpArgs false
set_option linter.unusedVariables false
set_option maxHeartbeats 6400000
namespace Go.Proofs.YtllhielelnfpaaaGreatDoor
open Go.Proofs.Tryz
open Go.RowKit Corb
variable {D L l o:List Int}{T:List UInt8}{V k n p q r sz:Nat}{i:Int}
theorem LH{f:Nat}(b:n+f=15)(d:nx l n<=cd V p n)(h:nK l V sz p f n=some (i,q)):q<=sz/\p<q/\0<=i/\i<(l.length:Int):=by
 induction f generalizing n with
 | zero=>simp[nK]at h
 | succ f ih=>
  by_cases a:sz<p+n+1
  . rw[nM a]at h;cases h
  .
   by_cases h2:cd V p (n+1)<nx l (n+1)
   . rw[sH a h2]at h;simp only[a0l,a06]at h;obtain⟨rfl,rfl⟩:=h;obtain⟨k,g,_,_,e⟩:=qz (l:=l) (n:=n) (c:=cd V p (n+1)) (by omega) (by simp only[cd];omega) h2;rw[e];omega
   . rw[pH a h2]at h;exact ih (by omega) (by omega) h
theorem fw(h:dec l V sz p=some (i,q)):q<=sz/\p<q/\0<=i/\i<(l.length:Int):=LH rfl (a0g _) h
def rdN(V sz p k:Nat):Option (Nat×Nat):=if p+k<=sz then some (V/2 ^ p%2 ^ k,p+k)else none
theorem cK(h:p+k<=sz):rdN V sz p k=some (V/2 ^ p%2 ^ k,p+k):=a0e h
theorem eW(h:¬ p+k<=sz):rdN V sz p k=none:=a0d h
theorem bD{x:Nat}(h:rdN V sz p k=some (x,q)):q<=sz/\q=p+k/\x=V/2 ^ p%2 ^ k/\x<2 ^ k:=by
 unfold rdN at h
 split at h
 . simp only[a0l,a06]at h;obtain⟨rfl,rfl⟩:=h;exact⟨by assumption,rfl,rfl,a02 _ (a1r k)⟩
 . cases h
def scG(V sz least group many k q:Nat):Option (Nat×Nat):=if k<many then(rdN V sz q (stF least group k).2).bind fun x=>some ((stF least group k).1+x.1,x.2)else none
def fO(V sz:Nat)(D:List Int)(k q:Nat):Option (Tk×Nat):=
 (scG V sz 3 4 28 k q).bind fun a=>(dec D V sz a.2).bind fun j=>(scG V sz 1 2 30 j.1.toNat j.2).bind fun c=>some ((0,((a.1:Nat):Int),((c.1:Nat):Int)),c.2)
def oneG(V sz:Nat)(D:List Int)(k:Int)(q:Nat):Option (Tk×Nat):=if k<256 then some ((k,0,0),q)else fO V sz D (k.toNat-257) q
theorem DD{least group many x:Nat}(h:scG V sz least group many k q=some (x,r)):r<=sz/\q<=r:=by
 unfold scG at h
 split at h
 .
  rcases a:rdN V sz q (stF least group k).2 with _|⟨y,t⟩
  . rw[a]at h;cases h
  . rw[a]at h;simp only[a0f,a0l,a06]at h;have:=bD a;omega
 . cases h
theorem yt{t:Tk}(h:fO V sz D k q=some (t,r)):r<=sz/\q<=r:=by
 unfold fO at h;rcases b:scG V sz 3 4 28 k q with _|⟨a,a2⟩
 . rw[b]at h;cases h
 rw[b]at h;simp only[a0f]at h;rcases h2:dec D V sz a2 with _|⟨j,j2⟩
 . rw[h2]at h;cases h
 rw[h2]at h;simp only[a0f]at h;rcases d:scG V sz 1 2 30 j.toNat j2 with _|⟨c,c2⟩
 . rw[d]at h;cases h
 rw[d]at h;simp only[a0f,a0l,a06]at h;have e:=DD b;have f:=fw h2;have g:=DD d;omega
theorem r8{k:Int}{t:Tk}(h:oneG V sz D k q=some (t,r))(hq:q<=sz):r<=sz/\q<=r:=by
 unfold oneG at h
 split at h
 . simp only[a0l,a06]at h;omega
 . exact yt h
def ot(V sz:Nat)(L D:List Int):Nat->Nat->List UInt8->Option (List UInt8×Nat)
 | 0,_,_=>none
 | f+1,p,T=>(dec L V sz p).bind fun k=>if k.1=256 then some (T,k.2)else(oneG V sz D k.1 k.2).bind fun t=>(eH T t.1).bind fun T'=>ot V sz L D f t.2 T'
def iB(V sz:Nat)(L D:List Int)(p:Nat)(T:List UInt8):Option (List UInt8×Nat):=ot V sz L D (sz+1-p) p T
theorem G0: ∀(n f p:Nat) (T:List UInt8),sz+1-p<=n->sz+1-p<=f->ot V sz L D f p T=ot V sz L D (sz+1-p) p T:=by
 intro n;induction n with
 | zero=>
  intro f p T b h2;have e:sz+1-p=0:=by omega
  rw[e];cases f with
  | zero=>rfl
  | succ f=>
   have hd:dec L V sz p=none:=by
    rcases h:dec L V sz p with _|⟨i,q⟩
    . rfl
    . have:=fw h;omega
   simp only[ot,hd,a10]
 | succ n ih=>
  intro f p T b h2;rcases hd:dec L V sz p with _|⟨i,q⟩
  .
   cases f with
   | zero=>rw[show sz+1-p=0 by omega]
   | succ f=>
    rcases a:sz+1-p with _|m
    . simp only[ot,hd,a10]
    . simp only[ot,hd,a10]
  .
   have hb:=fw hd;obtain⟨f',rfl⟩:∃g,f=g+1:=⟨f-1,by omega⟩;obtain⟨m,a⟩:∃g,sz+1-p=g+1:=⟨sz-p,by omega⟩;rw[a];simp only[ot,hd,a0f]
   split
   . rfl
   .
    rcases c:oneG V sz D i q with _|⟨t,r⟩
    . rfl
    .
     simp only[a0f];have d:=r8 c hb.1;rcases eH T t with _|T'
     . rfl
     . simp only[a0f];rw[ih f' r T' (by omega) (by omega),ih m r T' (by omega) (by omega)]
theorem wi(h:dec L V sz p=none):iB V sz L D p T=none:=by
 unfold iB;rcases a:sz+1-p with _|m
 . rfl
 . simp only[ot,h,a10]
theorem Bc(h:dec L V sz p=some (256,q)):iB V sz L D p T=some (T,q):=by
 have hb:=fw h;unfold iB;obtain⟨m,hm⟩:∃g,sz+1-p=g+1:=⟨sz-p,by omega⟩;rw[hm];simp only[ot,h,a0f,a0X]
theorem wj(h:dec L V sz p=some (i,q))(a:i≠256):iB V sz L D p T=(oneG V sz D i q).bind fun t=>(eH T t.1).bind fun T'=>iB V sz L D t.2 T':=by
 have hb:=fw h;unfold iB;obtain⟨m,hm⟩:∃g,sz+1-p=g+1:=⟨sz-p,by omega⟩;rw[hm];simp only[ot,h,a0f,a0d a];rcases b:oneG V sz D i q with _|⟨t,r⟩
 . rfl
 .
  simp only[a0f];have c:=r8 b hb.1;rcases eH T t with _|T'
  . rfl
  . simp only[a0f];exact G0 m m r T' (by omega) (by omega)
theorem MK: ∀(f p:Nat) (T T':List UInt8) (q:Nat),ot V sz L D f p T=some (T',q)->q<=sz/\p<q/\(T.length<=300->T'.length<=300):=by
 intro f;induction f with
 | zero=>intro p T T' q h;simp[ot]at h
 | succ f ih=>
  intro p T T' q h;rcases hd:dec L V sz p with _|⟨i,r⟩
  . simp[ot,hd]at h
  .
   have hb:=fw hd;simp only[ot,hd,a0f]at h
   split at h
   . simp only[a0l,a06]at h;obtain⟨rfl,rfl⟩:=h;exact⟨hb.1,hb.2.1,id⟩
   .
    rcases b:oneG V sz D i r with _|⟨t,u⟩
    . rw[b]at h;simp at h
    .
     rw[b]at h;simp only[a0f]at h;have e:=r8 b hb.1;rcases a:eH T t with _|T2
     . rw[a]at h;simp at h
     . rw[a]at h;simp only[a0f]at h;obtain⟨c,h2,d⟩:=ih u T2 T' q h;exact⟨c,by omega,fun _=>d (oy a)⟩
theorem xY{T':List UInt8}(h:iB V sz L D p T=some (T',q)):q<=sz/\p<q/\(T.length<=300->T'.length<=300):=MK _ _ _ _ _ h
theorem wm(w:World)(x y:Value)(t:TypeId)(g:Nat)(a:w.heap.size=g):(w.alloc (.cells #[x,y] t)).cell? ⟨g,0,none⟩=some x/\(w.alloc (.cells #[x,y] t)).cell? ⟨g,1,none⟩=some y:=by
 subst a;simp
def mG(w:World)(b:Nat):Nat:=match w.cell? ⟨b,0,none⟩with|some v=>sliceLen v|none=>0
theorem mf(a:Option Addr)(cap n:Nat)(l:List Int)(w:World)(hn:l.length=n)(h:aY w a l)(hm:n<=300)(hc:∀i,i<l.length->0<=l.getD i 0/\l.getD i 0<=100000)(h2:1<(ay l l.length).length) :
  Calls prog 204 #[.slice a n cap] w fun e w'=>e = .returned (.slice (some ⟨w.heap.size,0,none⟩) n n)/\am w' w.heap.size (.slice (some ⟨w.heap.size,0,none⟩) n n) (bP l)/\Below w.heap.size w w':=by
 have fl:(n:Int)<=300:=by omega
 obtain⟨i0,hi,eu,ev,ey⟩:=a0p Tryz.infoInt;have E:=ae (a0b hn (a0b hm (a0b hc h2)));have HR:=ae h;have d4:Hid (∀k,(ay l l.length).length-k<=1->(k<(ay l l.length).length∨k=0)->bP l=(ax l k).2):=by
  intro k h3 h4;unfold bP;rw[a0d (by omega)]
  congr 2;omega
 clear hc h2 h;go_enter func204,ntmps204;go_wp2_with (at_make;refine a1w _ rfl _ _ 140 rfl w.heap.size 3 i0 (.int .i64 0) 1 a0D hi eu ev .i64 .i64 _ _ n rfl rfl rfl rfl (by rw[ey];omega) (by unfold maxLen;omega) (a0a _) ?_;intro w1 be V);have cs:am w1 w.heap.size (.slice (some ⟨w.heap.size,0,none⟩) n n) (List.replicate l.length 0):=by
  rw[hn];exact cU be
 have b6:Below w.heap.size w w1:=(a0c _ _).grown V (a0a _) (fun k h=>by cases h);have fr:w.heap.size+1<=w1.heap.size:=cs.below.2;have c7:=ae (vf a cap n l w1 hn ((ab HR).later b6) hm);have bl:=ae (a0b cs b6);clear be V hn hm cs b6 hi eu ev ey;refine(ab c7).mono ?_;rintro e w2 ⟨rfl,L0,va0,vc0,d5,dq,b2,ej,I⟩;have ed:=(ab bl).1.later I (a0a _);have d3:=ai (ab bl).2 I;rw[<-(ab E).1]at b2;clear c7 bl;generalize hB:w1.heap.size=B at *
 clear hB;go_wp2_with fail
 go_loopw [5,6,7,9] (fun _ _ _ _ wq=>∃(j:Nat) (L:List Grp) (va:Option Addr) (vc:Nat),(j<(ay l l.length).length∨j=0)/\(L.map bare).Perm (ax l j).1/\cz wq B (B+1) (.slice va L.length vc) L/\HP L/\dH wq (B+1) L/\am wq w.heap.size (.slice (some ⟨w.heap.size,0,none⟩) n n) (ax l j).2/\Below w.heap.size w wq) (fun _ _ _ _ wq=>mG wq B)
 case atStart=>exact⟨0,L0,va0,vc0,.inr rfl,b2,d5,dq,ej,ed,d3⟩
 case round=>
  obtain⟨j,L,va,vc,hj,hL,hh,hP,hs,hp,d⟩:=hrel;clear b2 d5 dq ej ed d3 I;have HZ:=ae (iV B (B+1) L.length vc va L wr hh);have cg:L.length=(ay l l.length).length-j:=by
   have O:=hL.length_eq;rw[a0K,(bU l j hj).2.2.2]at O;exact O
  by_cases a8:1<L.length
  .
   obtain⟨q,hq⟩:∃q,L.length=q+2:=⟨L.length-2,by omega⟩;obtain⟨g,rfl⟩:=hh.2.somes (by omega);rw[hq]at HZ;have cu:q+2<=300:=by
    have h2:=oj l l.length;have:=(ab E).1;have:=(ab E).2.1;omega
   have fn:(q:Int)+2<=300:=by omega
   have ca:cz wr B (B+1) (.slice (some ⟨g,0,none⟩) (q+1+1) vc) L:=by rw[hq]at hh;exact hh
   have c8:=ae (AZ B g (q+1) vc L wr hs hq (by omega) ca hP);have H:=ae (a0b hj (a0b hL (a0b ca (a0b hP (a0b hs (a0b hp (a0b d a8)))))));clear hj hL ca hP hs hp d a8 cg hh cu;go_wp2_with fail;refine(ab HZ).mono ?_;rintro e y1 ⟨rfl,al⟩;rw[al];clear al y1;go_wp2_with fail;refine(ab c8).mono ?_;rintro e x1 ⟨rfl,M1,r,a3,d6,a6,X⟩;have f:Hid (Calls prog 235 #[.pointer (some ⟨B,0,none⟩)] x1 fun e w'=>e = .returned (.agg #[.int .i64 (M1.getD 0 g0).cnt,.int .i64 (M1.getD 0 g0).fst,(M1.getD 0 g0).val])/\∃M:List Grp,(M1.getD 0 g0 :: M).Perm M1/\HP M/\cz w' B (B+1) (.slice (some ⟨g,0,none⟩) q vc) M/\Below B x1 w'/\bj 3 x1 w'):=by
    obtain⟨hj,hL,hh,hP,hs,hp,d,a8⟩:=ab H;have a9:M1.length=q+1:=by have:=r.length_eq;simp at this;omega
    exact AZ B g q vc M1 x1 ((X.syms hs).sub (fun y hy=>r.mem_iff.1 (by simp[hy]))) a9 (by omega) d6 a3
   have bs:=ae (a0b r (a0b a3 (a0b a6 X)));obtain⟨aa,ac,b5⟩:=((ab H).2.2.2.2.1 (L.getD 0 g0) (fE L 0 (by omega))).form;rw[b5];have dl:=fE L 0 (by omega);have cy:=ae (a0b b5 dl);clear r a3 d6 a6 X b5 dl;generalize dd:L.getD 0 g0=A at *
   have c5:=ae dd;clear dd;go_wp2_with fail;refine(ab f).mono ?_;rintro e x2 ⟨rfl,M2,Q,ds,b9,I,d7⟩;have HF:Hid (M1.length=q+1/\M2.length=q/\am x2 (B+1) A.val A.syms/\am x2 (B+1) (M1.getD 0 g0).val (M1.getD 0 g0).syms/\dH x2 (B+1) M2/\am x2 w.heap.size (.slice (some ⟨w.heap.size,0,none⟩) n n) (ax l j).2/\Below w.heap.size w x2/\M2.Perm M2):=by
    obtain⟨hj,hL,hh,hP,hs,hp,d,a8⟩:=ab H;obtain⟨r,a3,a6,X⟩:=ab bs;have a9:M1.length=q+1:=by have:=r.length_eq;simp at this;omega
    have d8:M2.length=q:=by have:=Q.length_eq;simp at this;omega
    have hk:=X.trans d7;have ek:dH x2 (B+1) M1:=(hk.syms hs).sub (fun y hy=>r.mem_iff.1 (by simp[hy]));exact⟨a9,d8,hk.ints (hs _ (ab cy).2),ek _ (fE M1 0 (by omega)),ek.sub (fun y hy=>Q.mem_iff.1 (by simp[hy])),hk.ints hp,(d.trans (a6.mono (by omega))).trans (I.mono (by omega)),a2m _⟩
   have c9:=ae (a0b Q (a0b ds b9));obtain⟨ga,gc,b8⟩:=(ab HF).2.2.2.1.form;have D:=ae (Jo (ab E).2.2.1 (by rw[(ab E).1];exact(ab E).2.1) (ab H).1 (ab H).2.1 (ab H).2.2.2.1 (by omega) (by rw[ab c5];exact(ab bs).1) (ab bs).2.1 Q);rw[ab c5]at D;rw[b8];have e0:=ae b8;have fb:=b9.lt;clear Q ds b9 I d7 b8;generalize M1.getD 0 g0=G at *
   clear c8 f HZ;go_wp2_with fail;have a5:Below x2.heap.size x2 (((x2.alloc (.cells #[.int .i64 A.cnt,.int .i64 A.fst,.slice aa A.syms.length ac] 306)).alloc (.cells #[.int .i64 G.cnt,.int .i64 G.fst,.slice ga G.syms.length gc] 306)).alloc (.cells #[.slice aa A.syms.length ac,.slice ga G.syms.length gc] 140)):=
    (((a0c _ _).alloc (a0a _) _).alloc (by simp) _).alloc (by simp;omega) _
   have d1:Three (((x2.alloc (.cells #[.int .i64 A.cnt,.int .i64 A.fst,.slice aa A.syms.length ac] 306)).alloc (.cells #[.int .i64 G.cnt,.int .i64 G.fst,.slice ga G.syms.length gc] 306)).alloc (.cells #[.slice aa A.syms.length ac,.slice ga G.syms.length gc] 140)) x2.heap.size (.int .i64 A.cnt) (.int .i64 A.fst) (.slice aa A.syms.length ac):=
    ((pr x2 _ _ _ _).later ((a0c _ _).alloc (a0a _) _)).later ((a0c _ _).alloc (a0a _) _)
   have d2:Three (((x2.alloc (.cells #[.int .i64 A.cnt,.int .i64 A.fst,.slice aa A.syms.length ac] 306)).alloc (.cells #[.int .i64 G.cnt,.int .i64 G.fst,.slice ga G.syms.length gc] 306)).alloc (.cells #[.slice aa A.syms.length ac,.slice ga G.syms.length gc] 140)) (x2.heap.size+1) (.int .i64 G.cnt) (.int .i64 G.fst) (.slice ga G.syms.length gc):=by
    have O:=pr (x2.alloc (.cells #[.int .i64 A.cnt,.int .i64 A.fst,.slice aa A.syms.length ac] 306)) (.int .i64 G.cnt) (.int .i64 G.fst) (.slice ga G.syms.length gc) 306;have e:(x2.alloc (.cells #[.int .i64 A.cnt,.int .i64 A.fst,.slice aa A.syms.length ac] 306)).heap.size=x2.heap.size+1:=by simp
    rw[e]at O;exact O.later ((a0c _ _).alloc (a0a _) _)
   have dv:iS (((x2.alloc (.cells #[.int .i64 A.cnt,.int .i64 A.fst,.slice aa A.syms.length ac] 306)).alloc (.cells #[.int .i64 G.cnt,.int .i64 G.fst,.slice ga G.syms.length gc] 306)).alloc (.cells #[.slice aa A.syms.length ac,.slice ga G.syms.length gc] 140)) (x2.heap.size+1+1) (B+1) [(.slice aa A.syms.length ac,A.syms.map (Value.int .i64)),(.slice ga G.syms.length gc,G.syms.map (Value.int .i64))]:=by
    have cp:=(ab HF).2.2.1.later a5 (a0a _);have cr:=(ab HF).2.2.2.1.later a5 (a0a _);rw[(ab cy).1]at cp;rw[ab e0]at cr;intro i hi
    match i,hi with
    | 0,_=>exact⟨(wm _ _ _ _ _ (by simp)).1,_,cp,a1l .i64 _⟩
    | 1,_=>exact⟨(wm _ _ _ _ _ (by simp)).2,_,cr,a1l .i64 _⟩
   have e1:(((x2.alloc (.cells #[.int .i64 A.cnt,.int .i64 A.fst,.slice aa A.syms.length ac] 306)).alloc (.cells #[.int .i64 G.cnt,.int .i64 G.fst,.slice ga G.syms.length gc] 306)).alloc (.cells #[.slice aa A.syms.length ac,.slice ga G.syms.length gc] 140)).heap.size=x2.heap.size+3:=by simp
   generalize ((x2.alloc (.cells #[.int .i64 A.cnt,.int .i64 A.fst,.slice aa A.syms.length ac] 306)).alloc (.cells #[.int .i64 G.cnt,.int .i64 G.fst,.slice ga G.syms.length gc] 306)).alloc (.cells #[.slice aa A.syms.length ac,.slice ga G.syms.length gc] 140)=W3 at *
   have C:aL [(Value.slice aa A.syms.length ac,A.syms.map (Value.int .i64)),(Value.slice ga G.syms.length gc,G.syms.map (Value.int .i64))]=(A.syms++G.syms).length:=by simp[aL,cj]
   have R:de [(Value.slice aa A.syms.length ac,A.syms.map (Value.int .i64)),(Value.slice ga G.syms.length gc,G.syms.map (Value.int .i64))]=(A.syms++G.syms).map (Value.int .i64):=by simp[de]
   refine(pE (x2.heap.size+1+1) (B+1) 2 2 _ W3 rfl (by omega) (by omega) dv (by rw[C];have:=(ab D).2.2.2.2.2.1;omega)).mono ?_;rintro e x3 ⟨v,rfl,co,T⟩;rw[C,R]at co;have b4:am x3 W3.heap.size v (A.syms++G.syms):=co;have ba:=d1.later T;have bb:=d2.later T;have m:=ai a5 T;have N:Hid (cz x3 B (B+1) (.slice (some ⟨g,0,none⟩) q vc) M2/\dH x3 (B+1) M2/\am x3 w.heap.size (.slice (some ⟨w.heap.size,0,none⟩) n n) (ax l j).2/\Below w.heap.size w x3/\am x3 W3.heap.size v (A.syms++G.syms)/\Three x3 x2.heap.size (.int .i64 A.cnt) (.int .i64 A.fst) (.slice aa A.syms.length ac)/\Three x3 (x2.heap.size+1) (.int .i64 G.cnt) (.int .i64 G.fst) (.slice ga G.syms.length gc)/\x2.heap.size+3<=x3.heap.size):=by
    obtain⟨a9,d8,cp,cr,e7,e6,e2,_⟩:=ab HF;refine⟨(ab c9).2.2.later m,e7.later m (a0a _),e6.later m (a0a _),e2.trans (m.mono (by omega)),b4,ba,bb,?_⟩;have:=T.size;omega
   obtain⟨sa,sc,em⟩:=b4.form;have a4:Hid ((A.syms++G.syms).length<=300/\0<(A.syms++G.syms).length/\(∀x∈A.syms++G.syms,0<=x/\x<(l.length:Int))):=by
    obtain⟨t1,t2,t3,t4,t5,t6,t7,t8,t9⟩:=ab D;refine⟨t6,?_,t9⟩;rw[a0j];omega
   clear a5 d1 d2 dv co T b4 ba bb m R C;generalize hS:A.syms++G.syms=S at *
   clear hS;obtain⟨gs,e3⟩:=(show am x3 W3.heap.size (.slice sa S.length sc) S by rw[<-em];exact(ab N).2.2.2.2.1).somes (ab a4).2.1;subst e3;subst em;have sI:(S.length:Int)<=300:=by have:=(ab a4).1;omega
   go_wp2_with fail;have e5:=ae (sU l (fun i hi=>((ab E).2.2.1 i hi).2) (by rw[(ab E).1];exact(ab E).2.1) j (ab H).1);have e4:Hid ((j:Int)<=300):=by
    show(j:Int)<=300;have O:=(ab H).1;have h2:=oj l l.length;have:=(ab E).1;have:=(ab E).2.1;omega
   have c6:Hid (mG wr B=q+2):=by
    show mG wr B=q+2;unfold mG;rw[(ab H).2.2.1.cell];rfl
   go_loopw [9,30] (fun _ i wq=>∃t:Nat,t<=S.length/\i = .int .i64 t/\am wq w.heap.size (.slice (some ⟨w.heap.size,0,none⟩) n n) (bump (ax l j).2 (S.take t))/\Touch (some ⟨w.heap.size,0,none⟩) x3 wq/\Below w.heap.size w wq) (fun _ i _=>S.length-(intOf i).toNat)
   case atStart=>exact⟨0,a0g _,rfl,(ab N).2.2.1,Touch.refl _ _,(ab N).2.2.2.1⟩
   case round=>
    obtain⟨t,ht,rfl,J,c,a7⟩:=hrel;have ch:Hid ((bump (ax l j).2 (S.take t)).length=n):=by show(bump (ax l j).2 (S.take t)).length=n;rw[oA,d9,(ab E).1]
    have en:Hid (t<=S.length):=ht;clear ht;by_cases Y:t<S.length
    .
     have bk:=(ab N).2.2.2.2.1.touch c (ju _ _ (by omega));obtain⟨c0,_,_,_⟩:=bk.at rfl Y;have hx:=(ab a4).2.2 (S.getD t 0) (by simp[List.getD,Y]);rw[(ab E).1]at hx;have U:=ae (vm (ax l j).2 S t Y);have bd:=ae (sC (ab e5) (S.take t));obtain⟨p,eh⟩:=a0s hx.1;rw[eh]at c0 U;have eg:p<n:=by omega
     obtain⟨d0,f0,_,_⟩:=J.at (ab ch) eg;have cv:=ab bd p (by rw[ab ch];exact eg);have Z:=J.put (j:=p) (ab ch) ((bump (ax l j).2 (S.take t)).getD p 0+1);have el:Hid (bump (ax l j).2 (S.take (t+1))=(bump (ax l j).2 (S.take t)).set p ((bump (ax l j).2 (S.take t)).getD p 0+1)):=by
      show bump (ax l j).2 (S.take (t+1))=_;rw[ab U];unfold fC;rw[a0r]
     have fz:(bump (ax l j).2 (S.take t)).getD p 0<=100000:=by
      have O:=cv.2;have h2:(S.take t).length<=300:=by rw[a0v];have:=(ab a4).1;omega
      have:=ab e4;omega
     have fv:=cv.1;have bc:=ag a7 (b:=w.heap.size) (o:=p) (a0a _) (.int .i64 ((bump (ax l j).2 (S.take t)).getD p 0+1));have ad:=c.set (o:=p) rfl (.int .i64 ((bump (ax l j).2 (S.take t)).getD p 0+1));have fa:(p:Int)<n:=by omega
     rw[<-ab el]at Z;generalize (bump (ax l j).2 (S.take t)).getD p 0=y at *
     have K:=ae (a0b Z (a0b bc ad));have e9:(t:Int)<S.length:=by omega
     clear Z bc ad el cv bd U eh hx bk c a7 J;go_wp2;go_roundw
     case rel=>exact⟨t+1,by have:=ab en;omega,by go_num,(ab K).1,(ab K).2.2,(ab K).2.1⟩
     case measure=>simp[intOf];omega
    .
     obtain rfl:t=S.length:=by have:=ab en;omega
     rw[a0w (a0a _)]at J;obtain⟨h3,s3,_,_,o3,tA,tG,z3⟩:=ab N;have HY:Hid (cz wr B (B+1) (.slice (some ⟨g,0,none⟩) q vc) M2/\dH wr (B+1) M2/\am wr (B+1) (.slice (some ⟨gs,0,none⟩) S.length sc) S):=by
      refine⟨⟨(c.2 B (fun g' e=>by simp only[a0l,a0z,a0O]at e;omega)).trans h3.1,nv h3.2 c (ju _ _ (by omega))⟩,fun y hy=>(s3 y hy).touch c (ju _ _ (by omega)),?_⟩;have h4:=o3.touch c (ju _ _ (by omega));exact am.mono h4 (by omega)
     obtain⟨a0,a1,_,_,_,_,abl⟩:=tA;obtain⟨b0,b1,_,_,_,_,fk⟩:=tG;have a0':=(hH c (p:=⟨x2.heap.size,0,none⟩) (by show x2.heap.size≠w.heap.size;omega)).trans a0;have a1':=(hH c (p:=⟨x2.heap.size,1,none⟩) (by show x2.heap.size≠w.heap.size;omega)).trans a1;have fc:=(hH c (p:=⟨x2.heap.size+1,0,none⟩) (by show x2.heap.size+1≠w.heap.size;omega)).trans b0;have fh:=(hH c (p:=⟨x2.heap.size+1,1,none⟩) (by show x2.heap.size+1≠w.heap.size;omega)).trans b1;obtain⟨t1,t2,t3,t4,t5,t6,t7,t8,t9⟩:=ab D;obtain⟨F,hF⟩:∃F:Int,F=if G.fst<A.fst then G.fst else A.fst:=⟨_,rfl⟩
     rw[<-hF]at t2;have f:=ae (a0b t1 t2);have an:=ae (zJ B q vc (some ⟨g,0,none⟩) M2 ⟨A.cnt+G.cnt,F,S,.slice (some ⟨gs,0,none⟩) S.length sc⟩ wr (ab HY).2.1 (ab HY).2.2 (ab HF).2.1 (by omega) (ab HY).1 (ab c9).2.1);have a2:=ae (a0b J a7);clear h3 s3 o3 z3 a0 a1 b0 b1 c J a7 e1 t1 t2 t6 t7 t8 t9;by_cases e8:A.fst<=G.fst
     .
      have P:F=A.fst:=by rw[hF,a0d (by omega)]
      rw[P]at an f;clear hF P;go_wp2_with fail;refine(ab an).mono ?_;rintro e x5 ⟨rfl,M3,g',c',s,b3,W,b7,z⟩;go_wp2;go_roundw
      case rel=>
       have cc:M3.length=q+1:=by rw[s.length_eq,a0j,(ab HF).2.1];rfl
       have u:=(ab a2).1;refine⟨j+1,M3,some ⟨g',0,none⟩,c',.inl ?_,(ab f).2 M3 _ s,by rw[cc];exact W,b3,?_,?_,(ab a2).2.trans (b7.mono (by omega))⟩
       . have O:=(ab H).2.1.length_eq;rw[a0K,(bU l j (ab H).1).2.2.2]at O;omega
       . exact(((z.syms (ab HY).2.1)).snoc (z.ints (ab HY).2.2)).perm s
       . show am x5 w.heap.size _ (bump (ax l j).2 (bg (ax l j).1));rw[(ab f).1];exact z.ints u
      case measure=>
       rw[ab c6];unfold mG;rw[W.cell];simp[sliceLen]
     .
      have P:F=G.fst:=by rw[hF,a0e (by omega)]
      rw[P]at an f;clear hF P;go_wp2_with fail;refine(ab an).mono ?_;rintro e x5 ⟨rfl,M3,g',c',s,b3,W,b7,z⟩;go_wp2;go_roundw
      case rel=>
       have cc:M3.length=q+1:=by rw[s.length_eq,a0j,(ab HF).2.1];rfl
       have u:=(ab a2).1;refine⟨j+1,M3,some ⟨g',0,none⟩,c',.inl ?_,(ab f).2 M3 _ s,by rw[cc];exact W,b3,?_,?_,(ab a2).2.trans (b7.mono (by omega))⟩
       . have O:=(ab H).2.1.length_eq;rw[a0K,(bU l j (ab H).1).2.2.2]at O;omega
       . exact(((z.syms (ab HY).2.1)).snoc (z.ints (ab HY).2.2)).perm s
       . show am x5 w.heap.size _ (bump (ax l j).2 (bg (ax l j).1));rw[(ab f).1];exact z.ints u
      case measure=>
       rw[ab c6];unfold mG;rw[W.cell];simp[sliceLen]
  . obtain⟨va',vc',hform⟩:∃x y,Value.slice va L.length vc = .slice x L.length y:=⟨_,_,rfl⟩;have ei:=ab d4 j (by omega) hj;rw[<-ei]at hp;clear hform;go_wp2_with fail;refine(ab HZ).mono ?_;rintro e y1 ⟨rfl,al⟩;rw[al];clear al y1;go_wp2;go_ret;exact⟨rfl,hp,d⟩
theorem tX(h:bK o k<o.getD k 0):bK o (k+1)=o.getD k 0:=by simp only[bK];rw[a0e h]
theorem xF(h:¬ bK o k<o.getD k 0):bK o (k+1)=bK o k:=by simp only[bK];rw[a0d h]
theorem J4(b:0<=o.getD 0 0):bK o 1=o.getD 0 0:=by
 by_cases h:bK o 0<o.getD 0 0
 . exact tX h
 . have a:bK o 1=bK o 0:=xF h;have e:bK o 0=0:=rfl;rw[e]at h a;rw[a];exact(Int.le_antisymm (Int.not_lt.1 h) b).symm
def DL(v:Value)(w:World)(n:Nat):Nat:=match v with
 | .slice (some a) _ _=>((List.range n).map (fun i=>(intOf ((w.cell? ⟨a.block,a.off+i,none⟩).getD (.int .i64 0))).toNat)).sum
 | _=>0
theorem ET{w:World}{a:Option Addr}{c:Nat}(e:l.length=n)(b:1<=n)(h:aY w a l):DL (.slice a n c) w n=jz l:=by
 obtain⟨g,o,rfl,f,d⟩:=h (by omega);unfold DL jz;simp only
 congr 1
 apply a2E
 . simp[e]
 . intro i b h2;simp only[a0K,List.length_range]at b;simp only[List.getElem_map,List.getElem_range];rw[d i (by omega)];simp[intOf,List.getD,show i<l.length by omega]
theorem tT(a:Option Addr)(cap n:Nat)(o:List Int)(w:World)(t:o.length=n)(h:aY w a o)(r:1<=n)(z:n<=300)(d:∀i,i<o.length->0<=o.getD i 0) :
  Calls prog 200 #[.slice a n cap] w fun e w'=>e = .returned (.int .i64 (bK o n))/\w'=w:=by
 have A:(n:Int)<=300:=by omega
 have x:(1:Int)<=n:=by omega
 have p:=ae (a0b t (a0b r d));obtain⟨g,off,rfl,E,f⟩:=h (by omega);have c0:=f 0 (by omega);have e0:=ae (J4 (d 0 (by omega)));rw[a1K]at c0;have v:=ae f;clear t h z d f r;generalize B:o.getD 0 0=y0 at *
 clear B;go_enter func200,ntmps200;go_wp2_with fail
 go_loop [3,4] (fun m i=>∃k:Nat,1<=k/\k<=n/\i = .int .i64 k/\m = .int .i64 (bK o k)) (fun _ i=>n-(intOf i).toNat)
 case atStart=>exact⟨1,a0a _,(ab p).2.1,rfl,by rw[ab e0]⟩
 case round=>
  obtain⟨k,u,s,rfl,rfl⟩:=hrel;have C:=ae (a0b u s);by_cases j:k<n
  .
   have D:=ab v k (by rw[(ab p).1];exact j);have c:=ae (fun h=>tX (o:=o) (k:=k) h);have l:=ae (fun h=>xF (o:=o) (k:=k) h);clear s u c0;generalize o.getD k 0=y at *
   generalize bK o k=q at *
   by_cases b:q<y
   .
    have e1:=ae (ab c b);go_wp2
    go_round
    case rel=>exact⟨k+1,by omega,by omega,by go_num,by rw[ab e1]⟩
    case measure=>simp[intOf];omega
   .
    have e1:=ae (ab l b);go_wp2
    go_round
    case rel=>exact⟨k+1,by omega,by omega,by go_num,by rw[ab e1]⟩
    case measure=>simp[intOf];omega
  .
   obtain rfl:k=n:=by omega
   go_wp2;go_ret;exact⟨rfl,rfl⟩
theorem Cr(x:Int)(w:World)(a:0<=x)(b:x<=1000000) :
  Calls prog 205 #[.int .i64 x] w fun e w'=>e = .returned (.int .i64 (ir x))/\w'=w:=by
 go_enter func205,ntmps205;go_wp2;go_ret;exact⟨rfl,rfl⟩
theorem wQ(a:Option Addr)(cap n:Nat)(l:List Int)(w:World)(H:l.length=n)(h:aY w a l)(G:n<=1048576)(E:okC l) :
  Calls prog 202 #[.slice a n cap,.func (.func 205) #[] #[]] w fun e w'=>∃v,e = .returned v/\am w' w.heap.size v (bo l)/\Below w.heap.size w w':=by
 have M:(n:Int)<=1048576:=by omega
 have p:=ae H;have K:=ae G;have I:=ae E;clear H G E;obtain⟨i0,L,B,C,D⟩:=a0p Tryz.infoInt;go_enter func202,ntmps202;go_wp2_with fail
 go_loopw [5,7,10] (fun o _ i wr=>∃k:Nat,k<=n/\i = .int .i64 k/\am wr w.heap.size o (bo (l.take k))/\Below w.heap.size w wr) (fun _ _ i _=>n-(intOf i).toNat)
 case atStart=>exact⟨0,a0g _,rfl,a03 _ _ _ _,a0c _ _⟩
 case round=>
  obtain⟨k,F,rfl,hq,b⟩:=hrel;have q:=b.size;by_cases m:k<n
  .
   obtain⟨g,o,rfl,N,r⟩:=(h.later b) (by rw[ab p];omega);have c0:=r k (by rw[ab p];exact m);obtain⟨y0,y1⟩:=ab I k (by rw[ab p];exact m);have A:Hid (bo (l.take (k+1))=bo (l.take k)++[ir (l.getD k 0)]):=by
    show _=_;unfold bo;rw[bX l k (by rw[ab p];exact m),a0I];rfl
   have z:Hid ((bo (l.take k)).length=k):=by show _=k;have:=ab p;rw[ef];simp;omega
   have J:=ae F;clear r F h;generalize l.getD k 0=y at *
   have HP:=ae (Cr y wr (by omega) (by omega));generalize ir y=R at *
   go_wp2_with fail;refine(ab HP).mono ?_;rintro e x1 ⟨rfl,u⟩;rw[u];clear u x1;have d:Hid ((bo (l.take k)).length+1<=maxLen/\((bo (l.take k)).length+1)*8<=140737488355328):=by
    show _/\_;rw[ab z];have:=ab K;unfold maxLen;omega
   clear HP;go_wp2_with (at_builtin;refine a0t _ rfl _ _ 140 rfl w.heap.size 3 i0 (.int .i64 0) 1 8 a0D L B C D rfl (by decide) _ _ _ rfl (a0k hq _) ⟨wr.heap.size,0,none⟩ 1 1 [.int .i64 R] rfl rfl (bC _ _ rfl _ _) (ez _) (ab d).1 (ab d).2 (ao q _) ?_;intro v' x2 j c s;clear s);have x:=aC (v:=u5) c hq (a0a _) q b;have t:=mQ j;rw[<-ab A]at t;clear j c hq;go_wp2;go_roundw
   case rel=>exact⟨k+1,by have:=ab J;omega,by go_num,t,x⟩
   case measure=>simp[intOf];omega
  . have f:l.take k=l:=a0w (by rw[ab p];omega);rw[f]at hq;obtain⟨va,vc,rfl⟩:=hq.form;clear f h;go_wp2;go_ret;exact⟨_,rfl,hq,b⟩
theorem KF(l:List Int)(k i:Nat)(d:i<k)(c:0<l.getD i 0):∃g∈ay l k,g.fst=(i:Int):=by
 induction k with
 | zero=>omega
 | succ k ih=>
  by_cases e:i=k
  . subst e;refine⟨⟨l.getD i 0,(i:Int),[(i:Int)],.slice none 0 0⟩,?_,rfl⟩;rw[uu c];simp
  .
   obtain⟨g,a,b⟩:=ih (by omega);refine⟨g,?_,b⟩;simp only[ay]
   split
   . simp[a]
   . exact a
theorem KG(l:List Int)(k:Nat):∀g∈ay l k,∃i:Nat,g.fst=(i:Int)/\i<k/\0<l.getD i 0:=by
 induction k with
 | zero=>intro g a;simp[ay]at a
 | succ k ih=>
  intro g a;simp only[ay]at a
  split at a
  .
   rename_i hp;simp only[a0T,a05]at a;rcases a with a|rfl
   . obtain⟨i,b,h2,c⟩:=ih g a;exact⟨i,b,by omega,c⟩
   . exact⟨k,rfl,by omega,hp⟩
  . obtain⟨i,b,h2,c⟩:=ih g a;exact⟨i,b,by omega,c⟩
theorem xt(m:okC l)(a:(ay l l.length).length=1):bP l=l.map gT:=by
 unfold bP;rw[a0e a];obtain⟨x,hx⟩:∃x,ay l l.length=[x]:=by
  cases j:ay l l.length with
  | nil=>rw[j]at a;simp at a
  | cons x t=>rw[j]at a;simp at a;exact⟨x,by rw[a]⟩
 obtain⟨q,hq,p,h⟩:=KG l l.length x (by rw[hx];simp);rw[hx];simp only[List.getD_cons_zero];rw[hq,a0r];apply a2E
 . simp
 .
  intro i h2 k;have f:i<l.length:=by simpa using k
  have e:l.getD i 0=l[i]:=by simp[List.getD,f]
  have b:=m i f;rw[List.getElem_set,List.getElem_map,List.getElem_replicate];by_cases c:q=i
  .
   subst c;rw[a0e rfl];rw[e]at h b;unfold gT
   split<;>omega
  .
   rw[a0d c];have r:¬ 0<l.getD i 0:=by
    intro o;obtain⟨g,d,n⟩:=KF l l.length i f o;rw[hx]at d;simp only[a05]at d;subst d;rw[hq]at n;omega
   rw[e]at r b;unfold gT
   split<;>omega
theorem LQ{m:Int}(j:1<=m)(b:okC l)(d:(ay l l.length).length=1):cW m l=l.map gT:=by
 have g:fits (bP l) m=true:=by
  refine Em (by omega) ?_;rw[xt b d];intro i h;have a:i<l.length:=by simpa using h
  have e:(l.map gT).getD i 0=gT l[i]:=by simp[List.getD,a]
  have e2:l.getD i 0=l[i]:=by simp[List.getD,a]
  have c:=b i a;rw[e2]at c;rw[e];unfold gT
  split<;>omega
 rw[<-xt b d];unfold cW;cases jz l with
 | zero=>rfl
 | succ f=>simp only[oH];rw[g];rfl
theorem Ma(b:okC l)(c:l.length<=300)(h2:1<(ay l l.length).length):∀i,i<(bP l).length->0<=(bP l).getD i 0:=by
 intro i a;have e:bP l=(ax l ((ay l l.length).length-1)).2:=by unfold bP;rw[a0d (by omega)]
 rw[e]at a ⊢;exact((sU l (fun i a=>(b i a).2) c _ (.inl (by omega))) i a).1
theorem sW(a:Option Addr)(cap n:Nat)(l:List Int)(m:Int)(w:World)(g:l.length=n)(h:aY w a l)(f:n<=1048576)(c:vO l m=false) :
  Ds 159 #[.slice a n cap,.int .i64 m] w (.slice none 0 0):=by
 have j:=ae (lO a cap n l w g h f);by_cases v:m<1
 .
  clear g h f c;generalize iQ l=U at *
  go_enter a2M,a2N;go_wp2_with fail;refine(ab j).mono ?_;rintro e x1 ⟨rfl,d⟩;rw[d];go_wp2;go_ret;exact⟨rfl,a0c _ _⟩
 .
  by_cases p:15<m
  .
   clear g h f c;generalize iQ l=U at *
   go_enter a2M,a2N;go_wp2_with fail;refine(ab j).mono ?_;rintro e x1 ⟨rfl,d⟩;rw[d];go_wp2;go_ret;exact⟨rfl,a0c _ _⟩
  .
   by_cases i:iQ l<1
   .
    clear g h f c;generalize iQ l=U at *
    go_enter a2M,a2N;go_wp2_with fail;refine(ab j).mono ?_;rintro e x1 ⟨rfl,d⟩;rw[d];go_wp2;go_ret;exact⟨rfl,a0c _ _⟩
   .
    obtain⟨mm,rfl⟩:∃mm:Nat,m=(mm:Int)+1:=⟨(m-1).toNat,by omega⟩;have b:(decide (l.length<=300)&&inC l)=true:=by
     cases u:decide (l.length<=300)&&inC l
     . exfalso;apply i;unfold iQ;rw[u];simp
     . rfl
    have k:(p2 mm:Int)<iQ l:=by
     simp only[a0o,a0x]at b;rw[nc b.1 b.2]at i ⊢;unfold vO at c;rw[a0u b.1,b.2,aB.2 ⟨by omega,by omega⟩]at c;have e3:((mm:Int)+1).toNat=mm+1:=by omega
     rw[e3,xL]at c;simp only[a3t]at c;have:=dI.1 c;omega
    have s:iQ l<=300:=by
     simp only[a0o,a0x]at b;rw[nc b.1 b.2];have:=rz l;omega
    have r:(1:Int)*2 ^ mm=(p2 mm:Int):=by rw[Int.one_mul,jW]
    have o:(2:Int) ^ mm=(p2 mm:Int):=(jW mm).symm;have q:(mm:Int)<=14:=by omega
    have t:IntKind.i64.wrap (p2 mm:Int)=(p2 mm:Int):=bH _ (by omega) (by omega);clear g h f c b;generalize iQ l=U at *
    generalize p2 mm=PW at *
    go_enter a2M,a2N;go_wp2_with fail;refine(ab j).mono ?_;rintro e x1 ⟨rfl,d⟩;rw[d];go_wp2;go_ret;exact⟨rfl,a0c _ _⟩
def tF(o:List Int)(i:Nat):Nat:=(o.getD i 0).toNat
theorem JY(l:List Int)(i:Nat)(h:i<l.length):l.getD i 0∈l:=by simp[List.getD,h]
theorem vF(h2:2<=(ay l l.length).length) :
  (∀i,i<l.length->0<=(bP l).getD i 0/\(bP l).getD i 0<=(((ay l l.length).length-1:Nat):Int)) /\
  (∀i,i<l.length->(0<(bP l).getD i 0<->0<l.getD i 0)) /\
  (∀D,(ay l l.length).length<=D->krR l (tF (bP l)) D l.length=2 ^ D) /\
  oF l (bP l) l.length=qJ ((ay l l.length).length-1) (ay l l.length):=by
 obtain⟨U,hU⟩:∃U,(ay l l.length).length=U+2:=⟨(ay l l.length).length-2,by omega⟩;have A:bP l=(ax l (U+1)).2:=by
  unfold bP;rw[a0d (by omega),hU];rfl
 have k:U+1<(ay l l.length).length∨U+1=0:=.inl (by omega);have m:=kV l (U+1) k;have b:(ax l (U+1)).1.length=1:=by have:=(bU l (U+1) k).2.2.2;omega
 have B:(ax l U).1.length=2:=by have:=(bU l U (by omega)).2.2.2;omega
 obtain⟨g,hg⟩:∃g,(ax l (U+1)).1=[g]:=by
  cases v:(ax l (U+1)).1 with
  | nil=>rw[v]at b;simp at b
  | cons x t=>rw[v]at b;simp at b;exact⟨x,by rw[b]⟩
 have a:=mN l (U+1) k;have p:(g.syms).Perm (bm (ay l l.length)):=by
  rw[hg]at a
  simpa[bm]using a
 rw[A];refine⟨?_,?_,?_,?_⟩
 .
  intro i h;have:=m i (by rw[d9];exact h);refine⟨this.1,?_⟩;have e:(((ay l l.length).length-1:Nat):Int)=((U+1:Nat):Int):=by rw[hU];omega
  rw[e];exact this.2
 .
  intro i h;constructor
  .
   intro u;apply Classical.byContradiction;intro C;have H:=vE l i h (fun q=>by
    obtain⟨j,d,s,w⟩:=(zf l l.length (i:Int)).1 q;have:i=j:=by omega
    subst this;exact C w) (U+1) k
   omega
  .
   intro u;have q:(i:Int)∈bm (ay l l.length):=(zf l l.length (i:Int)).2 ⟨i,rfl,h,u⟩;have f:1<(ax l U).1.length:=by omega
   have n:=gO l U (by omega);have c:=jt _ f;have G:=dc (ax l U).1 (by omega);have E:=dc (ap (ax l U).1) (by omega);have o:ap (ap (ax l U).1)=[]:=a2B (by omega);rw[o]at c;have r:(i:Int)∈bg (ax l U).1:=by
    have d:=(mN l U (by omega)).mem_iff.2 q;have s:=c.mem_iff.2 d;simpa[bm]using s
   have hb:=lN (ax l U).2 (bg (ax l U).1) i (js f n.1).1 (fun y F=>(n.2 y (c.mem_iff.1 (by simp[F]))).1) (by rw[d9];exact h);rw[a0e r]at hb;have hd:=(kV l U (by omega)) i (by rw[d9];exact h);show 0<(bump (ax l U).2 (bg (ax l U).1)).getD i 0;omega
 . intro D z;have d:=L9 l D z (U+1) k g (by rw[hg];simp);rw[<-uN,<-d];exact(Gt _ p).symm
 .
  have d:=L4 l (U+1) k;have e:(ay l l.length).length-1-(U+1)=0:=by omega
  rw[e]at d;simp only[qJ,Int.add_zero]at d;exact d
theorem JB{len:Nat->Nat}{D E:Nat}(b:E<=D)(h:∀i,i<n->0<l.getD i 0->len i<=E):krR l len D n=2 ^ (D-E)*krR l len E n:=by
 induction n with
 | zero=>rfl
 | succ n ih=>
  simp only[krR];rw[ih (fun i c=>h i (by omega)),a2u];by_cases a:0<l.getD n 0
  .
   rw[a0e a,a0e a];have:=h n (by omega) a;rw[<-a0W]
   congr 2
   omega
  . rw[a0d a,a0d a];rfl
theorem JC{E:Nat}(h2:2<=(ay l l.length).length)(h:∀i,i<l.length->(bP l).getD i 0<=(E:Int)):krR l (tF (bP l)) E l.length=2 ^ E:=by
 obtain⟨e,_,d,_⟩:=vF h2;have b:∀i,i<l.length->0<l.getD i 0->tF (bP l) i<=E:=by
  intro i c _;have:=h i c;unfold tF;omega
 have a:=JB (D:=E+(ay l l.length).length) (Nat.le_add_right _ _) b;rw[d _ (Nat.le_add_left _ _),a2b,a0W,a1s]at a;exact(Nat.eq_of_mul_eq_mul_left (Nat.pow_pos (by omega)) a).symm
theorem Md(e:o.length=l.length)(h:∀i,i<l.length->(0<o.getD i 0<->0<l.getD i 0))(k:Nat)(d:k<=l.length):kr (o.take k)=krR l (tF o) 15 k/\us (o.take k)=(ay l k).length:=by
 induction k with
 | zero=>exact⟨rfl,rfl⟩
 | succ k ih=>
  obtain⟨c,h2⟩:=ih (by omega);rw[xw o k (by omega),pu o k (by omega),c,h2];simp only[krR];have b:=h k (by omega);by_cases a:0<l.getD k 0
  .
   rw[a0e a,a0e (b.2 a),ja a];refine⟨?_,by simp⟩;unfold krN tF p2;rw[a0e (b.2 a)]
   congr 2
   have:=b.2 a;omega
  . rw[a0d a,a0d (fun x=>a (b.1 x)),mq a];refine⟨?_,rfl⟩;unfold krN;rw[a0d (fun x=>a (b.1 x))]
theorem BA(c:o.length=l.length)(j:l.length<=300)(h:∀i,i<l.length->(0<o.getD i 0<->0<l.getD i 0))(b:∀i,i<l.length->0<=o.getD i 0/\o.getD i 0<=15)(a:krR l (tF o) 15 l.length=32768∨((ay l l.length).length=1/\krR l (tF o) 15 l.length=16384)):au o=true:=by
 obtain⟨d,h2⟩:=Md c h l.length (a0a _);rw[<-c,List.take_length,c]at d h2;unfold au lw;simp only[a0o,a1y,a0x];refine⟨⟨?_,by omega⟩,?_⟩
 .
  unfold inL;rw[a09];intro x g;obtain⟨i,f,rfl⟩:=a1z g;have:=b i (by omega);have e:o.getD i 0=o[i]:=by simp[List.getD,f]
  rw[e]at this;exact aB.2 this
 .
  rw[d,h2];rcases a with a|a
  . exact .inl a
  . exact .inr a
theorem EA(o:List Int)(k i:Nat)(a:i<k):o.getD i 0<=bK o k:=by
 induction k with
 | zero=>omega
 | succ k ih=>
  by_cases h:bK o k<o.getD k 0
  .
   rw[tX h];by_cases e:i=k
   . subst e;exact a26 _
   . have:=ih (by omega);omega
  .
   rw[xF h];by_cases e:i=k
   . subst e;omega
   . exact ih (by omega)
theorem FF(m:Nat):∀(f:Nat) (l:List Int),okC l->1<=(ay l l.length).length->(ay l l.length).length<=p2 m->jz l<=f ->
  ∃c:List Int,c.length=l.length/\okC c/\(∀i,i<l.length->(0<c.getD i 0<->0<l.getD i 0))/\oH ((m:Int)+1) f l=bP c/\(∀i,i<l.length->(bP c).getD i 0<=(m:Int)+1)/\(ay c c.length).length=(ay l l.length).length:=by
 intro f;induction f with
 | zero=>
  intro l e k _ v;exfalso;obtain⟨g,u⟩:∃g,g∈ay l l.length:=by
   cases b:ay l l.length with
   | nil=>rw[b]at k;simp at k
   | cons x t=>exact⟨x,by simp⟩
  obtain⟨_,i,_,d,q,_⟩:=pj l l.length g u;have:∀(a:List Int) (x:Int),x∈a->0<x->0<jz a:=by
   intro a x j q;induction a with
   | nil=>cases j
   | cons y a ih=>
    simp only[jz,a0G,a0M]at ih ⊢;simp only[a0U]at j;rcases j with rfl|j
    . omega
    . have:=ih j;omega
  have:=this l (l.getD i 0) (JY l i d) q;omega
 | succ f ih=>
  intro l e k p v;cases h:fits (bP l) ((m:Int)+1)
  .
   have hex:=tZ p h;have r:=(uz l (xH e)).2 hex;have b:=qo l (fun i d=>(e i d).1) l.length (a0a _);obtain⟨c,c1,c2,c3,c4,n,o⟩:=ih (bo l) (ub e) (by rw[ef,b];exact k) (by rw[ef,b];exact p) (by omega);rw[ef]at c1 c3 n o;refine⟨c,c1,c2,?_,?_,n,by rw[o,b]⟩
   . intro i d;rw[c3 i d,pP l i d];unfold ir;have:=(e i d).1;omega
   . simp only[oH];rw[h];exact c4
  .
   refine⟨l,rfl,e,fun i _=>Iff.rfl,?_,?_,rfl⟩
   . simp only[oH];rw[h];rfl
   . intro i d;unfold fits at h;have s:=a3k h;rw[iu]at s;have:=EA (bP l) l.length i d;omega
theorem vQ{c:List Int}(d:okC c)(g:(ay c c.length).length=1)(i:Nat)(b:i<c.length):(bP c).getD i 0=if 0<c.getD i 0 then 1 else 0:=by
 rw[xt d g];have e:(c.map gT).getD i 0=gT c[i]:=by simp[List.getD,b]
 have e2:c.getD i 0=c[i]:=by simp[List.getD,b]
 have a:=d i b;rw[e2]at a ⊢;rw[e];unfold gT;by_cases f:0<c[i]
 . rw[a0e f];split<;>omega
 . rw[a0d f];split<;>omega
theorem NA{c:List Int}(d:okC c)(k:Nat)(f:k<=c.length)(b:(ay c c.length).length=1):krR c (tF (bP c)) 15 k=(ay c k).length*16384:=by
 induction k with
 | zero=>simp[krR,ay]
 | succ k ih=>
  simp only[krR];rw[ih (by omega)];have h:=vQ d b k (by omega);by_cases a:0<c.getD k 0
  .
   rw[a0e a,ja a];have e:tF (bP c) k=1:=by unfold tF;rw[h,a0e a];rfl
   have e2:(2:Nat) ^ (15-1)=16384:=by decide
   rw[e,e2,a0j,a1n,a1t,a2G]
  . rw[a0d a,mq a,a1K]
theorem tK{m:Nat}(p:okC l)(s:l.length<=300)(n:1<=(ay l l.length).length)(o:(ay l l.length).length<=p2 m)(t:m<=14) :
  (cW ((m:Int)+1) l).length=l.length/\au (cW ((m:Int)+1) l)=true/\∀i,i<l.length->0<=(cW ((m:Int)+1) l).getD i 0/\(cW ((m:Int)+1) l).getD i 0<=(m:Int)+1/\(0<(cW ((m:Int)+1) l).getD i 0<->0<l.getD i 0):=by
 obtain⟨c,c1,c2,c3,c4,j,r⟩:=FF m (jz l) l p n o (a0a _);have e:cW ((m:Int)+1) l=bP c:=c4;rw[e];by_cases b:(ay c c.length).length=1
 .
  have q:=vQ c2 b;have d:∀i,i<l.length->0<=(bP c).getD i 0/\(bP c).getD i 0<=1/\(0<(bP c).getD i 0<->0<l.getD i 0):=by
   intro i a;have h:=q i (by omega);have k:=c3 i a;by_cases g:0<c.getD i 0
   . rw[a0e g]at h;rw[h];exact⟨by omega,by omega,⟨fun _=>k.1 g,fun _=>by omega⟩⟩
   . rw[a0d g]at h;rw[h];exact⟨by omega,by omega,⟨fun x=>by omega,fun x=>absurd (k.2 x) g⟩⟩
  refine⟨by rw[iu,c1],?_,fun i a=>⟨(d i a).1,j i a,(d i a).2.2⟩⟩;refine BA (l:=c) (iu c) (by omega) ?_ ?_ (.inr ⟨b,by rw[NA c2 _ (a0a _) b,b]⟩)
  . intro i a;exact(d i (by omega)).2.2.trans (c3 i (by omega)).symm
  . intro i a;have:=d i (by omega);exact⟨this.1,by omega⟩
 .
  have h2:2<=(ay c c.length).length:=by omega
  obtain⟨f0,f1,_,_⟩:=vF h2;refine⟨by rw[iu,c1],?_,fun i a=>⟨(f0 i (by omega)).1,j i a,(f1 i (by omega)).trans (c3 i a)⟩⟩;have f:∀i,i<c.length->(bP c).getD i 0<=((15:Nat):Int):=fun i a=>by have:=j i (by omega);omega
  refine BA (l:=c) (iu c) (by omega) f1 (fun i a=>⟨(f0 i a).1,f i a⟩) (.inl (JC h2 f))
theorem sX(a:Option Addr)(cap n mm:Nat)(l:List Int)(w:World)(M:l.length=n)(h:aY w a l)(hm:n<=300)(hc:inC l=true)(Z:mm<=14)(an:1<=us l)(P:us l<=p2 mm) :
  Calls prog 159 #[.slice a n cap,.int .i64 ((mm:Int)+1)] w fun e w'=>(∃v,e = .returned v/\am w' w.heap.size v (cW ((mm:Int)+1) l))/\Below w.heap.size w w':=by
 have Y:=rz l;have HU:=ae (lO a cap n l w M h (by omega));rw[nc (by omega) hc]at HU;have a5:(us l:Int)<=300:=by omega
 have a3:(1:Int)<=(us l:Int):=by omega
 have a4:(us l:Int)<=(p2 mm:Int):=by omega
 have bc:(1:Int)*2 ^ mm=(p2 mm:Int):=by rw[Int.one_mul,jW]
 have ba:(2:Int) ^ mm=(p2 mm:Int):=(jW mm).symm;have bb:(mm:Int)<=14:=by omega
 have ac:p2 mm<=16384:=by
  have h1:p2 mm<=p2 14:=a0N (by omega) (by omega);have h2:p2 14=16384:=rfl;omega
 have bd:IntKind.i64.wrap (p2 mm:Int)=(p2 mm:Int):=bH _ (by omega) (by omega);have y:=NF hc;by_cases s:us l=1
 .
  have HE:=ae (yX a cap n l w M h (by omega) y);have j:Hid (cW ((mm:Int)+1) l=l.map gT):=LQ (by omega) y (by rw[eZ];exact s);rw[s]at a4 HU;have Hn:=ae M;clear M h hm hc Z an P Y a5 a3 s y ac;generalize p2 mm=PW at *
  go_enter a2M,a2N;go_wp2_with fail;refine(ab HU).mono ?_;rintro e x1 ⟨rfl,E⟩;rw[E];clear E x1;go_wp2_with fail;refine(ab HE).mono ?_;rintro e x2 ⟨v,rfl,ho,hb⟩;obtain⟨va,vc,rfl⟩:=ho.formN (n:=n) (by rw[a0K,ab Hn]);go_wp2;go_ret;exact⟨⟨_,rfl,by rw[ab j];exact ho⟩,hb⟩
 .
  have a9:((us l:Int) == 1)=false:=by simp;omega
  have O:1<(ay l l.length).length:=by rw[eZ];omega
  have HN:=ae (a0b M (a0b hm (a0b y (show(ay l l.length).length<=p2 mm by rw[eZ];exact P))));have N:Hid (1<=n):=by show 1<=n;omega
  have HP:=ae (mf a cap n l w M h hm y O);have HH:=ae (a0b h O);clear M h hm hc Z an P Y s y ac O;have r:Hid (n<=300):=(ab HN).2.1;generalize us l=U at *
  generalize V:p2 mm=PW at *
  have R:=ae V;clear V;go_enter a2M,a2N;go_wp2_with fail;refine(ab HU).mono ?_;rintro e x1 ⟨rfl,E⟩;rw[E];clear E x1;go_wp2_with fail;refine(ab HP).mono ?_;rintro e x2 ⟨rfl,ho,hb⟩;go_wp2_with fail
  go_loopw [0,6] (fun c v wr=>∃(b:List Int) (f ob T:Nat) (S:Option Addr),b.length=n/\okC b/\(ay b b.length).length<=PW/\1<(ay b b.length).length/\jz b<=f/\cW ((mm:Int)+1) l=oH ((mm:Int)+1) f b/\c = .slice S n T/\v = .slice (some ⟨ob,0,none⟩) n n/\w.heap.size<=ob/\am wr ob (.slice (some ⟨ob,0,none⟩) n n) (bP b)/\aY wr S b/\Below w.heap.size w wr) (fun c _ wr=>DL c wr n)
  case atStart=>exact⟨l,jz l,w.heap.size,cap,a,(ab HN).1,(ab HN).2.2.1,(ab HN).2.2.2,(ab HH).2,a0a _,rfl,rfl,rfl,a0a _,ho,(ab HH).1.later hb,hb⟩
  case round=>
   obtain⟨b,f,ob,T,S,k,g,p,u,H,j,rfl,rfl,J,D,B,q⟩:=hrel;clear ho hb;have m:(bP b).length=n:=(iu b).trans k;have Q:=ae (tT (some ⟨ob,0,none⟩) n n (bP b) wr m (D.rowN m) (ab N) (ab r) (Ma g (by rw[k];exact ab r) u));have C:Hid (fits (bP b) ((mm:Int)+1)=decide (bK (bP b) n<=(mm:Int)+1)):=by show _=_;unfold fits;rw[m]
   have HQ:=ae (a0b k (a0b g (a0b p (a0b u (a0b H j)))));have HO:=ae (a0b D (a0b B (a0b q J)));have HE:=ae (wQ S T n b wr k B (by have:=ab r;omega) g);have HS:=ae (ET (c:=T) k (ab N) B);clear k g p u H j m D B q J;generalize bK (bP b) n=mo at *
   by_cases a8:(mm:Int)+1<mo
   .
    have I:fits (bP b) ((mm:Int)+1)=false:=by rw[ab C];exact a0h (by omega)
    obtain⟨k,g,p,u,H,j⟩:=ab HQ;rw[<-ab R]at p;have hex:=tZ p I;have K:=(uz b (xH g)).2 hex;obtain⟨f',hff⟩:∃f',f=f'+1:=⟨f-1,by omega⟩;have L:Hid (cW ((mm:Int)+1) l=oH ((mm:Int)+1) f' (bo b)):=by
     show _=_;rw[j,hff];simp only[oH];rw[I];rfl
    have X:Hid (jz (bo b)<=f'):=by show _<=_;omega
    have a1:=ae K;have A:=ae (ub g);have al:=qo b (fun i hi=>(g i hi).1) b.length (a0a _);have z:Hid ((ay (bo b) (bo b).length).length<=PW/\1<(ay (bo b) (bo b).length).length):=by
     show _/\_;rw[ef,al,<-ab R];exact⟨p,u⟩
    have o:Hid ((bo b).length=n):=(ef b).trans k;clear k g p H j hex K hff al u;go_wp2_with fail;refine(ab Q).mono ?_;rintro e x3 ⟨rfl,F⟩;rw[F];clear F x3;go_wp2_with fail;refine(ab HE).mono ?_;rintro e x4 ⟨v,rfl,x,W⟩;obtain⟨va,vc,rfl⟩:=x.formN (ab o);have d:=x.rowN (ab o);have t:Below w.heap.size w x4:=ai (ab HO).2.2.1 W;have a0:=ae (mf va vc n (bo b) x4 (ab o) d (ab r) (ab A) (ab z).2);have a2:=ae (a0b x (a0b t d));clear x W d t;go_wp2_with fail;refine(ab a0).mono ?_;rintro e x5 ⟨rfl,aa,G⟩;obtain⟨x,t,d⟩:=ab a2;have a6:Hid (DL (.slice va n vc) x5 n<DL (.slice S n T) wr n):=by
     show DL _ _ _<DL _ _ _;rw[ET (ab o) (ab N) (d.later G),ab HS];exact ab a1
    have HR:=ae (a0b aa (a0b (d.later G) (ai t G)));have a7:Hid (w.heap.size<=x4.heap.size):=t.size;clear x t d aa G;go_wp2;go_roundw
    case rel=>exact⟨bo b,f',x4.heap.size,vc,va,ab o,ab A,(ab z).1,(ab z).2,ab X,ab L,rfl,rfl,ab a7,(ab HR).1,(ab HR).2.1,(ab HR).2.2⟩
    case measure=>exact ab a6
   .
    have I:fits (bP b) ((mm:Int)+1)=true:=by rw[ab C];exact a0u (by omega)
    have ad:Hid (cW ((mm:Int)+1) l=bP b):=by
     show _=_;rw[(ab HQ).2.2.2.2.2];cases f with
     | zero=>rfl
     | succ f=>simp only[oH];rw[I];rfl
    go_wp2_with fail;refine(ab Q).mono ?_;rintro e x3 ⟨rfl,F⟩;rw[F];clear F x3;obtain⟨D,B,q,J⟩:=ab HO;go_wp2;go_ret;exact⟨⟨_,rfl,by rw[ab ad];exact D.mono J⟩,q⟩
theorem jg(a:Option Addr)(cap n:Nat)(l:List Int)(m:Int)(w:World)(i:l.length=n)(h:aY w a l)(j:n<=1048576) :
  Calls prog 159 #[.slice a n cap,.int .i64 m] w fun e w'=>(∃v,e = .returned v/\am w' w.heap.size v (jF l m))/\Below w.heap.size w w':=by
 cases b:vO l m
 . refine(sW a cap n l m w i h j b).mono ?_;rintro e w' ⟨rfl,hb⟩;refine⟨⟨_,rfl,?_⟩,hb⟩;unfold jF;rw[b];exact a03 _ _ _ _
 .
  have f:=b;unfold vO at f;simp only[a0o,a0x]at f;obtain⟨⟨⟨k,g⟩,d⟩,c⟩:=f;obtain⟨m1,m2⟩:=aB.1 g;obtain⟨mm,rfl⟩:∃mm:Nat,m=(mm:Int)+1:=⟨(m-1).toNat,by omega⟩;have e3:((mm:Int)+1).toNat=mm+1:=by omega
  rw[e3,xL]at c;obtain⟨u1,u2⟩:=aB.1 c;have:=sX a cap n mm l w i h (by omega) d (by omega) (by omega) (by omega);unfold jF;rw[b];exact this
end Go.Proofs.YtllhielelnfpaaaGreatDoor
