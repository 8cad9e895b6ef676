/- Of what the proof is made: 6 texts, one behind the other. -/
import Derived.Test.YtkpfkgoiaicgbaaGreatDoorM17
import Derived.Test.YtkpfkgoiaicgbaaGreatDoorM9
import Derived.Test.YtkpfkgoiaicgbaaGreatDoorM11
import Derived.Test.YtkpfkgoiaicgbaaGreatDoorM19
import Derived.Test.YtkpfkgoiaicgbaaGreatDoorM14
set_option linter.unusedSimpArgs false
set_option linter.unusedVariables false
set_option maxHeartbeats 6400000
namespace Go.Proofs.YtkpfkgoiaicgbaaGreatDoor
open Go.RowKit Corb
theorem JQ{l:List Int}{V sz p f n:Nat}{i:Int}{q:Nat}(hf:n+f=15)(hi:nx l n<=cd V p n)(h:mT l V sz p f n=some (i,q)):q<=sz/\p<q/\0<=i/\i<(l.length:Int):=by
 induction f generalizing n with
 | zero=>simp[mT]at h
 | succ f ih=>
  by_cases h1:sz<p+n+1
  · rw[qz h1]at h;cases h
  ·
   by_cases h2:cd V p (n+1)<nx l (n+1)
   · rw[qy h1 h2]at h;simp only[Option.some.injEq,Prod.mk.injEq]at h;obtain⟨rfl,rfl⟩:=h;obtain⟨k,hk,_,_,e⟩:=EA (l:=l) (n:=n) (c:=cd V p (n+1)) (by omega) (by simp only[cd];omega) h2;rw[e];omega
   · rw[oc h1 h2]at h;exact ih (by omega) (by omega) h
theorem fy{l:List Int}{V sz p:Nat}{i:Int}{q:Nat}(h:dec l V sz p=some (i,q)):q<=sz/\p<q/\0<=i/\i<(l.length:Int):=JQ rfl (Nat.zero_le _) h
def rdN(V sz p k:Nat):Option (Nat×Nat):=if p+k<=sz then some (V/2 ^ p%2 ^ k,p+k)else none
theorem lB{V sz p k:Nat}(h:p+k<=sz):rdN V sz p k=some (V/2 ^ p%2 ^ k,p+k):=if_pos h
theorem oI{V sz p k:Nat}(h:¬ p+k<=sz):rdN V sz p k=none:=if_neg h
theorem br{V sz p k x q:Nat}(h:rdN V sz p k=some (x,q)):q<=sz/\q=p+k/\x=V/2 ^ p%2 ^ k/\x<2 ^ k:=by
 unfold rdN at h
 split at h
 · simp only[Option.some.injEq,Prod.mk.injEq]at h;obtain⟨rfl,rfl⟩:=h;exact⟨by assumption,rfl,rfl,Nat.mod_lt _ (Nat.two_pow_pos k)⟩
 · cases h
def scG(V sz least group many k q:Nat):Option (Nat×Nat):=if k<many then(rdN V sz q (stF least group k).2).bind fun x=>some ((stF least group k).1+x.1,x.2)else none
def jU(V sz:Nat)(D:List Int)(k q:Nat):Option (Tk×Nat):=
 (scG V sz 3 4 28 k q).bind fun a=>(dec D V sz a.2).bind fun j=>(scG V sz 1 2 30 j.1.toNat j.2).bind fun c=>some ((0,((a.1:Nat):Int),((c.1:Nat):Int)),c.2)
def oneG(V sz:Nat)(D:List Int)(k:Int)(q:Nat):Option (Tk×Nat):=if k<256 then some ((k,0,0),q)else jU V sz D (k.toNat-257) q
theorem Aq{V sz least group many k q x r:Nat}(h:scG V sz least group many k q=some (x,r)):r<=sz/\q<=r:=by
 unfold scG at h
 split at h
 ·
  rcases h1:rdN V sz q (stF least group k).2 with _|⟨y,t⟩
  · rw[h1]at h;cases h
  · rw[h1]at h;simp only[Option.bind_some,Option.some.injEq,Prod.mk.injEq]at h;have:=br h1;omega
 · cases h
theorem Fx{V sz:Nat}{D:List Int}{k q r:Nat}{t:Tk}(h:jU V sz D k q=some (t,r)):r<=sz/\q<=r:=by
 unfold jU at h;rcases h1:scG V sz 3 4 28 k q with _|⟨a,a2⟩
 · rw[h1]at h;cases h
 rw[h1]at h;simp only[Option.bind_some]at h;rcases h2:dec D V sz a2 with _|⟨j,j2⟩
 · rw[h2]at h;cases h
 rw[h2]at h;simp only[Option.bind_some]at h;rcases h3:scG V sz 1 2 30 j.toNat j2 with _|⟨c,c2⟩
 · rw[h3]at h;cases h
 rw[h3]at h;simp only[Option.bind_some,Option.some.injEq,Prod.mk.injEq]at h;have b1:=Aq h1;have b2:=fy h2;have b3:=Aq h3;omega
theorem pZ{V sz:Nat}{D:List Int}{k:Int}{q r:Nat}{t:Tk}(h:oneG V sz D k q=some (t,r))(hq:q<=sz):r<=sz/\q<=r:=by
 unfold oneG at h
 split at h
 · simp only[Option.some.injEq,Prod.mk.injEq]at h;omega
 · exact Fx h
def mD(V sz:Nat)(L D:List Int):Nat->Nat->List UInt8->Option (List UInt8×Nat)
 | 0,_,_=>none
 | f+1,p,T=>(dec L V sz p).bind fun k=>if k.1=256 then some (T,k.2)else(oneG V sz D k.1 k.2).bind fun t=>(dE T t.1).bind fun T'=>mD V sz L D f t.2 T'
def jA(V sz:Nat)(L D:List Int)(p:Nat)(T:List UInt8):Option (List UInt8×Nat):=mD V sz L D (sz+1-p) p T
theorem EH{V sz:Nat}{L D:List Int} : ∀(n f p:Nat) (T:List UInt8),sz+1-p<=n->sz+1-p<=f->mD V sz L D f p T=mD V sz L D (sz+1-p) p T:=by
 intro n;induction n with
 | zero=>
  intro f p T h1 h2;have e:sz+1-p=0:=by omega
  rw[e];cases f with
  | zero=>rfl
  | succ f=>
   have hd:dec L V sz p=none:=by
    rcases h:dec L V sz p with _|⟨i,q⟩
    · rfl
    · have:=fy h;omega
   simp only[mD,hd,Option.bind_none]
 | succ n ih=>
  intro f p T h1 h2;rcases hd:dec L V sz p with _|⟨i,q⟩
  ·
   cases f with
   | zero=>rw[show sz+1-p=0 by omega]
   | succ f=>
    rcases hm:sz+1-p with _|m
    · simp only[mD,hd,Option.bind_none]
    · simp only[mD,hd,Option.bind_none]
  ·
   have hb:=fy hd;obtain⟨f',rfl⟩:∃g,f=g+1:=⟨f-1,by omega⟩;obtain⟨m,hm⟩:∃g,sz+1-p=g+1:=⟨sz-p,by omega⟩;rw[hm];simp only[mD,hd,Option.bind_some]
   split
   · rfl
   ·
    rcases ho:oneG V sz D i q with _|⟨t,r⟩
    · rfl
    ·
     simp only[Option.bind_some];have hr:=pZ ho hb.1;rcases dE T t with _|T'
     · rfl
     · simp only[Option.bind_some];rw[ih f' r T' (by omega) (by omega),ih m r T' (by omega) (by omega)]
theorem EI{V sz:Nat}{L D:List Int}{p:Nat}{T:List UInt8}(h:dec L V sz p=none):jA V sz L D p T=none:=by
 unfold jA;rcases hm:sz+1-p with _|m
 · rfl
 · simp only[mD,h,Option.bind_none]
theorem yB{V sz:Nat}{L D:List Int}{p q:Nat}{T:List UInt8}(h:dec L V sz p=some (256,q)):jA V sz L D p T=some (T,q):=by
 have hb:=fy h;unfold jA;obtain⟨m,hm⟩:∃g,sz+1-p=g+1:=⟨sz-p,by omega⟩;rw[hm];simp only[mD,h,Option.bind_some,if_true]
theorem ug{V sz:Nat}{L D:List Int}{p q:Nat}{i:Int}{T:List UInt8}(h:dec L V sz p=some (i,q))(hi:i≠256):jA V sz L D p T=(oneG V sz D i q).bind fun t=>(dE T t.1).bind fun T'=>jA V sz L D t.2 T':=by
 have hb:=fy h;unfold jA;obtain⟨m,hm⟩:∃g,sz+1-p=g+1:=⟨sz-p,by omega⟩;rw[hm];simp only[mD,h,Option.bind_some,if_neg hi];rcases ho:oneG V sz D i q with _|⟨t,r⟩
 · rfl
 ·
  simp only[Option.bind_some];have hr:=pZ ho hb.1;rcases dE T t with _|T'
  · rfl
  · simp only[Option.bind_some];exact EH m m r T' (by omega) (by omega)
theorem Lc{V sz:Nat}{L D:List Int} : ∀(f p:Nat) (T T':List UInt8) (q:Nat),mD V sz L D f p T=some (T',q)->q<=sz/\p<q/\(T.length<=300->T'.length<=300):=by
 intro f;induction f with
 | zero=>intro p T T' q h;simp[mD]at h
 | succ f ih=>
  intro p T T' q h;rcases hd:dec L V sz p with _|⟨i,r⟩
  · simp[mD,hd]at h
  ·
   have hb:=fy hd;simp only[mD,hd,Option.bind_some]at h
   split at h
   · simp only[Option.some.injEq,Prod.mk.injEq]at h;obtain⟨rfl,rfl⟩:=h;exact⟨hb.1,hb.2.1,id⟩
   ·
    rcases ho:oneG V sz D i r with _|⟨t,u⟩
    · rw[ho]at h;simp at h
    ·
     rw[ho]at h;simp only[Option.bind_some]at h;have hr:=pZ ho hb.1;rcases ha:dE T t with _|T2
     · rw[ha]at h;simp at h
     · rw[ha]at h;simp only[Option.bind_some]at h;obtain⟨h1,h2,h3⟩:=ih u T2 T' q h;exact⟨h1,by omega,fun _=>h3 (mO ha)⟩
theorem vv{V sz:Nat}{L D:List Int}{p q:Nat}{T T':List UInt8}(h:jA V sz L D p T=some (T',q)):q<=sz/\p<q/\(T.length<=300->T'.length<=300):=Lc _ _ _ _ _ h
theorem um(w:World)(x y:Value)(t:TypeId)(g:Nat)(hg:w.heap.size=g):(w.alloc (.cells #[x,y] t)).cell? ⟨g,0,none⟩=some x/\(w.alloc (.cells #[x,y] t)).cell? ⟨g,1,none⟩=some y:=by
 subst hg;simp
def kY(w:World)(b:Nat):Nat:=match w.cell? ⟨b,0,none⟩with|some v=>sliceLen v|none=>0
set_option maxRecDepth 100000 in
theorem kB(a:Option Addr)(cap n:Nat)(l:List Int)(w:World)(hn:l.length=n)(h:bC w a l)(hm:n<=300)(hc:∀i,i<l.length->0<=l.getD i 0/\l.getD i 0<=100000)(h2:1<(av l l.length).length) :
  Calls Tryz.prog 167 #[.slice a n cap] w fun e w'=>e = .returned (.slice (some ⟨w.heap.size,0,none⟩) n n)/\ar w' w.heap.size (.slice (some ⟨w.heap.size,0,none⟩) n n) (bW l)/\Below w.heap.size w w':=by
 have hmI:(n:Int)<=300:=by omega
 obtain⟨i0,hi,hz0,hz1,hz2⟩:=info_parts Tryz.infoInt;have HN:=af (And.intro hn (And.intro hm (And.intro hc h2)));have HR:=af h;have hfin:Hid (∀k,(av l l.length).length-k<=1->(k<(av l l.length).length∨k=0)->bW l=(ay l k).2):=by
  intro k h3 h4;unfold bW;rw[if_neg (by omega)]
  congr 2;omega
 clear hc h2 h;go_enter Tryz.func167,Tryz.ntmps167;go_wp2_with (at_make;refine wpList_make_full _ rfl _ _ 154 rfl w.heap.size 3 i0 (.int .i64 0) 1 Tryz.underlying154 hi hz0 hz1 .i64 .i64 _ _ n rfl rfl rfl rfl (by rw[hz2];omega) (by unfold maxLen;omega) (Nat.le_refl _) ?_;intro w1 hown hgrow);have hp0:ar w1 w.heap.size (.slice (some ⟨w.heap.size,0,none⟩) n n) (List.replicate l.length 0):=by
  rw[hn];exact gE hown
 have hb0:Below w.heap.size w w1:=(Below.refl _ _).grown hgrow (Nat.le_refl _) (fun k h=>by cases h);have hw1:w.heap.size+1<=w1.heap.size:=hp0.below.2;have HSy:=af (sT a cap n l w1 hn ((ae HR).later hb0) hm);have HP0:=af (And.intro hp0 hb0);clear hown hgrow hn hm hp0 hb0 hi hz0 hz1 hz2;refine(ae HSy).mono ?_;rintro e w2 ⟨rfl,L0,va0,vc0,hh0,hP0,hL0,hs0,hb2⟩;have hp2:=(ae HP0).1.later hb2 (Nat.le_refl _);have hbb:=aj (ae HP0).2 hb2;rw[←(ae HN).1]at hL0;clear HSy HP0;generalize hB:w1.heap.size=B at *
 clear hB;go_wp2_with fail
 go_loopw [5,6,7,9] (fun _ _ _ _ wq=>∃(j:Nat) (L:List Grp) (va:Option Addr) (vc:Nat),(j<(av l l.length).length∨j=0)/\(L.map bare).Perm (ay l j).1/\bL wq B (B+1) (.slice va L.length vc) L/\HP L/\dD wq (B+1) L/\ar wq w.heap.size (.slice (some ⟨w.heap.size,0,none⟩) n n) (ay l j).2/\Below w.heap.size w wq) (fun _ _ _ _ wq=>kY wq B)
 case atStart=>exact⟨0,L0,va0,vc0,.inr rfl,hL0,hh0,hP0,hs0,hp2,hbb⟩
 case round=>
  obtain⟨j,L,va,vc,hj,hL,hh,hP,hs,hp,hbel⟩:=hrel;clear hL0 hh0 hP0 hs0 hp2 hbb hb2;have HZ:=af (gB B (B+1) L.length vc va L wr hh);have hlenL:L.length=(av l l.length).length-j:=by
   have h1:=hL.length_eq;rw[List.length_map,(bG l j hj).2.2.2]at h1;exact h1
  by_cases hgo:1<L.length
  ·
   obtain⟨q,hq⟩:∃q,L.length=q+2:=⟨L.length-2,by omega⟩;obtain⟨g,rfl⟩:=hh.2.somes (by omega);rw[hq]at HZ;have hq300:q+2<=300:=by
    have h2:=mz l l.length;have:=(ae HN).1;have:=(ae HN).2.1;omega
   have hqI:(q:Int)+2<=300:=by omega
   have hhq:bL wr B (B+1) (.slice (some ⟨g,0,none⟩) (q+1+1) vc) L:=by rw[hq]at hh;exact hh
   have HT1:=af (yu B g (q+1) vc L wr hs hq (by omega) hhq hP);have HQ:=af (And.intro hj (And.intro hL (And.intro hhq (And.intro hP (And.intro hs (And.intro hp (And.intro hbel hgo)))))));clear hj hL hhq hP hs hp hbel hgo hlenL hh hq300;go_wp2_with fail;refine(ae HZ).mono ?_;rintro e y1 ⟨rfl,hy1⟩;rw[hy1];clear hy1 y1;go_wp2_with fail;refine(ae HT1).mono ?_;rintro e x1 ⟨rfl,M1,hM1,hP1,hh1,hb1,hk1⟩;have HT2:Hid (Calls Tryz.prog 195 #[.pointer (some ⟨B,0,none⟩)] x1 fun e w'=>e = .returned (.agg #[.int .i64 (M1.getD 0 g0).cnt,.int .i64 (M1.getD 0 g0).fst,(M1.getD 0 g0).val])/\∃M:List Grp,(M1.getD 0 g0 :: M).Perm M1/\HP M/\bL w' B (B+1) (.slice (some ⟨g,0,none⟩) q vc) M/\Below B x1 w'/\aV 3 x1 w'):=by
    obtain⟨hj,hL,hh,hP,hs,hp,hbel,hgo⟩:=ae HQ;have hl1:M1.length=q+1:=by have:=hM1.length_eq;simp at this;omega
    exact yu B g q vc M1 x1 ((hk1.syms hs).sub (fun y hy=>hM1.mem_iff.1 (by simp[hy]))) hl1 (by omega) hh1 hP1
   have HX1:=af (And.intro hM1 (And.intro hP1 (And.intro hb1 hk1)));obtain⟨aa,ac,hav⟩:=((ae HQ).2.2.2.2.1 (L.getD 0 g0) (eV L 0 (by omega))).form;rw[hav];have hLm:=eV L 0 (by omega);have HAV:=af (And.intro hav hLm);clear hM1 hP1 hh1 hb1 hk1 hav hLm;generalize hAe:L.getD 0 g0=A at *
   have HAe:=af hAe;clear hAe;go_wp2_with fail;refine(ae HT2).mono ?_;rintro e x2 ⟨rfl,M2,hM2,hP2,hh2,hb2,hk2⟩;have HF:Hid (M1.length=q+1/\M2.length=q/\ar x2 (B+1) A.val A.syms/\ar x2 (B+1) (M1.getD 0 g0).val (M1.getD 0 g0).syms/\dD x2 (B+1) M2/\ar x2 w.heap.size (.slice (some ⟨w.heap.size,0,none⟩) n n) (ay l j).2/\Below w.heap.size w x2/\M2.Perm M2):=by
    obtain⟨hj,hL,hh,hP,hs,hp,hbel,hgo⟩:=ae HQ;obtain⟨hM1,hP1,hb1,hk1⟩:=ae HX1;have hl1:M1.length=q+1:=by have:=hM1.length_eq;simp at this;omega
    have hl2:M2.length=q:=by have:=hM2.length_eq;simp at this;omega
    have hk:=hk1.trans hk2;have hs1:dD x2 (B+1) M1:=(hk.syms hs).sub (fun y hy=>hM1.mem_iff.1 (by simp[hy]));exact⟨hl1,hl2,hk.ints (hs _ (ae HAV).2),hs1 _ (eV M1 0 (by omega)),hs1.sub (fun y hy=>hM2.mem_iff.1 (by simp[hy])),hk.ints hp,(hbel.trans (hb1.mono (by omega))).trans (hb2.mono (by omega)),List.Perm.refl _⟩
   have HX2:=af (And.intro hM2 (And.intro hP2 hh2));obtain⟨ga,gc,hgv⟩:=(ae HF).2.2.2.1.form;have hTwo:=af (Gq (ae HN).2.2.1 (by rw[(ae HN).1];exact(ae HN).2.1) (ae HQ).1 (ae HQ).2.1 (ae HQ).2.2.2.1 (by omega) (by rw[ae HAe];exact(ae HX1).1) (ae HX1).2.1 hM2);rw[ae HAe]at hTwo;rw[hgv];have HGV:=af hgv;have hx2s:=hh2.lt;clear hM2 hP2 hh2 hb2 hk2 hgv;generalize M1.getD 0 g0=G at *
   clear HT1 HT2 HZ;go_wp2_with fail;have hW3:Below x2.heap.size x2 (((x2.alloc (.cells #[.int .i64 A.cnt,.int .i64 A.fst,.slice aa A.syms.length ac] 300)).alloc (.cells #[.int .i64 G.cnt,.int .i64 G.fst,.slice ga G.syms.length gc] 300)).alloc (.cells #[.slice aa A.syms.length ac,.slice ga G.syms.length gc] 154)):=
    (((Below.refl _ _).alloc (Nat.le_refl _) _).alloc (by simp) _).alloc (by simp;omega) _
   have hTA:Three (((x2.alloc (.cells #[.int .i64 A.cnt,.int .i64 A.fst,.slice aa A.syms.length ac] 300)).alloc (.cells #[.int .i64 G.cnt,.int .i64 G.fst,.slice ga G.syms.length gc] 300)).alloc (.cells #[.slice aa A.syms.length ac,.slice ga G.syms.length gc] 154)) x2.heap.size (.int .i64 A.cnt) (.int .i64 A.fst) (.slice aa A.syms.length ac):=
    ((yA x2 _ _ _ _).later ((Below.refl _ _).alloc (Nat.le_refl _) _)).later ((Below.refl _ _).alloc (Nat.le_refl _) _)
   have hTG:Three (((x2.alloc (.cells #[.int .i64 A.cnt,.int .i64 A.fst,.slice aa A.syms.length ac] 300)).alloc (.cells #[.int .i64 G.cnt,.int .i64 G.fst,.slice ga G.syms.length gc] 300)).alloc (.cells #[.slice aa A.syms.length ac,.slice ga G.syms.length gc] 154)) (x2.heap.size+1) (.int .i64 G.cnt) (.int .i64 G.fst) (.slice ga G.syms.length gc):=by
    have h1:=yA (x2.alloc (.cells #[.int .i64 A.cnt,.int .i64 A.fst,.slice aa A.syms.length ac] 300)) (.int .i64 G.cnt) (.int .i64 G.fst) (.slice ga G.syms.length gc) 300;have e:(x2.alloc (.cells #[.int .i64 A.cnt,.int .i64 A.fst,.slice aa A.syms.length ac] 300)).heap.size=x2.heap.size+1:=by simp
    rw[e]at h1;exact h1.later ((Below.refl _ _).alloc (Nat.le_refl _) _)
   have hRw:gx (((x2.alloc (.cells #[.int .i64 A.cnt,.int .i64 A.fst,.slice aa A.syms.length ac] 300)).alloc (.cells #[.int .i64 G.cnt,.int .i64 G.fst,.slice ga G.syms.length gc] 300)).alloc (.cells #[.slice aa A.syms.length ac,.slice ga G.syms.length gc] 154)) (x2.heap.size+1+1) (B+1) [(.slice aa A.syms.length ac,A.syms.map (Value.int .i64)),(.slice ga G.syms.length gc,G.syms.map (Value.int .i64))]:=by
    have hoA:=(ae HF).2.2.1.later hW3 (Nat.le_refl _);have hoG:=(ae HF).2.2.2.1.later hW3 (Nat.le_refl _);rw[(ae HAV).1]at hoA;rw[ae HGV]at hoG;intro i hi
    match i,hi with
    | 0,_=>exact⟨(um _ _ _ _ _ (by simp)).1,_,hoA,ints_oneCell .i64 _⟩
    | 1,_=>exact⟨(um _ _ _ _ _ (by simp)).2,_,hoG,ints_oneCell .i64 _⟩
   have hSz:(((x2.alloc (.cells #[.int .i64 A.cnt,.int .i64 A.fst,.slice aa A.syms.length ac] 300)).alloc (.cells #[.int .i64 G.cnt,.int .i64 G.fst,.slice ga G.syms.length gc] 300)).alloc (.cells #[.slice aa A.syms.length ac,.slice ga G.syms.length gc] 154)).heap.size=x2.heap.size+3:=by simp
   generalize ((x2.alloc (.cells #[.int .i64 A.cnt,.int .i64 A.fst,.slice aa A.syms.length ac] 300)).alloc (.cells #[.int .i64 G.cnt,.int .i64 G.fst,.slice ga G.syms.length gc] 300)).alloc (.cells #[.slice aa A.syms.length ac,.slice ga G.syms.length gc] 154)=W3 at *
   have hlen2:aG [(Value.slice aa A.syms.length ac,A.syms.map (Value.int .i64)),(Value.slice ga G.syms.length gc,G.syms.map (Value.int .i64))]=(A.syms++G.syms).length:=by simp[aG,bF]
   have hall2:cx [(Value.slice aa A.syms.length ac,A.syms.map (Value.int .i64)),(Value.slice ga G.syms.length gc,G.syms.map (Value.int .i64))]=(A.syms++G.syms).map (Value.int .i64):=by simp[cx]
   refine(nZ (x2.heap.size+1+1) (B+1) 2 2 _ W3 rfl (by omega) (by omega) hRw (by rw[hlen2];have:=(ae hTwo).2.2.2.2.2.1;omega)).mono ?_;rintro e x3 ⟨v,rfl,ho3,hb3⟩;rw[hlen2,hall2]at ho3;have hS3:ar x3 W3.heap.size v (A.syms++G.syms):=ho3;have hTA3:=hTA.later hb3;have hTG3:=hTG.later hb3;have hW3':=aj hW3 hb3;have HX3:Hid (bL x3 B (B+1) (.slice (some ⟨g,0,none⟩) q vc) M2/\dD x3 (B+1) M2/\ar x3 w.heap.size (.slice (some ⟨w.heap.size,0,none⟩) n n) (ay l j).2/\Below w.heap.size w x3/\ar x3 W3.heap.size v (A.syms++G.syms)/\Three x3 x2.heap.size (.int .i64 A.cnt) (.int .i64 A.fst) (.slice aa A.syms.length ac)/\Three x3 (x2.heap.size+1) (.int .i64 G.cnt) (.int .i64 G.fst) (.slice ga G.syms.length gc)/\x2.heap.size+3<=x3.heap.size):=by
    obtain⟨hl1,hl2,hoA,hoG,hsm,hpl,hbw,_⟩:=ae HF;refine⟨(ae HX2).2.2.later hW3',hsm.later hW3' (Nat.le_refl _),hpl.later hW3' (Nat.le_refl _),hbw.trans (hW3'.mono (by omega)),hS3,hTA3,hTG3,?_⟩;have:=hb3.size;omega
   obtain⟨sa,sc,hsv⟩:=hS3.form;have hSl:Hid ((A.syms++G.syms).length<=300/\0<(A.syms++G.syms).length/\(∀x∈A.syms++G.syms,0<=x/\x<(l.length:Int))):=by
    obtain⟨t1,t2,t3,t4,t5,t6,t7,t8,t9⟩:=ae hTwo;refine⟨t6,?_,t9⟩;rw[List.length_append];omega
   clear hW3 hTA hTG hRw ho3 hb3 hS3 hTA3 hTG3 hW3' hall2 hlen2;generalize hS:A.syms++G.syms=S at *
   clear hS;obtain⟨gs,hgs⟩:=(show ar x3 W3.heap.size (.slice sa S.length sc) S by rw[←hsv];exact(ae HX3).2.2.2.2.1).somes (ae hSl).2.1;subst hgs;subst hsv;have sI:(S.length:Int)<=300:=by have:=(ae hSl).1;omega
   go_wp2_with fail;have hmx:=af (wL l (fun i hi=>((ae HN).2.2.1 i hi).2) (by rw[(ae HN).1];exact(ae HN).2.1) j (ae HQ).1);have hjb:Hid ((j:Int)<=300):=by
    show(j:Int)<=300;have h1:=(ae HQ).1;have h2:=mz l l.length;have:=(ae HN).1;have:=(ae HN).2.1;omega
   have HCL:Hid (kY wr B=q+2):=by
    show kY wr B=q+2;unfold kY;rw[(ae HQ).2.2.1.cell];rfl
   go_loopw [9,30] (fun _ i wq=>∃t:Nat,t<=S.length/\i = .int .i64 t/\ar wq w.heap.size (.slice (some ⟨w.heap.size,0,none⟩) n n) (bump (ay l j).2 (S.take t))/\Touch (some ⟨w.heap.size,0,none⟩) x3 wq/\Below w.heap.size w wq) (fun _ i _=>S.length-(intOf i).toNat)
   case atStart=>exact⟨0,Nat.zero_le _,rfl,(ae HX3).2.2.1,Touch.refl _ _,(ae HX3).2.2.2.1⟩
   case round=>
    obtain⟨t,ht,rfl,hpt,htch,hbt⟩:=hrel;have hln:Hid ((bump (ay l j).2 (S.take t)).length=n):=by show(bump (ay l j).2 (S.take t)).length=n;rw[qu,dJ,(ae HN).1]
    have htk:Hid (t<=S.length):=ht;clear ht;by_cases hlt3:t<S.length
    ·
     have hsyt:=(ae HX3).2.2.2.2.1.touch htch (nR _ _ (by omega));obtain⟨c0,_,_,_⟩:=hsyt.at rfl hlt3;have hx:=(ae hSl).2.2 (S.getD t 0) (by simp[List.getD,hlt3]);rw[(ae HN).1]at hx;have hbt1:=af (Cs (ay l j).2 S t hlt3);have hmx2:=af (vL (ae hmx) (S.take t));obtain⟨p,hpp⟩:=Int.eq_ofNat_of_zero_le hx.1;rw[hpp]at c0 hbt1;have hpn:p<n:=by omega
     obtain⟨d0,f0,_,_⟩:=hpt.at (ae hln) hpn;have hyb:=ae hmx2 p (by rw[ae hln];exact hpn);have hput:=hpt.put (j:=p) (ae hln) ((bump (ay l j).2 (S.take t)).getD p 0+1);have hst:Hid (bump (ay l j).2 (S.take (t+1))=(bump (ay l j).2 (S.take t)).set p ((bump (ay l j).2 (S.take t)).getD p 0+1)):=by
      show bump (ay l j).2 (S.take (t+1))=_;rw[ae hbt1];unfold eB;rw[Int.toNat_natCast]
     have hyI:(bump (ay l j).2 (S.take t)).getD p 0<=100000:=by
      have h1:=hyb.2;have h2:(S.take t).length<=300:=by rw[List.length_take];have:=(ae hSl).1;omega
      have:=ae hjb;omega
     have hy0:=hyb.1;have hbt2:=ai hbt (b:=w.heap.size) (o:=p) (Nat.le_refl _) (.int .i64 ((bump (ay l j).2 (S.take t)).getD p 0+1));have htch2:=htch.set (o:=p) rfl (.int .i64 ((bump (ay l j).2 (S.take t)).getD p 0+1));have hpnI:(p:Int)<(n:Int):=by omega
     rw[←ae hst]at hput;generalize (bump (ay l j).2 (S.take t)).getD p 0=y at *
     have HPUT:=af (And.intro hput (And.intro hbt2 htch2));have hltI:(t:Int)<(S.length:Int):=by omega
     clear hput hbt2 htch2 hst hyb hmx2 hbt1 hpp hx hsyt htch hbt hpt;go_wp2;go_roundw
     case rel=>exact⟨t+1,by have:=ae htk;omega,by go_num,(ae HPUT).1,(ae HPUT).2.2,(ae HPUT).2.1⟩
     case measure=>simp[intOf];omega
    ·
     obtain rfl:t=S.length:=by have:=ae htk;omega
     rw[List.take_of_length_le (Nat.le_refl _)]at hpt;obtain⟨h3,s3,_,_,o3,tA,tG,z3⟩:=ae HX3;have HY:Hid (bL wr B (B+1) (.slice (some ⟨g,0,none⟩) q vc) M2/\dD wr (B+1) M2/\ar wr (B+1) (.slice (some ⟨gs,0,none⟩) S.length sc) S):=by
      refine⟨⟨(htch.2 B (fun g' e=>by simp only[Option.some.injEq,Addr.mk.injEq,and_true]at e;omega)).trans h3.1,sQ h3.2 htch (nR _ _ (by omega))⟩,fun y hy=>(s3 y hy).touch htch (nR _ _ (by omega)),?_⟩;have h4:=o3.touch htch (nR _ _ (by omega));exact ar.mono h4 (by omega)
     obtain⟨a0,a1,_,_,_,_,abl⟩:=tA;obtain⟨b0,b1,_,_,_,_,bbl⟩:=tG;have a0':=(jD htch (p:=⟨x2.heap.size,0,none⟩) (by show x2.heap.size≠w.heap.size;omega)).trans a0;have a1':=(jD htch (p:=⟨x2.heap.size,1,none⟩) (by show x2.heap.size≠w.heap.size;omega)).trans a1;have b0':=(jD htch (p:=⟨x2.heap.size+1,0,none⟩) (by show x2.heap.size+1≠w.heap.size;omega)).trans b0;have b1':=(jD htch (p:=⟨x2.heap.size+1,1,none⟩) (by show x2.heap.size+1≠w.heap.size;omega)).trans b1;obtain⟨t1,t2,t3,t4,t5,t6,t7,t8,t9⟩:=ae hTwo;obtain⟨F,hF⟩:∃F:Int,F=if G.fst<A.fst then G.fst else A.fst:=⟨_,rfl⟩
     rw[←hF]at t2;have HT2:=af (And.intro t1 t2);have HLy:=af (wW B q vc (some ⟨g,0,none⟩) M2 ⟨A.cnt+G.cnt,F,S,.slice (some ⟨gs,0,none⟩) S.length sc⟩ wr (ae HY).2.1 (ae HY).2.2 (ae HF).2.1 (by omega) (ae HY).1 (ae HX2).2.1);have HPT:=af (And.intro hpt hbt);clear h3 s3 o3 z3 a0 a1 b0 b1 htch hpt hbt hSz t1 t2 t6 t7 t8 t9;by_cases hlt2:A.fst<=G.fst
     ·
      have hFe:F=A.fst:=by rw[hF,if_neg (by omega)]
      rw[hFe]at HLy HT2;clear hF hFe;go_wp2_with fail;refine(ae HLy).mono ?_;rintro e x5 ⟨rfl,M3,g',c',hM3,hP3,hh5,hb5,hk5⟩;go_wp2;go_roundw
      case rel=>
       have hl3:M3.length=q+1:=by rw[hM3.length_eq,List.length_append,(ae HF).2.1];rfl
       have hcell:=(ae HPT).1;refine⟨j+1,M3,some ⟨g',0,none⟩,c',.inl ?_,(ae HT2).2 M3 _ hM3,by rw[hl3];exact hh5,hP3,?_,?_,(ae HPT).2.trans (hb5.mono (by omega))⟩
       · have h1:=(ae HQ).2.1.length_eq;rw[List.length_map,(bG l j (ae HQ).1).2.2.2]at h1;omega
       · exact(((hk5.syms (ae HY).2.1)).snoc (hk5.ints (ae HY).2.2)).perm hM3
       · show ar x5 w.heap.size _ (bump (ay l j).2 (aX (ay l j).1));rw[(ae HT2).1];exact hk5.ints hcell
      case measure=>
       rw[ae HCL];unfold kY;rw[hh5.cell];simp[sliceLen]
     ·
      have hFe:F=G.fst:=by rw[hF,if_pos (by omega)]
      rw[hFe]at HLy HT2;clear hF hFe;go_wp2_with fail;refine(ae HLy).mono ?_;rintro e x5 ⟨rfl,M3,g',c',hM3,hP3,hh5,hb5,hk5⟩;go_wp2;go_roundw
      case rel=>
       have hl3:M3.length=q+1:=by rw[hM3.length_eq,List.length_append,(ae HF).2.1];rfl
       have hcell:=(ae HPT).1;refine⟨j+1,M3,some ⟨g',0,none⟩,c',.inl ?_,(ae HT2).2 M3 _ hM3,by rw[hl3];exact hh5,hP3,?_,?_,(ae HPT).2.trans (hb5.mono (by omega))⟩
       · have h1:=(ae HQ).2.1.length_eq;rw[List.length_map,(bG l j (ae HQ).1).2.2.2]at h1;omega
       · exact(((hk5.syms (ae HY).2.1)).snoc (hk5.ints (ae HY).2.2)).perm hM3
       · show ar x5 w.heap.size _ (bump (ay l j).2 (aX (ay l j).1));rw[(ae HT2).1];exact hk5.ints hcell
      case measure=>
       rw[ae HCL];unfold kY;rw[hh5.cell];simp[sliceLen]
  · obtain⟨va',vc',hform⟩:∃x y,Value.slice va L.length vc = .slice x L.length y:=⟨_,_,rfl⟩;have hres:=ae hfin j (by omega) hj;rw[←hres]at hp;clear hform;go_wp2_with fail;refine(ae HZ).mono ?_;rintro e y1 ⟨rfl,hy1⟩;rw[hy1];clear hy1 y1;go_wp2;go_ret;exact⟨rfl,hp,hbel⟩
theorem rD{o:List Int}{k:Nat}(h:bQ o k<o.getD k 0):bQ o (k+1)=o.getD k 0:=by simp only[bQ];rw[if_pos h]
theorem vi{o:List Int}{k:Nat}(h:¬ bQ o k<o.getD k 0):bQ o (k+1)=bQ o k:=by simp only[bQ];rw[if_neg h]
theorem He{o:List Int}(h0:0<=o.getD 0 0):bQ o 1=o.getD 0 0:=by
 by_cases h:bQ o 0<o.getD 0 0
 · exact rD h
 · have h1:bQ o 1=bQ o 0:=vi h;have e:bQ o 0=0:=rfl;rw[e]at h h1;rw[h1];exact(Int.le_antisymm (Int.not_lt.1 h) h0).symm
def Ax(v:Value)(w:World)(n:Nat):Nat:=match v with
 | .slice (some a) _ _=>((List.range n).map (fun i=>(intOf ((w.cell? ⟨a.block,a.off+i,none⟩).getD (.int .i64 0))).toNat)).sum
 | _=>0
theorem Ca{w:World}{a:Option Addr}{n c:Nat}{l:List Int}(hn:l.length=n)(h1:1<=n)(h:bC w a l):Ax (.slice a n c) w n=kK l:=by
 obtain⟨g,o,rfl,hg,hc⟩:=h (by omega);unfold Ax kK;simp only
 congr 1
 apply List.ext_getElem
 · simp[hn]
 · intro i h1 h2;simp only[List.length_map,List.length_range]at h1;simp only[List.getElem_map,List.getElem_range];rw[hc i (by omega)];simp[intOf,List.getD,show i<l.length by omega]
set_option maxRecDepth 100000 in
theorem ry(a:Option Addr)(cap n:Nat)(o:List Int)(w:World)(hn:o.length=n)(h:bC w a o)(h1:1<=n)(hm:n<=300)(h0:∀i,i<o.length->0<=o.getD i 0) :
  Calls Tryz.prog 163 #[.slice a n cap] w fun e w'=>e = .returned (.int .i64 (bQ o n))/\w'=w:=by
 have hmI:(n:Int)<=300:=by omega
 have h1I:(1:Int)<=(n:Int):=by omega
 have HN:=af (And.intro hn (And.intro h1 h0));obtain⟨g,off,rfl,hg,hc⟩:=h (by omega);have c0:=hc 0 (by omega);have e0:=af (He (h0 0 (by omega)));rw[Nat.add_zero]at c0;have HC:=af hc;clear hn h hm h0 hc h1;generalize hy:o.getD 0 0=y0 at *
 clear hy;go_enter Tryz.func163,Tryz.ntmps163;go_wp2_with fail
 go_loop [3,4] (fun m i=>∃k:Nat,1<=k/\k<=n/\i = .int .i64 k/\m = .int .i64 (bQ o k)) (fun _ i=>n-(intOf i).toNat)
 case atStart=>exact⟨1,Nat.le_refl _,(ae HN).2.1,rfl,by rw[ae e0]⟩
 case round=>
  obtain⟨k,k1,hk,rfl,rfl⟩:=hrel;have HK:=af (And.intro k1 hk);by_cases hlt:k<n
  ·
   have d0:=ae HC k (by rw[(ae HN).1];exact hlt);have hyes:=af (fun h=>rD (o:=o) (k:=k) h);have hno:=af (fun h=>vi (o:=o) (k:=k) h);clear hk k1 c0;generalize o.getD k 0=y at *
   generalize bQ o k=q at *
   by_cases hqy:q<y
   ·
    have e1:=af (ae hyes hqy);go_wp2
    go_round
    case rel=>exact⟨k+1,by omega,by omega,by go_num,by rw[ae e1]⟩
    case measure=>simp[intOf];omega
   ·
    have e1:=af (ae hno hqy);go_wp2
    go_round
    case rel=>exact⟨k+1,by omega,by omega,by go_num,by rw[ae e1]⟩
    case measure=>simp[intOf];omega
  ·
   obtain rfl:k=n:=by omega
   go_wp2;go_ret;exact⟨rfl,rfl⟩
theorem zI(x:Int)(w:World)(h0:0<=x)(h1:x<=1000000) :
  Calls Tryz.prog 168 #[.int .i64 x] w fun e w'=>e = .returned (.int .i64 (iX x))/\w'=w:=by
 go_enter Tryz.func168,Tryz.ntmps168;go_wp2;go_ret;exact⟨rfl,rfl⟩
set_option maxRecDepth 100000 in
theorem uH(a:Option Addr)(cap n:Nat)(l:List Int)(w:World)(hn:l.length=n)(h:bC w a l)(hm:n<=1048576)(hc:okC l) :
  Calls Tryz.prog 165 #[.slice a n cap,.func (.func 168) #[] #[]] w fun e w'=>∃v,e = .returned v/\ar w' w.heap.size v (cS l)/\Below w.heap.size w w':=by
 have hmI:(n:Int)<=1048576:=by omega
 have Hn:=af hn;have Hm:=af hm;have HC:=af hc;clear hn hm hc;obtain⟨i0,hi,hz0,hz1,hz2⟩:=info_parts Tryz.infoInt;go_enter Tryz.func165,Tryz.ntmps165;go_wp2_with fail
 go_loopw [5,7,10] (fun o _ i wr=>∃k:Nat,k<=n/\i = .int .i64 k/\ar wr w.heap.size o (cS (l.take k))/\Below w.heap.size w wr) (fun _ _ i _=>n-(intOf i).toNat)
 case atStart=>exact⟨0,Nat.zero_le _,rfl,World.ownsRow_nil _ _ _ _,Below.refl _ _⟩
 case round=>
  obtain⟨k,hk,rfl,hq,hbel⟩:=hrel;have hbs:=hbel.size;by_cases hlt:k<n
  ·
   obtain⟨g,o,rfl,hg,hcc⟩:=(h.later hbel) (by rw[ae Hn];omega);have c0:=hcc k (by rw[ae Hn];exact hlt);obtain⟨y0,y1⟩:=ae HC k (by rw[ae Hn];exact hlt);have hst:Hid (cS (l.take (k+1))=cS (l.take k)++[iX (l.getD k 0)]):=by
    show _=_;unfold cS;rw[cz l k (by rw[ae Hn];exact hlt),List.map_append];rfl
   have hlk:Hid ((cS (l.take k)).length=k):=by show _=k;have:=ae Hn;rw[fD];simp;omega
   have Hk:=af hk;clear hcc hk h;generalize l.getD k 0=y at *
   have HP:=af (zI y wr (by omega) (by omega));generalize iX y=R at *
   go_wp2_with fail;refine(ae HP).mono ?_;rintro e x1 ⟨rfl,hx1⟩;rw[hx1];clear hx1 x1;have hlen1:Hid ((cS (l.take k)).length+1<=maxLen/\((cS (l.take k)).length+1)*8<=140737488355328):=by
    show _/\_;rw[ae hlk];have:=ae Hm;unfold maxLen;omega
   clear HP;go_wp2_with (at_builtin;refine wpList_append_own _ rfl _ _ 154 rfl w.heap.size 3 i0 (.int .i64 0) 1 8 Tryz.underlying154 hi hz0 hz1 hz2 rfl (by decide) _ _ _ rfl (World.ownsRow.alloc hq _) ⟨wr.heap.size,0,none⟩ 1 1 [.int .i64 R] rfl rfl (fQ _ _ rfl _ _) (p6 _) (ae hlen1).1 (ae hlen1).2 (aB hbs _) ?_;intro v' x2 hown hgrow hnil;clear hnil);have hb2:=aK (v:=u5) hgrow hq (Nat.le_refl _) hbs hbel;have hq2:=ll hown;rw[←ae hst]at hq2;clear hown hgrow hq;go_wp2;go_roundw
   case rel=>exact⟨k+1,by have:=ae Hk;omega,by go_num,hq2,hb2⟩
   case measure=>simp[intOf];omega
  · have hlk2:l.take k=l:=List.take_of_length_le (by rw[ae Hn];omega);rw[hlk2]at hq;obtain⟨va,vc,rfl⟩:=hq.form;clear hlk2 h;go_wp2;go_ret;exact⟨_,rfl,hq,hbel⟩
theorem IF(l:List Int)(k i:Nat)(hi:i<k)(hp:0<l.getD i 0):∃g∈av l k,g.fst=(i:Int):=by
 induction k with
 | zero=>omega
 | succ k ih=>
  by_cases e:i=k
  · subst e;refine⟨⟨l.getD i 0,(i:Int),[(i:Int)],.slice none 0 0⟩,?_,rfl⟩;rw[yd hp];simp
  ·
   obtain⟨g,hg,hf⟩:=ih (by omega);refine⟨g,?_,hf⟩;simp only[av]
   split
   · simp[hg]
   · exact hg
theorem IG(l:List Int)(k:Nat):∀g∈av l k,∃i:Nat,g.fst=(i:Int)/\i<k/\0<l.getD i 0:=by
 induction k with
 | zero=>intro g hg;simp[av]at hg
 | succ k ih=>
  intro g hg;simp only[av]at hg
  split at hg
  ·
   rename_i hp;simp only[List.mem_append,List.mem_singleton]at hg;rcases hg with hg|rfl
   · obtain⟨i,h1,h2,h3⟩:=ih g hg;exact⟨i,h1,by omega,h3⟩
   · exact⟨k,rfl,by omega,hp⟩
  · obtain⟨i,h1,h2,h3⟩:=ih g hg;exact⟨i,h1,by omega,h3⟩
theorem uU{l:List Int}(hc:okC l)(h1:(av l l.length).length=1):bW l=l.map fF:=by
 unfold bW;rw[if_pos h1];obtain⟨x,hx⟩:∃x,av l l.length=[x]:=by
  cases hs:av l l.length with
  | nil=>rw[hs]at h1;simp at h1
  | cons x t=>rw[hs]at h1;simp at h1;exact⟨x,by rw[h1]⟩
 obtain⟨q,hq,hql,hqp⟩:=IG l l.length x (by rw[hx];simp);rw[hx];simp only[List.getD_cons_zero];rw[hq,Int.toNat_natCast];apply List.ext_getElem
 · simp
 ·
  intro i h2 h3;have hi:i<l.length:=by simpa using h3
  have e:l.getD i 0=l[i]:=by simp[List.getD,hi]
  have hci:=hc i hi;rw[List.getElem_set,List.getElem_map,List.getElem_replicate];by_cases hqi:q=i
  ·
   subst hqi;rw[if_pos rfl];rw[e]at hqp hci;unfold fF
   split<;>omega
  ·
   rw[if_neg hqi];have hz:¬ 0<l.getD i 0:=by
    intro hp;obtain⟨g,hg,hf⟩:=IF l l.length i hi hp;rw[hx]at hg;simp only[List.mem_singleton]at hg;subst hg;rw[hq]at hf;omega
   rw[e]at hz hci;unfold fF
   split<;>omega
theorem JZ{l:List Int}{m:Int}(hm:1<=m)(hc:okC l)(h1:(av l l.length).length=1):dF m l=l.map fF:=by
 have hf:fits (bW l) m=true:=by
  refine Bj (by omega) ?_;rw[uU hc h1];intro i hi;have hi':i<l.length:=by simpa using hi
  have e:(l.map fF).getD i 0=fF l[i]:=by simp[List.getD,hi']
  have e2:l.getD i 0=l[i]:=by simp[List.getD,hi']
  have hci:=hc i hi';rw[e2]at hci;rw[e];unfold fF
  split<;>omega
 rw[←uU hc h1];unfold dF;cases kK l with
 | zero=>rfl
 | succ f=>simp only[sE];rw[hf];rfl
theorem Kf{l:List Int}(hc:okC l)(hn:l.length<=300)(h2:1<(av l l.length).length):∀i,i<(bW l).length->0<=(bW l).getD i 0:=by
 intro i hi;have e:bW l=(ay l ((av l l.length).length-1)).2:=by unfold bW;rw[if_neg (by omega)]
 rw[e]at hi ⊢;exact((wL l (fun i hi=>(hc i hi).2) hn _ (.inl (by omega))) i hi).1
set_option maxRecDepth 100000 in
theorem qM(a:Option Addr)(cap n:Nat)(l:List Int)(m:Int)(w:World)(hn:l.length=n)(h:bC w a l)(hm:n<=1048576)(hno:tI l m=false) :
  Calls Tryz.prog 129 #[.slice a n cap,.int .i64 m] w fun e w'=>e = .returned (.slice none 0 0)/\Below w.heap.size w w':=by
 have HU:=af (j6 a cap n l w hn h hm);by_cases h1:m<1
 ·
  clear hn h hm hno;generalize gu l=U at *
  go_enter Tryz.func129,Tryz.ntmps129;go_wp2_with fail;refine(ae HU).mono ?_;rintro e x1 ⟨rfl,hx1⟩;rw[hx1];go_wp2;go_ret;exact⟨rfl,Below.refl _ _⟩
 ·
  by_cases h15:15<m
  ·
   clear hn h hm hno;generalize gu l=U at *
   go_enter Tryz.func129,Tryz.ntmps129;go_wp2_with fail;refine(ae HU).mono ?_;rintro e x1 ⟨rfl,hx1⟩;rw[hx1];go_wp2;go_ret;exact⟨rfl,Below.refl _ _⟩
  ·
   by_cases hu1:gu l<1
   ·
    clear hn h hm hno;generalize gu l=U at *
    go_enter Tryz.func129,Tryz.ntmps129;go_wp2_with fail;refine(ae HU).mono ?_;rintro e x1 ⟨rfl,hx1⟩;rw[hx1];go_wp2;go_ret;exact⟨rfl,Below.refl _ _⟩
   ·
    obtain⟨mm,rfl⟩:∃mm:Nat,m=(mm:Int)+1:=⟨(m-1).toNat,by omega⟩;have hin:(decide (l.length<=300)&&inC l)=true:=by
     cases hx:decide (l.length<=300)&&inC l
     · exfalso;apply hu1;unfold gu;rw[hx];simp
     · rfl
    have hbig:(p2 mm:Int)<gu l:=by
     simp only[Bool.and_eq_true,decide_eq_true_eq]at hin;rw[lI hin.1 hin.2]at hu1 ⊢;unfold tI at hno;rw[decide_eq_true hin.1,hin.2,aD.2 ⟨by omega,by omega⟩]at hno;have e3:((mm:Int)+1).toNat=mm+1:=by omega
     rw[e3,vk]at hno;simp only[Bool.true_and]at hno;have:=eC.1 hno;omega
    have hub:gu l<=300:=by
     simp only[Bool.and_eq_true,decide_eq_true_eq]at hin;rw[lI hin.1 hin.2];have:=sv l;omega
    have hp2:(1:Int)*2 ^ mm=(p2 mm:Int):=by rw[Int.one_mul,iP]
    have hp2':(2:Int) ^ mm=(p2 mm:Int):=(iP mm).symm;have hmI:(mm:Int)<=14:=by omega
    have hw2:IntKind.i64.wrap (p2 mm:Int)=(p2 mm:Int):=ee _ (by omega) (by omega);clear hn h hm hno hin;generalize gu l=U at *
    generalize p2 mm=PW at *
    go_enter Tryz.func129,Tryz.ntmps129;go_wp2_with fail;refine(ae HU).mono ?_;rintro e x1 ⟨rfl,hx1⟩;rw[hx1];go_wp2;go_ret;exact⟨rfl,Below.refl _ _⟩
end Go.Proofs.YtkpfkgoiaicgbaaGreatDoor
namespace Go.Proofs.YtkpfkgoiaicgbaaGreatDoor
open Go.RowKit
def rh(o:List Int)(i:Nat):Nat:=(o.getD i 0).toNat
theorem G4(l:List Int)(i:Nat)(h:i<l.length):l.getD i 0∈l:=by simp[List.getD,h]
theorem tw{l:List Int}(h2:2<=(av l l.length).length) :
  (∀i,i<l.length->0<=(bW l).getD i 0/\(bW l).getD i 0<=(((av l l.length).length-1:Nat):Int)) /\
  (∀i,i<l.length->(0<(bW l).getD i 0<->0<l.getD i 0)) /\
  (∀D,(av l l.length).length<=D->krR l (rh (bW l)) D l.length=2 ^ D) /\
  mW l (bW l) l.length=oR ((av l l.length).length-1) (av l l.length):=by
 obtain⟨U,hU⟩:∃U,(av l l.length).length=U+2:=⟨(av l l.length).length-2,by omega⟩;have he:bW l=(ay l (U+1)).2:=by
  unfold bW;rw[if_neg (by omega),hU];rfl
 have hk:U+1<(av l l.length).length∨U+1=0:=.inl (by omega);have hdep:=jo l (U+1) hk;have hl1:(ay l (U+1)).1.length=1:=by have:=(bG l (U+1) hk).2.2.2;omega
 have hlU:(ay l U).1.length=2:=by have:=(bG l U (by omega)).2.2.2;omega
 obtain⟨g,hg⟩:∃g,(ay l (U+1)).1=[g]:=by
  cases hs:(ay l (U+1)).1 with
  | nil=>rw[hs]at hl1;simp at hl1
  | cons x t=>rw[hs]at hl1;simp at hl1;exact⟨x,by rw[hl1]⟩
 have hflat:=lh l (U+1) hk;have hgs:(g.syms).Perm (aT (av l l.length)):=by
  rw[hg]at hflat
  simpa[aT]using hflat
 rw[he];refine⟨?_,?_,?_,?_⟩
 ·
  intro i hi;have:=hdep i (by rw[dJ];exact hi);refine⟨this.1,?_⟩;have e:(((av l l.length).length-1:Nat):Int)=((U+1:Nat):Int):=by rw[hU];omega
  rw[e];exact this.2
 ·
  intro i hi;constructor
  ·
   intro hp;apply Classical.byContradiction;intro hn;have hz:=tu l i hi (fun hm=>by
    obtain⟨j,h1,h3,h4⟩:=(wu l l.length (i:Int)).1 hm;have:i=j:=by omega
    subst this;exact hn h4) (U+1) hk
   omega
  ·
   intro hp;have hm:(i:Int)∈aT (av l l.length):=(wu l l.length (i:Int)).2 ⟨i,rfl,hi,hp⟩;have hlen:1<(ay l U).1.length:=by omega
   have hfl:=fC l U (by omega);have hsub:=ig _ hlen;have hr:=df (ay l U).1 (by omega);have hr2:=df (aw (ay l U).1) (by omega);have hnil:aw (aw (ay l U).1)=[]:=List.eq_nil_of_length_eq_zero (by omega);rw[hnil]at hsub;have hsy:(i:Int)∈aX (ay l U).1:=by
    have h1:=(lh l U (by omega)).mem_iff.2 hm;have h3:=hsub.mem_iff.2 h1;simpa[aT]using h3
   have hb:=jY (ay l U).2 (aX (ay l U).1) i (ie hlen hfl.1).1 (fun y hy=>(hfl.2 y (hsub.mem_iff.1 (by simp[hy]))).1) (by rw[dJ];exact hi);rw[if_pos hsy]at hb;have hd:=(jo l U (by omega)) i (by rw[dJ];exact hi);show 0<(bump (ay l U).2 (aX (ay l U).1)).getD i 0;omega
 · intro D hD;have h1:=Ke l D hD (U+1) hk g (by rw[hg];simp);rw[←sG,←h1];exact(D2 _ hgs).symm
 ·
  have h1:=Kd l (U+1) hk;have e:(av l l.length).length-1-(U+1)=0:=by omega
  rw[e]at h1;simp only[oR,Int.add_zero]at h1;exact h1
theorem GD{l:List Int}{len:Nat->Nat}{D E n:Nat}(hE:E<=D)(h:∀i,i<n->0<l.getD i 0->len i<=E):krR l len D n=2 ^ (D-E)*krR l len E n:=by
 induction n with
 | zero=>rfl
 | succ n ih=>
  simp only[krR];rw[ih (fun i hi=>h i (by omega)),Nat.mul_add];by_cases hp:0<l.getD n 0
  ·
   rw[if_pos hp,if_pos hp];have:=h n (by omega) hp;rw[←Nat.pow_add]
   congr 2
   omega
  · rw[if_neg hp,if_neg hp];rfl
theorem GE{l:List Int}{E:Nat}(h2:2<=(av l l.length).length)(h:∀i,i<l.length->(bW l).getD i 0<=(E:Int)):krR l (rh (bW l)) E l.length=2 ^ E:=by
 obtain⟨h0,_,hk,_⟩:=tw h2;have hE:∀i,i<l.length->0<l.getD i 0->rh (bW l) i<=E:=by
  intro i hi _;have:=h i hi;unfold rh;omega
 have h1:=GD (D:=E+(av l l.length).length) (Nat.le_add_right _ _) hE;rw[hk _ (Nat.le_add_left _ _),Nat.add_sub_cancel_left,Nat.pow_add,Nat.mul_comm]at h1;exact(Nat.eq_of_mul_eq_mul_left (Nat.pow_pos (by omega)) h1).symm
theorem Ki{l o:List Int}(ho:o.length=l.length)(h:∀i,i<l.length->(0<o.getD i 0<->0<l.getD i 0))(k:Nat)(hk:k<=l.length):kr (o.take k)=krR l (rh o) 15 k/\us (o.take k)=(av l k).length:=by
 induction k with
 | zero=>exact⟨rfl,rfl⟩
 | succ k ih=>
  obtain⟨h1,h2⟩:=ih (by omega);rw[Bv o k (by omega),qk o k (by omega),h1,h2];simp only[krR];have hi:=h k (by omega);by_cases hp:0<l.getD k 0
  ·
   rw[if_pos hp,if_pos (hi.2 hp),gJ hp];refine⟨?_,by simp⟩;unfold krN rh p2;rw[if_pos (hi.2 hp)]
   congr 2
   have:=hi.2 hp;omega
  · rw[if_neg hp,if_neg (fun x=>hp (hi.1 x)),kH hp];refine⟨?_,rfl⟩;unfold krN;rw[if_neg (fun x=>hp (hi.1 x))]
theorem yN{l o:List Int}(ho:o.length=l.length)(hl:l.length<=300)(h:∀i,i<l.length->(0<o.getD i 0<->0<l.getD i 0))(h15:∀i,i<l.length->0<=o.getD i 0/\o.getD i 0<=15)(hk:krR l (rh o) 15 l.length=32768∨((av l l.length).length=1/\krR l (rh o) 15 l.length=16384)):ap o=true:=by
 obtain⟨h1,h2⟩:=Ki ho h l.length (Nat.le_refl _);rw[←ho,List.take_length,ho]at h1 h2;unfold ap mL;simp only[Bool.and_eq_true,Bool.or_eq_true,decide_eq_true_eq];refine⟨⟨?_,by omega⟩,?_⟩
 ·
  unfold inL;rw[List.all_eq_true];intro x hx;obtain⟨i,hi,rfl⟩:=List.getElem_of_mem hx;have:=h15 i (by omega);have e:o.getD i 0=o[i]:=by simp[List.getD,hi]
  rw[e]at this;exact aD.2 this
 ·
  rw[h1,h2];rcases hk with hk|hk
  · exact .inl hk
  · exact .inr hk
theorem BH(o:List Int)(k i:Nat)(hi:i<k):o.getD i 0<=bQ o k:=by
 induction k with
 | zero=>omega
 | succ k ih=>
  by_cases h:bQ o k<o.getD k 0
  ·
   rw[rD h];by_cases e:i=k
   · subst e;exact Int.le_refl _
   · have:=ih (by omega);omega
  ·
   rw[vi h];by_cases e:i=k
   · subst e;omega
   · exact ih (by omega)
theorem Dg(m:Nat):∀(f:Nat) (l:List Int),okC l->1<=(av l l.length).length->(av l l.length).length<=p2 m->kK l<=f ->
  ∃c:List Int,c.length=l.length/\okC c/\(∀i,i<l.length->(0<c.getD i 0<->0<l.getD i 0))/\sE ((m:Int)+1) f l=bW c/\(∀i,i<l.length->(bW c).getD i 0<=(m:Int)+1)/\(av c c.length).length=(av l l.length).length:=by
 intro f;induction f with
 | zero=>
  intro l hc h1 _ hs;exfalso;obtain⟨g,hg⟩:∃g,g∈av l l.length:=by
   cases hse:av l l.length with
   | nil=>rw[hse]at h1;simp at h1
   | cons x t=>exact⟨x,by simp⟩
  obtain⟨_,i,_,hi,hp,_⟩:=nH l l.length g hg;have:∀(a:List Int) (x:Int),x∈a->0<x->0<kK a:=by
   intro a x hx hp;induction a with
   | nil=>cases hx
   | cons y a ih=>
    simp only[kK,List.map_cons,List.sum_cons]at ih ⊢;simp only[List.mem_cons]at hx;rcases hx with rfl|hx
    · omega
    · have:=ih hx;omega
  have:=this l (l.getD i 0) (G4 l i hi) hp;omega
 | succ f ih=>
  intro l hc h1 hU hs;cases hf:fits (bW l) ((m:Int)+1)
  ·
   have hex:=xG hU hf;have hsum:=(yt l (BL hc)).2 hex;have hse:=tU l (fun i hi=>(hc i hi).1) l.length (Nat.le_refl _);obtain⟨c,c1,c2,c3,c4,c5,c6⟩:=ih (cS l) (xI hc) (by rw[fD,hse];exact h1) (by rw[fD,hse];exact hU) (by omega);rw[fD]at c1 c3 c5 c6;refine⟨c,c1,c2,?_,?_,c5,by rw[c6,hse]⟩
   · intro i hi;rw[c3 i hi,oj l i hi];unfold iX;have:=(hc i hi).1;omega
   · simp only[sE];rw[hf];exact c4
  ·
   refine⟨l,rfl,hc,fun i _=>Iff.rfl,?_,?_,rfl⟩
   · simp only[sE];rw[hf];rfl
   · intro i hi;unfold fits at hf;have h3:=of_decide_eq_true hf;rw[gV]at h3;have:=BH (bW l) l.length i hi;omega
theorem tK{c:List Int}(hc:okC c)(h1:(av c c.length).length=1)(i:Nat)(hi:i<c.length):(bW c).getD i 0=if 0<c.getD i 0 then 1 else 0:=by
 rw[uU hc h1];have e:(c.map fF).getD i 0=fF c[i]:=by simp[List.getD,hi]
 have e2:c.getD i 0=c[i]:=by simp[List.getD,hi]
 have hci:=hc i hi;rw[e2]at hci ⊢;rw[e];unfold fF;by_cases hp:0<c[i]
 · rw[if_pos hp];split<;>omega
 · rw[if_neg hp];split<;>omega
theorem LU{c:List Int}(hc:okC c)(k:Nat)(hk:k<=c.length)(h1:(av c c.length).length=1):krR c (rh (bW c)) 15 k=(av c k).length*16384:=by
 induction k with
 | zero=>simp[krR,av]
 | succ k ih=>
  simp only[krR];rw[ih (by omega)];have h:=tK hc h1 k (by omega);by_cases hp:0<c.getD k 0
  ·
   rw[if_pos hp,gJ hp];have e:rh (bW c) k=1:=by unfold rh;rw[h,if_pos hp];rfl
   have e2:(2:Nat) ^ (15-1)=16384:=by decide
   rw[e,e2,List.length_append,List.length_singleton,Nat.add_mul,Nat.one_mul]
  · rw[if_neg hp,kH hp,Nat.add_zero]
theorem rk{l:List Int}{m:Nat}(hc:okC l)(hl:l.length<=300)(h1:1<=(av l l.length).length)(hU:(av l l.length).length<=p2 m)(hm:m<=14) :
  (dF ((m:Int)+1) l).length=l.length/\ap (dF ((m:Int)+1) l)=true/\∀i,i<l.length->0<=(dF ((m:Int)+1) l).getD i 0/\(dF ((m:Int)+1) l).getD i 0<=(m:Int)+1/\(0<(dF ((m:Int)+1) l).getD i 0<->0<l.getD i 0):=by
 obtain⟨c,c1,c2,c3,c4,c5,c6⟩:=Dg m (kK l) l hc h1 hU (Nat.le_refl _);have e:dF ((m:Int)+1) l=bW c:=c4;rw[e];by_cases hone:(av c c.length).length=1
 ·
  have hf:=tK c2 hone;have hpos:∀i,i<l.length->0<=(bW c).getD i 0/\(bW c).getD i 0<=1/\(0<(bW c).getD i 0<->0<l.getD i 0):=by
   intro i hi;have h:=hf i (by omega);have h3:=c3 i hi;by_cases hp:0<c.getD i 0
   · rw[if_pos hp]at h;rw[h];exact⟨by omega,by omega,⟨fun _=>h3.1 hp,fun _=>by omega⟩⟩
   · rw[if_neg hp]at h;rw[h];exact⟨by omega,by omega,⟨fun x=>by omega,fun x=>absurd (h3.2 x) hp⟩⟩
  refine⟨by rw[gV,c1],?_,fun i hi=>⟨(hpos i hi).1,c5 i hi,(hpos i hi).2.2⟩⟩;refine yN (l:=c) (gV c) (by omega) ?_ ?_ (.inr ⟨hone,by rw[LU c2 _ (Nat.le_refl _) hone,hone]⟩)
  · intro i hi;exact(hpos i (by omega)).2.2.trans (c3 i (by omega)).symm
  · intro i hi;have:=hpos i (by omega);exact⟨this.1,by omega⟩
 ·
  have h2:2<=(av c c.length).length:=by omega
  obtain⟨f0,f1,_,_⟩:=tw h2;refine⟨by rw[gV,c1],?_,fun i hi=>⟨(f0 i (by omega)).1,c5 i hi,(f1 i (by omega)).trans (c3 i hi)⟩⟩;have h15:∀i,i<c.length->(bW c).getD i 0<=((15:Nat):Int):=fun i hi=>by have:=c5 i (by omega);omega
  refine yN (l:=c) (gV c) (by omega) f1 (fun i hi=>⟨(f0 i hi).1,h15 i hi⟩) (.inl (GE h2 h15))
end Go.Proofs.YtkpfkgoiaicgbaaGreatDoor
namespace Go.Proofs.YtkpfkgoiaicgbaaGreatDoor
open Go.RowKit Corb
set_option maxRecDepth 100000 in
theorem qN(a:Option Addr)(cap n mm:Nat)(l:List Int)(w:World)(hn:l.length=n)(h:bC w a l)(hm:n<=300)(hc:inC l=true)(hmm:mm<=14)(hu1:1<=us l)(hu2:us l<=p2 mm) :
  Calls Tryz.prog 129 #[.slice a n cap,.int .i64 ((mm:Int)+1)] w fun e w'=>(∃v,e = .returned v/\ar w' w.heap.size v (dF ((mm:Int)+1) l))/\Below w.heap.size w w':=by
 have hcu:=sv l;have HU:=af (j6 a cap n l w hn h (by omega));rw[lI (by omega) hc]at HU;have hUI:(us l:Int)<=300:=by omega
 have h1I:(1:Int)<=(us l:Int):=by omega
 have hU2:(us l:Int)<=(p2 mm:Int):=by omega
 have hp2:(1:Int)*2 ^ mm=(p2 mm:Int):=by rw[Int.one_mul,iP]
 have hp2':(2:Int) ^ mm=(p2 mm:Int):=(iP mm).symm;have hmI:(mm:Int)<=14:=by omega
 have hpl:p2 mm<=16384:=by
  have h1:p2 mm<=p2 14:=Nat.pow_le_pow_right (by omega) (by omega);have h2:p2 14=16384:=rfl;omega
 have hw2:IntKind.i64.wrap (p2 mm:Int)=(p2 mm:Int):=ee _ (by omega) (by omega);have hok:=Mb hc;by_cases hone:us l=1
 ·
  have HE:=af (wi a cap n l w hn h (by omega) hok);have hfit:Hid (dF ((mm:Int)+1) l=l.map fF):=JZ (by omega) hok (by rw[fm];exact hone);rw[hone]at hU2 HU;have Hn:=af hn;clear hn h hm hc hmm hu1 hu2 hcu hUI h1I hone hok hpl;generalize p2 mm=PW at *
  go_enter Tryz.func129,Tryz.ntmps129;go_wp2_with fail;refine(ae HU).mono ?_;rintro e x1 ⟨rfl,hx1⟩;rw[hx1];clear hx1 x1;go_wp2_with fail;refine(ae HE).mono ?_;rintro e x2 ⟨v,rfl,ho,hb⟩;obtain⟨va,vc,rfl⟩:=ho.formN (n:=n) (by rw[List.length_map,ae Hn]);go_wp2;go_ret;exact⟨⟨_,rfl,by rw[ae hfit];exact ho⟩,hb⟩
 ·
  have hneI:((us l:Int) == 1)=false:=by simp;omega
  have hs2:1<(av l l.length).length:=by rw[fm];omega
  have HN:=af (And.intro hn (And.intro hm (And.intro hok (show(av l l.length).length<=p2 mm by rw[fm];exact hu2))));have hn1:Hid (1<=n):=by show 1<=n;omega
  have HP:=af (kB a cap n l w hn h hm hok hs2);have HH:=af (And.intro h hs2);clear hn h hm hc hmm hu1 hu2 hcu hone hok hpl hs2;have hmI3:Hid (n<=300):=(ae HN).2.1;generalize us l=U at *
  generalize hPW:p2 mm=PW at *
  have HPW:=af hPW;clear hPW;go_enter Tryz.func129,Tryz.ntmps129;go_wp2_with fail;refine(ae HU).mono ?_;rintro e x1 ⟨rfl,hx1⟩;rw[hx1];clear hx1 x1;go_wp2_with fail;refine(ae HP).mono ?_;rintro e x2 ⟨rfl,ho,hb⟩;go_wp2_with fail
  go_loopw [0,6] (fun c v wr=>∃(cur:List Int) (f ob cc:Nat) (ca:Option Addr),cur.length=n/\okC cur/\(av cur cur.length).length<=PW/\1<(av cur cur.length).length/\kK cur<=f/\dF ((mm:Int)+1) l=sE ((mm:Int)+1) f cur/\c = .slice ca n cc/\v = .slice (some ⟨ob,0,none⟩) n n/\w.heap.size<=ob/\ar wr ob (.slice (some ⟨ob,0,none⟩) n n) (bW cur)/\bC wr ca cur/\Below w.heap.size w wr) (fun c _ wr=>Ax c wr n)
  case atStart=>exact⟨l,kK l,w.heap.size,cap,a,(ae HN).1,(ae HN).2.2.1,(ae HN).2.2.2,(ae HH).2,Nat.le_refl _,rfl,rfl,rfl,Nat.le_refl _,ho,(ae HH).1.later hb,hb⟩
  case round=>
   obtain⟨cur,f,ob,cc,ca,hcn,hcok,hcU,hc2,hcf,hfit,rfl,rfl,hob,hou,hcv,hbel⟩:=hrel;clear ho hb;have hlenh:(bW cur).length=n:=(gV cur).trans hcn;have HMo:=af (ry (some ⟨ob,0,none⟩) n n (bW cur) wr hlenh (hou.rowN hlenh) (ae hn1) (ae hmI3) (Kf hcok (by rw[hcn];exact ae hmI3) hc2));have hmost:Hid (fits (bW cur) ((mm:Int)+1)=decide (bQ (bW cur) n<=(mm:Int)+1)):=by show _=_;unfold fits;rw[hlenh]
   have HQ:=af (And.intro hcn (And.intro hcok (And.intro hcU (And.intro hc2 (And.intro hcf hfit)))));have HO:=af (And.intro hou (And.intro hcv (And.intro hbel hob)));have HE:=af (uH ca cc n cur wr hcn hcv (by have:=ae hmI3;omega) hcok);have HS:=af (Ca (c:=cc) hcn (ae hn1) hcv);clear hcn hcok hcU hc2 hcf hfit hlenh hou hcv hbel hob;generalize bQ (bW cur) n=mo at *
   by_cases hbig:(mm:Int)+1<mo
   ·
    have hnf:fits (bW cur) ((mm:Int)+1)=false:=by rw[ae hmost];exact decide_eq_false (by omega)
    obtain⟨hcn,hcok,hcU,hc2,hcf,hfit⟩:=ae HQ;rw[←ae HPW]at hcU;have hex:=xG hcU hnf;have hsum:=(yt cur (BL hcok)).2 hex;obtain⟨f',hff⟩:∃f',f=f'+1:=⟨f-1,by omega⟩;have hfit2:Hid (dF ((mm:Int)+1) l=sE ((mm:Int)+1) f' (cS cur)):=by
     show _=_;rw[hfit,hff];simp only[sE];rw[hnf];rfl
    have hcf2:Hid (kK (cS cur)<=f'):=by show _<=_;omega
    have HSL:=af hsum;have hcok2:=af (xI hcok);have hse:=tU cur (fun i hi=>(hcok i hi).1) cur.length (Nat.le_refl _);have hcU2:Hid ((av (cS cur) (cS cur).length).length<=PW/\1<(av (cS cur) (cS cur).length).length):=by
     show _/\_;rw[fD,hse,←ae HPW];exact⟨hcU,hc2⟩
    have hcn2:Hid ((cS cur).length=n):=(fD cur).trans hcn;clear hcn hcok hcU hcf hfit hex hsum hff hse hc2;go_wp2_with fail;refine(ae HMo).mono ?_;rintro e x3 ⟨rfl,hx3⟩;rw[hx3];clear hx3 x3;go_wp2_with fail;refine(ae HE).mono ?_;rintro e x4 ⟨v,rfl,ho4,hb4⟩;obtain⟨va,vc,rfl⟩:=ho4.formN (ae hcn2);have hrow4:=ho4.rowN (ae hcn2);have hB4:Below w.heap.size w x4:=aj (ae HO).2.2.1 hb4;have HP4:=af (kB va vc n (cS cur) x4 (ae hcn2) hrow4 (ae hmI3) (ae hcok2) (ae hcU2).2);have HX4:=af (And.intro ho4 (And.intro hB4 hrow4));clear ho4 hb4 hrow4 hB4;go_wp2_with fail;refine(ae HP4).mono ?_;rintro e x5 ⟨rfl,ho5,hb5⟩;obtain⟨ho4,hB4,hrow4⟩:=ae HX4;have hms:Hid (Ax (.slice va n vc) x5 n<Ax (.slice ca n cc) wr n):=by
     show Ax _ _ _<Ax _ _ _;rw[Ca (ae hcn2) (ae hn1) (hrow4.later hb5),ae HS];exact ae HSL
    have HR:=af (And.intro ho5 (And.intro (hrow4.later hb5) (aj hB4 hb5)));have hx4:Hid (w.heap.size<=x4.heap.size):=hB4.size;clear ho4 hB4 hrow4 ho5 hb5;go_wp2;go_roundw
    case rel=>exact⟨cS cur,f',x4.heap.size,vc,va,ae hcn2,ae hcok2,(ae hcU2).1,(ae hcU2).2,ae hcf2,ae hfit2,rfl,rfl,ae hx4,(ae HR).1,(ae HR).2.1,(ae HR).2.2⟩
    case measure=>exact ae hms
   ·
    have hnf:fits (bW cur) ((mm:Int)+1)=true:=by rw[ae hmost];exact decide_eq_true (by omega)
    have hres:Hid (dF ((mm:Int)+1) l=bW cur):=by
     show _=_;rw[(ae HQ).2.2.2.2.2];cases f with
     | zero=>rfl
     | succ f=>simp only[sE];rw[hnf];rfl
    go_wp2_with fail;refine(ae HMo).mono ?_;rintro e x3 ⟨rfl,hx3⟩;rw[hx3];clear hx3 x3;obtain⟨hou,hcv,hbel,hob⟩:=ae HO;go_wp2;go_ret;exact⟨⟨_,rfl,by rw[ae hres];exact hou.mono hob⟩,hbel⟩
theorem gW(a:Option Addr)(cap n:Nat)(l:List Int)(m:Int)(w:World)(hn:l.length=n)(h:bC w a l)(hm:n<=1048576) :
  Calls Tryz.prog 129 #[.slice a n cap,.int .i64 m] w fun e w'=>(∃v,e = .returned v/\ar w' w.heap.size v (iv l m))/\Below w.heap.size w w':=by
 cases hok:tI l m
 · refine(qM a cap n l m w hn h hm hok).mono ?_;rintro e w' ⟨rfl,hb⟩;refine⟨⟨_,rfl,?_⟩,hb⟩;unfold iv;rw[hok];exact World.ownsRow_nil _ _ _ _
 ·
  have hk:=hok;unfold tI at hk;simp only[Bool.and_eq_true,decide_eq_true_eq]at hk;obtain⟨⟨⟨h3,hmb⟩,hin⟩,hus⟩:=hk;obtain⟨m1,m2⟩:=aD.1 hmb;obtain⟨mm,rfl⟩:∃mm:Nat,m=(mm:Int)+1:=⟨(m-1).toNat,by omega⟩;have e3:((mm:Int)+1).toNat=mm+1:=by omega
  rw[e3,vk]at hus;obtain⟨u1,u2⟩:=aD.1 hus;have:=qN a cap n mm l w hn h (by omega) hin (by omega) (by omega) (by omega);unfold iv;rw[hok];exact this
end Go.Proofs.YtkpfkgoiaicgbaaGreatDoor
