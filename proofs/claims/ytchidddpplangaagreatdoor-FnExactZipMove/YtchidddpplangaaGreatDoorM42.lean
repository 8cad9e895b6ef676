/- Of what the proof is made: 2 texts, one behind the other. -/
import Derived.Test.YtchidddpplangaaGreatDoorM41
import Derived.Test.YtchidddpplangaaGreatDoorM2
import Derived.Deep.RegionLaw
import Derived.Lib.SliceRun
import Derived.Test.YtchidddpplangaaGreatDoorM14
import Derived.Test.YtchidddpplangaaGreatDoorM28
set_option maxRecDepth 100000
set_option linter.unusedSimpArgs false
set_option linter.unusedVariables false
set_option maxHeartbeats 6400000
namespace Go.Proofs.YtchidddpplangaaGreatDoor
open Go.Proofs.Tryz
open Go.RowKit Corb
variable {b c g k n:Nat}{x y:ByteArray}
theorem tg(l:List En)(k:Nat):l.flatMap fs=(l.take k).flatMap fs++(l.drop k).flatMap fs:=by rw[←a12,a1n]
theorem take_len{l:List En}(b:l.length=n)(a:k<=n):((l.take k).flatMap fs).length=k*8:=by rw[ez bQ,a0s];omega
theorem zo{l:List En}(a:l.length=n):((l.drop k).flatMap fs).length=(n-k)*8:=by rw[ez bQ,a04,a]
theorem AZ{W:World}{l:List En}(d:l.length=n)(h:gQ W b (.slice (some ⟨g,0,none⟩) n c) l)(k:Nat):∀j u,((l.take k).flatMap fs)[j]?=some u->W.cell? ((⟨g,0,none⟩:Addr).add j)=some u:=fun j u a=>by
 refine a1K (bX.own d h) rfl j u ?_;rw[tg l k,List.getElem?_append_left (List.getElem?_eq_some_iff.1 a).1];exact a
theorem KC{W:World}{l:List En}(a:l.length=n)(h:gQ W b (.slice (some ⟨g,0,none⟩) n c) l)(k:Nat)(d:k<=n):∀j u,((l.drop k).flatMap fs)[j]?=some u->W.cell? ((⟨g,k*8,none⟩:Addr).add j)=some u:=fun j u e=>by
 have:=a1K (bX.own a h) rfl (k*8+j) u (by
  rw[tg l k,List.getElem?_append_right (by rw[take_len a d];omega),take_len a d,a10];exact e)
 rw[Addr.add_lit]at this ⊢;rw[a0G]at this;exact this
theorem AY{l:List En}(d:l.length=n)(m:n<=c)(k:Nat)(f:k<n):∃A:Addr,(if c=k+1 then some (⟨g,0,none⟩:Addr)else some ⟨g,(k+1)*8,none⟩)=some A/\Hid (∀W,gQ W b (.slice (some ⟨g,0,none⟩) n c) l->∀j u,((l.drop (k+1)).flatMap fs)[j]?=some u->W.cell? (A.add j)=some u):=by
 by_cases h:c=k+1
 . refine⟨⟨g,0,none⟩,a0e h,fun W _ j u i=>?_⟩;have a:=(List.getElem?_eq_some_iff.1 i).1;rw[zo d]at a;omega
 . exact⟨⟨g,(k+1)*8,none⟩,a0d h,fun W e=>KC d e (k+1) f⟩
theorem vQ{l:List En}(b:l.length=n)(a:k<n):(l.eraseIdx k).length=k+(n-(k+1)):=by rw[List.length_eraseIdx,a0e (by omega)];omega
theorem vr(g c n k:Nat)(l:List En)(ob:Nat)(w:World)(o:l.length=n)(h:gQ w ob (.slice (some ⟨g,0,none⟩) n c) l)(V:n<=6)(G:k<n) :
  Calls prog 21 #[.slice (some ⟨g,0,none⟩) n c,.int .i64 (k:Nat)] w fun f w'=>(∃v,f = .returned v/\gQ w' w.heap.size v (l.eraseIdx k))/\Below w.heap.size w w':=by
 have L:prog.follows .mixedOrders=true:=by kernel_rfl
 obtain⟨i0,K,q,r,s⟩:=a0o Tryz.infoEnt;obtain⟨_,_,e,O,_⟩:=h.formN o;cases e
 obtain⟨A,X,B⟩:=AY (b:=ob) (g:=g) o O k G;have z:=ae (fun W N=>AZ (W:=W) (b:=ob) (g:=g) (c:=c) o N k);have u:=ae (take_len o (a0z G));have y:=ae (zo (k:=k+1) o);have i:Hid (∀x,x<=40->x<=maxLen/\x*80<=140737488355328):=fun x Y=>by unfold maxLen;omega
 have J:=ae (fun W (hb:Below w.heap.size w W)=>h.later hb (a0a _));have M:Hid (l.eraseIdx k=l.take k++l.drop (k+1)):=a3K _ _;have t:=ae (vQ o G);have S:(k:Int)<(n:Int):=by omega
 have T:(k:Int)<=(c:Int):=by omega
 have Q:0<=(k:Int)+1:=by omega
 have R:(k:Int)+1<=(n:Int):=by omega
 have U:(n:Int)<=6:=by omega
 have P:(n:Int)<=(c:Int):=by omega
 have Z:IntKind.i64.wrap ((k:Int)+1)=(k:Int)+1:=by simp only[IntKind.wrap,IntKind.bits,IntKind.signed];simp;omega
 have d:Hid (Below w.heap.size w (w.drew.alloc (.cells #[] 31))):=(a0c _ _).drew.alloc (a0a _) _;clear h o;go_enter func21,ntmps21;go_wp2_with fail
 go_region_law (first
  | (refine aL rfl (.tmp 5) (.tmp 8) 36 rfl w.heap.size 31 i0 (.agg #[.string ⟨#[]⟩,.int .i64 0,.int .i64 0,.int .i64 0,.int .i64 0,.int .i64 0,.int .i64 0,.string ⟨#[]⟩]) 8 80 a2J K q r s rfl (by decide) (.slice (some ⟨w.heap.size,0,none⟩) 0 0) 0 [] (by simp[Act.eval]) (a05 w.drew #[] 0 (a0a _) (by unfold maxLen;omega) rfl) ⟨g,0,none⟩ k c ((l.take k).flatMap fs) (by simp[Act.eval]) (ab u) (ab z _ (ab J _ (ab d))) (vL _) (ab i _ (by omega)).1 (ab i _ (by omega)).2 (ab d).size ?_;intro v1 x1 a D H;clear H;have m:=(ab d).grown D (ab d).size (fun j F=>by cases F;exact a0a _))
  | (refine aL rfl (.tmp 9) (.tmp 13) 36 rfl w.heap.size 31 i0 (.agg #[.string ⟨#[]⟩,.int .i64 0,.int .i64 0,.int .i64 0,.int .i64 0,.int .i64 0,.int .i64 0,.string ⟨#[]⟩]) 8 80 a2J K q r s rfl (by decide) v1 (0+k) ([]++(l.take k).flatMap fs) (by simp[Act.eval]) a A (n-(k+1)) (c-(k+1)) ((l.drop (k+1)).flatMap fs) (by simp[Act.eval]) (ab y) (ab B _ (ab J _ m)) (vL _) (ab i _ (by omega)).1 (ab i _ (by omega)).2 m.size ?_;intro v2 x2 p E I;clear I;have C:=m.grown E m.size (fun j F=>(a0y a j F).1)))
 go_wp2;go_ret;refine⟨⟨v2,rfl,?_⟩,C⟩;show World.ownsRow _ _ _ _ _ _ _;rw[ab t,ab M,a12];simpa using p
theorem vN(l:List En):∀u∈l.flatMap fs,u.oneCell'=true:=fun u b=>by
 obtain⟨e,_,a⟩:=List.mem_flatMap.1 b;exact oT e u a
theorem Lx{w:World}{p:Nat}{A B:Addr}{n1 c1 n2 c2:Nat}{l1 l2:List En}(c:l1.length=n1)(h2:l2.length=n2)(c0:w.cell? ⟨p,0,none⟩=some (.slice (some A) n1 c1))(a:w.cell? ⟨p,1,none⟩=some (.slice (some B) n2 c2))
  (a1:∀W,Below w.heap.size w W->∀k u,(l1.flatMap fs)[k]?=some u->W.cell? (A.add k)=some u) (a2:∀W,Below w.heap.size w W->∀k u,(l2.flatMap fs)[k]?=some u->W.cell? (B.add k)=some u) :
  gR w p [(.slice (some A) n1 c1,l1.flatMap fs),(.slice (some B) n2 c2,l2.flatMap fs)]:=by
 intro j b;have b:j<2:=b;rcases (by omega:j=0∨j=1)with rfl|rfl
 . exact⟨c0,A,n1,c1,rfl,by show(l1.flatMap fs).length=_;rw[ez bQ,c],vN l1,a1⟩
 . exact⟨a,B,n2,c2,rfl,by show(l2.flatMap fs).length=_;rw[ez bQ,h2],vN l2,a2⟩
theorem Fv{A B:Value}{l1 l2:List En} : aJ [(A,l1.flatMap fs),(B,l2.flatMap fs)]=l1.length+l2.length:=by
 simp only[aJ,cj,a0H,a1X,a0M,a28,ez bQ];omega
theorem Nf{A B:Value}{l1 l2:List En} : ee [(A,l1.flatMap fs),(B,l2.flatMap fs)]=(l1++l2).flatMap fs:=by
 simp[ee]
theorem Kp{l:List En}(h:gu y.data.toList=false):dI x y l=(1,[]):=by unfold dI;rw[a0d (by rw[h];decide)]
theorem Kq{l:List En}(h:gu y.data.toList=true)(a:atN l x = -1):dI x y l=(2,[]):=by unfold dI;rw[a0e h,a0e (by omega)]
theorem GN{l:List En}(b:dm l=true)(h:gu y.data.toList=true)(d:atN l x=(k:Int))(a:k<l.length):dI x y l=if bW (l.eraseIdx k) (iP (l.getD k default) y)=0 then(0,l.set k (iP (l.getD k default) y))else(bW (l.eraseIdx k) (iP (l.getD k default) y),[]):=by
 have c:=E5 (xC b a) h;have g:=(jf b).2;have e:¬ 6<=(l.eraseIdx k).length:=by rw[List.length_eraseIdx,a0e a];omega
 have f:bW (l.eraseIdx k) (iP (l.getD k default) y)=if i7 (l.eraseIdx k) y then 3 else 0:=by
  unfold bW;rw[a0e c,a0d e];rfl
 unfold dI;rw[a0e h,a0d (by omega),d,a0p,f];cases i7 (l.eraseIdx k) y<;>rfl
theorem yg(x y:ByteArray)(v:Value)(l:List En)(bt bn b:Nat)(m:Int)(w:World)(h:gQ w b v l)(hz:dm l=true)(hb:b<=w.heap.size)(ht:w.cell? ⟨bt,0,none⟩=some (.string y))(hx:w.cell? ⟨bn,0,none⟩=some (.string x))(hy:y.size<=1048576)(hm:w.cell? ⟨2,0,none⟩=some (.int .i64 m)) :
  Calls prog 41 #[v,.pointer (some ⟨bt,0,none⟩),.pointer (some ⟨bn,0,none⟩)] w (IG b w (dI x y l)):=by
 have a4:prog.follows .mixedOrders=true:=by kernel_rfl
 obtain⟨n,hn⟩:∃n,l.length=n:=⟨_,rfl⟩;obtain⟨a,c,rfl,hc,_⟩:=h.formN hn;have b0:(n:Int)<=6:=by have:=(jf hz).2;omega
 have CN:=ae (ml y m w hy hm);have HO:=ae h;have u:=ae hn;have HB:=ae hb;have HZ:=ae hz;have HY:=ae hy;have CC:=ae (fun W (hW:Below w.heap.size w W)=>a0b ((hW.cell (p:=⟨bt,0,none⟩) (World.block_lt_of_cell? _ _ ht)).trans ht) (a0b ((hW.cell (p:=⟨bn,0,none⟩) (World.block_lt_of_cell? _ _ hx)).trans hx) ((hW.cell (p:=⟨2,0,none⟩) (World.block_lt_of_cell? _ _ hm)).trans hm)));clear h hn hb hz hy hx hm;go_enter func41,ntmps41;go_wp2_with fail;refine(ab CN).mono ?_;rintro f x1 ⟨rfl,ac⟩;have J:=ae ac;have X:=ae ((ab HO).later ac (a0a _));clear CN ac HO ht;obtain⟨E,hE⟩:∃b,gu y.data.toList=b:=⟨_,rfl⟩;have HE:=ae hE;rw[hE];clear hE;cases E
 .
  have U:Hid ((dI x y l).1=1):=by show _=_;rw[Kp (ab HE)]
  have q:=ae ((ab J).mono (ab HB));go_wp2
  go_ret2
  exact xt (ab U) (by decide) (ab q)
 .
  have CF:=ae (xA a c l n (ab u) x x1 (iC (ab u) (ab X)) (by omega));have q1:=(ab CC _ (ab J)).2.1;go_wp2_with fail;refine(ab CF).mono ?_;rintro f x2 ⟨rfl,ad⟩;have D:=ae (ai (ab J) ad);have H:=ae ((ab X).later ad (a0a _));clear CF ad X J q1;rcases Cm l x with hh|⟨k,hk,hh⟩
  .
   have U:Hid ((dI x y l).1=2):=by show _=_;rw[Kq (ab HE) hh]
   have q:=ae ((ab D).mono (ab HB));rw[EI (by omega)];clear hh;go_wp2
   go_ret2
   exact xt (ab U) (by decide) (ab q)
  .
   have U:=ae (GN (ab HZ) (ab HE) hh hk);rw[zv (by omega),hh];have Q:k<n:=by have:=ab u;omega
   have bl:(k:Int)<(n:Int):=by omega
   have V:=ae Q;obtain⟨g,rfl⟩:=(ab H).somes (by omega);obtain⟨d0,d1,d2,d3,d4,d5,d6,d7⟩:=sr (ab u) (ab H) k Q;have q1:=(ab CC _ (ab D)).1;have a6:=nB (ab HZ) k hk;have B:=ae (vQ (ab u) Q);obtain⟨A,hA,a3⟩:=AY (b:=b) (g:=g) (ab u) hc k Q;have HA:=ae hA;have a8:=ae a3;have bb:=ae a6;have bd:Hid (∀i,i<k+(n-(k+1))->(((l.eraseIdx k).getD i default).n.size:Int)<=1048576):=fun i hi=>by
    have:=(nB (qW (ab HZ) k) i (by rw[ab B];exact hi)).1;omega
   clear hh hk a6 hA a3;generalize l.getD k default=e at *
   have a2:=ae ((ab D).alloc (ab D).size (.cells #[.string y,.int .i64 e.y,.int .i64 e.mo,.int .i64 e.d,.int .i64 e.h,.int .i64 e.mi,.int .i64 e.s,.string e.t] 31));have a0:=ae ((ab H).later ((a0c _ _).alloc (a0a _) (.cells #[.string y,.int .i64 e.y,.int .i64 e.mo,.int .i64 e.d,.int .i64 e.h,.int .i64 e.mi,.int .i64 e.s,.string e.t] 31)) (a0a _));have PM:=ae (aM x2 #[.string y,.int .i64 e.y,.int .i64 e.mo,.int .i64 e.d,.int .i64 e.h,.int .i64 e.mi,.int .i64 e.s,.string e.t] 31);have k4:IntKind.i64.wrap ((k:Int)+1)=(k:Int)+1:=by simp only[IntKind.wrap,IntKind.bits,IntKind.signed];simp;omega
   have bs:k<c:=by omega
   have bk:(n:Int)<=(c:Int):=by omega
   have q2:=(((a0c x2.heap.size x2).alloc (a0a _) (.cells #[.string e.n,.int .i64 e.y,.int .i64 e.mo,.int .i64 e.d,.int .i64 e.h,.int .i64 e.mi,.int .i64 e.s,.string e.t] 31)).cell (p:=⟨bt,0,none⟩) (World.block_lt_of_cell? _ _ q1)).trans q1;have b1:¬ x2.heap.size=bt:=by have:=World.block_lt_of_cell? _ _ q1;simp at this;omega
   go_wp2_with fail;refine wp_region_held_drew (S:=fun _=>True) a4 trivial (fun hS=>?_);refine af 0 (.slice (some ⟨g,0,none⟩) n c) rfl (by kernel_rfl) (fun _ _ _ h=>h) rfl (fun W r=>by go_simp) hS ?_;refine af 1 (.int .i64 (k:Nat)) rfl (by kernel_rfl) (fun _ _ _ h=>h) rfl (fun W r=>by go_simp) hS ?_;refine af 2 (.slice (some ⟨g,0,none⟩) k c) rfl (by kernel_rfl) (fun _ _ _ h=>h) rfl (fun W r=>by go_simp<;>(intro h;omega)) hS ?_;refine af 3 (.slice (some ⟨g,0,none⟩) n c) rfl (by kernel_rfl) (fun _ _ _ h=>h) rfl (fun W r=>by go_simp) hS ?_;refine af 4 (.int .i64 (k:Nat)) rfl (by kernel_rfl) (fun _ _ _ h=>h) rfl (fun W r=>by go_simp) hS ?_;refine af 5 (.int .i64 ((k:Int)+1)) rfl (by kernel_rfl) (fun _ _ _ h=>h) rfl (fun W r=>by go_simp) hS ?_;refine af 6 (.slice (some A) (n-(k+1)) (c-(k+1))) rfl (by kernel_rfl) (fun _ _ _ h=>h) rfl (fun W r=>by go_simp;first|(rw[a0e (by omega),ab HA])|(rw[ab HA])|skip) hS ?_;have a1:=ae (ab a2).drew;have an:=ae ((ab a0).later ((a0c _ _).drew) (a0a _));have M:=ae (ab PM).drew;clear a2 a0 PM d0 d1 d2 d3 d4 d5 d6 d7 q1 q2 H D;obtain⟨pm,hpm⟩:∃z,x2.heap.size=z:=⟨_,rfl⟩;rw[hpm]at M;rw[hpm];generalize (x2.alloc (.cells #[.string y,.int .i64 e.y,.int .i64 e.mo,.int .i64 e.d,.int .i64 e.h,.int .i64 e.mi,.int .i64 e.s,.string e.t] 31)).drew=W5 at *
   refine ag 7 (by kernel_rfl) rfl fun K1 j=>?_;go_simp;have N:=(a0c W5.heap.size W5).alloc (a0a _) (.cells #[.slice (some ⟨g,0,none⟩) k c,.slice (some A) (n-(k+1)) (c-(k+1))] 36);have Z:=ae (ai (ab a1) N);have C:=ae ((ab an).later N (a0a _));have K:=ae ((ab M).later N (ab M).1);have F:=ae (aM W5 #[.slice (some ⟨g,0,none⟩) k c,.slice (some A) (n-(k+1)) (c-(k+1))] 36);refine Shut.out j _ _ trivial (fun _=>?_);clear j K1 N a1 an M;obtain⟨pb,hpb⟩:∃z,W5.heap.size=z:=⟨_,rfl⟩;obtain⟨W6,hW6⟩:∃z,W5.alloc (.cells #[.slice (some ⟨g,0,none⟩) k c,.slice (some A) (n-(k+1)) (c-(k+1))] 36)=z:=⟨_,rfl⟩;rw[hW6]at Z C K;rw[hpb,hW6]at F;rw[hpb,hW6];clear hpb hW6;have R:(l.take k).length=k:=by rw[a0s,ab u];omega
   have T:(l.drop (k+1)).length=n-(k+1):=by rw[a04,ab u]
   have hR:=Lx (c1:=c) (c2:=c-(k+1)) R T ((ab F).cell 0 _ rfl) ((ab F).cell 1 _ rfl) (fun W hW=>AZ (ab u) ((ab C).later hW (a0a _)) k) (fun W hW=>ab a8 W ((ab C).later hW (a0a _)));have CX:=ae (y8 pb 2 2 _ W6 rfl (by omega) (by omega) hR (by rw[Fv,R,T];omega));rw[Fv,Nf,R,T,←a3K]at CX;clear hR R T F;refine ag 8 (by kernel_rfl) rfl fun K1 j=>?_;go_simp;go_at_call 44;refine(ab CX).mono ?_;rintro f W7 ⟨v7,rfl,a5,O⟩;have Y:Hid (gQ W7 W6.heap.size v7 (l.eraseIdx k)):=by show World.ownsRow _ _ _ _ _ (l.eraseIdx k).length _;rw[ab B];exact a5
   have aa:=ae (ai (ab Z) O);have al:=ae ((ab C).later O (a0a _));have L:=ae ((ab K).later O (ab K).1);refine Shut.out j _ _ trivial (fun _=>?_);clear j K1 CX O a5 Z C K;obtain⟨a7,c7,rfl,_,_⟩:=bX.formN (ab B) (ab Y);refine ag 9 (by kernel_rfl) rfl fun K1 j=>?_;go_simp;refine Shut.out j _ _ trivial (fun _=>?_);clear j K1;refine wpAnyH_done (by kernel_rfl) ?_ _;have CR:=ae (mP a7 c7 (l.eraseIdx k) (k+(n-(k+1))) (ab B) (iP e y) m W7 (iC (ab B) (ab Y)) (by omega) (ab bd) (ab HY) (ab bb).2 (ab CC _ (ab aa)).2.2);have pA:=(ab L).cells (n:=8) rfl;go_wp2_with fail;refine(ab CR).mono ?_;rintro f W8 ⟨rfl,P⟩;have bc:=ae (ai (ab aa) P);have I:=ae ((ab al).later P (a0a _));have be:=ae ((ab L).later P (ab L).1);have q:=ae ((ab bc).mono (ab HB));clear P CR pA L al aa Y;by_cases o:bW (l.eraseIdx k) (iP e y)=0
   .
    rw[show dG (bW (l.eraseIdx k) (iP e y)) = .nilIface by rw[o];rfl];have G:Hid (dI x y l=(0,l.set k (iP e y))):=by show _=_;rw[ab U,a0e o]
    obtain⟨d0,d1,d2,d3,d4,d5,d6,d7⟩:=sr (ab u) (ab I) k (ab V);obtain⟨f0,f1,f2,f3,f4,f5,f6,f7⟩:=vP (ab u) (ab I) k (ab V);have HP:=ae (bX.put bQ (ab u) (ab I) k (ab V) (iP e y));have a9:=ae (Cp (ab q) (ab I).below.1 (fs (iP e y)) (k*8));have pA:=(ab be).cells (n:=8) rfl;clear o U;generalize l.getD k default=y0 at *
    go_wp2
    go_ret2
    refine⟨⟨.slice (some ⟨g,0,none⟩) n c,?_,⟨_,_,_,rfl⟩,fun _=>?_⟩,ab a9⟩
    . rw[ab G];rfl
    . rw[ab G];exact ab HP
   .
    have G:Hid ((dI x y l).1=bW (l.eraseIdx k) (iP e y)):=by show _=_;rw[ab U,a0d o]
    rw[show dG (bW (l.eraseIdx k) (iP e y)) = .iface 76 (.agg #[.int .i64 (bW (l.eraseIdx k) (iP e y))]) by unfold dG;rw[a0d o]];have ba:=ae o;generalize bW (l.eraseIdx k) (iP e y)=rc at *
    clear o;go_wp2
    go_ret2
    exact xt (ab G) (ab ba) (ab q)
theorem yh(s:ByteArray)(d:List En->Int×List En)(bt X:Nat)(m:Int)(w:World)(R:s.size<=1048576)(I:w.cell? ⟨2,0,none⟩=some (.int .i64 m))(M:pR w)(L:dT w)
  (hd:∀l,dm l=true->(d l).1=0->dm (d l).2=true)
  (Y:∀W v l,dU s=some l->Below w.heap.size w W->gQ W w.heap.size v l->Calls prog 41 #[v,.pointer (some ⟨bt,0,none⟩),.pointer (some ⟨X,0,none⟩)] W (IG w.heap.size W (d l))) :
  Calls prog 15 #[.string s,.func (.func 41) #[] #[.pointer (some ⟨bt,0,none⟩),.pointer (some ⟨X,0,none⟩)]] w fun f w'=>f = .returned (edR s d)/\Below w.heap.size w w':=by
 have C:=ae (tC s m w R I M L);have HM:=ae I;have P:=ae (World.block_lt_of_cell? _ _ I);have Z:=ae (fun W (hb:Below w.heap.size w W)=>(hb.cell (p:=⟨2,0,none⟩) (ab P)).trans (ab HM));have V:=ae (fun W (hb:Below w.heap.size w W)=>M.later hb);have J:=ae (fun W (hb:Below w.heap.size w W)=>L.later hb);have U:=ae Y;have Hd:=ae hd;have HS:=ae R;clear R I M L hd Y;go_enter func15,ntmps15;go_wp2_with fail;refine(ab C).mono ?_;rintro f x1 ⟨⟨v,rfl,b⟩,h⟩;have B:=ae h;clear C;rcases z:dU s with _|l
 .
  have D:=ae (EG z d);clear z b h;go_wp2
  go_ret2
  exact⟨by rw[ab D];rfl,ab B⟩
 .
  rw[z]at b;have CD:=ae (ab U x1 v l z h b);have K:=ae z;clear z b h U;go_wp2_with fail;refine(ab CD).mono ?_;rintro f x2 ⟨⟨v2,rfl,⟨a,n,c,rfl⟩,G⟩,E⟩;have o:=ae ((ab B).trans E);have A:=ae (mO (d l).1 x2 (ab V _ (ab o)));have H:=ae G;clear E G CD;obtain⟨q,hq⟩:∃q,d l=q:=⟨_,rfl⟩;have Hq:=ae hq;rw[hq]at A H;rw[hq];clear hq;obtain⟨k,r⟩:=q;simp only at A H;simp only;obtain⟨FV,hFV⟩:∃x,dG k=x:=⟨_,rfl⟩;rw[hFV]at A;rw[hFV];clear hFV;go_wp2_with fail;refine(ab A).mono ?_;rintro f x3 ⟨rfl,u⟩;have e:=ae (ai (ab o) u);have j:=ae u;clear u A;by_cases O:k=0
  .
   subst O;have y:dm r=true:=by have:=ab Hd l (sJ (ab K)) (by rw[ab Hq]);rw[ab Hq]at this;exact this
   have Q:gQ x2 w.heap.size (.slice a n c) r:=ab H rfl;obtain⟨N,hN⟩:∃n,r.length=n:=⟨_,rfl⟩;obtain⟨a',c',e',aa,_⟩:=Q.formN hN;cases e'
   have F:=Q.later (ab j) (a0a _);have h6:=(jf y).2;have T:=ae (tD a c r n hN m x3 (iC hN F) (by omega) (by omega) (fun i hi=>nB y i (by omega)) (ab Z _ (ab e)) (ab V _ (ab e)) (ab J _ (ab e)));have D:=ae (Jj (ab K) (ab Hq));clear y Q F h6 H j o;go_wp2_with fail;refine(ab T).mono ?_;rintro f x4 ⟨rfl,g⟩;have t:=ae (ai (ab e) g);clear g T;go_wp2
   go_ret2
   exact⟨by rw[ab D];rfl,ab t⟩
  .
   have D:=ae (EF (ab K) (ab Hq) O);have S:=ae (fun W=>oB s W (by have:=ab HS;omega));have hd:decide (k=0)=false:=a0h O;go_wp2_with fail;refine(ab S _).mono ?_;rintro f x4 ⟨rfl,g⟩;have t:=ae (ai (ab e) g);clear g S;go_wp2
   go_ret2
   exact⟨by rw[ab D];rfl,ab t⟩
theorem xB(x y:ByteArray)(w:World) :
  Calls prog 22 #[.string x,.string y] w fun f w'=>f = .returned (.func (.func 41) #[] #[.pointer (some ⟨w.heap.size+1,0,none⟩),.pointer (some ⟨w.heap.size,0,none⟩)])/\w'=(w.alloc (.cells #[.string x] 9)).alloc (.cells #[.string y] 9):=by
 go_enter func22,ntmps22;go_wp2;go_ret;exact⟨rfl,rfl⟩
theorem rY(s x y:ByteArray)(m:Int)(w:World)(r:s.size<=1048576)(u:y.size<=1048576)(e:w.cell? ⟨2,0,none⟩=some (.int .i64 m))(q:pR w)(o:dT w) :
  Calls prog 10 #[.string s,.string x,.string y] w fun f w'=>f = .returned (edR s (dI x y))/\Below w.heap.size w w':=by
 have c:=(a0c w.heap.size w).alloc (a0a _) (.cells #[.string x] 9);have b:=ae (c.alloc c.size (.cells #[.string y] 9));have j:((w.alloc (.cells #[.string x] 9)).alloc (.cells #[.string y] 9)).cell? ⟨w.heap.size,0,none⟩=some (.string x):=((aM w #[.string x] 9).later ((a0c _ _).alloc (a0a _) _) (aM w #[.string x] 9).1).cell 0 _ rfl;have d:((w.alloc (.cells #[.string x] 9)).alloc (.cells #[.string y] 9)).cell? ⟨w.heap.size+1,0,none⟩=some (.string y):=by
  have:=(aM (w.alloc (.cells #[.string x] 9)) #[.string y] 9).cell 0 _ rfl;rw[show(w.alloc (.cells #[.string x] 9)).heap.size=w.heap.size+1 by simp]at this;exact this
 have CD:=ae (yh s (dI x y) (w.heap.size+1) w.heap.size m _ r (((ab b).cell (p:=⟨2,0,none⟩) (World.block_lt_of_cell? _ _ e)).trans e) (q.later (ab b)) (o.later (ab b)) (fun _ h A=>E6 h A)
   (fun W v l C a B=>yg x y v l (w.heap.size+1) w.heap.size _ m _ B (sJ C) a.size ((a.cell (p:=⟨w.heap.size+1,0,none⟩) (World.block_lt_of_cell? _ _ d)).trans d) ((a.cell (p:=⟨w.heap.size,0,none⟩) (World.block_lt_of_cell? _ _ j)).trans j) u ((((ab b).trans (a.mono (ab b).size)).cell (p:=⟨2,0,none⟩) (World.block_lt_of_cell? _ _ e)).trans e)))
 clear r e q o j d c u;go_enter func10,ntmps10;go_wp2_with fail;refine(xB x y _).mono ?_;rintro f x1 ⟨rfl,n⟩;subst n;go_wp2_with fail;refine(ab CD).mono ?_;rintro f x2 ⟨rfl,a⟩;have g:=ae (ai (ab b) a);clear a CD b;obtain⟨t,k,i⟩:=EE s (dI x y);have z:=ae i;rw[i];clear i;go_wp2
 go_ret2
 exact⟨by rw[ab z];rfl,ab g⟩
end Go.Proofs.YtchidddpplangaaGreatDoor
