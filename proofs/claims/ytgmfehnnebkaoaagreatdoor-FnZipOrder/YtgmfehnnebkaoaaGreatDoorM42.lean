/- Of what the proof is made: 4 texts, one behind the other. -/
import Derived.Test.YtgmfehnnebkaoaaGreatDoorM41
import Derived.Test.YtgmfehnnebkaoaaGreatDoorM40
import Derived.Test.YtgmfehnnebkaoaaGreatDoorM30
import Derived.Test.YtgmfehnnebkaoaaGreatDoorM2
import Derived.Deep.RegionHeld
import Derived.Laws.AppendOwnNone
import Derived.Test.YtgmfehnnebkaoaaGreatDoorM39
import Derived.Lib.ItoaNum
import Derived.Lib.IndexMore
import Derived.Test.YtgmfehnnebkaoaaGreatDoorM19
import Derived.Test.YtgmfehnnebkaoaaGreatDoorM4
set_option maxRecDepth 100000
set_option linter.unusedSimpArgs false
set_option linter.unusedVariables false
set_option maxHeartbeats 6400000
namespace Go.Proofs.YtgmfehnnebkaoaaGreatDoor
open Go.RowKit Corb
variable {W w:World}
theorem gU{P:Program}{ops:Array Oper}{o:Oper}{a:Act}{K:Act->World->Prop}{Q:Exit->Act->World->Prop}{E:Prop}
  (p:o.guard=none) (s x:Operand) (t:TypeId) (f:o.op=Op.call { callee:=Callee.builtin Builtin.append,args:=#[s,x],argTypes:=#[t,t] })
  (base:Nat) (e:TypeId) (i:TypeInfo) (z:Value) (size bytes:Nat) (k:P.underlying t=some (.slice e)) (h2:P.info? e=some i) (G:i.zero=some z) (H:i.size=size) (I:i.bytes=bytes) (J:z.cells.size=size) (L:0<size)
  (v:Value) (n:Nat) (xs:List Value) (r:a.eval s=v) (b:w.ownsRow base e size v n xs)
  (vx:Value) (base' m:Nat) (news:List Value) (y:a.eval x=vx) (c:w.ownsRow base' e size vx m news) (j:∀u∈news,u.oneCell'=true)
  (A:n+m<=maxLen) (B:(n+m)*bytes<=140737488355328) (C:base<=w.heap.size)
  (l:∀v' w',w'.ownsRow base e size v' (n+m) (xs++news)->w.grownBy w' v.ownBlock->K (a.put o.dst v') w') :
  if Region.wanted o (yielded ops a.tmps)=true then Oper.wp P o a w K Q else E:=by
 have q:=c.1;rcases c.2 with⟨e0,F⟩|⟨g,cap,D,e0,R⟩
 .
  subst F;have d:news=[]:=a2l (by rw[q];simp);subst d;have M:Region.wanted o (yielded ops a.tmps)=true:=by simp[Region.wanted,p]
  rw[a0d M];have h:=run_append_owned_none (P:=P) (w:=w) base t o.type e i size k h2 v n xs b;unfold Oper.wp;simp[execOp,f,resolve,invoke,builtin,r,y.trans e0,h,Result.andThen];refine l v w ?_ (World.grownBy.same _ _);rw[a1b,a05];exact b
 . subst e0;exact aX p s x t f base e i z size bytes k h2 G H I J L v n xs r b ⟨g,0,none⟩ m cap news y q (a1V c rfl) j A B C fun v' w' N O _=>l v' w' N O
theorem Jm(a b:ByteArray):ce a.data.toList b.data.toList=(a.toList == b.toList || (fu a.data.toList b.data.toList || fu b.data.toList a.data.toList)):=by
 unfold ce;rw[Lib.toList_data,Lib.toList_data,Bool.or_comm (fu b.data.toList _)]
theorem Ak(a:Option Addr)(cap:Nat)(l:List En)(n:Nat)(y:l.length=n)(x:ByteArray)(w:World)(h:iV w a l)(O:(n:Int)<=1048576)(G:(x.size:Int)<=1048576)
  (F:∀i,i<n->((l.getD i default).n.size:Int)<=1048576) :
  Calls Tryz.prog 110 #[.slice a n cap,.string x] w fun e w'=>e = .returned (.bool (kQ l x))/\w'=w:=by
 have K:=af F;have J:=af h;have z:=af (fun k (v:k<l.length)=>@sO l x k v);have A:=af (@pQ l x);rw[y]at z A;have B:=af y;clear h F y;go_enter Tryz.func110,Tryz.ntmps110;go_wp2_with fail
 go_loop [5] (fun i=>∃k:Nat,k<=n/\i = .int .i64 k/\(∀j,j<k->ce (l.getD j default).n.data.toList x.data.toList=false)) (fun i=>n-(intOf i).toNat)
 case atStart=>exact⟨0,a0g _,rfl,fun j E=>absurd E (by omega)⟩
 case round=>
  obtain⟨k,v,rfl,f⟩:=hrel;have c:=af f;clear f;by_cases d:k<n
  .
   have M:(k:Int)<(n:Int):=by omega
   obtain⟨g,o,rfl,N,D⟩:=ae J (by have:=ae B;omega);have c0:=(D k (by have:=ae B;omega)).1;have s:=af d;have b:=af (ae z k d);have r:=ae K k d;have H:=af (fun W=>mu (l.getD k default).n x W r G);have I:=af (fun W=>mu x (l.getD k default).n W G r);have q:Hid (ce (l.getD k default).n.data.toList x.data.toList=false->∀j,j<k+1->ce (l.getD j default).n.data.toList x.data.toList=false):=by
    intro e j E;by_cases u:j=k
    . rw[u];exact e
    . exact ae c j (by omega)
   rw[Jm]at b q;clear D v c d r;generalize (l.getD k default).n=p at *
   generalize fu p.data.toList x.data.toList=u1 at *
   generalize fu x.data.toList p.data.toList=u2 at *
   cases C:(p.toList == x.toList)
   .
    rw[C]at b q;go_wp2_with fail;refine(ae H _).mono ?_;rintro e w1 ⟨rfl,t⟩;rw[t];clear t;cases u1
    .
     go_wp2_with fail;refine(ae I _).mono ?_;rintro e w2 ⟨rfl,t⟩;rw[t];clear t;cases u2
     .
      have L:=af (ae q rfl);go_wp2
      go_round
      case rel=>exact⟨k+1,by have:=ae s;omega,by go_num,ae L⟩
      case measure=>have:=ae s;simp[intOf];omega
     . have m:=af (ae b rfl);go_wp2;go_ret;exact⟨by rw[ae m];rfl,rfl⟩
    . have m:=af (ae b rfl);go_wp2;go_ret;exact⟨by rw[ae m];rfl,rfl⟩
   . rw[C]at b;have m:=af (ae b rfl);go_wp2;go_ret;exact⟨by rw[ae m];rfl,rfl⟩
  .
   obtain rfl:k=n:=by omega
   have m:=af (ae A (ae c));go_wp2;go_ret;exact⟨by rw[ae m];rfl,rfl⟩
structure ESt (w:World) (e:En) (W:World):Prop where
 below:Below w.heap.size w W
 lt:w.heap.size<W.heap.size
 blk:Blk W w.heap.size [.string e.n,.int .i64 e.y,.int .i64 e.mo,.int .i64 e.d,.int .i64 e.h,.int .i64 e.mi,.int .i64 e.s,.string e.t]
theorem ESt.all{e:En}(h:ESt w e W):∀i,i<8->W.cell? ⟨w.heap.size,i,none⟩=[.string e.n,.int .i64 e.y,.int .i64 e.mo,.int .i64 e.d,.int .i64 e.h,.int .i64 e.mi,.int .i64 e.s,.string e.t][i]?:=h.blk.cells rfl
theorem ESt.drew{e:En}(h:ESt w e W):ESt w e W.drew:=⟨h.1.drew,h.2,h.3.drew⟩
theorem ESt.alloc{e:En}(h:ESt w e W)(o:Obj):ESt w e (W.alloc o):=by
 have hb:Below W.heap.size W (W.alloc o):=(a0c _ _).alloc (a0a _) _;exact⟨h.1.alloc (a0w h.2) o,a0h h.2 hb.size,h.3.later hb h.2⟩
theorem ESt.grown{W':World}{e:En}{v:Value}{n:Nat}{xs:List Value}(h:ESt w e W)(b:W.ownsRow (w.heap.size+1) 33 8 v n xs)(a:W.grownBy W' v.ownBlock):ESt w e W':=
 ⟨h.1.grown a (a0w h.2) (fun k e=>by have:=(a0E b k e).1;omega),a0h h.2 a.size,h.3.grown a (fun e=>by have:=(a0E b _ e.symm).1;omega)⟩
theorem lU{g:Nat}{vs:List Value}(h:Blk W g vs):∀j u,vs[j]?=some u->W.cell? ((⟨g,0,none⟩:Addr).add j)=some u:=fun j u a=>by
 have e:(⟨g,0,none⟩:Addr).add j=⟨g,j,none⟩:=by unfold Addr.add;split<;>simp_all
 rw[e];exact h.cell j u a
theorem xo{b n:Nat}{v:Value}{l:List En}{e:En}(a:l.length=n)(h:W.ownsRow (b+1) 33 8 v (0+n+1) ([]++l.flatMap jr++jr e)):lL W b v (l++[e]):=
 bu.mono (bu.snoc a (by rw[a0H,a0X]at h;exact h)) (a07 _)
theorem GB(v:Value)(l:List En)(e:En)(ob:Nat)(w:World)(h:lL w ob v l)(Q:l.length<=6)(hs:∀i,i<l.length->((l.getD i default).n.size:Int)<=1048576)(he:e.n.size<=1048576)(ht:(e.t.size:Int)<=9223372036854775807) :
  Calls Tryz.prog 69 #[v,.agg #[.string e.n,.int .i64 e.y,.int .i64 e.mo,.int .i64 e.d,.int .i64 e.h,.int .i64 e.mi,.int .i64 e.s,.string e.t]] w fun f w'=>(∃v',f = .returned (.tuple #[v',.int .i64 (bH l e)])/\(bH l e=0->lL w' w.heap.size v' (l++[e]))/\(bH l e≠0->v'=v))/\Below w.heap.size w w':=by
 have Z:Tryz.prog.follows .mixedOrders=true:=by kernel_rfl
 obtain⟨i0,V,D,E,F⟩:=a0r Tryz.infoEnt;obtain⟨n,hn⟩:∃n,l.length=n:=⟨_,rfl⟩;obtain⟨a,c,rfl,hc,_⟩:=h.formN hn;rw[hn]at Q hs;have ad:(n:Int)<=6:=by omega
 have p:Hid (0+n<=maxLen/\(0+n)*80<=140737488355328/\0+n+1<=maxLen/\(0+n+1)*80<=140737488355328):=by show _/\_;unfold maxLen;omega
 have J:Hid (ESt w e (w.alloc (.cells #[.string e.n,.int .i64 e.y,.int .i64 e.mo,.int .i64 e.d,.int .i64 e.h,.int .i64 e.mi,.int .i64 e.s,.string e.t] 33))):=⟨(a0c _ _).alloc (a0a _) _,by simp,aC w _ _⟩;have CE:=af (lJ e.n e.y e.mo e.d e.h e.mi e.s e.t (w.alloc (.cells #[.string e.n,.int .i64 e.y,.int .i64 e.mo,.int .i64 e.d,.int .i64 e.h,.int .i64 e.mi,.int .i64 e.s,.string e.t] 33)) he ht);have CC:=af (fun W (hb:Below w.heap.size w W)=>Ak a c l n hn e.n W (cm hn (h.later hb (a0a _))) (by omega) (by omega) hs);have T:=af hn;have HO:=af h;clear h hs he ht hn hc Q;go_enter Tryz.func69,Tryz.ntmps69;go_wp2_with fail;refine(ae CE).mono ?_;rintro f x1 ⟨rfl,P⟩;have N:Hid (ESt w e x1):=⟨ah (ae J).1 P,a0h (ae J).2 P.size,(ae J).3.later P (ae J).2⟩;clear CE P J;have X:=af (ae N).1;cases U:ik e
 .
  have B:Hid (bH l e=1):=by show _=_;unfold bH;rw[a0e (by rw[U];decide)]
  rw[show fy e.n e.y e.mo e.d e.h e.mi e.s e.t=false from U];clear U;go_wp2
  go_ret2
  exact⟨⟨_,by rw[ae B];rfl,fun h=>(by rw[ae B]at h;cases h),fun _=>rfl⟩,ae X⟩
 .
  have G:Hid (bH l e=if kQ l e.n then 3 else if 6<=n then 4 else 0):=by show _=_;unfold bH;rw[a0d U,ae T]
  rw[show fy e.n e.y e.mo e.d e.h e.mi e.s e.t=true from U];clear U;have pA:=(ae N).all;go_wp2_with fail;refine(ae CC _ (ae X)).mono ?_;rintro f x2 ⟨rfl,aa⟩;rw[aa];clear CC pA aa x2;cases hA:kQ l e.n
  .
   rw[hA]at G;clear hA;by_cases Q:6<=n
   .
    have B:Hid (bH l e=4):=by show _=_;rw[ae G,a0e (by decide),a0d Q]
    have ab:(6:Int)<=(n:Int):=by omega
    go_wp2
    go_ret2
    exact⟨⟨_,by rw[ae B];rfl,fun h=>(by rw[ae B]at h;cases h),fun _=>rfl⟩,ae X⟩
   .
    have B:Hid (bH l e=0):=by show _=_;rw[ae G,a0e (by decide),a0e Q]
    have ab:¬ (6:Int)<=(n:Int):=by omega
    clear G Q X;go_wp2_with fail;refine wp_region_held_drew (S:=fun W=>∀i,i<8->W.cell? ⟨w.heap.size,i,none⟩=[.string e.n,.int .i64 e.y,.int .i64 e.mo,.int .i64 e.d,.int .i64 e.h,.int .i64 e.mi,.int .i64 e.s,.string e.t][i]?) Z ((ae N).drew.all) (fun hS=>?_);refine ag 1 (.slice a n c) rfl (by kernel_rfl) (fun _ _ _ h=>h) rfl (fun W ac=>by go_simp) hS ?_;refine ag 3 (.agg #[.string e.n,.int .i64 e.y,.int .i64 e.mo,.int .i64 e.d,.int .i64 e.h,.int .i64 e.mi,.int .i64 e.s,.string e.t]) rfl (by kernel_rfl) (fun _ _ _ h=>h) rfl (fun W ac=>by go_simp) hS ?_;clear hS;have R:=af (ae N).drew;generalize x1.drew=W1 at *
    refine wpAnyH_ready (rs:=[0,4]) (by kernel_rfl) (by simp) ?_;refine AllReadyH.cons rfl (fun K k=>?_) (AllReadyH.cons rfl (fun K k=>?_) (AllReadyH.nil))
    .
     go_simp;have r:=af ((ae R).alloc (.cells #[] 33));have H:=af (a0Y (base:=w.heap.size+1) (size:=8) (e:=33) W1 #[] 0 (ae R).2 (by unfold maxLen;omega) rfl);refine Shut.out k _ _ (ae r).all (fun _=>?_);clear k K;obtain⟨G0,hG0⟩:∃x,W1.heap.size=x:=⟨_,rfl⟩;obtain⟨W2,hW2⟩:∃x,W1.alloc (.cells #[] 33)=x:=⟨_,rfl⟩;rw[hG0,hW2]at H;rw[hW2]at r;rw[hG0,hW2];refine wpAnyH_ready (rs:=[2,4]) (by kernel_rfl) (by simp) ?_;refine AllReadyH.cons rfl (fun K k=>?_) (AllReadyH.cons rfl (fun K k=>?_) (AllReadyH.nil))
     .
      refine gU rfl (.tmp 22) (.tmp 23) 23 rfl (w.heap.size+1) 33 i0 (.agg #[.string ⟨#[]⟩,.int .i64 0,.int .i64 0,.int .i64 0,.int .i64 0,.int .i64 0,.int .i64 0,.string ⟨#[]⟩]) 8 80 a16 V D E F rfl (by decide) (Value.slice (some ⟨G0,0,none⟩) 0 0) 0 [] rfl (ae H) _ ob n (l.flatMap jr) rfl (bu.own (ae T) ((ae HO).later (ae r).1 (a0a _))) (qb _) (ae p).1 (ae p).2.1 (ae r).2 ?_;intro v3 W3 g b;have m:=af ((ae r).grown (ae H) b);have u:=af g;clear g b;refine Shut.out k _ _ (ae m).all (fun _=>?_);clear k K;refine aj 4 (by kernel_rfl) rfl fun K k=>?_;go_simp;have q:=af ((ae m).alloc (.cells #[.string e.n,.int .i64 e.y,.int .i64 e.mo,.int .i64 e.d,.int .i64 e.h,.int .i64 e.mi,.int .i64 e.s,.string e.t] 33));have C:=af (aC W3 #[.string e.n,.int .i64 e.y,.int .i64 e.mo,.int .i64 e.d,.int .i64 e.h,.int .i64 e.mi,.int .i64 e.s,.string e.t] 33);have z:=af (a0m (ae u) (.cells #[.string e.n,.int .i64 e.y,.int .i64 e.mo,.int .i64 e.d,.int .i64 e.h,.int .i64 e.mi,.int .i64 e.s,.string e.t] 33));have M:∀j,v3.ownBlock=some j->j<W3.heap.size:=fun j hj=>(a0E (ae u) j hj).2;refine Shut.out k _ _ (ae q).all (fun _=>?_);clear k K;obtain⟨G1,hG1⟩:∃x,W3.heap.size=x:=⟨_,rfl⟩;obtain⟨W4,hW4⟩:∃x,W3.alloc (.cells #[.string e.n,.int .i64 e.y,.int .i64 e.mo,.int .i64 e.d,.int .i64 e.h,.int .i64 e.mi,.int .i64 e.s,.string e.t] 33)=x:=⟨_,rfl⟩;rw[hG1,hW4]at C;rw[hW4]at q z;rw[hG1]at M;rw[hG1,hW4];refine aj 5 (by kernel_rfl) rfl fun K k=>?_;refine aX rfl (.tmp 24) (.tmp 26) 23 rfl (w.heap.size+1) 33 i0 (.agg #[.string ⟨#[]⟩,.int .i64 0,.int .i64 0,.int .i64 0,.int .i64 0,.int .i64 0,.int .i64 0,.string ⟨#[]⟩]) 8 80 a16 V D E F rfl (by decide) v3 (0+n) ([]++l.flatMap jr) rfl (ae z) ⟨G1,0,none⟩ 1 1 (jr e) rfl rfl (lU (ae C)) (iZ _) (ae p).2.2.1 (ae p).2.2.2 (ae q).2 ?_;intro v8 W8 g b A;have o:=af ((ae q).grown (ae z) b);have I:=af g;clear g b A;refine Shut.out k _ _ (ae o).all (fun _=>?_);clear k K;refine aj 6 (by kernel_rfl) rfl fun K k=>?_;go_simp;refine Shut.out k _ _ (ae o).all (fun _=>?_);clear k K;refine aj 7 (by kernel_rfl) rfl fun K k=>?_;go_simp;refine Shut.out k _ _ (ae o).all (fun _=>?_);clear k K;refine wpAnyH_done (by kernel_rfl) ?_ _;go_wp2
      go_ret2
      exact⟨⟨_,by rw[ae B];rfl,fun _=>xo (ae T) (ae I),fun h=>absurd (ae B) h⟩,(ae o).1⟩
     .
      go_simp;have m:=af ((ae r).alloc (.cells #[.string e.n,.int .i64 e.y,.int .i64 e.mo,.int .i64 e.d,.int .i64 e.h,.int .i64 e.mi,.int .i64 e.s,.string e.t] 33));have L:=af (aC W2 #[.string e.n,.int .i64 e.y,.int .i64 e.mo,.int .i64 e.d,.int .i64 e.h,.int .i64 e.mi,.int .i64 e.s,.string e.t] 33);have u:=af (a0m (ae H) (.cells #[.string e.n,.int .i64 e.y,.int .i64 e.mo,.int .i64 e.d,.int .i64 e.h,.int .i64 e.mi,.int .i64 e.s,.string e.t] 33));have M:∀j,(Value.slice (some ⟨G0,0,none⟩) 0 0).ownBlock=some j->j<W2.heap.size:=fun j hj=>(a0E (ae H) j hj).2;refine Shut.out k _ _ (ae m).all (fun _=>?_);clear k K;obtain⟨G1,hG1⟩:∃x,W2.heap.size=x:=⟨_,rfl⟩;obtain⟨W3,hW3⟩:∃x,W2.alloc (.cells #[.string e.n,.int .i64 e.y,.int .i64 e.mo,.int .i64 e.d,.int .i64 e.h,.int .i64 e.mi,.int .i64 e.s,.string e.t] 33)=x:=⟨_,rfl⟩;rw[hG1,hW3]at L;rw[hW3]at m u;rw[hG1]at M;rw[hG1,hW3];refine aj 2 (by kernel_rfl) rfl fun K k=>?_;have Y:G0<G1:=M G0 rfl;refine gU rfl (.tmp 22) (.tmp 23) 23 rfl (w.heap.size+1) 33 i0 (.agg #[.string ⟨#[]⟩,.int .i64 0,.int .i64 0,.int .i64 0,.int .i64 0,.int .i64 0,.int .i64 0,.string ⟨#[]⟩]) 8 80 a16 V D E F rfl (by decide) (Value.slice (some ⟨G0,0,none⟩) 0 0) 0 [] rfl (ae u) _ ob n (l.flatMap jr) rfl (bu.own (ae T) ((ae HO).later (ae m).1 (a0a _))) (qb _) (ae p).1 (ae p).2.1 (ae m).2 ?_;intro v4 W4 g b;have q:=af ((ae m).grown (ae u) b);have z:=af g;have C:=af ((ae L).grown b (fun e=>by have Q:G1=G0:=a1h e;omega));clear g b;refine Shut.out k _ _ (ae q).all (fun _=>?_);clear k K;refine aj 5 (by kernel_rfl) rfl fun K k=>?_;refine aX rfl (.tmp 24) (.tmp 26) 23 rfl (w.heap.size+1) 33 i0 (.agg #[.string ⟨#[]⟩,.int .i64 0,.int .i64 0,.int .i64 0,.int .i64 0,.int .i64 0,.int .i64 0,.string ⟨#[]⟩]) 8 80 a16 V D E F rfl (by decide) v4 (0+n) ([]++l.flatMap jr) rfl (ae z) ⟨G1,0,none⟩ 1 1 (jr e) rfl rfl (lU (ae C)) (iZ _) (ae p).2.2.1 (ae p).2.2.2 (ae q).2 ?_;intro v8 W8 g b A;have o:=af ((ae q).grown (ae z) b);have I:=af g;clear g b A;refine Shut.out k _ _ (ae o).all (fun _=>?_);clear k K;refine aj 6 (by kernel_rfl) rfl fun K k=>?_;go_simp;refine Shut.out k _ _ (ae o).all (fun _=>?_);clear k K;refine aj 7 (by kernel_rfl) rfl fun K k=>?_;go_simp;refine Shut.out k _ _ (ae o).all (fun _=>?_);clear k K;refine wpAnyH_done (by kernel_rfl) ?_ _;go_wp2
      go_ret2
      exact⟨⟨_,by rw[ae B];rfl,fun _=>xo (ae T) (ae I),fun h=>absurd (ae B) h⟩,(ae o).1⟩
    .
     go_simp;have r:=af ((ae R).alloc (.cells #[.string e.n,.int .i64 e.y,.int .i64 e.mo,.int .i64 e.d,.int .i64 e.h,.int .i64 e.mi,.int .i64 e.s,.string e.t] 33));have O:=af (aC W1 #[.string e.n,.int .i64 e.y,.int .i64 e.mo,.int .i64 e.d,.int .i64 e.h,.int .i64 e.mi,.int .i64 e.s,.string e.t] 33);refine Shut.out k _ _ (ae r).all (fun _=>?_);clear k K;obtain⟨G1,hG1⟩:∃x,W1.heap.size=x:=⟨_,rfl⟩;obtain⟨W2,hW2⟩:∃x,W1.alloc (.cells #[.string e.n,.int .i64 e.y,.int .i64 e.mo,.int .i64 e.d,.int .i64 e.h,.int .i64 e.mi,.int .i64 e.s,.string e.t] 33)=x:=⟨_,rfl⟩;rw[hG1,hW2]at O;rw[hW2]at r;rw[hG1,hW2];refine aj 0 (by kernel_rfl) rfl fun K k=>?_;go_simp;have m:=af ((ae r).alloc (.cells #[] 33));have u:=af (a0Y (base:=w.heap.size+1) (size:=8) (e:=33) W2 #[] 0 (ae r).2 (by unfold maxLen;omega) rfl);have L:=af ((ae O).later ((a0c _ _).alloc (a0a _) (.cells #[] 33)) (ae O).1);have M:=(ae O).1;refine Shut.out k _ _ (ae m).all (fun _=>?_);clear k K;obtain⟨G0,hG0⟩:∃x,W2.heap.size=x:=⟨_,rfl⟩;obtain⟨W3,hW3⟩:∃x,W2.alloc (.cells #[] 33)=x:=⟨_,rfl⟩;rw[hG0,hW3]at u;rw[hW3]at m L;rw[hG0,hW3];refine aj 2 (by kernel_rfl) rfl fun K k=>?_;have Y:G1<G0:=by omega
     refine gU rfl (.tmp 22) (.tmp 23) 23 rfl (w.heap.size+1) 33 i0 (.agg #[.string ⟨#[]⟩,.int .i64 0,.int .i64 0,.int .i64 0,.int .i64 0,.int .i64 0,.int .i64 0,.string ⟨#[]⟩]) 8 80 a16 V D E F rfl (by decide) (Value.slice (some ⟨G0,0,none⟩) 0 0) 0 [] rfl (ae u) _ ob n (l.flatMap jr) rfl (bu.own (ae T) ((ae HO).later (ae m).1 (a0a _))) (qb _) (ae p).1 (ae p).2.1 (ae m).2 ?_;intro v4 W4 g b;have q:=af ((ae m).grown (ae u) b);have z:=af g;have C:=af ((ae L).grown b (fun e=>by have Q:G1=G0:=a1h e;omega));clear g b;refine Shut.out k _ _ (ae q).all (fun _=>?_);clear k K;refine aj 5 (by kernel_rfl) rfl fun K k=>?_;refine aX rfl (.tmp 24) (.tmp 26) 23 rfl (w.heap.size+1) 33 i0 (.agg #[.string ⟨#[]⟩,.int .i64 0,.int .i64 0,.int .i64 0,.int .i64 0,.int .i64 0,.int .i64 0,.string ⟨#[]⟩]) 8 80 a16 V D E F rfl (by decide) v4 (0+n) ([]++l.flatMap jr) rfl (ae z) ⟨G1,0,none⟩ 1 1 (jr e) rfl rfl (lU (ae C)) (iZ _) (ae p).2.2.1 (ae p).2.2.2 (ae q).2 ?_;intro v8 W8 g b A;have o:=af ((ae q).grown (ae z) b);have I:=af g;clear g b A;refine Shut.out k _ _ (ae o).all (fun _=>?_);clear k K;refine aj 6 (by kernel_rfl) rfl fun K k=>?_;go_simp;refine Shut.out k _ _ (ae o).all (fun _=>?_);clear k K;refine aj 7 (by kernel_rfl) rfl fun K k=>?_;go_simp;refine Shut.out k _ _ (ae o).all (fun _=>?_);clear k K;refine wpAnyH_done (by kernel_rfl) ?_ _;go_wp2
     go_ret2
     exact⟨⟨_,by rw[ae B];rfl,fun _=>xo (ae T) (ae I),fun h=>absurd (ae B) h⟩,(ae o).1⟩
  .
   have B:Hid (bH l e=3):=by show _=_;rw[ae G,hA,a0d rfl]
   clear hA;go_wp2
   go_ret2
   exact⟨⟨_,by rw[ae B];rfl,fun h=>(by rw[ae B]at h;cases h),fun _=>rfl⟩,ae X⟩
end Go.Proofs.YtgmfehnnebkaoaaGreatDoor
namespace Go.Proofs.YtgmfehnnebkaoaaGreatDoor
open Corb
open Go.Lib (decDigits)
variable {l:ByteArray}
def Qb(b:UInt8):Bool:=decide (48<=b.toNat)&&decide (b.toNat<=57)
def Qc(l:List UInt8):Prop:=l≠[]/\(∀b∈l,Qb b=true)/\¬ (1<l.length/\l.head?=some 48)
instance (l:List UInt8):Decidable (Qc l):=inferInstanceAs (Decidable (_/\_/\_))
theorem EK:∀(k n:Nat),n<10 ^ (k+1)->(decDigits n).length<=k+1
 | 0,n,h=>by rw[decDigits,dif_pos (by simpa using h)];simp
 | k+1,n,h=>by
  by_cases a:n<10
  . rw[decDigits,dif_pos a];simp
  . rw[decDigits,dif_neg a];have:=EK k (n/10) (by rw[a1s]at h;omega);simp;omega
def lK(x:ByteArray):ByteArray:=⟨(decDigits x.size).toArray⟩++⟨#[10]⟩++x
theorem Ep(x:ByteArray):(lK x).data.toList=decDigits x.size++(10 :: x.data.toList):=by
 simp[lK]
def lG(l:ByteArray)(i:Nat):ByteArray:=l.extract (i+1) l.size
theorem GY(l:ByteArray)(i:Nat):(lG l i).data.toList=l.data.toList.drop (i+1):=by
 rw[lG,ext_list];exact a0o (by simp)
theorem Od{x:ByteArray}(h:Lib.indexByte l.data.toList 10 = -1):l≠lK x:=by
 intro e;have a:=Lib.indexByte_none h (decDigits x.size).length;rw[e,Ep,List.getElem?_append_right (a0a _),a2I]at a;exact a rfl
def rC(l:ByteArray):Option ByteArray:=if 0<=Lib.indexByte l.data.toList 10 then(if l=lK (lG l (Lib.indexByte l.data.toList 10).toNat)/\(dE (lG l (Lib.indexByte l.data.toList 10).toNat)).isSome=true then some (lG l (Lib.indexByte l.data.toList 10).toNat)else none)else none
theorem Fo(h:Lib.indexByte l.data.toList 10 = -1):rC l=none:=by unfold rC;rw[h,a0e (by decide)]
theorem NR{i:Nat}(h:Lib.indexByte l.data.toList 10=(i:Int)):rC l=if l=lK (lG l i)/\(dE (lG l i)).isSome=true then some (lG l i)else none:=by
 unfold rC;rw[h,a0d (by omega),a0l]
end Go.Proofs.YtgmfehnnebkaoaaGreatDoor
namespace Go.Proofs.YtgmfehnnebkaoaaGreatDoor
open Go.RowKit Corb
open Go.Lib (decDigits)
variable {W w:World}{ps:List Value}
theorem FY{n:Nat}(h:n<10):decDigits n=[UInt8.ofNat (48+n)]:=by rw[decDigits,dif_pos h]
theorem MV{n:Nat}(h:¬ n<10):decDigits n=decDigits (n/10)++[UInt8.ofNat (48+n%10)]:=by rw[decDigits,dif_neg h]
theorem zh(n:Nat)(h:n<=9999999):(decDigits n).length<=7:=EK 6 n (by omega)
theorem Gw(n:Nat):n<=2000000->∀w,CD 71 #[.int .i64 (n:Nat)] w (.string ⟨(decDigits n).toArray⟩):=by
 have m:Tryz.prog.follows .mixedOrders=true:=by kernel_rfl
 induction n using Nat.strongRecOn with
 | _ n ih=>
  intro u w;have B:(n:Int)<=2000000:=by omega
  by_cases h:n<10
  .
   obtain⟨y,hy⟩:∃y,48+n=y:=⟨_,rfl⟩;have j:=af (FY h);rw[hy]at j;have r:(n:Int)<10:=by omega
   have e5:(48:Int)+(n:Int)=(y:Int):=by omega
   have t:(y:Int)<58:=by omega
   have G:IntKind.u8.wrap (y:Int)=(y:Int):=by simp only[IntKind.wrap,IntKind.bits,IntKind.signed];simp;omega
   have l:=(uA w w.heap.size y (a0a _) (by omega)).text;have A:=af ((a0c w.heap.size w).alloc (a0a _) (.cells #[.int .u8 (y:Int)] 5));clear hy ih u;go_enter Tryz.func71,Tryz.ntmps71;go_wp2;go_ret;exact⟨by rw[ae j];rfl,ae A⟩
  .
   obtain⟨y,hy⟩:∃y,48+n%10=y:=⟨_,rfl⟩;obtain⟨q,hq⟩:∃q,n/10=q:=⟨_,rfl⟩;have j:=af (MV h);rw[hy,hq]at j;have C:=af (ih q (by omega) (by omega));have r:¬ (n:Int)<10:=by omega
   have F:(q:Int)<=2000000:=by omega
   have e1:Int.tmod (n:Int) 10=(y:Int)-48:=by rw[a2E (by omega)];omega
   have e2:Int.tdiv (n:Int) 10=(q:Int):=by rw[Int.tdiv_eq_ediv_of_nonneg (by omega)];omega
   have e3:(n:Int)%10=(y:Int)-48:=by omega
   have e4:(n:Int)/10=(q:Int):=by omega
   have e5:(48:Int)+((y:Int)-48)=(y:Int):=by omega
   have t:(y:Int)<58:=by omega
   have o:y<256:=by omega
   have G:IntKind.u8.wrap (y:Int)=(y:Int):=by simp only[IntKind.wrap,IntKind.bits,IntKind.signed];simp;omega
   have wq:IntKind.i64.wrap (q:Int)=(q:Int):=by rw[a1e];omega
   have wy:IntKind.i64.wrap (y:Int)=(y:Int):=by rw[a1e];omega
   have z:=zh q (by omega);obtain⟨D,hD⟩:∃D,(⟨(decDigits q).toArray⟩:ByteArray)=D:=⟨_,rfl⟩;have s:D.size<=7:=by rw[←hD];exact z
   have E:¬ 9223372036854775807<D.size+(⟨#[UInt8.ofNat y]⟩:ByteArray).size:=by show ¬ _<D.size+1;omega
   have v:D.size<=9223372036854775806:=by omega
   have g:Hid ((⟨(decDigits n).toArray⟩:ByteArray)=D++⟨#[UInt8.ofNat y]⟩):=by
    show _=_;rw[ae j,←hD];apply bV;simp
   rw[hD]at C;clear hy hq ih u z hD s j;go_enter Tryz.func71,Tryz.ntmps71;go_wp2_with fail;have k:Hid (Below w.heap.size w w.drew):=(a0c _ _).drew;refine wp_region_held_drew (S:=fun W=>Below w.heap.size w W) m (ae k) (fun b=>?_);refine ag 0 (.int .i64 (n:Nat)) rfl (by kernel_rfl) (fun _ _ _ h=>h) rfl (fun W a=>by go_simp) b ?_;refine ag 1 (.int .i64 (q:Nat)) rfl (by kernel_rfl) (fun _ _ _ h=>h) rfl (fun W a=>by go_simp) b ?_;refine ag 3 (.int .i64 (n:Nat)) rfl (by kernel_rfl) (fun _ _ _ h=>h) rfl (fun W a=>by go_simp) b ?_;refine ag 4 (.int .i64 ((y:Int)-48)) rfl (by kernel_rfl) (fun _ _ _ h=>h) rfl (fun W a=>by go_simp) b ?_;refine ag 5 (.int .i64 (y:Int)) rfl (by kernel_rfl) (fun _ _ _ h=>h) rfl (fun W a=>by go_simp) b ?_;refine ag 6 (.int .u8 (y:Int)) rfl (by kernel_rfl) (fun _ _ _ h=>h) rfl (fun W a=>by go_simp) b ?_;refine wpAnyH_ready (rs:=[2,7]) (by kernel_rfl) (by simp) ?_;refine AllReadyH.cons rfl (fun K d=>?_) (AllReadyH.cons rfl (fun K d=>?_) AllReadyH.nil)
   . go_simp;go_at_call 71;refine(ae C _).mono ?_;rintro e x1 ⟨rfl,i⟩;have c:=af (ah (ae k) i);have f:=af ((ae c).alloc (ae c).size (.cells #[.int .u8 (y:Int)] 5));have l:=(uA x1 w.heap.size y (ae c).size o).text;refine Shut.out d _ _ (ae c) (fun b=>?_);clear d K i;refine aj 7 (by kernel_rfl) rfl fun K d=>?_;go_simp;refine Shut.out d _ _ (ae f) (fun b=>?_);clear d K;refine aj 8 (by kernel_rfl) rfl fun K d=>?_;go_simp;refine Shut.out d _ _ (ae f) (fun b=>?_);clear d K;refine ag 9 (.string (D++⟨#[UInt8.ofNat y]⟩)) rfl (by kernel_rfl) (fun _ _ _ h=>h) rfl (fun W a=>by go_simp) b ?_;refine ag 10 (.string (D++⟨#[UInt8.ofNat y]⟩)) rfl (by kernel_rfl) (fun _ _ _ h=>h) rfl (fun W a=>by go_simp) b ?_;refine wpAnyH_done (by kernel_rfl) ?_ _;go_wp2;go_ret;exact⟨by rw[ae g];rfl,ae f⟩
   . go_simp;have f:Hid (Below w.heap.size w (w.alloc (.cells #[.int .u8 (y:Int)] 5)).drew):=((a0c w.heap.size w).alloc (a0a _) _).drew;have p:Hid (bU (w.alloc (.cells #[.int .u8 (y:Int)] 5)).drew w.heap.size (.slice (some ⟨w.heap.size,0,none⟩) 1 1) [UInt8.ofNat y]):=(uA w w.heap.size y (a0a _) o).later (a0c _ _).drew (a0a _);obtain⟨WA,hWA⟩:∃x,(w.alloc (.cells #[.int .u8 (y:Int)] 5)).drew=x:=⟨_,rfl⟩;rw[hWA]at f p;rw[hWA];refine Shut.out d _ _ (ae f) (fun _=>?_);clear d K hWA;refine j7 (S':=fun W=>Below w.heap.size w W/\bU W w.heap.size (.slice (some ⟨w.heap.size,0,none⟩) 1 1) [UInt8.ofNat y]) (fun _ h=>h.1) _ _ _ _ ?_;have b:Below w.heap.size w WA/\bU WA w.heap.size (.slice (some ⟨w.heap.size,0,none⟩) 1 1) [UInt8.ofNat y]:=⟨ae f,ae p⟩;refine ag 8 (.string ⟨#[UInt8.ofNat y]⟩) rfl (by kernel_rfl) (fun _ _ _ h=>h) rfl (fun W a=>by have l:=a.2.text;go_simp) b ?_;refine aj 2 (by kernel_rfl) rfl fun K d=>?_;go_simp;go_at_call 71;refine(ae C _).mono ?_;rintro e x1 ⟨rfl,i⟩;have c:=af (ah (ae f) i);refine Shut.out d _ _ ⟨ae c,(ae p).later i (a0a _)⟩ (fun b=>?_);clear d K i;refine ag 9 (.string (D++⟨#[UInt8.ofNat y]⟩)) rfl (by kernel_rfl) (fun _ _ _ h=>h) rfl (fun W a=>by go_simp) b ?_;refine ag 10 (.string (D++⟨#[UInt8.ofNat y]⟩)) rfl (by kernel_rfl) (fun _ _ _ h=>h) rfl (fun W a=>by go_simp) b ?_;refine wpAnyH_done (by kernel_rfl) ?_ _;go_wp2;go_ret;exact⟨by rw[ae g];rfl,ae c⟩
theorem AL(l:List UInt8):Lib.indexByte l 10 = -1∨∃i:Nat,Lib.indexByte l 10=(i:Int):=by
 have:=Lib.indexByte_ge l 10;by_cases h:Lib.indexByte l 10 = -1
 . exact .inl h
 . exact .inr ⟨(Lib.indexByte l 10).toNat,by omega⟩
def rR(a b:ByteArray):Value:=.agg #[.string a,.string b]
def uN(t l:ByteArray):Value:=match rC l with
 | some x=>.tuple #[rR x ⟨#[]⟩,.bool true]
 | none=>if (dE t).isSome=true then .tuple #[rR t ⟨#[]⟩,.bool true]else .tuple #[rR ⟨#[]⟩ ⟨#[]⟩,.bool false]
theorem yE(w:World)(a b:Array Value)(T1 T2:TypeId):Below w.heap.size w ((w.alloc (.cells a T1)).alloc (.cells b T2))/\Blk ((w.alloc (.cells a T1)).alloc (.cells b T2)) w.heap.size a.toList/\Blk ((w.alloc (.cells a T1)).alloc (.cells b T2)) (w.heap.size+1) b.toList:=by
 have e:(w.alloc (.cells a T1)).heap.size=w.heap.size+1:=by simp
 have c:=aC w a T1;have h2:=aC (w.alloc (.cells a T1)) b T2;rw[e]at h2;exact⟨((a0c _ _).alloc (a0a _) _).alloc (by rw[e];omega) _,c.later ((a0c _ _).alloc (a0a _) _) c.1,h2⟩
def DkS(w W:World)(ps rs:List Value):Prop:=Below w.heap.size w W/\Blk W w.heap.size ps/\Blk W (w.heap.size+1) rs
theorem DkS.later{W':World}{rs:List Value}(h:DkS w W ps rs)(hb:Below W.heap.size W W'):DkS w W' ps rs:=⟨ah h.1 hb,h.2.1.later hb h.2.1.1,h.2.2.later hb h.2.2.1⟩
theorem DkS.drew{rs:List Value}(h:DkS w W ps rs):DkS w W.drew ps rs:=⟨h.1.drew,h.2.1.drew,h.2.2.drew⟩
theorem DkS.put{a b:ByteArray}{u v:Value}(h:DkS w W ps [u,v]):DkS w ((W.setCell ⟨w.heap.size+1,0,none⟩ (.string a)).setCell ⟨w.heap.size+1,1,none⟩ (.string b)) ps [.string a,.string b]:=
 ⟨ai (ai h.1 (by omega) _) (by omega) _,(h.2.1.set_other _ (by omega)).set_other _ (by omega),(h.2.2.set 0 (.string a)).set 1 (.string b)⟩
theorem DkS.put3{a b c:ByteArray}{u v x:Value}(h:DkS w W ps [u,v,x]):DkS w (((W.setCell ⟨w.heap.size+1,0,none⟩ (.string a)).setCell ⟨w.heap.size+1,1,none⟩ (.string b)).setCell ⟨w.heap.size+1,2,none⟩ (.string c)) ps [.string a,.string b,.string c]:=
 ⟨ai (ai (ai h.1 (by omega) _) (by omega) _) (by omega) _,((h.2.1.set_other _ (by omega)).set_other _ (by omega)).set_other _ (by omega),((h.2.2.set 0 (.string a)).set 1 (.string b)).set 2 (.string c)⟩
end Go.Proofs.YtgmfehnnebkaoaaGreatDoor
