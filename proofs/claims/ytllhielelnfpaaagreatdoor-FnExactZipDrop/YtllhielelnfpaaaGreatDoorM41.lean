/- Of what the proof is made: 2 texts, one behind the other. -/
import Derived.Test.YtllhielelnfpaaaGreatDoorM40
set_option maxRecDepth 100000
set_option linter.unusedSimpArgs false
set_option linter.unusedVariables false
set_option maxHeartbeats 6400000
namespace Go.Proofs.YtllhielelnfpaaaGreatDoor
open Go.Proofs.Tryz
open Go.RowKit Corb
variable {b c g k n:Nat}
theorem nO(l:List En)(k:Nat):l.flatMap cR=(l.take k).flatMap cR++(l.drop k).flatMap cR:=by rw[<-a1n,a1u]
theorem take_len{l:List En}(b:l.length=n)(a:k<=n):((l.take k).flatMap cR).length=k*8:=by rw[fR ge,a0w];omega
theorem lP{l:List En}(a:l.length=n):((l.drop k).flatMap cR).length=(n-k)*8:=by rw[fR ge,a04,a]
theorem Kb{W:World}{l:List En}(d:l.length=n)(h:fX W b (.slice (some ⟨g,0,none⟩) n c) l)(k:Nat):∀j u,((l.take k).flatMap cR)[j]?=some u->W.cell? ((⟨g,0,none⟩:Addr).add j)=some u:=fun j u a=>by
 refine a1L (cm.own d h) rfl j u ?_;rw[nO l k,List.getElem?_append_left (List.getElem?_eq_some_iff.1 a).1];exact a
theorem J6{W:World}{l:List En}(a:l.length=n)(h:fX W b (.slice (some ⟨g,0,none⟩) n c) l)(k:Nat)(d:k<=n):∀j u,((l.drop k).flatMap cR)[j]?=some u->W.cell? ((⟨g,k*8,none⟩:Addr).add j)=some u:=fun j u e=>by
 have:=a1L (cm.own a h) rfl (k*8+j) u (by
  rw[nO l k,List.getElem?_append_right (by rw[take_len a d];omega),take_len a d,a10];exact e)
 rw[Addr.add_lit]at this ⊢;rw[a0G]at this;exact this
theorem Au{l:List En}(d:l.length=n)(m:n<=c)(k:Nat)(f:k<n):∃A:Addr,(if c=k+1 then some (⟨g,0,none⟩:Addr)else some ⟨g,(k+1)*8,none⟩)=some A/\Hid (∀W,fX W b (.slice (some ⟨g,0,none⟩) n c) l->∀j u,((l.drop (k+1)).flatMap cR)[j]?=some u->W.cell? (A.add j)=some u):=by
 by_cases h:c=k+1
 . refine⟨⟨g,0,none⟩,a0e h,fun W _ j u i=>?_⟩;have a:=(List.getElem?_eq_some_iff.1 i).1;rw[lP d]at a;omega
 . exact⟨⟨g,(k+1)*8,none⟩,a0d h,fun W e=>J6 d e (k+1) f⟩
theorem pQ{l:List En}(b:l.length=n)(a:k<n):(l.eraseIdx k).length=k+(n-(k+1)):=by rw[List.length_eraseIdx,a0e (by omega)];omega
theorem uX(g c n k:Nat)(l:List En)(ob:Nat)(w:World)(o:l.length=n)(h:fX w ob (.slice (some ⟨g,0,none⟩) n c) l)(V:n<=6)(G:k<n) :
  Calls prog 27 #[.slice (some ⟨g,0,none⟩) n c,.int .i64 (k:Nat)] w fun f w'=>(∃v,f = .returned v/\fX w' w.heap.size v (l.eraseIdx k))/\Below w.heap.size w w':=by
 have L:prog.follows .mixedOrders=true:=by kernel_rfl
 obtain⟨i0,K,q,r,s⟩:=a0p Tryz.infoEnt;obtain⟨_,_,e,O,_⟩:=h.formN o;cases e
 obtain⟨A,X,B⟩:=Au (b:=ob) (g:=g) o O k G;have z:=ae (fun W N=>Kb (W:=W) (b:=ob) (g:=g) (c:=c) o N k);have u:=ae (take_len o (a0A G));have y:=ae (lP (k:=k+1) o);have i:Hid (∀x,x<=40->x<=maxLen/\x*80<=140737488355328):=fun x Y=>by unfold maxLen;omega
 have J:=ae (fun W (hb:Below w.heap.size w W)=>h.later hb (a0a _));have M:Hid (l.eraseIdx k=l.take k++l.drop (k+1)):=List.eraseIdx_eq_take_drop_succ _ _;have t:=ae (pQ o G);have S:(k:Int)<n:=by omega
 have T:(k:Int)<=c:=by omega
 have Q:0<=(k:Int)+1:=by omega
 have R:(k:Int)+1<=n:=by omega
 have U:(n:Int)<=6:=by omega
 have P:(n:Int)<=c:=by omega
 have Z:IntKind.i64.wrap ((k:Int)+1)=(k:Int)+1:=by simp only[IntKind.wrap,IntKind.bits,IntKind.signed];simp;omega
 have d:Hid (Below w.heap.size w (w.drew.alloc (.cells #[] 31))):=(a0c _ _).drew.alloc (a0a _) _;clear h o;go_enter func27,ntmps27;go_wp2_with fail
 go_region_law (first
  | (refine aK rfl (.tmp 5) (.tmp 8) 38 rfl w.heap.size 31 i0 (.agg #[.string ⟨#[]⟩,.int .i64 0,.int .i64 0,.int .i64 0,.int .i64 0,.int .i64 0,.int .i64 0,.string ⟨#[]⟩]) 8 80 a2R K q r s rfl (by decide) (.slice (some ⟨w.heap.size,0,none⟩) 0 0) 0 [] (by simp[Act.eval]) (a05 w.drew #[] 0 (a0a _) (by unfold maxLen;omega) rfl) ⟨g,0,none⟩ k c ((l.take k).flatMap cR) (by simp[Act.eval]) (ab u) (ab z _ (ab J _ (ab d))) (pM _) (ab i _ (by omega)).1 (ab i _ (by omega)).2 (ab d).size ?_;intro v1 x1 a D H;clear H;have m:=(ab d).grown D (ab d).size (fun j F=>by cases F;exact a0a _))
  | (refine aK rfl (.tmp 9) (.tmp 13) 38 rfl w.heap.size 31 i0 (.agg #[.string ⟨#[]⟩,.int .i64 0,.int .i64 0,.int .i64 0,.int .i64 0,.int .i64 0,.int .i64 0,.string ⟨#[]⟩]) 8 80 a2R K q r s rfl (by decide) v1 (0+k) ([]++(l.take k).flatMap cR) (by simp[Act.eval]) a A (n-(k+1)) (c-(k+1)) ((l.drop (k+1)).flatMap cR) (by simp[Act.eval]) (ab y) (ab B _ (ab J _ m)) (pM _) (ab i _ (by omega)).1 (ab i _ (by omega)).2 m.size ?_;intro v2 x2 p E I;clear I;have C:=m.grown E m.size (fun j F=>(a0B a j F).1)))
 go_wp2;go_ret;refine⟨⟨v2,rfl,?_⟩,C⟩;show World.ownsRow _ _ _ _ _ _ _;rw[ab t,ab M,a1n];simpa using p
theorem nY(w:World)(g:Nat)(vs:List Value)(o:Nat):setMany w g o vs=w.setCells g o vs:=by
 induction vs generalizing w o with
 | nil=>rfl
 | cons v vs ih=>exact ih _ _
theorem Fh{P:Program}(w:World)(t e ty:TypeId)(z:Value)(l:P.underlying t=some (.slice e))(m:∀w,(zeroValue e).run P w = .ok z w)(f:∀u∈z.cells.toList,u.oneCell'=true)(b o n c:Nat)(k:n=1)
  (g:∀j,j<z.cells.size->(w.cell? ⟨b,o+j,none⟩).isSome=true) (h:∀j,j<z.cells.size->w.frozen? ⟨b,o+j,none⟩=false) :
  (Builtin.clear_ #[t] ty #[.slice (some ⟨b,o,none⟩) n c]).run P w = .ok (.tuple #[]) (w.setCells b o z.cells.toList):=by
 subst k;have d:(Builtin.zeroCells z.cells 1).toList=z.cells.toList:=by
  apply a2j
  . simp[Builtin.zeroCells]
  .
   intro i a1 a2;have:i<z.cells.size:=by simpa using a2
   simp[Builtin.zeroCells,a1i this];rw[getElem!_pos z.cells i this]
 have a:=run_storeCells_cells (P:=P) b o z.cells.toList 0 w (by simpa using g) (by simpa using h) f;simp only[a1w]at a;simp[Builtin.clear_,a1J l,m,d,a]
theorem J9{w:World}{l:List En}{e:En}{m:Nat}(o:l.length=m)(p:m+1=n)(h:fX w b (.slice (some ⟨g,0,none⟩) n c) (l++[e])):fX w b (.slice (some ⟨g,0,none⟩) m c) l:=by
 subst o p;rcases h.2 with⟨e0,_⟩|⟨g',cap,a,e0,i,h2,d,j,k,f⟩
 . cases e0
 .
  simp only[a0I,a0k,a0z,a0P]at e0;obtain⟨rfl,_,rfl⟩:=e0;rw[a0j]at d f;refine⟨fR ge l,.inr ⟨g,c,a,rfl,i,h2,by simp at d;omega,j,k,?_⟩⟩;have e1:(l.flatMap cR).length=l.length*8:=fR ge l;have e2:(l.flatMap cR).take (l.length*8)=l.flatMap cR:=a0s (by rw[e1];exact a0a _);have:=congrArg (List.take (l.length*8)) f;rw[a2L,a1n,a1o (by rw[e1];exact a0a _),e2]at this;rw[<-this]
  congr 1
  simp<;>omega
theorem IH(l:List En)(k n:Nat)(a:l.length=n)(e:k<n)(z:En):xT (xT (l.flatMap cR) (k*8) ((l.drop (k+1)).flatMap cR)) ((k+(n-(k+1)))*8) (cR z)=(l.eraseIdx k++[z]).flatMap cR:=by
 have hd:=lP (k:=k+1) a;have b:(l.flatMap cR).length=n*8:=by rw[fR ge,a]
 have d:(l.flatMap cR).take (k*8)=(l.take k).flatMap cR:=by
  rw[nO l k,a1o (by rw[take_len a (by omega)];exact a0a _),a0s (by rw[take_len a (by omega)];exact a0a _)]
 have c:=take_len (l:=l) (k:=k) a (by omega);have e1:((l.take k).flatMap cR++(l.drop (k+1)).flatMap cR).length=(k+(n-(k+1)))*8:=by rw[a0j,c,hd];omega
 have e2:((l.take k).flatMap cR++(l.drop (k+1)).flatMap cR++(l.flatMap cR).drop (k*8+(n-(k+1))*8)).take ((k+(n-(k+1)))*8)=(l.take k).flatMap cR++(l.drop (k+1)).flatMap cR:=by
  rw[a1o (by rw[e1];exact a0a _)];exact a0s (by rw[e1];exact a0a _)
 have e4:((l.take k).flatMap cR++(l.drop (k+1)).flatMap cR++(l.flatMap cR).drop (k*8+(n-(k+1))*8)).length=n*8:=by rw[a0j,e1,a04,b];omega
 have e3:((l.take k).flatMap cR++(l.drop (k+1)).flatMap cR++(l.flatMap cR).drop (k*8+(n-(k+1))*8)).drop ((k+(n-(k+1)))*8+8)=[]:=a23 (by rw[e4];omega);rw[xU _ _ (k*8) (by rw[hd,b];omega),d,hd,xU _ _ _ (by rw[e4,ge];omega),ge,e2,e3];rw[a1b,List.eraseIdx_eq_take_drop_succ,a1n,a1n];simp
theorem Ce(g c n k:Nat)(l:List En)(b:Nat)(w:World)(a:l.length=n)(h:fX w b (.slice (some ⟨g,0,none⟩) n c) l)(P:n<=6)(p:k<n) :
  Calls prog 52 #[.slice (some ⟨g,0,none⟩) n c,.int .i64 (k:Nat),.int .i64 ((k:Int)+1)] w fun f w'=>f = .returned (.slice (some ⟨g,0,none⟩) (k+(n-(k+1))) c)/\fX w' b (.slice (some ⟨g,0,none⟩) (k+(n-(k+1))) c) (l.eraseIdx k)/\Below b w w':=by
 have v:prog.follows .mixedOrders=true:=by kernel_rfl
 obtain⟨i0,F,N,u,O⟩:=a0p Tryz.infoEnt;obtain⟨_,_,e,B,t⟩:=h.formN a;cases e
 unfold maxLen at t;obtain⟨A,Q,s⟩:=Au (b:=b) (g:=g) a B k p;have q:=ae (lP (k:=k+1) a);have hd:fX w.drew b (.slice (some ⟨g,0,none⟩) n c) l:=h;have r:Hid (∀j,j<((l.drop (k+1)).flatMap cR).length->(w.drew.cell? ⟨g,0+k*8+j,none⟩).isSome=true/\w.drew.frozen? ⟨g,0+k*8+j,none⟩=false):=fun j o=>by
  rw[lP a]at o;have d:=cm.own a hd;refine⟨?_,a1X d _⟩;rw[a0Y d _ (by omega),List.getElem?_eq_getElem (by rw[fR ge,a];omega)];rfl
 obtain⟨W1,hW1⟩:∃W,W=w.drew.setCells g (0+k*8) ((l.drop (k+1)).flatMap cR):=⟨_,rfl⟩;have m:Below b w W1:=by rw[hW1,<-nY];exact sB (a0c _ _).drew h.below.1 _ _
 have d:W1.ownsRow b 31 8 (.slice (some ⟨g,0,none⟩) n c) n (xT (l.flatMap cR) (k*8) ((l.drop (k+1)).flatMap cR)):=by
  rw[hW1,<-nY,a0G];exact me _ _ (cm.own a hd)
 have E:∀ty,(Builtin.clear_ #[38] ty #[.slice (some ⟨g,(k+(n-(k+1)))*8,none⟩) (n-(k+(n-(k+1)))) (c-(k+(n-(k+1))))]).run prog W1 = .ok (.tuple #[]) (W1.setCells g ((k+(n-(k+1)))*8) (Value.cells (.agg #[.string ⟨#[]⟩,.int .i64 0,.int .i64 0,.int .i64 0,.int .i64 0,.int .i64 0,.int .i64 0,.string ⟨#[]⟩])).toList):=fun ty=>by
  refine Fh W1 _ _ ty (.agg #[.string ⟨#[]⟩,.int .i64 0,.int .i64 0,.int .i64 0,.int .i64 0,.int .i64 0,.int .i64 0,.string ⟨#[]⟩]) a2R (fun w=>by kernel_rfl) (oI default) g _ _ _ (by omega) (fun j o=>?_) (fun j o=>a1X d _);have G:j<8:=o;rw[a0Y d _ (by omega),List.getElem?_eq_getElem (by rw[d.1];omega)];rfl
 have i:Hid (fX (W1.setCells g ((k+(n-(k+1)))*8) (Value.cells (.agg #[.string ⟨#[]⟩,.int .i64 0,.int .i64 0,.int .i64 0,.int .i64 0,.int .i64 0,.int .i64 0,.string ⟨#[]⟩])).toList) b (.slice (some ⟨g,0,none⟩) (k+(n-(k+1))) c) (l.eraseIdx k)/\Below b w (W1.setCells g ((k+(n-(k+1)))*8) (Value.cells (.agg #[.string ⟨#[]⟩,.int .i64 0,.int .i64 0,.int .i64 0,.int .i64 0,.int .i64 0,.int .i64 0,.string ⟨#[]⟩])).toList)):=by
  rw[<-nY];refine⟨J9 (e:=default) (pQ a p) (n:=n) (by omega) ?_,sB m h.below.1 _ _⟩;have h2:=me (cR default) ((k+(n-(k+1)))*8) d;rw[IH l k n a p default]at h2;show World.ownsRow _ _ _ _ _ _ _;rw[a0j,pQ a p,show k+(n-(k+1))+[(default:En)].length=n by simp;omega];exact h2
 have y:=ae hW1;have x:=ae hd;have J:(k:Int)<n:=by omega
 have K:(k:Int)<=c:=by omega
 have H:0<=(k:Int)+1:=by omega
 have I:(k:Int)+1<=n:=by omega
 have L:(n:Int)<=6:=by omega
 have C:(n:Int)<=c:=by omega
 have D:(c:Int)<=9223372036854775807:=by omega
 have M:¬ c=k+(n-(k+1)):=by omega
 have z:¬ (k:Int)=k+1:=by omega
 clear h a hW1 d m hd;go_enter func52,ntmps52;go_wp2_with fail
 go_region_law (refine step_append_room rfl (.tmp 22) (.tmp 25) 38 rfl 31 i0 8 a2R F u g 0 k c (by simp[Act.eval,Act.put]) A (n-(k+1)) (c-(k+1)) ((l.drop (k+1)).flatMap cR) (by simp[Act.eval,Act.put]) (ab q) (ab s _ (ab x)) (pM _) (by omega) (ab r) ?_;rw[<-ab y])
 go_wp2;go_ret;exact⟨rfl,ab i⟩
theorem Ed{x:ByteArray}{l:List En}(h:atN l x=(k:Int)):jc x l=(0,l.eraseIdx k):=by unfold jc;rw[a0d (by omega),h,a0r]
theorem yW{x:ByteArray}{l:List En}(h:atN l x = -1):jc x l=(2,[]):=by unfold jc;rw[a0e (by omega)]
theorem wR(x:ByteArray)(v:Value)(l:List En)(bx b:Nat)(w:World)(h:fX w b v l)(E:dm l=true)(hb:b<=w.heap.size)(D:w.cell? ⟨bx,0,none⟩=some (.string x)) :
  Calls prog 50 #[v,.pointer (some ⟨bx,0,none⟩)] w (Ia b w (jc x l)):=by
 obtain⟨n,hn⟩:∃n,l.length=n:=⟨_,rfl⟩;obtain⟨a,c,rfl,F,_⟩:=h.formN hn;have C:(n:Int)<=6:=by have:=(jO E).2;omega
 have s:=ae (wV a c l n hn x w (kb hn h) (by omega));have t:=ae h;have u:=ae hn;have z:=ae hb;clear h hn hb;go_enter func50,ntmps50;go_wp2_with fail;refine(ab s).mono ?_;rintro f x2 ⟨rfl,d⟩;have i:=ae (d.mono (ab z));have j:=ae ((ab t).later d (a0a _));clear s d t D;rcases Io l x with e|⟨k,A,e⟩
 .
  have o:Hid ((jc x l).1=2):=by show _=_;rw[yW e]
  rw[Eh (by omega)];clear e;go_wp2
  go_ret2
  exact LA (ab o) (by decide) (ab i)
 .
  have o:=ae (Ed e);rw[y9 (by omega),e];have r:k<n:=by have:=ab u;omega
  have B:(k:Int)<n:=by omega
  obtain⟨g,rfl⟩:=(ab j).somes (by omega);have CD:=ae (Ce g c n k l b x2 (ab u) (ab j) (by omega) r);clear e A;go_wp2_with fail;refine(ab CD).mono ?_;rintro f x3 ⟨rfl,y,m⟩;have q:=ae y;have p:=ae ((ab i).trans m);clear y m CD;go_wp2
  go_ret2
  refine⟨⟨.slice (some ⟨g,0,none⟩) (k+(n-(k+1))) c,?_,⟨_,_,_,rfl⟩,fun _=>?_⟩,ab p⟩
  . rw[ab o];rfl
  . rw[ab o];exact ab q
theorem wS(s:ByteArray)(d:List En->Int×List En)(bx:Nat)(m:Int)(w:World)(R:s.size<=1048576)(I:w.cell? ⟨2,0,none⟩=some (.int .i64 m))(M:pE w)(L:dO w)
  (hd:∀l,dm l=true->(d l).1=0->dm (d l).2=true)
  (X:∀W v l,dP s=some l->Below w.heap.size w W->fX W w.heap.size v l->Calls prog 50 #[v,.pointer (some ⟨bx,0,none⟩)] W (Ia w.heap.size W (d l))) :
  Calls prog 24 #[.string s,.func (.func 50) #[] #[.pointer (some ⟨bx,0,none⟩)]] w fun f w'=>f = .returned (edR s d)/\Below w.heap.size w w':=by
 have C:=ae (te s m w R I M L);have Z:=ae I;have P:=ae (World.block_lt_of_cell? _ _ I);have Y:=ae (fun W (hb:Below w.heap.size w W)=>(hb.cell (p:=⟨2,0,none⟩) (ab P)).trans (ab Z));have V:=ae (fun W (hb:Below w.heap.size w W)=>M.later hb);have J:=ae (fun W (hb:Below w.heap.size w W)=>L.later hb);have U:=ae X;have Hd:=ae hd;have HS:=ae R;clear R I M L hd X;go_enter func24,ntmps24;go_wp2_with fail;refine(ab C).mono ?_;rintro f x1 ⟨⟨v,rfl,b⟩,h⟩;have B:=ae h;clear C;rcases z:dP s with _|l
 .
  have D:=ae (Ef z d);clear z b h;go_wp2
  go_ret2
  exact⟨by rw[ab D];rfl,ab B⟩
 .
  rw[z]at b;have CD:=ae (ab U x1 v l z h b);have K:=ae z;clear z b h U;go_wp2_with fail;refine(ab CD).mono ?_;rintro f x2 ⟨⟨v2,rfl,⟨a,n,c,rfl⟩,G⟩,E⟩;have o:=ae ((ab B).trans E);have A:=ae (my (d l).1 x2 (ab V _ (ab o)));have H:=ae G;clear E G CD;obtain⟨q,hq⟩:∃q,d l=q:=⟨_,rfl⟩;have Hq:=ae hq;rw[hq]at A H;rw[hq];clear hq;obtain⟨k,r⟩:=q;simp only at A H;simp only;obtain⟨FV,hFV⟩:∃x,eq k=x:=⟨_,rfl⟩;rw[hFV]at A;rw[hFV];clear hFV;go_wp2_with fail;refine(ab A).mono ?_;rintro f x3 ⟨rfl,u⟩;have e:=ae (aj (ab o) u);have j:=ae u;clear u A;by_cases O:k=0
  .
   subst O;have y:dm r=true:=by have:=ab Hd l (yg (ab K)) (by rw[ab Hq]);rw[ab Hq]at this;exact this
   have Q:fX x2 w.heap.size (.slice a n c) r:=ab H rfl;obtain⟨N,hN⟩:∃n,r.length=n:=⟨_,rfl⟩;obtain⟨a',c',e',aa,_⟩:=Q.formN hN;cases e'
   have F:=Q.later (ab j) (a0a _);have h6:=(jO y).2;have T:=ae (tf a c r n hN m x3 (kb hN F) (by omega) (by omega) (fun i hi=>H9 y i (by omega)) (ab Y _ (ab e)) (ab V _ (ab e)) (ab J _ (ab e)));have D:=ae (IP (ab K) (ab Hq));clear y Q F h6 H j o;go_wp2_with fail;refine(ab T).mono ?_;rintro f x4 ⟨rfl,g⟩;have t:=ae (aj (ab e) g);clear g T;go_wp2
   go_ret2
   exact⟨by rw[ab D];rfl,ab t⟩
  .
   have D:=ae (MX (ab K) (ab Hq) O);have S:=ae (fun W=>om s W (by have:=ab HS;omega));have hd:decide (k=0)=false:=a0h O;go_wp2_with fail;refine(ab S _).mono ?_;rintro f x4 ⟨rfl,g⟩;have t:=ae (aj (ab e) g);clear g S;go_wp2
   go_ret2
   exact⟨by rw[ab D];rfl,ab t⟩
theorem wU(x:ByteArray)(w:World) :
  Calls prog 28 #[.string x] w fun f w'=>f = .returned (.func (.func 50) #[] #[.pointer (some ⟨w.heap.size,0,none⟩)])/\w'=w.alloc (.cells #[.string x] 9):=by
 go_enter func28,ntmps28;go_wp2;go_ret;exact⟨rfl,rfl⟩
theorem rN(s x:ByteArray)(m:Int)(w:World)(o:s.size<=1048576)(e:w.cell? ⟨2,0,none⟩=some (.int .i64 m))(n:pE w)(j:dO w) :
  Calls prog 13 #[.string s,.string x] w fun f w'=>f = .returned (edR s (jc x))/\Below w.heap.size w w':=by
 have b:=ae ((a0c w.heap.size w).alloc (a0a _) (.cells #[.string x] 9));have g:=(aQ w #[.string x] 9).cell 0 _ rfl;have CD:=ae (wS s (jc x) w.heap.size m _ o (((ab b).cell (p:=⟨2,0,none⟩) (World.block_lt_of_cell? _ _ e)).trans e) (n.later (ab b)) (j.later (ab b)) (fun _ h r=>LD h r)
   (fun _ v l y a u=>wR x v l w.heap.size _ _ u (yg y) a.size ((a.cell (p:=⟨w.heap.size,0,none⟩) (World.block_lt_of_cell? _ _ g)).trans g)))
 clear o e n j g;go_enter func13,ntmps13;go_wp2_with fail;refine(wU x _).mono ?_;rintro f x1 ⟨rfl,i⟩;subst i;go_wp2_with fail;refine(ab CD).mono ?_;rintro f x2 ⟨rfl,a⟩;have c:=ae (aj (ab b) a);clear a CD b;obtain⟨t,k,d⟩:=Ee s (jc x);have q:=ae d;rw[d];clear d;go_wp2
 go_ret2
 exact⟨by rw[ab q];rfl,ab c⟩
theorem rU(s x:ByteArray)(w:World)(K:s.size<=1048576) :
  Calls prog 12 #[.string s,.string x] w fun f w'=>f = .returned (edR s (jc x))/\Below w.heap.size w w':=by
 have C:=ae (uz s w K);have M:=Lg (s:=s);clear K;go_enter func12,ntmps12;go_wp2_with fail;refine(ab C).mono ?_;rintro f x1 ⟨⟨v,rfl,b⟩,m⟩;have d:=ae m;obtain⟨L,hL⟩:∃l,(dP s).getD []=l:=⟨_,rfl⟩;rw[hL]at b M;obtain⟨n,hn⟩:∃n,L.length=n:=⟨_,rfl⟩;obtain⟨a,c,rfl,N,_⟩:=b.formN hn;have Q:(n:Int)<=6:=by omega
 have E:=ae (zG a c L n hn x x1 (kb hn b) (by omega));have H:=ae hL;have I:=ae b;have J:=ae hn;clear m C b hL N M;go_wp2_with fail;refine(ab E).mono ?_;rintro f x2 ⟨rfl,D⟩;subst D;clear E;rcases q:dP s with _|l
 .
  have j:=ae (Ef q (jc x));clear q;go_wp2
  go_ret2
  exact⟨by rw[ab j];rfl,ab d⟩
 .
  obtain rfl:l=L:=by have:=ab H;rw[q]at this;exact this
  have y:=ae q;clear q H;rcases Io l x with h|⟨k,O,h⟩
  .
   have j:=ae (MX (ab y) (yW h) (by decide));rw[h];clear h;go_wp2
   go_ret2
   exact⟨by rw[ab j];rfl,ab d⟩
  .
   have hd:=Ed h;have j:=ae (IP (ab y) hd);have r:dm (l.eraseIdx k)=true:=wv (yg (ab y)) k;rw[h];have B:k<n:=by have:=ab J;omega
   have P:(k:Int)<n:=by omega
   obtain⟨g,rfl⟩:=(ab I).somes (by omega);have G:=ae (uX g c n k l _ _ (ab J) (ab I) (by omega) B);have z:=ae r;clear h O hd r;go_wp2_with fail;refine(ab G).mono ?_;rintro f x3 ⟨⟨v3,rfl,e⟩,o⟩;have t:=ae (aj (ab d) o);obtain⟨n3,hn3⟩:∃n,(l.eraseIdx k).length=n:=⟨_,rfl⟩;obtain⟨a3,c3,rfl,_,_⟩:=e.formN hn3;have F:=ae (FZ a3 c3 n3 (l.eraseIdx k) x3 hn3 (kb hn3 e) (by have:=(jO (ab z)).2;omega) (fun i R=>IY (ab z) (by omega)));have A:=ae (MU (ab z) hn3);clear o G e hn3;go_wp2_with fail;refine(ab F).mono ?_;rintro f x4 ⟨rfl,p⟩;have u:=ae (aj (ab t) p);rw[<-ab A];clear p F;go_wp2
   go_ret2
   exact⟨by rw[ab j];rfl,ab u⟩
theorem sO(s x:ByteArray)(m:Int)(w:World)(q:s.size<=9223372036854775807)(_ht:x.size<=9223372036854775807)(i:w.cell? ⟨2,0,none⟩=some (.int .i64 m))(n:pE w)(l:dO w) :
  Ds 4 #[.string s,.string x] w (.bool true):=by
 by_cases o:(1048576:Int)<s.size
 . go_enter func4,ntmps4;go_wp2;go_ret;exact⟨rfl,a0c _ _⟩
 .
  by_cases h2:(1048576:Int)<x.size
  . go_enter func4,ntmps4;go_wp2;go_ret;exact⟨rfl,a0c _ _⟩
  . have k:=ae (rU s x w (by omega));have j:=ae (fun W (hb:Below w.heap.size w W)=>rN s x m W (by omega) ((hb.cell (p:=⟨2,0,none⟩) (World.block_lt_of_cell? _ _ i)).trans i) (n.later hb) (l.later hb));clear i n l;go_enter func4,ntmps4;go_wp2_with fail;refine(ab k).mono ?_;rintro e x1 ⟨rfl,b⟩;have f:=ae b;have a:=ae (ab j x1 b);clear b k j;obtain⟨T,c,h⟩:=Ee s (jc x);rw[h]at a;rw[h];clear h;go_wp2_with fail;refine(ab a).mono ?_;rintro e x2 ⟨rfl,d⟩;have g:=ae (aj (ab f) d);clear d a;go_wp2;go_ret;exact⟨rfl,ab g⟩
end Go.Proofs.YtllhielelnfpaaaGreatDoor
