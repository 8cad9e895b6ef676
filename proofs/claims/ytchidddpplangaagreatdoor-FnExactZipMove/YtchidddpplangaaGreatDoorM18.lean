/- Of what the proof is made: 2 texts, one behind the other. -/
import Derived.Test.YtchidddpplangaaGreatDoorM2
import Derived.Test.YtchidddpplangaaGreatDoorM9
set_option maxRecDepth 100000
set_option linter.unusedSimpArgs false
set_option linter.unusedVariables false
set_option maxHeartbeats 4000000
namespace Go.Proofs.YtchidddpplangaaGreatDoor
open Go.Proofs.Tryz
open Go.RowKit
variable {Q:List (List UInt8)}{p:ByteArray}{x:List UInt8}
theorem Mb{t:List UInt8}(h:Q++[x]=dr [] t):dr [] (t++[47])=(Q++[x])++[[]]:=by
 rw[mX,a0e rfl,h]
theorem NT{t:List UInt8}{b:UInt8}(h:Q++[x]=dr [] t)(hb:¬ b=47):dr [] (t++[b])=Q++[x++[b]]:=by
 rw[mX,a0d hb,←h];simp
theorem xD(s:ByteArray)(f k:Nat):(s.extract f k).data.toList=(s.data.toList.take k).drop f:=by
 rw[Lib.extract_data];simp[a3P]
theorem Mj(s:ByteArray)(f k:Nat)(c:f<=k)(b:k<s.size):(s.extract f (k+1)).data.toList=(s.extract f k).data.toList++[s[k]]:=by
 have a:k<s.data.toList.length:=by simpa using b
 rw[xD,xD,a1b a,List.drop_append_of_le_length (by simp;omega)];rfl
theorem uR(s:ByteArray)(k:Nat)(b:k<s.size):s.data.toList.take (k+1)=s.data.toList.take k++[s[k]]:=by
 have a:k<s.data.toList.length:=by simpa using b
 rw[a1b a];rfl
theorem Mi(s:ByteArray)(k:Nat):(s.extract k k).data.toList=[]:=by
 rw[xD];simp
theorem Lj(s:ByteArray)(k:Nat)(a:k<s.size)(hb:s[k].toNat=47)(h:Q++[x]=dr [] (s.data.toList.take k)):dr [] (s.data.toList.take (k+1))=(Q++[x])++[[]]:=by
 have e:s[k]=47:=UInt8.toNat_inj.1 hb;rw[uR s k a,e];exact Mb h
theorem M9(s:ByteArray)(f k:Nat)(b:f<=k)(a:k<s.size)(hb:¬ s[k].toNat=47)(h:Q++[(s.extract f k).data.toList]=dr [] (s.data.toList.take k)):dr [] (s.data.toList.take (k+1))=Q++[(s.extract f (k+1)).data.toList]:=by
 have e:¬ s[k]=47:=fun e=>hb (by rw[e];rfl);rw[uR s k a,Mj s f k b a];exact NT h e
theorem Gn(s:ByteArray)(w:World)(M:s.size<=1048576) :
  Calls prog 39 #[.string s,.int .u8 47,.int .i64 ((s.size:Int)+1)] w fun e w'=>∃v P,e = .returned v/\dy w' w.heap.size v P/\P.map (·.data.toList)=nE s.data.toList/\Below w.heap.size w w':=by
 obtain⟨i0,K,A,B,C⟩:=a0o Tryz.infoStr;have X:(s.size:Int)<=1048576:=by omega
 have F:=ae M;have H:=ae (dy.lit w w.heap.size (a0a _));have G:Hid (Below w.heap.size w (w.alloc (.cells #[] 9))):=(a0c _ _).alloc (a0a _) _;clear M;go_enter func39,ntmps39;go_wp2_with fail
 go_loopw [7,8,9] (fun v fr i wr=>∃(k f:Nat) (P:List ByteArray),k<=s.size/\f<=k/\i = .int .i64 k/\fr = .int .i64 f/\dy wr w.heap.size v P/\P.length<=k/\P.map (·.data.toList)++[(s.extract f k).data.toList]=dr [] (s.data.toList.take k)/\Below w.heap.size w wr) (fun _ _ i _=>s.size-(intOf i).toNat)
 case atStart=>exact⟨0,0,[],a0g _,a0a _,rfl,rfl,ab H,a0a _,by simp[dr],ab G⟩
 case round=>
  obtain⟨k,f,P,S,Q,rfl,rfl,hq,t,q,j⟩:=hrel;obtain⟨m,hm⟩:∃m,P.length=m:=⟨_,rfl⟩;rw[hm]at t;have V:(m:Int)<=(k:Int):=by omega
  have T:(k:Int)<=(s.size:Int):=by omega
  have R:(f:Int)<=(k:Int):=by omega
  have y:=ae hm;obtain⟨va,vc,rfl⟩:=hq.formN hm;have n:=ae (hq.own hm);have p:=j.size;have d:=ae j;have g:=ae q;have I:=ae Q;have N:=ae S;have D:Hid (m+1<=maxLen/\(m+1)*16<=140737488355328):=by have:=ab F;show _/\_;unfold maxLen;omega
  have z:=ae t;clear hq j hm q t;by_cases u:k<s.size
  .
   have L:(k:Int)<(s.size:Int):=by omega
   have W:(m:Int)<(s.size:Int)+1:=by omega
   have o:=ae u;by_cases hb:s[k].toNat=47
   .
    have E:=ae (Lj s k u hb (ab g));go_wp2_with (at_builtin;refine a0r _ rfl _ _ 72 rfl w.heap.size 9 i0 (.string ByteArray.empty) 1 16 underlying72 K A B C rfl (by decide) _ _ _ rfl (a0k (ab n) _) ⟨wr.heap.size,0,none⟩ 1 1 [.string (s.extract f k)] rfl rfl (bE _ _ rfl _ _) (Fa _) (ab D).1 (ab D).2 (ao p _) ?_;intro v' x2 c a l;clear l);have h:=aC (v:=.slice va m vc) a (ab n) (a0a _) p (ab d);have x:=ae (kO (b:=s.extract f k) (ab y) c);have r:=ae h;clear c a h;go_wp2;go_roundw
    case rel=>
     refine⟨k+1,k+1,P++[s.extract f k],by have:=ab o;omega,a0a _,by go_num,by go_num,ab x,by have:=ab y;have:=ab z;simp;omega,?_,ab r⟩;rw[ab E,Mi];simp
    case measure=>have:=ab o;simp[intOf];omega
   .
    have O:¬ (s[k].toNat:Int)=47:=by omega
    have E:=ae (M9 s f k (ab I) u hb (ab g));go_wp2;go_roundw
    case rel=>
     refine⟨k+1,f,P,by have:=ab o;omega,by have:=ab I;omega,by go_num,rfl,?_,by have:=ab y;have:=ab z;omega,?_,ab d⟩
     . have:=ab n;rw[←ab y]at this ⊢;exact this
     . rw[ab E]
    case measure=>have:=ab o;simp[intOf];omega
  .
   obtain rfl:k=s.size:=by have:=ab N;omega
   go_wp2_with (at_builtin;refine a0r _ rfl _ _ 72 rfl w.heap.size 9 i0 (.string ByteArray.empty) 1 16 underlying72 K A B C rfl (by decide) _ _ _ rfl (a0k (ab n) _) ⟨wr.heap.size,0,none⟩ 1 1 [.string (s.extract f s.size)] rfl rfl (bE _ _ rfl _ _) (Fa _) (ab D).1 (ab D).2 (ao p _) ?_;intro v' x2 c a l;clear l);have h:=aC (v:=.slice va m vc) a (ab n) (a0a _) p (ab d);have x:=ae (kO (b:=s.extract f s.size) (ab y) c);have r:=ae h;clear c a h;go_wp2;go_ret;refine⟨_,_,rfl,ab x,?_,ab r⟩;have J:=ab g;have U:s.data.toList.take s.size=s.data.toList:=a0u (by simp);rw[U]at J;rw[a0I];exact J
theorem E9(b:UInt8):okB b=true<->(97<=b.toNat/\b.toNat<=122)∨(48<=b.toNat/\b.toNat<=57)∨b.toNat=46∨b.toNat=45∨b.toNat=95:=by
 simp[okB]
theorem nn{p:ByteArray}{m:Nat}(a:m<p.size)(h:okB p[m]=false):fD p.data.toList=false:=by
 have:p.data.toList.all okB=false:=by
  rw[a3Q];refine⟨p[m],?_,by simp[h]⟩;have e:p[m]=p.data.toList[m]'(by simpa using a):=rfl;rw[e];exact a19 _
 simp[fD,this]
theorem qE(h:inB (p.size:Int) 1 10=false):fD p.data.toList=false:=by
 have hb:=dN.1 h;have e:p.data.toList.length=p.size:=by simp
 have:(decide (1<=p.data.toList.length)&&decide (p.data.toList.length<=10))=false:=by rw[e];simp;omega
 simp only[fD];rw[←Bool.and_assoc (decide _),this];simp
theorem Fg(h:∀j (c:j<p.size),okB p[j]=true)(d:inB (p.size:Int) 1 10=true)(b:(p.toList == [46])=false)(h2:(p.toList == [46,46])=false):fD p.data.toList=true:=by
 obtain⟨g,i⟩:=aB.1 d;have e:p.data.toList.length=p.size:=by simp
 have a:p.data.toList.all okB=true:=by
  rw[a1a];intro x f;obtain⟨j,c,rfl⟩:=a1z f;exact h j (by rw[←e];exact c)
 rw[a1H]at b h2;simp only[fD,a,b,h2,e];simp;omega
theorem Bb(h:(p.toList == [46])=true):fD p.data.toList=false:=by
 rw[a1H]at h;rw[a2N.1 h];decide
theorem wu(h:(p.toList == [46,46])=true):fD p.data.toList=false:=by
 rw[a1H]at h;rw[a2N.1 h];decide
theorem E7{s:ByteArray}{l:List ByteArray}(b:l.map (·.data.toList)=nE s.data.toList){j:Nat}(a:j<l.length)(h:fD (l.getD j ByteArray.empty).data.toList=false):gu s.data.toList=false:=by
 have:(nE s.data.toList).all fD=false:=by
  rw[←b,a3Q];refine⟨(l.getD j ByteArray.empty).data.toList,?_,by rw[h];simp⟩;rw[a2H];exact⟨l.getD j ByteArray.empty,by simp[List.getD,a],rfl⟩
 simp[gu,this]
theorem AD{s:ByteArray}{l:List ByteArray}(b:l.map (·.data.toList)=nE s.data.toList)(h:∀j,j<l.length->fD (l.getD j ByteArray.empty).data.toList=true):gu s.data.toList=decide (l.length<=4):=by
 have e:(nE s.data.toList).length=l.length:=by rw[←b];simp
 have:(nE s.data.toList).all fD=true:=by
  rw[←b,a1a];intro x c;rw[a2H]at c;obtain⟨y,d,rfl⟩:=c;obtain⟨j,a,rfl⟩:=a1z d;have:=h j a;simpa[List.getD,a]using this
 simp[gu,this,e]
theorem mZ:∀(l cur x:List UInt8),x∈dr cur l->x.length<=cur.length+l.length
 | [],cur,x,h=>by simp[dr]at h;subst h;simp
 | b :: l,cur,x,h=>by
  unfold dr at h
  split at h
  .
   rcases a0U.1 h with rfl|h
   . simp
   . have:=mZ l [] x h;simp at this ⊢;omega
  . have:=mZ l (cur++[b]) x h;simp at this ⊢;omega
theorem mH(s:ByteArray)(w:World)(hs:s.size<=1048576) :
  Ds 18 #[.string s] w (.bool (gu s.data.toList)):=by
 have F:=ae hs;have ac:(s.size:Int)<=1048576:=by omega
 clear hs;go_enter func18,ntmps18;go_wp2_with fail;refine(Gn s _ (ab F)).mono ?_;rintro e x1 ⟨v,l,rfl,hq,o,M⟩;obtain⟨n,hn⟩:∃n,l.length=n:=⟨_,rfl⟩;obtain⟨va,vc,rfl⟩:=hq.formN hn;have Q:0<n:=by
  have e:=congrArg List.length o;have:=ED s.data.toList [];cases h:dr [] s.data.toList with
  | nil=>exact absurd h this
  | cons a t=>
   simp only[nE,h,a0K,a0D]at e;omega
 have aa:n<=s.size+1:=by
  have e:=congrArg List.length o;have:=oP s.data.toList [];simp only[a0K]at e;have h2:s.data.toList.length=s.size:=by simp
  unfold nE at e;omega
 have a8:(n:Int)<=1048577:=by omega
 obtain⟨g,rfl,hg,N⟩:=hq.at hn Q;have PL:Hid (∀k,k<n->(l.getD k ByteArray.empty).size<=1048576):=by
  intro k T;have O:(l.getD k ByteArray.empty).data.toList∈nE s.data.toList:=by
   rw[←o,a2H];exact⟨l.getD k ByteArray.empty,by simp[List.getD,hn,T],rfl⟩
  have:=mZ s.data.toList [] _ O;have e1:(l.getD k ByteArray.empty).data.toList.length=(l.getD k ByteArray.empty).size:=by simp
  have e2:s.data.toList.length=s.size:=by simp
  have:=ab F;simp only[a0S]at *
  omega
 have HC:=ae N;have B:=ae M;have E:=ae (fun j (x:j<l.length)=>@E7 s l o j x);have z:=ae (@AD s l o);rw[hn]at E z;clear hq o N M Q aa F ac;go_wp2_with fail
 go_loop [4,5,6] (fun i _ _=>∃k:Nat,k<=n/\i = .int .i64 k/\∀j,j<k->fD (l.getD j ByteArray.empty).data.toList=true) (fun i _ _=>n-(intOf i).toNat)
 case atStart=>exact⟨0,a0g _,rfl,fun j x=>absurd x (by omega)⟩
 case round=>
  obtain⟨k,T,rfl,C⟩:=hrel;have r:=ae C;have HK:=ae T;clear C;by_cases A:k<n
  .
   have a5:(k:Int)<(n:Int):=by omega
   have hc:=ab HC k A;have f:=ae (ab E k A);have U:Hid (fD (l.getD k ByteArray.empty).data.toList=true->∀j,j<k+1->fD (l.getD j ByteArray.empty).data.toList=true):=by
    intro e j x;by_cases G:j=k
    . rw[G];exact e
    . exact ab r j (by omega)
   have J:=ae A;clear T r;have V:=ae (ab PL k A);generalize l.getD k ByteArray.empty=p at *
   have a9:(p.size:Int)<=9223372036854775807:=by
    have:=ab V;omega
   go_wp2_with fail
   go_loop [6] (fun q=>∃m:Nat,m<=p.size/\q = .int .i64 m/\∀j (x:j<p.size),j<m->okB p[j]=true) (fun q=>p.size-(intOf q).toNat)
   case atStart=>exact⟨0,a0g _,rfl,fun j _ x=>absurd x (by omega)⟩
   case round=>
    obtain⟨m,Z,rfl,D⟩:=hrel;have u:=ae D;have K:=ae Z;clear D;by_cases P:m<p.size
    .
     have a7:(m:Int)<(p.size:Int):=by omega
     have b:=ae P;have y:Hid (okB p[m]=true->∀j (x:j<p.size),j<m+1->okB p[j]=true):=by
      intro e j x a0;by_cases G:j=m
      . subst G;exact e
      . exact ab u j x (by omega)
     have a6:(0:Int)<=(p[m].toNat:Int):=by omega
     have an:(p[m].toNat:Int)<256:=by have:=p[m].toNat_lt;omega
     clear Z u K;cases d:okB p[m]
     .
      have H:¬ ((97<=p[m].toNat/\p[m].toNat<=122)∨(48<=p[m].toNat/\p[m].toNat<=57)∨p[m].toNat=46∨p[m].toNat=45∨p[m].toNat=95):=fun e=>Bool.noConfusion (d.symm.trans ((E9 _).2 e));have e46:¬ (p[m].toNat:Int)=46:=by omega
      have e45:¬ (p[m].toNat:Int)=45:=by omega
      have e95:¬ (p[m].toNat:Int)=95:=by omega
      by_cases a1:(97:Int)<=(p[m].toNat:Int)
      .
       have a2:¬ (p[m].toNat:Int)<=122:=by omega
       have a3:(48:Int)<=(p[m].toNat:Int):=by omega
       clear H;have HP:=ae (ab f (nn (ab b) d));go_wp2;all_goals first
        | (go_ret;exact⟨ak (ab HP).symm,ab B⟩)
        | (exfalso;rename_i hx;first|omega|(simp at hx;omega))
        | (exfalso;rename_i hx _ _;simp at hx;omega)
      .
       by_cases a3:(48:Int)<=(p[m].toNat:Int)
       .
        have a4:¬ (p[m].toNat:Int)<=57:=by omega
        clear H;have HP:=ae (ab f (nn (ab b) d));go_wp2;all_goals first
         | (go_ret;exact⟨ak (ab HP).symm,ab B⟩)
         | (exfalso;rename_i hx;first|omega|(simp at hx;omega))
         | (exfalso;rename_i hx _ _;simp at hx;omega)
       .
        skip
        clear H;have HP:=ae (ab f (nn (ab b) d));go_wp2;all_goals first
         | (go_ret;exact⟨ak (ab HP).symm,ab B⟩)
         | (exfalso;rename_i hx;first|omega|(simp at hx;omega))
         | (exfalso;rename_i hx _ _;simp at hx;omega)
     .
      have R:=(E9 p[m]).1 d;rcases R with⟨a1,a2⟩|⟨a1,a2⟩|a1|a1|a1
      .
       have S:(97:Int)<=(p[m].toNat:Int):=by omega
       have b2:(p[m].toNat:Int)<=122:=by omega
       clear a1 a2;go_wp2;all_goals first
        | (
          go_round
          case rel=>exact⟨m+1,by have:=ab b;omega,by go_num,ab y d⟩
          case measure=>have:=ab b;simp[intOf];omega)
        | (exfalso;rename_i hx;first|omega|(simp at hx;omega))
        | (exfalso;rename_i hx _ _;simp at hx;omega)
      .
       have S:¬ (97:Int)<=(p[m].toNat:Int):=by omega
       have b2:(48:Int)<=(p[m].toNat:Int):=by omega
       have b3:(p[m].toNat:Int)<=57:=by omega
       clear a1 a2;go_wp2;all_goals first
        | (
          go_round
          case rel=>exact⟨m+1,by have:=ab b;omega,by go_num,ab y d⟩
          case measure=>have:=ab b;simp[intOf];omega)
        | (exfalso;rename_i hx;first|omega|(simp at hx;omega))
        | (exfalso;rename_i hx _ _;simp at hx;omega)
      .
       have S:(p[m].toNat:Int)=46:=by omega
       clear a1;go_wp2;all_goals first
        | (
          go_round
          case rel=>exact⟨m+1,by have:=ab b;omega,by go_num,ab y d⟩
          case measure=>have:=ab b;simp[intOf];omega)
        | (exfalso;rename_i hx;first|omega|(simp at hx;omega))
        | (exfalso;rename_i hx _ _;simp at hx;omega)
      .
       have S:(p[m].toNat:Int)=45:=by omega
       clear a1;go_wp2;all_goals first
        | (
          go_round
          case rel=>exact⟨m+1,by have:=ab b;omega,by go_num,ab y d⟩
          case measure=>have:=ab b;simp[intOf];omega)
        | (exfalso;rename_i hx;first|omega|(simp at hx;omega))
        | (exfalso;rename_i hx _ _;simp at hx;omega)
      .
       have S:(p[m].toNat:Int)=95:=by omega
       clear a1;go_wp2;all_goals first
        | (
          go_round
          case rel=>exact⟨m+1,by have:=ab b;omega,by go_num,ab y d⟩
          case measure=>have:=ab b;simp[intOf];omega)
        | (exfalso;rename_i hx;first|omega|(simp at hx;omega))
        | (exfalso;rename_i hx _ _;simp at hx;omega)
    .
     obtain rfl:m=p.size:=by have:=ab K;omega
     have L:Hid (∀j (x:j<p.size),okB p[j]=true):=fun j x=>ab u j x x;clear u P Z;cases I:inB (p.size:Int) 1 10
     . have HP:=ae (ab f (qE I));go_wp2_with (go_at_call 24;refine(aG _ _ _ _).mono ?_;rintro e w9 ⟨rfl,c⟩;rw[c];clear c;rw[I]);go_ret;exact⟨ak (ab HP).symm,ab B⟩
     .
      cases W:(p.toList == [46])
      .
       cases X:(p.toList == [46,46])
       .
        have HP:=ae (ab U (Fg (ab L) I W X));go_wp2_with (go_at_call 24;refine(aG _ _ _ _).mono ?_;rintro e w9 ⟨rfl,c⟩;rw[c];clear c;rw[I])
        go_round
        case rel=>exact⟨k+1,by have:=ab J;omega,by go_num,ab HP⟩
        case measure=>have:=ab J;simp[intOf];omega
       .
        have HP:=ae (ab f (wu X));have al:p.toList=[46,46]:=by simpa using X
        go_wp2_with (go_at_call 24;refine(aG _ _ _ _).mono ?_;rintro e w9 ⟨rfl,c⟩;rw[c];clear c;rw[I]);go_ret;exact⟨ak (ab HP).symm,ab B⟩
      .
       have HP:=ae (ab f (Bb W));have ad:p.toList=[46]:=by simpa using W
       go_wp2_with (go_at_call 24;refine(aG _ _ _ _).mono ?_;rintro e w9 ⟨rfl,c⟩;rw[c];clear c;rw[I]);go_ret;exact⟨ak (ab HP).symm,ab B⟩
  .
   obtain rfl:k=n:=by omega
   have HY:=ae (ab z (ab r));clear r z E HC;by_cases h4:k<=4
   .
    have Y:(k:Int)<=4:=by omega
    go_wp2;go_ret;exact⟨ak (by rw[ab HY];simp[h4]),ab B⟩
   .
    have Y:¬ (k:Int)<=4:=by omega
    go_wp2;go_ret;exact⟨ak (by rw[ab HY];simp[h4]),ab B⟩
end Go.Proofs.YtchidddpplangaaGreatDoor
