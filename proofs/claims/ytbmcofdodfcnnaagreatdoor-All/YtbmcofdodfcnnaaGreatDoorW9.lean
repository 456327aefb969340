import Derived.Test.YtbmcofdodfcnnaaGreatDoorGY
set_option linter.all false
set_option maxHeartbeats 0
set_option maxRecDepth 100000
namespace Go
open Proofs.Tryz RowKit
variable {w wr : World} {b j n base : Nat} {C : Array Value} {t e : TypeId} {s : ByteArray} {bl : Bool} {v' v l : Value}
def pM (o:Option (List aI)) (w:World) (e:Ending) (w':World):Prop:=
 match o with
 | none=>e=.returned (.tuple #[.slice none 0 0,.bool false])
 | some A=>∃v,e=.returned (.tuple #[v,.bool true])/\w'.ownsRow w.heap.size 268 4 v A.length (A.flatMap jE)
def Am (s:ByteArray) (w:World) (l b i:Value) (wr:World):Prop:=
 ∃(A:List aI) (bl:Bool) (j:Nat),j<=s.size/\A.length<=j/\b=.bool bl/\i=.int .i64 j/\wr.ownsRow w.heap.size 268 4 l A.length (A.flatMap jE)/\
  Hid (aW s.data.toList false=(aW (s.data.toList.drop j) bl).map (A++·))/\Below w.heap.size w wr
def tB (h:w.heap[b]?=some (.cells C t (0,0))) (o):w.cell? ⟨b,o,none⟩=C[o]?:=by
 simp[World.cell?,h]
def rN (h:w.heap[b]?=some (.cells C t (0,0))) (o):w.frozen? ⟨b,o,none⟩=false:=by
 simp[World.frozen?,h]
def tY (w:World) (a b c d:Value) (t:TypeId) (N:Nat) (q:w.heap.size=N):∀j u,[a,b,c,d][j]?=some u->(w.alloc (.cells #[a,b,c,d] t)).cell? ((⟨N,0,none⟩:Addr).add j)=some u:=by
 subst q;intro j u h;rcases j with _|_|_|_|j
 .simp at h;subst h;go_simp
 .simp at h;subst h;go_simp
 .simp at h;subst h;go_simp
 .simp at h;subst h;go_simp
 simp at h
def tQ {C:World} {A:List aI} {k v:Int} (D:j+n<=s.size) (G:1<=n) (I:A.length<=j) (q:B s j≠35) (u:¬(B s j=32\/B s j=9)) (H:cD (B s j) (s.data.toList.drop (j+1))=some (k,v,n-1)) (y:aW s.data.toList false=(aW (s.data.toList.drop j) bl).map (A++·)) (h:C.ownsRow w.heap.size 268 4 v' (A.length+1) (A.flatMap jE++[.int .u8 k,.string (s.extract j (j+n)),.int .i64 v,.bool bl])) (F:Below w.heap.size w C):
    ∀E:Value,E=.int .i64 ((j+n:Nat):Int)->Am s w v' (.bool false) E C:=by
 rintro _ rfl;refine ⟨A++[⟨k,B s j::(s.data.toList.drop (j+1)).take (n-1),v,bl⟩],false,j+n,D,by simp;omega,rfl,rfl,?_,?_,F⟩
 .have e:Value.string (s.extract j (j+n))=.string ⟨(B s j::(s.data.toList.drop (j+1)).take (n-1)).toArray⟩:=qV (JZ s j n G D)
  rw[e]at h;simpa[jE] using h
 show aW s.data.toList false=_;rw[y,iY s j (by omega),jO _ _ _ q u _ _ _ H]
 have e:j+1+(n-1)=j+n:=by omega
 rw[List.drop_drop,e,Option.map_map];congr 1;funext x;simp
def RR:(prog.info? 268).map (λ i=>(i.zero,i.size,i.bytes))=some (some (.agg #[.int .u8 0,.string ⟨#[]⟩,.int .i64 0,.bool false]),4,40):=by kernel_rfl
def Cy {A:List aI} (u:aW s.data.toList false=(aW (s.data.toList.drop j) bl).map (A++·)) (h:aW (s.data.toList.drop j) bl=some []) (q:wr.ownsRow w.heap.size 268 4 l A.length (A.flatMap jE)) {e:Ending} (v:e=.returned (.tuple #[l,.bool true])):pM (aW s.data.toList false) w e wr:=by
 rw[u,h];simp only[zm,List.append_nil,pM];exact ⟨l,v,q⟩
def nA {A:List aI} (q:aW s.data.toList false=(aW (s.data.toList.drop j) bl).map (A++·)) (h:aW (s.data.toList.drop j) bl=none) {e:Ending} (u:e=.returned (.tuple #[.slice none 0 0,.bool false])):pM (aW s.data.toList false) w e wr:=by
 rw[q,h];exact u
def Jf {A:List aI} (C:j<s.size) (D:A.length<=j) (y:B s j=32\/B s j=9) (q:aW s.data.toList false=(aW (s.data.toList.drop j) bl).map (A++·)) (h:wr.ownsRow w.heap.size 268 4 l A.length (A.flatMap jE)) (v:Below w.heap.size w wr):
    ∀u:Value,u=.int .i64 ((j+1:Nat):Int)->Am s w l (.bool true) u wr:=by
 rintro _ rfl;refine ⟨A,true,j+1,by omega,by omega,rfl,rfl,h,?_,v⟩
 show aW s.data.toList false=_;rw[q,iY s j C,mH _ _ _ y]
def vW (s:ByteArray) (wr:World) (bl:Bool) (f j n:Nat) (k:Value) (wx:World):Prop:=
 ∃(q d:Nat),f<=q/\q<=j+n/\k=.int .i64 q/\(wr.alloc (.cells #[.int .u8 105,.string ⟨#[]⟩,.int .i64 (dX s f q),.bool bl] 268)).drewN d=wx
def rm (w:World) (a b c e v:Value) (t:TypeId) (d:Nat):((w.alloc (.cells #[a,b,c,e] t)).drewN d).setCell ⟨w.heap.size,2,none⟩ v=(w.alloc (.cells #[a,b,v,e] t)).drewN d:=by
 show ((w.alloc (.cells #[a,b,c,e] t)).setCell ⟨w.heap.size,2,none⟩ v).drewN d=_;rw[World.setCell_alloc_at _ _ _ _ _ rfl];rfl
def FY {size:Nat} {j:List Value} (h:w.ownsRow base e size v n j) (o) (d k) (u):
    (((w.alloc o).drewN d).setCell ⟨w.heap.size,k,none⟩ u).ownsRow base e size v n j:=by
 have q:((w.alloc o).drewN d).ownsRow base e size v n j:=h.alloc o;refine ownsRow_setCell_other q (λ y=>?_) u
 have:=(h.lt _ y).2;simp at this
def og (w:World) (o:Obj) (d k:Nat) (u:Value):(((w.alloc o).drewN d).setCell ⟨w.heap.size,k,none⟩ u).heap.size=w.heap.size+1:=by
 have e:(((w.alloc o).drewN d).setCell ⟨w.heap.size,k,none⟩ u).heap.size=((w.alloc o).drewN d).heap.size:=by simp[World.setCell]
 rw[e];exact mU w o
def Dd (s) (w) (hs:s.size<=2000):
    Calls prog 162 #[.string s] w λ e w'=>pM (aW s.data.toList false) w e w'/\Below w.heap.size w w':=by
 obtain ⟨i0,hi,am,an,ao⟩:=info_parts RR;go_in;go_wp2_with fail;go_loopw [4,5,6] (λ l b i wr=>Am s w l b i wr) (λ _ _ i _=>s.size-(intOf i).toNat)
 case atStart=>exact ⟨[],false,0,by omega,by simp,rfl,rfl,World.ownsRow_nil _ _ _ _,by simp[Hid],aU⟩
 case round=>
  obtain ⟨A,bl,j,hj,hA,rfl,rfl,aq,G,hB⟩:=hrel;have HO:Hid (wr.ownsRow w.heap.size 268 4 u4 A.length (A.flatMap jE)):=aq;have D:Hid (Below w.heap.size w wr):=hB;clear aq hB;have bg:=iF s;by_cases J:j<s.size
  .rcases Wm (B s j) with e0|e0|e0|e0|e0|e0|e0|e0|e0|e0
   ·-- a remark
    as_aux_lemma=>
     go_wp2;go_ret2;exact ⟨Cy G.out (by rw[iY s j J];exact sq _ _ _ e0) HO.out rfl,D.out⟩
   iterate 2
    ·-- a blank
     as_aux_lemma=>
      go_wp2;go_roundw;(case rel=>exact Jf J hA (by rw[e0];decide) G.out HO.out D.out _ (by go_num));case measure=>simp[intOf];omega
   iterate 5
    ·-- a sign
     as_aux_lemma=>
      (have Z:bJ (B s j).toNat=false:=by rw[e0];rfl);(have K:cA (B s j).toNat=false:=by rw[e0];rfl);simp only[e0,UInt8.reduceToNat]at Z K
      go_wp2_with (first
       | (go_at_call 207;refine zk (gT _ _) ?_)
       | (go_at_call 208;refine zk (gG _ _) ?_)
       | (at_builtin;refine wpList_append_own _ rfl _ _ 219 rfl w.heap.size 268 i0 (.agg #[.int .u8 0,.string ⟨#[]⟩,.int .i64 0,.bool false]) 4 40 underlying219 hi am an ao rfl (by decide) _ A.length _ rfl (((HO.out).alloc _).alloc _) ⟨wr.heap.size+1,0,none⟩ 1 1 [_,_,_,_] rfl rfl (tY _ _ _ _ _ _ _ (mU _ _)) ?h1 ?h63 ?hby ?hbase ?_
          (case h1=>intro x hx;simp at hx;rcases hx with rfl|rfl|rfl|rfl<;>rfl);(case h63=>unfold maxLen;omega);(case hby=>omega);(case hbase=>have:=D.out.size;simp;omega);intro v' w3 y u H;(have X:Hid (w3.ownsRow w.heap.size 268 4 v' (A.length+1) _/\Below w.heap.size w w3):=⟨y,Below.grown ((D.out.alloc D.out.size _).alloc (by have:=D.out.size;simp;omega) _) u (by have:=D.out.size;simp;omega) (λ q hq=>(HO.out.lt q hq).1)⟩);clear y u H))
      go_roundw;(case rel=>exact tQ (n:=1) (by omega) (by omega) hA (by rw[e0];decide) (by rw[e0];decide) (by rw[qe _ _ (by rw[e0];decide),e0];rfl) G.out X.out.1 X.out.2 _ (by go_num));case measure=>simp[intOf];omega
   ·-- a minus
    have Z:bJ 45=false:=rfl;have K:cA 45=false:=rfl;by_cases a6:j+1<s.size
    .have bb:(j:Int)+1<s.size:=by omega
     by_cases ax:cA (B s (j+1)).toNat=true
     .have ah:=aB (Ph s j a6 ax)
      as_aux_lemma=>
       go_upto_block 2 with (first
        | (go_at_call 207;refine zk (gT _ _) ?_)
        | (go_at_call 208;refine zk (gG _ _) ?_))
       go_cut [9] (λ n R=>∃m d:Nat,n=.int .i64 m/\1<=m/\j+m<=s.size/\Hid (cD (B s j) (s.data.toList.drop (j+1))=some (105,(- dX s (j+1) (j+m)),m-1))/\(wr.alloc (.cells #[.int .u8 105,.string ⟨#[]⟩,.int .i64 (- dX s (j+1) (j+m)),.bool bl] 268)).drewN d=R)
       case first=>
        go_wp2_with fail;(go_loopw [9] (λ n R=>∃m:Nat,n=.int .i64 m/\1<=m/\j+m<=s.size/\Hid (∀q,1<=q->q<m->dig (B s (j+q))=true)/\wr.alloc (.cells #[.int .u8 105,.string ⟨#[]⟩,.int .i64 0,.bool bl] 268)=R) (λ n _=>s.size-(intOf n).toNat));case atStart=>exact ⟨1,rfl,by omega,by omega,λ q _ _=>by omega,rfl⟩
        case round=>
         obtain ⟨m,rfl,v,F,C,Q⟩:=hrel;subst Q;by_cases O:j+m<s.size
         .have T:(j:Int)+m<s.size:=by omega
          by_cases a2:cA (B s (j+m)).toNat=true
          .go_wp2_with (first
           | (go_at_call 207;refine zk (gT _ _) ?_)
           | (go_at_call 208;refine zk (gG _ _) ?_))
           go_roundw;(case rel=>exact ⟨m+1,by go_num,by omega,by omega,uW C.out a2,by first|rfl|trivial⟩);case measure=>simp[intOf];omega
          (have ag:cA (B s (j+m)).toNat=false:=by simpa using a2);clear a2;have E:=aB (qx dig s j m v F C.out (.inr ag));by_cases aw:11<m
          .have L:(10:Int)<(j:Int)+m-((j:Int)+1):=by omega
           go_wp2_with (first
           | (go_at_call 207;refine zk (gT _ _) ?_)
           | (go_at_call 208;refine zk (gG _ _) ?_))
           go_ret2;exact ⟨nA G.out (by rw[iY s j J];exact iO _ _ _ (by rw[e0];decide) (by rw[e0];decide) (by rw[e0];exact xp _ ah.out _ (aM E) (by omega))) rfl,D.out.alloc D.out.size _⟩
          (have L:¬(10:Int)<(j:Int)+m-((j:Int)+1):=by omega);by_cases a3:bJ (B s (j+m)).toNat=true
          .go_wp2_with (first
           | (go_at_call 207;refine zk (gT _ _) ?_)
           | (go_at_call 208;refine zk (gG _ _) ?_))
           go_ret2;exact ⟨nA G.out (by rw[iY s j J];exact iO _ _ _ (by rw[e0];decide) (by rw[e0];decide) (by rw[e0];exact Bu _ ah.out _ (aM E) (GJ s j m v O a3))) rfl,D.out.alloc D.out.size _⟩
          (have av:bJ (B s (j+m)).toNat=false:=by simpa using a3);clear a3
          go_wp2_with (first
           | (go_at_call 207;refine zk (gT _ _) ?_)
           | (go_at_call 208;refine zk (gG _ _) ?_))
          have U:=aB (zM C.out)
          as_aux_lemma=>
           (go_loopw [18] (λ k R=>vW s wr bl (j+1) j m k R) (λ k _=>j+m-(intOf k).toNat));case atStart=>exact ⟨(j+1),0,by omega,by omega,by go_num,by rw[po];rfl⟩
           case round=>
            obtain ⟨q,d,M,ay,rfl,Q⟩:=hrel;subst Q;(have nb:=rY s (j+1) q M (by omega) (by omega) (λ q' a b=>U.out q' a (by omega)));by_cases hq:q<j+m
            .have Y:q<s.size:=by omega
             (have ak:(q:Int)<s.size:=by omega);(have W:(q:Int)<(j:Int)+m:=by omega);(have cb:((B s q).toNat:Int)<=255:=by have:=(B s q).toNat_lt;omega);have HS:=aB (qw s (j+1) q M Y);generalize I:dX s (j+1) q=N at *;have HN:=aB I;clear I;go_wp2_with fail;go_region;rw[rm];go_wp2;go_roundw;(case rel=>exact ⟨q+1,d+1,by omega,by omega,by go_num,by rw[aM HS]⟩);case measure=>simp[intOf];omega
            (have W:¬(q:Int)<(j:Int)+m:=by omega);(have V:q=j+m:=by omega);subst V;(have aj:¬((j+m:Nat):Int)<(j:Int)+m:=by omega);generalize I:dX s (j+1) (j+m)=N at *;have HN:=aB I;clear I;go_wp2_with fail;go_meet;case rel=>exact ⟨m,d,rfl,v,F,(by rw[e0];exact (zH _ ah.out _ (aM E) (by omega) (FZ s j m v O av)).trans (by rw[Da s j m v])),by rw[aM HN,rm]⟩
         (have T:¬(j:Int)+m<s.size:=by omega);(have E:=aB (qx dig s j m v F C.out (.inl (by omega))));by_cases aw:11<m
         .have L:(10:Int)<(j:Int)+m-((j:Int)+1):=by omega
          go_wp2_with (first
           | (go_at_call 207;refine zk (gT _ _) ?_)
           | (go_at_call 208;refine zk (gG _ _) ?_))
          go_ret2;exact ⟨nA G.out (by rw[iY s j J];exact iO _ _ _ (by rw[e0];decide) (by rw[e0];decide) (by rw[e0];exact xp _ ah.out _ (aM E) (by omega))) rfl,D.out.alloc D.out.size _⟩
         have L:¬(10:Int)<(j:Int)+m-((j:Int)+1):=by omega
         go_wp2_with (first
          | (go_at_call 207;refine zk (gT _ _) ?_)
          | (go_at_call 208;refine zk (gG _ _) ?_))
         have U:=aB (zM C.out)
         as_aux_lemma=>
          (go_loopw [18] (λ k R=>vW s wr bl (j+1) j m k R) (λ k _=>j+m-(intOf k).toNat));case atStart=>exact ⟨(j+1),0,by omega,by omega,by go_num,by rw[po];rfl⟩
          case round=>
           obtain ⟨q,d,M,ay,rfl,Q⟩:=hrel;subst Q;(have nb:=rY s (j+1) q M (by omega) (by omega) (λ q' a b=>U.out q' a (by omega)));by_cases hq:q<j+m
           .have Y:q<s.size:=by omega
            (have ak:(q:Int)<s.size:=by omega);(have W:(q:Int)<(j:Int)+m:=by omega);(have cb:((B s q).toNat:Int)<=255:=by have:=(B s q).toNat_lt;omega);have HS:=aB (qw s (j+1) q M Y);generalize I:dX s (j+1) q=N at *;have HN:=aB I;clear I;go_wp2_with fail;go_region;rw[rm];go_wp2;go_roundw;(case rel=>exact ⟨q+1,d+1,by omega,by omega,by go_num,by rw[aM HS]⟩);case measure=>simp[intOf];omega
           (have W:¬(q:Int)<(j:Int)+m:=by omega);(have V:q=j+m:=by omega);subst V;(have aj:¬((j+m:Nat):Int)<(j:Int)+m:=by omega);generalize I:dX s (j+1) (j+m)=N at *;have HN:=aB I;clear I;go_wp2_with fail;go_meet;case rel=>exact ⟨m,d,rfl,v,F,(by rw[e0];exact (zH _ ah.out _ (aM E) (by omega) (G9 s j m v (by omega))).trans (by rw[Da s j m v])),by rw[aM HN,rm]⟩
       case rest=>as_aux_lemma=>
        obtain ⟨m,d,rfl,v,F,C,Q⟩:=hcut;subst Q;generalize I:(- dX s (j+1) (j+m))=N at *;have HN:=aB I;clear I
        go_wp2_with (first
         | (at_builtin;refine wpList_append_own _ rfl _ _ 219 rfl w.heap.size 268 i0 (.agg #[.int .u8 0,.string ⟨#[]⟩,.int .i64 0,.bool false]) 4 40 underlying219 hi am an ao rfl (by decide) _ A.length _ rfl ((FY HO.out _ d _ _).alloc _) ⟨wr.heap.size+1,0,none⟩ 1 1 [_,_,_,_] rfl rfl (tY _ _ _ _ _ _ _ (og _ _ _ _ _)) ?h1 ?h63 ?hby ?hbase ?_
            (case h1=>intro x hx;simp at hx;rcases hx with rfl|rfl|rfl|rfl<;>rfl);(case h63=>unfold maxLen;omega);(case hby=>omega);(case hbase=>have:=D.out.size;rw[mU,og];omega);intro v' w3 y u H;(have X:Hid (w3.ownsRow w.heap.size 268 4 v' (A.length+1) _/\Below w.heap.size w w3):=⟨y,Below.grown (((below_drewN (D.out.alloc D.out.size _) d).setCell D.out.size _).alloc (by have:=D.out.size;rw[og];omega) _) u (by have:=D.out.size;rw[mU,og];omega) (λ q hq=>(HO.out.lt q hq).1)⟩);clear y u H))
        go_roundw;(case rel=>exact tQ (n:=m) (by omega) (by omega) hA (by rw[e0];decide) (by rw[e0];decide) C.out G.out X.out.1 X.out.2 _ (by go_num));case measure=>simp[intOf];omega
     (have a7:cA (B s (j+1)).toNat=false:=by simpa using ax);clear ax
     as_aux_lemma=>
      go_wp2_with (first
       | (go_at_call 207;refine zk (gT _ _) ?_)
       | (go_at_call 208;refine zk (gG _ _) ?_))
      go_ret2;exact ⟨nA G.out (by rw[iY s j J];exact iO _ _ _ (by rw[e0];decide) (by rw[e0];decide) (by rw[e0];exact sF _ _ rfl rfl (λ h=>by rw[vA s (j+1) a6]at h;have:=h.2;simp[dig,a7]at this) (by decide))) rfl,D.out.alloc D.out.size _⟩
    have bb:¬(j:Int)+1<s.size:=by omega
    as_aux_lemma=>
     go_wp2_with (first
      | (go_at_call 207;refine zk (gT _ _) ?_)
      | (go_at_call 208;refine zk (gG _ _) ?_))
     go_ret2;exact ⟨nA G.out (by rw[iY s j J];exact iO _ _ _ (by rw[e0];decide) (by rw[e0];decide) (by rw[e0];exact sF _ _ rfl rfl (λ h=>by rw[Ev s (j+1) (by omega)]at h;have:=h.2;simp at this) (by decide))) rfl,D.out.alloc D.out.size _⟩
   -- any other byte
   obtain ⟨bi,bh,n9,bm,bj,bk,bp,bo,bn,ac,ab,bc,bd⟩:=e0;by_cases Z:bJ (B s j).toNat=true
   ·-- a word
    as_aux_lemma=>
     go_upto_block 2 with (first
      | (go_at_call 207;refine zk (gT _ _) ?_)
      | (go_at_call 208;refine zk (gG _ _) ?_))
     go_cut [9] (λ n R=>∃m:Nat,n=.int .i64 m/\1<=m/\j+m<=s.size/\Hid (cD (B s j) (s.data.toList.drop (j+1))=some (119,0,m-1))/\wr.alloc (.cells #[.int .u8 119,.string ⟨#[]⟩,.int .i64 0,.bool bl] 268)=R)
     case first=>
      go_wp2_with fail;(go_loopw [9] (λ n R=>∃m:Nat,n=.int .i64 m/\1<=m/\j+m<=s.size/\Hid (∀q,1<=q->q<m->aY (B s (j+q))=true)/\wr.alloc (.cells #[.int .u8 119,.string ⟨#[]⟩,.int .i64 0,.bool bl] 268)=R) (λ n _=>s.size-(intOf n).toNat));case atStart=>exact ⟨1,rfl,by omega,by omega,λ q _ _=>by omega,rfl⟩
      case round=>
       obtain ⟨m,rfl,v,F,C,Q⟩:=hrel;subst Q;by_cases O:j+m<s.size
       .have T:(j:Int)+m<s.size:=by omega
        by_cases a1:bJ (B s (j+m)).toNat=true
        .go_wp2_with (first
          | (go_at_call 207;refine zk (gT _ _) ?_)
          | (go_at_call 208;refine zk (gG _ _) ?_))
         go_roundw;(case rel=>exact ⟨m+1,by go_num,by omega,by omega,uW C.out (by unfold aY;rw[a1];rfl),by first|rfl|trivial⟩);case measure=>simp[intOf];omega
        (have a0:bJ (B s (j+m)).toNat=false:=by simpa using a1);clear a1;by_cases a2:cA (B s (j+m)).toNat=true
        .go_wp2_with (first
          | (go_at_call 207;refine zk (gT _ _) ?_)
          | (go_at_call 208;refine zk (gG _ _) ?_))
         go_roundw;(case rel=>exact ⟨m+1,by go_num,by omega,by omega,uW C.out (by unfold aY;rw[a2,a0];rfl),by first|rfl|trivial⟩);case measure=>simp[intOf];omega
        (have ag:cA (B s (j+m)).toNat=false:=by simpa using a2);clear a2
        go_wp2_with (first
         | (go_at_call 207;refine zk (gT _ _) ?_)
         | (go_at_call 208;refine zk (gG _ _) ?_))
        go_meet;case rel=>exact ⟨m,rfl,v,F,sy _ _ Z _ (qx _ s j m v F C.out (.inr (by unfold aY;rw[a0,ag];rfl))),rfl⟩
       have T:¬(j:Int)+m<s.size:=by omega
       go_wp2_with (first
        | (go_at_call 207;refine zk (gT _ _) ?_)
        | (go_at_call 208;refine zk (gG _ _) ?_))
       go_meet;case rel=>exact ⟨m,rfl,v,F,sy _ _ Z _ (qx _ s j m v F C.out (.inl (by omega))),rfl⟩
     case rest=>
      obtain ⟨m,rfl,v,F,C,Q⟩:=hcut;subst Q
      go_wp2_with (first
       | (go_at_call 207;refine zk (gT _ _) ?_)
       | (go_at_call 208;refine zk (gG _ _) ?_)
       | (at_builtin;refine wpList_append_own _ rfl _ _ 219 rfl w.heap.size 268 i0 (.agg #[.int .u8 0,.string ⟨#[]⟩,.int .i64 0,.bool false]) 4 40 underlying219 hi am an ao rfl (by decide) _ A.length _ rfl (((HO.out).alloc _).alloc _) ⟨wr.heap.size+1,0,none⟩ 1 1 [_,_,_,_] rfl rfl (tY _ _ _ _ _ _ _ (mU _ _)) ?h1 ?h63 ?hby ?hbase ?_
          (case h1=>intro x hx;simp at hx;rcases hx with rfl|rfl|rfl|rfl<;>rfl);(case h63=>unfold maxLen;omega);(case hby=>omega);(case hbase=>have:=D.out.size;simp;omega);intro v' w3 y u H;(have X:Hid (w3.ownsRow w.heap.size 268 4 v' (A.length+1) _/\Below w.heap.size w w3):=⟨y,Below.grown ((D.out.alloc D.out.size _).alloc (by have:=D.out.size;simp;omega) _) u (by have:=D.out.size;simp;omega) (λ q hq=>(HO.out.lt q hq).1)⟩);clear y u H))
      go_roundw;(case rel=>exact tQ (n:=m) (by omega) (by omega) hA ac.out ab.out C.out G.out X.out.1 X.out.2 _ (by go_num));case measure=>simp[intOf];omega
   (have P:bJ (B s j).toNat=false:=by simpa using Z);clear Z;by_cases K:cA (B s j).toNat=true
   ·-- a number
    as_aux_lemma=>
     go_upto_block 2 with (first
      | (go_at_call 207;refine zk (gT _ _) ?_)
      | (go_at_call 208;refine zk (gG _ _) ?_))
     go_cut [9] (λ n R=>∃m d:Nat,n=.int .i64 m/\1<=m/\j+m<=s.size/\Hid (cD (B s j) (s.data.toList.drop (j+1))=some (105,(dX s j (j+m)),m-1))/\(wr.alloc (.cells #[.int .u8 105,.string ⟨#[]⟩,.int .i64 (dX s j (j+m)),.bool bl] 268)).drewN d=R)
     case first=>
      go_wp2_with fail;(go_loopw [9] (λ n R=>∃m:Nat,n=.int .i64 m/\1<=m/\j+m<=s.size/\Hid (∀q,1<=q->q<m->dig (B s (j+q))=true)/\wr.alloc (.cells #[.int .u8 105,.string ⟨#[]⟩,.int .i64 0,.bool bl] 268)=R) (λ n _=>s.size-(intOf n).toNat));case atStart=>exact ⟨1,rfl,by omega,by omega,λ q _ _=>by omega,rfl⟩
      case round=>
       obtain ⟨m,rfl,v,F,C,Q⟩:=hrel;subst Q;by_cases O:j+m<s.size
       .have T:(j:Int)+m<s.size:=by omega
        by_cases a2:cA (B s (j+m)).toNat=true
        .go_wp2_with (first
         | (go_at_call 207;refine zk (gT _ _) ?_)
         | (go_at_call 208;refine zk (gG _ _) ?_))
         go_roundw;(case rel=>exact ⟨m+1,by go_num,by omega,by omega,uW C.out a2,by first|rfl|trivial⟩);case measure=>simp[intOf];omega
        (have ag:cA (B s (j+m)).toNat=false:=by simpa using a2);clear a2;have E:=aB (qx dig s j m v F C.out (.inr ag));by_cases aw:10<m
        .have L:(10:Int)<(j:Int)+m-j:=by omega
         go_wp2_with (first
         | (go_at_call 207;refine zk (gT _ _) ?_)
         | (go_at_call 208;refine zk (gG _ _) ?_))
         go_ret2;exact ⟨nA G.out (by rw[iY s j J];exact iO _ _ _ ac.out ab.out (xq _ _ P K _ (aM E) (by omega))) rfl,D.out.alloc D.out.size _⟩
        (have L:¬(10:Int)<(j:Int)+m-j:=by omega);by_cases a3:bJ (B s (j+m)).toNat=true
        .go_wp2_with (first
         | (go_at_call 207;refine zk (gT _ _) ?_)
         | (go_at_call 208;refine zk (gG _ _) ?_))
         go_ret2;exact ⟨nA G.out (by rw[iY s j J];exact iO _ _ _ ac.out ab.out (Bw _ _ P K _ (aM E) (GJ s j m v O a3))) rfl,D.out.alloc D.out.size _⟩
        (have av:bJ (B s (j+m)).toNat=false:=by simpa using a3);clear a3
        go_wp2_with (first
         | (go_at_call 207;refine zk (gT _ _) ?_)
         | (go_at_call 208;refine zk (gG _ _) ?_))
        have U:=aB (Ec K C.out)
        as_aux_lemma=>
         (go_loopw [18] (λ k R=>vW s wr bl j j m k R) (λ k _=>j+m-(intOf k).toNat));case atStart=>exact ⟨j,0,by omega,by omega,by go_num,by rw[po];rfl⟩
         case round=>
          obtain ⟨q,d,M,ay,rfl,Q⟩:=hrel;subst Q;(have nb:=rY s j q M (by omega) (by omega) (λ q' a b=>U.out q' a (by omega)));by_cases hq:q<j+m
          .have Y:q<s.size:=by omega
           (have ak:(q:Int)<s.size:=by omega);(have W:(q:Int)<(j:Int)+m:=by omega);(have cb:((B s q).toNat:Int)<=255:=by have:=(B s q).toNat_lt;omega);have HS:=aB (qw s j q M Y);generalize I:dX s j q=N at *;have HN:=aB I;clear I;go_wp2_with fail;go_region;rw[rm];go_wp2;go_roundw;(case rel=>exact ⟨q+1,d+1,by omega,by omega,by go_num,by rw[aM HS]⟩);case measure=>simp[intOf];omega
          (have W:¬(q:Int)<(j:Int)+m:=by omega);(have V:q=j+m:=by omega);subst V;(have aj:¬((j+m:Nat):Int)<(j:Int)+m:=by omega);generalize I:dX s j (j+m)=N at *;have HN:=aB I;clear I;go_wp2_with fail;go_meet;case rel=>exact ⟨m,d,rfl,v,F,((yr _ _ P K _ (aM E) (by omega) (FZ s j m v O av)).trans (by rw[BZ s j m J v])),by rw[aM HN]⟩
       (have T:¬(j:Int)+m<s.size:=by omega);(have E:=aB (qx dig s j m v F C.out (.inl (by omega))));by_cases aw:10<m
       .have L:(10:Int)<(j:Int)+m-j:=by omega
        go_wp2_with (first
         | (go_at_call 207;refine zk (gT _ _) ?_)
         | (go_at_call 208;refine zk (gG _ _) ?_))
        go_ret2;exact ⟨nA G.out (by rw[iY s j J];exact iO _ _ _ ac.out ab.out (xq _ _ P K _ (aM E) (by omega))) rfl,D.out.alloc D.out.size _⟩
       have L:¬(10:Int)<(j:Int)+m-j:=by omega
       go_wp2_with (first
        | (go_at_call 207;refine zk (gT _ _) ?_)
        | (go_at_call 208;refine zk (gG _ _) ?_))
       have U:=aB (Ec K C.out)
       as_aux_lemma=>
        (go_loopw [18] (λ k R=>vW s wr bl j j m k R) (λ k _=>j+m-(intOf k).toNat));case atStart=>exact ⟨j,0,by omega,by omega,by go_num,by rw[po];rfl⟩
        case round=>
         obtain ⟨q,d,M,ay,rfl,Q⟩:=hrel;subst Q;(have nb:=rY s j q M (by omega) (by omega) (λ q' a b=>U.out q' a (by omega)));by_cases hq:q<j+m
         .have Y:q<s.size:=by omega
          (have ak:(q:Int)<s.size:=by omega);(have W:(q:Int)<(j:Int)+m:=by omega);(have cb:((B s q).toNat:Int)<=255:=by have:=(B s q).toNat_lt;omega);have HS:=aB (qw s j q M Y);generalize I:dX s j q=N at *;have HN:=aB I;clear I;go_wp2_with fail;go_region;rw[rm];go_wp2;go_roundw;(case rel=>exact ⟨q+1,d+1,by omega,by omega,by go_num,by rw[aM HS]⟩);case measure=>simp[intOf];omega
         (have W:¬(q:Int)<(j:Int)+m:=by omega);(have V:q=j+m:=by omega);subst V;(have aj:¬((j+m:Nat):Int)<(j:Int)+m:=by omega);generalize I:dX s j (j+m)=N at *;have HN:=aB I;clear I;go_wp2_with fail;go_meet;case rel=>exact ⟨m,d,rfl,v,F,((yr _ _ P K _ (aM E) (by omega) (G9 s j m v (by omega))).trans (by rw[BZ s j m J v])),by rw[aM HN]⟩
     case rest=>as_aux_lemma=>
      obtain ⟨m,d,rfl,v,F,C,Q⟩:=hcut;subst Q;generalize I:(dX s j (j+m))=N at *;have HN:=aB I;clear I
      go_wp2_with (first
       | (at_builtin;refine wpList_append_own _ rfl _ _ 219 rfl w.heap.size 268 i0 (.agg #[.int .u8 0,.string ⟨#[]⟩,.int .i64 0,.bool false]) 4 40 underlying219 hi am an ao rfl (by decide) _ A.length _ rfl ((FY HO.out _ d _ _).alloc _) ⟨wr.heap.size+1,0,none⟩ 1 1 [_,_,_,_] rfl rfl (tY _ _ _ _ _ _ _ (og _ _ _ _ _)) ?h1 ?h63 ?hby ?hbase ?_
          (case h1=>intro x hx;simp at hx;rcases hx with rfl|rfl|rfl|rfl<;>rfl);(case h63=>unfold maxLen;omega);(case hby=>omega);(case hbase=>have:=D.out.size;rw[mU,og];omega);intro v' w3 y u H;(have X:Hid (w3.ownsRow w.heap.size 268 4 v' (A.length+1) _/\Below w.heap.size w w3):=⟨y,Below.grown (((below_drewN (D.out.alloc D.out.size _) d).setCell D.out.size _).alloc (by have:=D.out.size;rw[og];omega) _) u (by have:=D.out.size;rw[mU,og];omega) (λ q hq=>(HO.out.lt q hq).1)⟩);clear y u H))
      go_roundw;(case rel=>exact tQ (n:=m) (by omega) (by omega) hA ac.out ab.out C.out G.out X.out.1 X.out.2 _ (by go_num));case measure=>simp[intOf];omega
   (have a5:cA (B s j).toNat=false:=by simpa using K);clear K
   as_aux_lemma=>
    go_wp2_with (first
     | (go_at_call 207;refine zk (gT _ _) ?_)
     | (go_at_call 208;refine zk (gG _ _) ?_))
    go_ret2;exact ⟨nA G.out (by rw[iY s j J];exact iO _ _ _ ac.out ab.out (sF _ _ P a5 (λ h=>bd.out h.1) bc.out)) rfl,D.out.alloc D.out.size _⟩
  go_wp2;go_ret2;exact ⟨Cy G.out (by rw[List.drop_eq_nil_of_le (by simp;omega)];exact ol _) HO.out rfl,D.out⟩
