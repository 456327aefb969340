import Derived.Test.YtbmcofdodfcnnaaGreatDoorGY
set_option linter.all false
set_option maxHeartbeats 400000000
set_option maxRecDepth 100000
namespace Go.Proofs.YtbmcofdodfcnnaaGreatDoor
open Pn
open Go.Proofs.Tryz
open Go.RowKit
def a8G (o:Option (List Pn.Tok)) (w:World) (e:Ending) (w':World):Prop:=
 match o with
 | none=>e=.returned (.tuple #[.slice none 0 0,.bool false])
 | some A=>∃v,e=.returned (.tuple #[v,.bool true])/\w'.ownsRow w.heap.size 268 4 v A.length (A.flatMap a1a)
def b7I (s:ByteArray) (w:World) (l b i:Value) (wr:World):Prop:=
 ∃(A:List Pn.Tok) (bl:Bool) (j:Nat),j<=s.size/\A.length<=j/\b=.bool bl/\i=.int .i64 j/\wr.ownsRow w.heap.size 268 4 l A.length (A.flatMap a1a)/\
  Hid (a00 s.data.toList false=(a00 (s.data.toList.drop j) bl).map (A++·))/\Below w.heap.size w wr
theorem a3u (w:World) (a b c d:Value) (t:TypeId) (N:Nat) (hN:w.heap.size=N):∀j u,[a,b,c,d][j]?=some u->(w.alloc (.cells #[a,b,c,d] t)).cell? ((⟨N,0,none⟩:Addr).add j)=some u:=by
 subst hN;intro j u h;rcases j with _|_|_|_|j
 ·simp at h;subst h;go_simp
 ·simp at h;subst h;go_simp
 ·simp at h;subst h;go_simp
 ·simp at h;subst h;go_simp
 ·simp at h
theorem a1B {s:ByteArray} {w w3:World} {A:List Pn.Tok} {bl:Bool} {j n:Nat} {v':Value} {k v:Int} (hj:j+n<=s.size) (hn:1<=n) (hA:A.length<=j)
    (h35:Pn.B s j≠35) (hbl:¬(Pn.B s j=32\/Pn.B s j=9)) (ht:a2x (Pn.B s j) (s.data.toList.drop (j+1))=some (k,v,n-1))
    (hno:a00 s.data.toList false=(a00 (s.data.toList.drop j) bl).map (A++·))
    (hown:w3.ownsRow w.heap.size 268 4 v' (A.length+1) (A.flatMap a1a++[.int .u8 k,.string (s.extract j (j+n)),.int .i64 v,.bool bl])) (hB:Below w.heap.size w w3):
    ∀iv:Value,iv=.int .i64 ((j+n:Nat):Int)->b7I s w v' (.bool false) iv w3:=by
 rintro _ rfl;refine ⟨A++[⟨k,Pn.B s j::(s.data.toList.drop (j+1)).take (n-1),v,bl⟩],false,j+n,hj,by simp;omega,rfl,rfl,?_,?_,hB⟩
 ·have e:Value.string (s.extract j (j+n))=.string ⟨(Pn.B s j::(s.data.toList.drop (j+1)).take (n-1)).toArray⟩:=a6O (b2x s j n hn hj)
  rw[e]at hown;simpa[a1a] using hown
 ·show a00 s.data.toList false=_
  rw[hno,a0N s j (by omega),a0X _ _ _ h35 hbl _ _ _ ht]
  have e:j+1+(n-1)=j+n:=by omega
  rw[List.drop_drop,e,Option.map_map];congr 1;funext x;simp
theorem c42:(prog.info? 268).map (fun i=>(i.zero,i.size,i.bytes))=some (some (.agg #[.int .u8 0,.string ⟨#[]⟩,.int .i64 0,.bool false]),4,40):=by kernel_rfl
theorem a9K {s:ByteArray} {w wr:World} {A:List Pn.Tok} {bl:Bool} {j:Nat} {l:Value} (hno:a00 s.data.toList false=(a00 (s.data.toList.drop j) bl).map (A++·))
    (h:a00 (s.data.toList.drop j) bl=some []) (hown:wr.ownsRow w.heap.size 268 4 l A.length (A.flatMap a1a)) {e:Ending} (he:e=.returned (.tuple #[l,.bool true])):a8G (a00 s.data.toList false) w e wr:=by
 rw[hno,h];simp only[Option.map_some,List.append_nil,a8G];exact ⟨l,he,hown⟩
theorem a1o {s:ByteArray} {w wr:World} {A:List Pn.Tok} {bl:Bool} {j:Nat} (hno:a00 s.data.toList false=(a00 (s.data.toList.drop j) bl).map (A++·))
    (h:a00 (s.data.toList.drop j) bl=none) {e:Ending} (he:e=.returned (.tuple #[.slice none 0 0,.bool false])):a8G (a00 s.data.toList false) w e wr:=by
 rw[hno,h];exact he
theorem a6U {s:ByteArray} {w wr:World} {A:List Pn.Tok} {bl:Bool} {j:Nat} {l:Value} (hj:j<s.size) (hA:A.length<=j) (hc:Pn.B s j=32\/Pn.B s j=9)
    (hno:a00 s.data.toList false=(a00 (s.data.toList.drop j) bl).map (A++·)) (hown:wr.ownsRow w.heap.size 268 4 l A.length (A.flatMap a1a)) (hB:Below w.heap.size w wr):
    ∀iv:Value,iv=.int .i64 ((j+1:Nat):Int)->b7I s w l (.bool true) iv wr:=by
 rintro _ rfl;refine ⟨A,true,j+1,by omega,by omega,rfl,rfl,hown,?_,hB⟩
 show a00 s.data.toList false=_;rw[hno,a0N s j hj,a1q _ _ _ hc]
def b41 (s:ByteArray) (wr:World) (bl:Bool) (f j n:Nat) (k:Value) (wx:World):Prop:=
 ∃(q d:Nat),f<=q/\q<=j+n/\k=.int .i64 q/\(wr.alloc (.cells #[.int .u8 105,.string ⟨#[]⟩,.int .i64 (a1t s f q),.bool bl] 268)).drewN d=wx
theorem a9t (w:World) (a b c e v:Value) (t:TypeId) (d:Nat):((w.alloc (.cells #[a,b,c,e] t)).drewN d).setCell ⟨w.heap.size,2,none⟩ v=(w.alloc (.cells #[a,b,v,e] t)).drewN d:=by
 show ((w.alloc (.cells #[a,b,c,e] t)).setCell ⟨w.heap.size,2,none⟩ v).drewN d=_;rw[World.setCell_alloc_at _ _ _ _ _ rfl];rfl
theorem b9i {w:World} {base:Nat} {e:TypeId} {size:Nat} {v:Value} {n:Nat} {xs:List Value} (h:w.ownsRow base e size v n xs) (o:Obj) (d k:Nat) (u:Value):
    (((w.alloc o).drewN d).setCell ⟨w.heap.size,k,none⟩ u).ownsRow base e size v n xs:=by
 have h1:((w.alloc o).drewN d).ownsRow base e size v n xs:=h.alloc o;refine ownsRow_setCell_other h1 (fun hc=>?_) u
 have:=(h.lt _ hc).2;simp at this
theorem a3w (w:World) (o:Obj) (d k:Nat) (u:Value):(((w.alloc o).drewN d).setCell ⟨w.heap.size,k,none⟩ u).heap.size=w.heap.size+1:=by
 have e:(((w.alloc o).drewN d).setCell ⟨w.heap.size,k,none⟩ u).heap.size=((w.alloc o).drewN d).heap.size:=by simp[World.setCell]
 rw[e];exact a58 w o
theorem b1J (s:ByteArray) (w:World) (hs:s.size<=2000):
    Calls prog 162 #[.string s] w fun e w'=>a8G (a00 s.data.toList false) w e w'/\Below w.heap.size w w':=by
 obtain ⟨i0,hi,hz0,hz1,hz2⟩:=info_parts c42;go_enter func162,ntmps162;go_wp2_with fail;go_loopw [4,5,6] (fun l b i wr=>b7I s w l b i wr) (fun _ _ i _=>s.size-(intOf i).toNat)
 case atStart=>exact ⟨[],false,0,by omega,by simp,rfl,rfl,World.ownsRow_nil _ _ _ _,by simp[Hid],Below.refl _ _⟩
 case round=>
  obtain ⟨A,bl,j,hj,hA,rfl,rfl,hown,hno,hB⟩:=hrel;have HO:Hid (wr.ownsRow w.heap.size 268 4 u4 A.length (A.flatMap a1a)):=hown;have HB:Hid (Below w.heap.size w wr):=hB;clear hown hB;have hBq:=a9J s;by_cases hlt:j<s.size
  ·rcases c8Z (Pn.B s j) with e0|e0|e0|e0|e0|e0|e0|e0|e0|e0
   ·-- a remark
    as_aux_lemma=>
     go_wp2_with fail;go_ret2;exact ⟨a9K hno.out (by rw[a0N s j hlt];exact a4K _ _ _ e0) HO.out rfl,HB.out⟩
   ·-- a blank
    as_aux_lemma=>
     go_wp2_with fail;go_roundw;(case rel=>exact a6U hlt hA (by rw[e0];decide) hno.out HO.out HB.out _ (by go_num));case measure=>simp[intOf];omega
   ·-- a blank
    as_aux_lemma=>
     go_wp2_with fail;go_roundw;(case rel=>exact a6U hlt hA (by rw[e0];decide) hno.out HO.out HB.out _ (by go_num));case measure=>simp[intOf];omega
   ·-- a sign
    as_aux_lemma=>
     have hsm:a0o 44=false:=rfl;have hdg:a0t 44=false:=rfl
     go_wp2_with (first
      | (go_at_call 207;refine (a0D _ _).mono ?_;rintro e w' ⟨rfl,rfl⟩)
      | (go_at_call 208;refine (a0y _ _).mono ?_;rintro e w' ⟨rfl,rfl⟩)
      | (at_builtin;refine wpList_append_own _ rfl _ _ 219 rfl w.heap.size 268 i0 (.agg #[.int .u8 0,.string ⟨#[]⟩,.int .i64 0,.bool false]) 4 40 underlying219 hi hz0 hz1 hz2 rfl (by decide) _ A.length _ rfl (((HO.out).alloc _).alloc _) ⟨wr.heap.size+1,0,none⟩ 1 1 [_,_,_,_] rfl rfl (a3u _ _ _ _ _ _ _ (a58 _ _)) ?h1 ?h63 ?hby ?hbase ?_
         (case h1=>intro x hx;simp at hx;rcases hx with rfl|rfl|rfl|rfl<;>rfl);(case h63=>unfold maxLen;omega);(case hby=>omega);(case hbase=>have:=HB.out.size;simp;omega);intro v' w3 hown' hgrow3 hnil3;(have X:Hid (w3.ownsRow w.heap.size 268 4 v' (A.length+1) _/\Below w.heap.size w w3):=⟨hown',Below.grown ((HB.out.alloc HB.out.size _).alloc (by have:=HB.out.size;simp;omega) _) hgrow3 (by have:=HB.out.size;simp;omega) (fun q hq=>(HO.out.lt q hq).1)⟩);clear hown' hgrow3 hnil3))
     go_roundw;(case rel=>exact a1B (n:=1) (by omega) (by omega) hA (by rw[e0];decide) (by rw[e0];decide) (by rw[a1S _ _ (by rw[e0];decide),e0];rfl) hno.out X.out.1 X.out.2 _ (by go_num));case measure=>simp[intOf];omega
   ·-- a sign
    as_aux_lemma=>
     have hsm:a0o 40=false:=rfl;have hdg:a0t 40=false:=rfl
     go_wp2_with (first
      | (go_at_call 207;refine (a0D _ _).mono ?_;rintro e w' ⟨rfl,rfl⟩)
      | (go_at_call 208;refine (a0y _ _).mono ?_;rintro e w' ⟨rfl,rfl⟩)
      | (at_builtin;refine wpList_append_own _ rfl _ _ 219 rfl w.heap.size 268 i0 (.agg #[.int .u8 0,.string ⟨#[]⟩,.int .i64 0,.bool false]) 4 40 underlying219 hi hz0 hz1 hz2 rfl (by decide) _ A.length _ rfl (((HO.out).alloc _).alloc _) ⟨wr.heap.size+1,0,none⟩ 1 1 [_,_,_,_] rfl rfl (a3u _ _ _ _ _ _ _ (a58 _ _)) ?h1 ?h63 ?hby ?hbase ?_
         (case h1=>intro x hx;simp at hx;rcases hx with rfl|rfl|rfl|rfl<;>rfl);(case h63=>unfold maxLen;omega);(case hby=>omega);(case hbase=>have:=HB.out.size;simp;omega);intro v' w3 hown' hgrow3 hnil3;(have X:Hid (w3.ownsRow w.heap.size 268 4 v' (A.length+1) _/\Below w.heap.size w w3):=⟨hown',Below.grown ((HB.out.alloc HB.out.size _).alloc (by have:=HB.out.size;simp;omega) _) hgrow3 (by have:=HB.out.size;simp;omega) (fun q hq=>(HO.out.lt q hq).1)⟩);clear hown' hgrow3 hnil3))
     go_roundw;(case rel=>exact a1B (n:=1) (by omega) (by omega) hA (by rw[e0];decide) (by rw[e0];decide) (by rw[a1S _ _ (by rw[e0];decide),e0];rfl) hno.out X.out.1 X.out.2 _ (by go_num));case measure=>simp[intOf];omega
   ·-- a sign
    as_aux_lemma=>
     have hsm:a0o 41=false:=rfl;have hdg:a0t 41=false:=rfl
     go_wp2_with (first
      | (go_at_call 207;refine (a0D _ _).mono ?_;rintro e w' ⟨rfl,rfl⟩)
      | (go_at_call 208;refine (a0y _ _).mono ?_;rintro e w' ⟨rfl,rfl⟩)
      | (at_builtin;refine wpList_append_own _ rfl _ _ 219 rfl w.heap.size 268 i0 (.agg #[.int .u8 0,.string ⟨#[]⟩,.int .i64 0,.bool false]) 4 40 underlying219 hi hz0 hz1 hz2 rfl (by decide) _ A.length _ rfl (((HO.out).alloc _).alloc _) ⟨wr.heap.size+1,0,none⟩ 1 1 [_,_,_,_] rfl rfl (a3u _ _ _ _ _ _ _ (a58 _ _)) ?h1 ?h63 ?hby ?hbase ?_
         (case h1=>intro x hx;simp at hx;rcases hx with rfl|rfl|rfl|rfl<;>rfl);(case h63=>unfold maxLen;omega);(case hby=>omega);(case hbase=>have:=HB.out.size;simp;omega);intro v' w3 hown' hgrow3 hnil3;(have X:Hid (w3.ownsRow w.heap.size 268 4 v' (A.length+1) _/\Below w.heap.size w w3):=⟨hown',Below.grown ((HB.out.alloc HB.out.size _).alloc (by have:=HB.out.size;simp;omega) _) hgrow3 (by have:=HB.out.size;simp;omega) (fun q hq=>(HO.out.lt q hq).1)⟩);clear hown' hgrow3 hnil3))
     go_roundw;(case rel=>exact a1B (n:=1) (by omega) (by omega) hA (by rw[e0];decide) (by rw[e0];decide) (by rw[a1S _ _ (by rw[e0];decide),e0];rfl) hno.out X.out.1 X.out.2 _ (by go_num));case measure=>simp[intOf];omega
   ·-- a sign
    as_aux_lemma=>
     have hsm:a0o 58=false:=rfl;have hdg:a0t 58=false:=rfl
     go_wp2_with (first
      | (go_at_call 207;refine (a0D _ _).mono ?_;rintro e w' ⟨rfl,rfl⟩)
      | (go_at_call 208;refine (a0y _ _).mono ?_;rintro e w' ⟨rfl,rfl⟩)
      | (at_builtin;refine wpList_append_own _ rfl _ _ 219 rfl w.heap.size 268 i0 (.agg #[.int .u8 0,.string ⟨#[]⟩,.int .i64 0,.bool false]) 4 40 underlying219 hi hz0 hz1 hz2 rfl (by decide) _ A.length _ rfl (((HO.out).alloc _).alloc _) ⟨wr.heap.size+1,0,none⟩ 1 1 [_,_,_,_] rfl rfl (a3u _ _ _ _ _ _ _ (a58 _ _)) ?h1 ?h63 ?hby ?hbase ?_
         (case h1=>intro x hx;simp at hx;rcases hx with rfl|rfl|rfl|rfl<;>rfl);(case h63=>unfold maxLen;omega);(case hby=>omega);(case hbase=>have:=HB.out.size;simp;omega);intro v' w3 hown' hgrow3 hnil3;(have X:Hid (w3.ownsRow w.heap.size 268 4 v' (A.length+1) _/\Below w.heap.size w w3):=⟨hown',Below.grown ((HB.out.alloc HB.out.size _).alloc (by have:=HB.out.size;simp;omega) _) hgrow3 (by have:=HB.out.size;simp;omega) (fun q hq=>(HO.out.lt q hq).1)⟩);clear hown' hgrow3 hnil3))
     go_roundw;(case rel=>exact a1B (n:=1) (by omega) (by omega) hA (by rw[e0];decide) (by rw[e0];decide) (by rw[a1S _ _ (by rw[e0];decide),e0];rfl) hno.out X.out.1 X.out.2 _ (by go_num));case measure=>simp[intOf];omega
   ·-- a sign
    as_aux_lemma=>
     have hsm:a0o 46=false:=rfl;have hdg:a0t 46=false:=rfl
     go_wp2_with (first
      | (go_at_call 207;refine (a0D _ _).mono ?_;rintro e w' ⟨rfl,rfl⟩)
      | (go_at_call 208;refine (a0y _ _).mono ?_;rintro e w' ⟨rfl,rfl⟩)
      | (at_builtin;refine wpList_append_own _ rfl _ _ 219 rfl w.heap.size 268 i0 (.agg #[.int .u8 0,.string ⟨#[]⟩,.int .i64 0,.bool false]) 4 40 underlying219 hi hz0 hz1 hz2 rfl (by decide) _ A.length _ rfl (((HO.out).alloc _).alloc _) ⟨wr.heap.size+1,0,none⟩ 1 1 [_,_,_,_] rfl rfl (a3u _ _ _ _ _ _ _ (a58 _ _)) ?h1 ?h63 ?hby ?hbase ?_
         (case h1=>intro x hx;simp at hx;rcases hx with rfl|rfl|rfl|rfl<;>rfl);(case h63=>unfold maxLen;omega);(case hby=>omega);(case hbase=>have:=HB.out.size;simp;omega);intro v' w3 hown' hgrow3 hnil3;(have X:Hid (w3.ownsRow w.heap.size 268 4 v' (A.length+1) _/\Below w.heap.size w w3):=⟨hown',Below.grown ((HB.out.alloc HB.out.size _).alloc (by have:=HB.out.size;simp;omega) _) hgrow3 (by have:=HB.out.size;simp;omega) (fun q hq=>(HO.out.lt q hq).1)⟩);clear hown' hgrow3 hnil3))
     go_roundw;(case rel=>exact a1B (n:=1) (by omega) (by omega) hA (by rw[e0];decide) (by rw[e0];decide) (by rw[a1S _ _ (by rw[e0];decide),e0];rfl) hno.out X.out.1 X.out.2 _ (by go_num));case measure=>simp[intOf];omega
   ·-- a minus
    have hsm:a0o 45=false:=rfl;have hdg:a0t 45=false:=rfl;by_cases hj1:j+1<s.size
    ·have hj2:(j:Int)+1<s.size:=by omega
     by_cases hmm:a0t (Pn.B s (j+1)).toNat=true
     ·have hmd:=a0a (c1v s j hj1 hmm)
      as_aux_lemma=>
       go_upto_block 2 with (first
        | (go_at_call 207;refine (a0D _ _).mono ?_;rintro e w' ⟨rfl,rfl⟩)
        | (go_at_call 208;refine (a0y _ _).mono ?_;rintro e w' ⟨rfl,rfl⟩))
       go_cut [9] (fun n wx=>∃m d:Nat,n=.int .i64 m/\1<=m/\j+m<=s.size/\Hid (a2x (Pn.B s j) (s.data.toList.drop (j+1))=some (105,(- a1t s (j+1) (j+m)),m-1))/\(wr.alloc (.cells #[.int .u8 105,.string ⟨#[]⟩,.int .i64 (- a1t s (j+1) (j+m)),.bool bl] 268)).drewN d=wx)
       case first=>
        go_wp2_with fail;(go_loopw [9] (fun n wx=>∃m:Nat,n=.int .i64 m/\1<=m/\j+m<=s.size/\Hid (∀q,1<=q->q<m->Pn.dig (Pn.B s (j+q))=true)/\wr.alloc (.cells #[.int .u8 105,.string ⟨#[]⟩,.int .i64 0,.bool bl] 268)=wx) (fun n _=>s.size-(intOf n).toNat));case atStart=>exact ⟨1,rfl,by omega,by omega,fun q _ _=>by omega,rfl⟩
        case round=>
         obtain ⟨m,rfl,hm1,hm2,hm3,hw⟩:=hrel;subst hw;by_cases hlt2:j+m<s.size
         ·have hlt3:(j:Int)+m<s.size:=by omega
          by_cases a2:a0t (Pn.B s (j+m)).toNat=true
          ·go_wp2_with (first
           | (go_at_call 207;refine (a0D _ _).mono ?_;rintro e w' ⟨rfl,rfl⟩)
           | (go_at_call 208;refine (a0y _ _).mono ?_;rintro e w' ⟨rfl,rfl⟩))
           go_roundw;(case rel=>exact ⟨m+1,by go_num,by omega,by omega,a7l hm3.out a2,by first|rfl|trivial⟩);case measure=>simp[intOf];omega
          ·have a2':a0t (Pn.B s (j+m)).toNat=false:=by simpa using a2
           clear a2;have hrun:=a0a (a2W Pn.dig s j m hm1 hm2 hm3.out (.inr a2'));by_cases h10:11<m
           ·have h10':(10:Int)<(j:Int)+m-((j:Int)+1):=by omega
            go_wp2_with (first
            | (go_at_call 207;refine (a0D _ _).mono ?_;rintro e w' ⟨rfl,rfl⟩)
            | (go_at_call 208;refine (a0y _ _).mono ?_;rintro e w' ⟨rfl,rfl⟩))
            go_ret2;exact ⟨a1o hno.out (by rw[a0N s j hlt];exact Pn.a0v _ _ _ (by rw[e0];decide) (by rw[e0];decide) (by rw[e0];exact a35 _ hmd.out _ (a0b hrun) (by omega))) rfl,HB.out.alloc HB.out.size _⟩
           ·have h10':¬(10:Int)<(j:Int)+m-((j:Int)+1):=by omega
            by_cases a3:a0o (Pn.B s (j+m)).toNat=true
            ·go_wp2_with (first
             | (go_at_call 207;refine (a0D _ _).mono ?_;rintro e w' ⟨rfl,rfl⟩)
             | (go_at_call 208;refine (a0y _ _).mono ?_;rintro e w' ⟨rfl,rfl⟩))
             go_ret2;exact ⟨a1o hno.out (by rw[a0N s j hlt];exact Pn.a0v _ _ _ (by rw[e0];decide) (by rw[e0];decide) (by rw[e0];exact a4Z _ hmd.out _ (a0b hrun) (c2Z s j m hm1 hlt2 a3))) rfl,HB.out.alloc HB.out.size _⟩
            ·have a3':a0o (Pn.B s (j+m)).toNat=false:=by simpa using a3
             clear a3
             go_wp2_with (first
              | (go_at_call 207;refine (a0D _ _).mono ?_;rintro e w' ⟨rfl,rfl⟩)
              | (go_at_call 208;refine (a0y _ _).mono ?_;rintro e w' ⟨rfl,rfl⟩))
             have hds:=a0a (a9M hm3.out)
             as_aux_lemma=>
              (go_loopw [18] (fun k wx=>b41 s wr bl (j+1) j m k wx) (fun k _=>j+m-(intOf k).toNat));case atStart=>exact ⟨(j+1),0,by omega,by omega,by go_num,by rw[a2v];rfl⟩
              case round=>
               obtain ⟨q,d,hq1,hq2,rfl,hw⟩:=hrel;subst hw;(have nb:=a3T s (j+1) q hq1 (by omega) (by omega) (fun q' a b=>hds.out q' a (by omega)));by_cases hq:q<j+m
               ·have hqs:q<s.size:=by omega
                (have hqs2:(q:Int)<s.size:=by omega);(have hqi:(q:Int)<(j:Int)+m:=by omega);(have cb:((Pn.B s q).toNat:Int)<=255:=by have:=(Pn.B s q).toNat_lt;omega);have HS:=a0a (a2Z s (j+1) q hq1 hqs);generalize hN:a1t s (j+1) q=N at *;have HN:=a0a hN;clear hN;go_wp2_with fail;go_region;rw[a9t];go_wp2_with fail;go_roundw;(case rel=>exact ⟨q+1,d+1,by omega,by omega,by go_num,by rw[a0b HS]⟩);case measure=>simp[intOf];omega
               ·have hqi:¬(q:Int)<(j:Int)+m:=by omega
                (have hqe:q=j+m:=by omega);subst hqe;(have hqi2:¬((j+m:Nat):Int)<(j:Int)+m:=by omega);generalize hN:a1t s (j+1) (j+m)=N at *;have HN:=a0a hN;clear hN;go_wp2_with fail;go_meet;case rel=>exact ⟨m,d,rfl,hm1,hm2,(by rw[e0];exact (b0z _ hmd.out _ (a0b hrun) (by omega) (b63 s j m hm1 hlt2 a3')).trans (by rw[b1v s j m hm1])),by rw[a0b HN,a9t]⟩
         ·have hlt3:¬(j:Int)+m<s.size:=by omega
          (have hrun:=a0a (a2W Pn.dig s j m hm1 hm2 hm3.out (.inl (by omega))));by_cases h10:11<m
          ·have h10':(10:Int)<(j:Int)+m-((j:Int)+1):=by omega
           go_wp2_with (first
            | (go_at_call 207;refine (a0D _ _).mono ?_;rintro e w' ⟨rfl,rfl⟩)
            | (go_at_call 208;refine (a0y _ _).mono ?_;rintro e w' ⟨rfl,rfl⟩))
           go_ret2;exact ⟨a1o hno.out (by rw[a0N s j hlt];exact Pn.a0v _ _ _ (by rw[e0];decide) (by rw[e0];decide) (by rw[e0];exact a35 _ hmd.out _ (a0b hrun) (by omega))) rfl,HB.out.alloc HB.out.size _⟩
          ·have h10':¬(10:Int)<(j:Int)+m-((j:Int)+1):=by omega
           go_wp2_with (first
            | (go_at_call 207;refine (a0D _ _).mono ?_;rintro e w' ⟨rfl,rfl⟩)
            | (go_at_call 208;refine (a0y _ _).mono ?_;rintro e w' ⟨rfl,rfl⟩))
           have hds:=a0a (a9M hm3.out)
           as_aux_lemma=>
            (go_loopw [18] (fun k wx=>b41 s wr bl (j+1) j m k wx) (fun k _=>j+m-(intOf k).toNat));case atStart=>exact ⟨(j+1),0,by omega,by omega,by go_num,by rw[a2v];rfl⟩
            case round=>
             obtain ⟨q,d,hq1,hq2,rfl,hw⟩:=hrel;subst hw;(have nb:=a3T s (j+1) q hq1 (by omega) (by omega) (fun q' a b=>hds.out q' a (by omega)));by_cases hq:q<j+m
             ·have hqs:q<s.size:=by omega
              (have hqs2:(q:Int)<s.size:=by omega);(have hqi:(q:Int)<(j:Int)+m:=by omega);(have cb:((Pn.B s q).toNat:Int)<=255:=by have:=(Pn.B s q).toNat_lt;omega);have HS:=a0a (a2Z s (j+1) q hq1 hqs);generalize hN:a1t s (j+1) q=N at *;have HN:=a0a hN;clear hN;go_wp2_with fail;go_region;rw[a9t];go_wp2_with fail;go_roundw;(case rel=>exact ⟨q+1,d+1,by omega,by omega,by go_num,by rw[a0b HS]⟩);case measure=>simp[intOf];omega
             ·have hqi:¬(q:Int)<(j:Int)+m:=by omega
              (have hqe:q=j+m:=by omega);subst hqe;(have hqi2:¬((j+m:Nat):Int)<(j:Int)+m:=by omega);generalize hN:a1t s (j+1) (j+m)=N at *;have HN:=a0a hN;clear hN;go_wp2_with fail;go_meet;case rel=>exact ⟨m,d,rfl,hm1,hm2,(by rw[e0];exact (b0z _ hmd.out _ (a0b hrun) (by omega) (b6G s j m hm1 (by omega))).trans (by rw[b1v s j m hm1])),by rw[a0b HN,a9t]⟩
       case rest=>as_aux_lemma=>
        obtain ⟨m,d,rfl,hm1,hm2,hm3,hw⟩:=hcut;subst hw;generalize hN:(- a1t s (j+1) (j+m))=N at *;have HN:=a0a hN;clear hN
        go_wp2_with (first
         | (at_builtin;refine wpList_append_own _ rfl _ _ 219 rfl w.heap.size 268 i0 (.agg #[.int .u8 0,.string ⟨#[]⟩,.int .i64 0,.bool false]) 4 40 underlying219 hi hz0 hz1 hz2 rfl (by decide) _ A.length _ rfl ((b9i HO.out _ d _ _).alloc _) ⟨wr.heap.size+1,0,none⟩ 1 1 [_,_,_,_] rfl rfl (a3u _ _ _ _ _ _ _ (a3w _ _ _ _ _)) ?h1 ?h63 ?hby ?hbase ?_
            (case h1=>intro x hx;simp at hx;rcases hx with rfl|rfl|rfl|rfl<;>rfl);(case h63=>unfold maxLen;omega);(case hby=>omega);(case hbase=>have:=HB.out.size;rw[a58,a3w];omega);intro v' w3 hown' hgrow3 hnil3;(have X:Hid (w3.ownsRow w.heap.size 268 4 v' (A.length+1) _/\Below w.heap.size w w3):=⟨hown',Below.grown (((below_drewN (HB.out.alloc HB.out.size _) d).setCell HB.out.size _).alloc (by have:=HB.out.size;rw[a3w];omega) _) hgrow3 (by have:=HB.out.size;rw[a58,a3w];omega) (fun q hq=>(HO.out.lt q hq).1)⟩);clear hown' hgrow3 hnil3))
        go_roundw;(case rel=>exact a1B (n:=m) (by omega) (by omega) hA (by rw[e0];decide) (by rw[e0];decide) hm3.out hno.out X.out.1 X.out.2 _ (by go_num));case measure=>simp[intOf];omega
     ·have hmm':a0t (Pn.B s (j+1)).toNat=false:=by simpa using hmm
      clear hmm
      as_aux_lemma=>
       go_wp2_with (first
        | (go_at_call 207;refine (a0D _ _).mono ?_;rintro e w' ⟨rfl,rfl⟩)
        | (go_at_call 208;refine (a0y _ _).mono ?_;rintro e w' ⟨rfl,rfl⟩))
       go_ret2;exact ⟨a1o hno.out (by rw[a0N s j hlt];exact Pn.a0v _ _ _ (by rw[e0];decide) (by rw[e0];decide) (by rw[e0];exact a5G _ _ rfl rfl (fun h=>by rw[a9R s (j+1) hj1]at h;have:=h.2;simp[Pn.dig,hmm']at this) (by decide))) rfl,HB.out.alloc HB.out.size _⟩
    ·have hj2:¬(j:Int)+1<s.size:=by omega
     as_aux_lemma=>
      go_wp2_with (first
       | (go_at_call 207;refine (a0D _ _).mono ?_;rintro e w' ⟨rfl,rfl⟩)
       | (go_at_call 208;refine (a0y _ _).mono ?_;rintro e w' ⟨rfl,rfl⟩))
      go_ret2;exact ⟨a1o hno.out (by rw[a0N s j hlt];exact Pn.a0v _ _ _ (by rw[e0];decide) (by rw[e0];decide) (by rw[e0];exact a5G _ _ rfl rfl (fun h=>by rw[b4t s (j+1) (by omega)]at h;have:=h.2;simp at this) (by decide))) rfl,HB.out.alloc HB.out.size _⟩
   ·-- any other byte
    obtain ⟨n35,n32,n9,n44,n40,n41,n58,n46,n45,m35,m32,m44,m45⟩:=e0;by_cases hsm:a0o (Pn.B s j).toNat=true
    ·-- a word
     as_aux_lemma=>
      go_upto_block 2 with (first
       | (go_at_call 207;refine (a0D _ _).mono ?_;rintro e w' ⟨rfl,rfl⟩)
       | (go_at_call 208;refine (a0y _ _).mono ?_;rintro e w' ⟨rfl,rfl⟩))
      go_cut [9] (fun n wx=>∃m:Nat,n=.int .i64 m/\1<=m/\j+m<=s.size/\Hid (a2x (Pn.B s j) (s.data.toList.drop (j+1))=some (119,0,m-1))/\wr.alloc (.cells #[.int .u8 119,.string ⟨#[]⟩,.int .i64 0,.bool bl] 268)=wx)
      case first=>
       go_wp2_with fail;(go_loopw [9] (fun n wx=>∃m:Nat,n=.int .i64 m/\1<=m/\j+m<=s.size/\Hid (∀q,1<=q->q<m->a0s (Pn.B s (j+q))=true)/\wr.alloc (.cells #[.int .u8 119,.string ⟨#[]⟩,.int .i64 0,.bool bl] 268)=wx) (fun n _=>s.size-(intOf n).toNat));case atStart=>exact ⟨1,rfl,by omega,by omega,fun q _ _=>by omega,rfl⟩
       case round=>
        obtain ⟨m,rfl,hm1,hm2,hm3,hw⟩:=hrel;subst hw;by_cases hlt2:j+m<s.size
        ·have hlt3:(j:Int)+m<s.size:=by omega
         by_cases a1:a0o (Pn.B s (j+m)).toNat=true
         ·go_wp2_with (first
           | (go_at_call 207;refine (a0D _ _).mono ?_;rintro e w' ⟨rfl,rfl⟩)
           | (go_at_call 208;refine (a0y _ _).mono ?_;rintro e w' ⟨rfl,rfl⟩))
          go_roundw;(case rel=>exact ⟨m+1,by go_num,by omega,by omega,a7l hm3.out (by unfold a0s;rw[a1];rfl),by first|rfl|trivial⟩);case measure=>simp[intOf];omega
         ·have a1':a0o (Pn.B s (j+m)).toNat=false:=by simpa using a1
          clear a1;by_cases a2:a0t (Pn.B s (j+m)).toNat=true
          ·go_wp2_with (first
            | (go_at_call 207;refine (a0D _ _).mono ?_;rintro e w' ⟨rfl,rfl⟩)
            | (go_at_call 208;refine (a0y _ _).mono ?_;rintro e w' ⟨rfl,rfl⟩))
           go_roundw;(case rel=>exact ⟨m+1,by go_num,by omega,by omega,a7l hm3.out (by unfold a0s;rw[a2,a1'];rfl),by first|rfl|trivial⟩);case measure=>simp[intOf];omega
          ·have a2':a0t (Pn.B s (j+m)).toNat=false:=by simpa using a2
           clear a2
           go_wp2_with (first
            | (go_at_call 207;refine (a0D _ _).mono ?_;rintro e w' ⟨rfl,rfl⟩)
            | (go_at_call 208;refine (a0y _ _).mono ?_;rintro e w' ⟨rfl,rfl⟩))
           go_meet;case rel=>exact ⟨m,rfl,hm1,hm2,a4R _ _ hsm _ (a2W _ s j m hm1 hm2 hm3.out (.inr (by unfold a0s;rw[a1',a2'];rfl))),rfl⟩
        ·have hlt3:¬(j:Int)+m<s.size:=by omega
         go_wp2_with (first
          | (go_at_call 207;refine (a0D _ _).mono ?_;rintro e w' ⟨rfl,rfl⟩)
          | (go_at_call 208;refine (a0y _ _).mono ?_;rintro e w' ⟨rfl,rfl⟩))
         go_meet;case rel=>exact ⟨m,rfl,hm1,hm2,a4R _ _ hsm _ (a2W _ s j m hm1 hm2 hm3.out (.inl (by omega))),rfl⟩
      case rest=>
       obtain ⟨m,rfl,hm1,hm2,hm3,hw⟩:=hcut;subst hw
       go_wp2_with (first
        | (go_at_call 207;refine (a0D _ _).mono ?_;rintro e w' ⟨rfl,rfl⟩)
        | (go_at_call 208;refine (a0y _ _).mono ?_;rintro e w' ⟨rfl,rfl⟩)
        | (at_builtin;refine wpList_append_own _ rfl _ _ 219 rfl w.heap.size 268 i0 (.agg #[.int .u8 0,.string ⟨#[]⟩,.int .i64 0,.bool false]) 4 40 underlying219 hi hz0 hz1 hz2 rfl (by decide) _ A.length _ rfl (((HO.out).alloc _).alloc _) ⟨wr.heap.size+1,0,none⟩ 1 1 [_,_,_,_] rfl rfl (a3u _ _ _ _ _ _ _ (a58 _ _)) ?h1 ?h63 ?hby ?hbase ?_
           (case h1=>intro x hx;simp at hx;rcases hx with rfl|rfl|rfl|rfl<;>rfl);(case h63=>unfold maxLen;omega);(case hby=>omega);(case hbase=>have:=HB.out.size;simp;omega);intro v' w3 hown' hgrow3 hnil3;(have X:Hid (w3.ownsRow w.heap.size 268 4 v' (A.length+1) _/\Below w.heap.size w w3):=⟨hown',Below.grown ((HB.out.alloc HB.out.size _).alloc (by have:=HB.out.size;simp;omega) _) hgrow3 (by have:=HB.out.size;simp;omega) (fun q hq=>(HO.out.lt q hq).1)⟩);clear hown' hgrow3 hnil3))
       go_roundw;(case rel=>exact a1B (n:=m) (by omega) (by omega) hA m35.out m32.out hm3.out hno.out X.out.1 X.out.2 _ (by go_num));case measure=>simp[intOf];omega
    ·have hsm':a0o (Pn.B s j).toNat=false:=by simpa using hsm
     clear hsm;by_cases hdg:a0t (Pn.B s j).toNat=true
     ·-- a number
      as_aux_lemma=>
       go_upto_block 2 with (first
        | (go_at_call 207;refine (a0D _ _).mono ?_;rintro e w' ⟨rfl,rfl⟩)
        | (go_at_call 208;refine (a0y _ _).mono ?_;rintro e w' ⟨rfl,rfl⟩))
       go_cut [9] (fun n wx=>∃m d:Nat,n=.int .i64 m/\1<=m/\j+m<=s.size/\Hid (a2x (Pn.B s j) (s.data.toList.drop (j+1))=some (105,(a1t s j (j+m)),m-1))/\(wr.alloc (.cells #[.int .u8 105,.string ⟨#[]⟩,.int .i64 (a1t s j (j+m)),.bool bl] 268)).drewN d=wx)
       case first=>
        go_wp2_with fail;(go_loopw [9] (fun n wx=>∃m:Nat,n=.int .i64 m/\1<=m/\j+m<=s.size/\Hid (∀q,1<=q->q<m->Pn.dig (Pn.B s (j+q))=true)/\wr.alloc (.cells #[.int .u8 105,.string ⟨#[]⟩,.int .i64 0,.bool bl] 268)=wx) (fun n _=>s.size-(intOf n).toNat));case atStart=>exact ⟨1,rfl,by omega,by omega,fun q _ _=>by omega,rfl⟩
        case round=>
         obtain ⟨m,rfl,hm1,hm2,hm3,hw⟩:=hrel;subst hw;by_cases hlt2:j+m<s.size
         ·have hlt3:(j:Int)+m<s.size:=by omega
          by_cases a2:a0t (Pn.B s (j+m)).toNat=true
          ·go_wp2_with (first
           | (go_at_call 207;refine (a0D _ _).mono ?_;rintro e w' ⟨rfl,rfl⟩)
           | (go_at_call 208;refine (a0y _ _).mono ?_;rintro e w' ⟨rfl,rfl⟩))
           go_roundw;(case rel=>exact ⟨m+1,by go_num,by omega,by omega,a7l hm3.out a2,by first|rfl|trivial⟩);case measure=>simp[intOf];omega
          ·have a2':a0t (Pn.B s (j+m)).toNat=false:=by simpa using a2
           clear a2;have hrun:=a0a (a2W Pn.dig s j m hm1 hm2 hm3.out (.inr a2'));by_cases h10:10<m
           ·have h10':(10:Int)<(j:Int)+m-j:=by omega
            go_wp2_with (first
            | (go_at_call 207;refine (a0D _ _).mono ?_;rintro e w' ⟨rfl,rfl⟩)
            | (go_at_call 208;refine (a0y _ _).mono ?_;rintro e w' ⟨rfl,rfl⟩))
            go_ret2;exact ⟨a1o hno.out (by rw[a0N s j hlt];exact Pn.a0v _ _ _ m35.out m32.out (a4d _ _ hsm' hdg _ (a0b hrun) (by omega))) rfl,HB.out.alloc HB.out.size _⟩
           ·have h10':¬(10:Int)<(j:Int)+m-j:=by omega
            by_cases a3:a0o (Pn.B s (j+m)).toNat=true
            ·go_wp2_with (first
             | (go_at_call 207;refine (a0D _ _).mono ?_;rintro e w' ⟨rfl,rfl⟩)
             | (go_at_call 208;refine (a0y _ _).mono ?_;rintro e w' ⟨rfl,rfl⟩))
             go_ret2;exact ⟨a1o hno.out (by rw[a0N s j hlt];exact Pn.a0v _ _ _ m35.out m32.out (a4O _ _ hsm' hdg _ (a0b hrun) (c2Z s j m hm1 hlt2 a3))) rfl,HB.out.alloc HB.out.size _⟩
            ·have a3':a0o (Pn.B s (j+m)).toNat=false:=by simpa using a3
             clear a3
             go_wp2_with (first
              | (go_at_call 207;refine (a0D _ _).mono ?_;rintro e w' ⟨rfl,rfl⟩)
              | (go_at_call 208;refine (a0y _ _).mono ?_;rintro e w' ⟨rfl,rfl⟩))
             have hds:=a0a (b4C hdg hm3.out)
             as_aux_lemma=>
              (go_loopw [18] (fun k wx=>b41 s wr bl j j m k wx) (fun k _=>j+m-(intOf k).toNat));case atStart=>exact ⟨j,0,by omega,by omega,by go_num,by rw[a2v];rfl⟩
              case round=>
               obtain ⟨q,d,hq1,hq2,rfl,hw⟩:=hrel;subst hw;(have nb:=a3T s j q hq1 (by omega) (by omega) (fun q' a b=>hds.out q' a (by omega)));by_cases hq:q<j+m
               ·have hqs:q<s.size:=by omega
                (have hqs2:(q:Int)<s.size:=by omega);(have hqi:(q:Int)<(j:Int)+m:=by omega);(have cb:((Pn.B s q).toNat:Int)<=255:=by have:=(Pn.B s q).toNat_lt;omega);have HS:=a0a (a2Z s j q hq1 hqs);generalize hN:a1t s j q=N at *;have HN:=a0a hN;clear hN;go_wp2_with fail;go_region;rw[a9t];go_wp2_with fail;go_roundw;(case rel=>exact ⟨q+1,d+1,by omega,by omega,by go_num,by rw[a0b HS]⟩);case measure=>simp[intOf];omega
               ·have hqi:¬(q:Int)<(j:Int)+m:=by omega
                (have hqe:q=j+m:=by omega);subst hqe;(have hqi2:¬((j+m:Nat):Int)<(j:Int)+m:=by omega);generalize hN:a1t s j (j+m)=N at *;have HN:=a0a hN;clear hN;go_wp2_with fail;go_meet;case rel=>exact ⟨m,d,rfl,hm1,hm2,((b0k _ _ hsm' hdg _ (a0b hrun) (by omega) (b63 s j m hm1 hlt2 a3')).trans (by rw[a79 s j m hlt hm1])),by rw[a0b HN]⟩
         ·have hlt3:¬(j:Int)+m<s.size:=by omega
          (have hrun:=a0a (a2W Pn.dig s j m hm1 hm2 hm3.out (.inl (by omega))));by_cases h10:10<m
          ·have h10':(10:Int)<(j:Int)+m-j:=by omega
           go_wp2_with (first
            | (go_at_call 207;refine (a0D _ _).mono ?_;rintro e w' ⟨rfl,rfl⟩)
            | (go_at_call 208;refine (a0y _ _).mono ?_;rintro e w' ⟨rfl,rfl⟩))
           go_ret2;exact ⟨a1o hno.out (by rw[a0N s j hlt];exact Pn.a0v _ _ _ m35.out m32.out (a4d _ _ hsm' hdg _ (a0b hrun) (by omega))) rfl,HB.out.alloc HB.out.size _⟩
          ·have h10':¬(10:Int)<(j:Int)+m-j:=by omega
           go_wp2_with (first
            | (go_at_call 207;refine (a0D _ _).mono ?_;rintro e w' ⟨rfl,rfl⟩)
            | (go_at_call 208;refine (a0y _ _).mono ?_;rintro e w' ⟨rfl,rfl⟩))
           have hds:=a0a (b4C hdg hm3.out)
           as_aux_lemma=>
            (go_loopw [18] (fun k wx=>b41 s wr bl j j m k wx) (fun k _=>j+m-(intOf k).toNat));case atStart=>exact ⟨j,0,by omega,by omega,by go_num,by rw[a2v];rfl⟩
            case round=>
             obtain ⟨q,d,hq1,hq2,rfl,hw⟩:=hrel;subst hw;(have nb:=a3T s j q hq1 (by omega) (by omega) (fun q' a b=>hds.out q' a (by omega)));by_cases hq:q<j+m
             ·have hqs:q<s.size:=by omega
              (have hqs2:(q:Int)<s.size:=by omega);(have hqi:(q:Int)<(j:Int)+m:=by omega);(have cb:((Pn.B s q).toNat:Int)<=255:=by have:=(Pn.B s q).toNat_lt;omega);have HS:=a0a (a2Z s j q hq1 hqs);generalize hN:a1t s j q=N at *;have HN:=a0a hN;clear hN;go_wp2_with fail;go_region;rw[a9t];go_wp2_with fail;go_roundw;(case rel=>exact ⟨q+1,d+1,by omega,by omega,by go_num,by rw[a0b HS]⟩);case measure=>simp[intOf];omega
             ·have hqi:¬(q:Int)<(j:Int)+m:=by omega
              (have hqe:q=j+m:=by omega);subst hqe;(have hqi2:¬((j+m:Nat):Int)<(j:Int)+m:=by omega);generalize hN:a1t s j (j+m)=N at *;have HN:=a0a hN;clear hN;go_wp2_with fail;go_meet;case rel=>exact ⟨m,d,rfl,hm1,hm2,((b0k _ _ hsm' hdg _ (a0b hrun) (by omega) (b6G s j m hm1 (by omega))).trans (by rw[a79 s j m hlt hm1])),by rw[a0b HN]⟩
       case rest=>as_aux_lemma=>
        obtain ⟨m,d,rfl,hm1,hm2,hm3,hw⟩:=hcut;subst hw;generalize hN:(a1t s j (j+m))=N at *;have HN:=a0a hN;clear hN
        go_wp2_with (first
         | (at_builtin;refine wpList_append_own _ rfl _ _ 219 rfl w.heap.size 268 i0 (.agg #[.int .u8 0,.string ⟨#[]⟩,.int .i64 0,.bool false]) 4 40 underlying219 hi hz0 hz1 hz2 rfl (by decide) _ A.length _ rfl ((b9i HO.out _ d _ _).alloc _) ⟨wr.heap.size+1,0,none⟩ 1 1 [_,_,_,_] rfl rfl (a3u _ _ _ _ _ _ _ (a3w _ _ _ _ _)) ?h1 ?h63 ?hby ?hbase ?_
            (case h1=>intro x hx;simp at hx;rcases hx with rfl|rfl|rfl|rfl<;>rfl);(case h63=>unfold maxLen;omega);(case hby=>omega);(case hbase=>have:=HB.out.size;rw[a58,a3w];omega);intro v' w3 hown' hgrow3 hnil3;(have X:Hid (w3.ownsRow w.heap.size 268 4 v' (A.length+1) _/\Below w.heap.size w w3):=⟨hown',Below.grown (((below_drewN (HB.out.alloc HB.out.size _) d).setCell HB.out.size _).alloc (by have:=HB.out.size;rw[a3w];omega) _) hgrow3 (by have:=HB.out.size;rw[a58,a3w];omega) (fun q hq=>(HO.out.lt q hq).1)⟩);clear hown' hgrow3 hnil3))
        go_roundw;(case rel=>exact a1B (n:=m) (by omega) (by omega) hA m35.out m32.out hm3.out hno.out X.out.1 X.out.2 _ (by go_num));case measure=>simp[intOf];omega
     ·have hdg':a0t (Pn.B s j).toNat=false:=by simpa using hdg
      clear hdg
      as_aux_lemma=>
       go_wp2_with (first
        | (go_at_call 207;refine (a0D _ _).mono ?_;rintro e w' ⟨rfl,rfl⟩)
        | (go_at_call 208;refine (a0y _ _).mono ?_;rintro e w' ⟨rfl,rfl⟩))
       go_ret2;exact ⟨a1o hno.out (by rw[a0N s j hlt];exact Pn.a0v _ _ _ m35.out m32.out (a5G _ _ hsm' hdg' (fun h=>m45.out h.1) m44.out)) rfl,HB.out.alloc HB.out.size _⟩
  ·go_wp2_with fail
   go_ret2;exact ⟨a9K hno.out (by rw[List.drop_eq_nil_of_le (by simp;omega)];exact a3o _) HO.out rfl,HB.out⟩
