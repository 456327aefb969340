import Derived.Test.YtbmcofdodfcnnaaGreatDoorGW10
import Derived.Test.YtbmcofdodfcnnaaGreatDoorGQ
set_option linter.all false
set_option maxHeartbeats 400000000
set_option maxRecDepth 100000
namespace Pn
open Go
theorem a5A:∀(l:List Tok) (F:List UInt8) (rs:List Int) (n:Int) (nm:ByteArray) (rs':List Int) (n':Int) (nm':ByteArray),a0r l F rs n nm=some (rs',n',nm')->116∉F->nm'=nm
 | [],[],rs,n,nm,rs',n',nm',h,_=>by simp[a0r]at h;exact h.2.2.symm
 | [],f::F,_,_,_,_,_,_,h,_=>by simp[a0r]at h
 | t::l,[],_,_,_,_,_,_,h,_=>by simp[a0r]at h
 | t::l,f::F,rs,n,nm,rs',n',nm',h,hn=>by
  have hn1:f≠116:=fun e=>hn (by simp[e])
  have hn2:116∉F:=fun e=>hn (by simp[e])
  simp only[a0r]at h
  split at h
  ·split at h
   ·cases h
   ·exact a5A l F _ _ _ _ _ _ h hn2
  ·split at h
   ·exact a5A l F _ _ _ _ _ _ h hn2
   ·split at h
    ·rename_i hf
     exact absurd hf.1 hn1
    ·split at h
     ·exact a5A l F _ _ _ _ _ _ h hn2
     ·cases h
end Pn
namespace Go.Proofs.YtbmcofdodfcnnaaGreatDoor
open Pn
open Go.Proofs.Tryz
open Go.RowKit
def a2N:Obj:=.cells #[.int .i64 0,.int .i64 0,.int .i64 0,.int .i64 0,.int .i64 0,.string ⟨#[]⟩,.bool false,.string ⟨#[]⟩,.int .i64 0,.int .i64 0] 224
def a0L (i:Pn.Ins) (nm:ByteArray):Value:=.agg #[.int .i64 i.op,.int .i64 i.rd,.int .i64 i.rs1,.int .i64 i.rs2,.int .i64 i.imm,.string nm,.bool false,.string ⟨#[]⟩,.int .i64 0,.int .i64 0]
def c8y (t:Pn.Tok) (w:World) (C:Array Value) (i:Value) (wr:World):Prop:=
 ∃j:Nat,j<=64/\i=.int .i64 j/\Hid (∀j',j'<j->Pn.named t j'=false)/\Below (w.heap.size+3) (((w.alloc a2N).alloc a2N).alloc (.cells C 214)) wr
def c9W (w:World) (b kd:Nat) (w2:World):Prop:=
 w2.cell? ⟨b,1,none⟩=some (.int .u8 kd)/\w.heap.size+3<=b/\b<w2.heap.size/\Below (w.heap.size+2) ((w.alloc a2N).alloc a2N) w2
theorem c4r {w wr:World} {C:Array Value} (hB:Below (w.heap.size+3) (((w.alloc a2N).alloc a2N).alloc (.cells C 214)) wr) (hz:w.heap.size+3<=wr.heap.size)
    (s:ByteArray) (kd:Nat) (a b c:Value) (t nq:Nat):c9W w wr.heap.size kd ((wr.alloc (.cells #[.string s,.int .u8 kd,a,b,c] t)).drewN nq):=
 ⟨by go_simp,hz,by show wr.heap.size<(wr.alloc _).heap.size;simp,below_drewN ((((Below.refl _ _).alloc (by simp) _).trans (hB.mono (by omega))).alloc (by omega) _) _⟩
theorem b9u {w w2:World} {t:Pn.Tok} {l:List Pn.Tok} {n g o cap:Nat} (hn:l.length+1=n)
    (hc:∀k u,(t::l)[k]?=some u->w.cell? ⟨g,o+k*4,none⟩=some (.int .u8 u.kind)/\w.cell? ⟨g,o+k*4+1,none⟩=some (.string u.S)/\w.cell? ⟨g,o+k*4+2,none⟩=some (.int .i64 u.num)/\w.cell? ⟨g,o+k*4+3,none⟩=some (.bool u.blank))
    (hg:g<w.heap.size) (hB:Below (w.heap.size+2) ((w.alloc a2N).alloc a2N) w2):a2L w2 (.slice (some ⟨g,o+4,none⟩) (n-1) cap) l:=by
 have e:n-1=l.length:=by omega
 have hBw:Below w.heap.size w w2:=(((Below.refl _ _).alloc (Nat.le_refl _) _).alloc (by simp) _).trans (hB.mono (by omega))
 refine ⟨_,_,by rw[e],fun _=>⟨g,o+4,rfl,by have:=hBw.size;omega,fun k u hu=>?_⟩⟩
 obtain ⟨h1,h2,h3,h4⟩:=hc (k+1) u (by simpa using hu)
 have ek:o+(k+1)*4=o+4+k*4:=by omega
 rw[ek]at h1 h2 h3 h4;exact ⟨(hBw.cell (p:=⟨g,_,none⟩) hg).trans h1,(hBw.cell (p:=⟨g,_,none⟩) hg).trans h2,(hBw.cell (p:=⟨g,_,none⟩) hg).trans h3,(hBw.cell (p:=⟨g,_,none⟩) hg).trans h4⟩
theorem a0v {w:World} {l:List Pn.Tok} {n:Nat} {ao:Option Addr} {cap:Nat} (hn:l.length+1=n) (h1:n=1):a2L w (.slice ao (n-1) cap) l:=by
 have e:l=[]:=List.eq_nil_of_length_eq_zero (by omega)
 subst e;exact ⟨ao,cap,by rw[h1];rfl,fun h=>absurd rfl h⟩
def c5e (l:List Pn.Tok) (F:List UInt8) (w2:World) (v nn nm ok:Value) (wx:World):Prop:=
 (match a0r l F [] 0 ⟨#[]⟩ with
 | none=>ok=.bool false
 | some (rs,n,s)=>nn=.int .i64 n/\nm=.string s/\ok=.bool true/\wx.ownsRow w2.heap.size 3 1 v rs.length (rs.map (.int .i64)))/\Below w2.heap.size w2 wx
def a0Y (b:Nat) (i:Pn.Ins) (nm:ByteArray) (wx:World):Prop:=
 (wx.cell? ⟨b,0,none⟩=some (.int .i64 i.op)/\wx.cell? ⟨b,1,none⟩=some (.int .i64 i.rd)/\wx.cell? ⟨b,2,none⟩=some (.int .i64 i.rs1)/\wx.cell? ⟨b,3,none⟩=some (.int .i64 i.rs2)/\wx.cell? ⟨b,4,none⟩=some (.int .i64 i.imm))/\
 (wx.cell? ⟨b,5,none⟩=some (.string nm)/\wx.cell? ⟨b,6,none⟩=some (.bool false)/\wx.cell? ⟨b,7,none⟩=some (.string ⟨#[]⟩)/\wx.cell? ⟨b,8,none⟩=some (.int .i64 0)/\wx.cell? ⟨b,9,none⟩=some (.int .i64 0))/\(∀q,wx.frozen? ⟨b,q,none⟩=false)
theorem a0Y.below {b B:Nat} {i:Pn.Ins} {nm:ByteArray} {w w':World} (h:a0Y b i nm w) (hB:Below B w w') (hb:b<B):a0Y b i nm w':=by
 obtain ⟨⟨h0,h1,h2,h3,h4⟩,⟨h5,h6,h7,h8,h9⟩,hf⟩:=h
 exact ⟨⟨(hB.cell (p:=⟨b,0,none⟩) hb).trans h0,(hB.cell (p:=⟨b,1,none⟩) hb).trans h1,(hB.cell (p:=⟨b,2,none⟩) hb).trans h2,(hB.cell (p:=⟨b,3,none⟩) hb).trans h3,(hB.cell (p:=⟨b,4,none⟩) hb).trans h4⟩,
  ⟨(hB.cell (p:=⟨b,5,none⟩) hb).trans h5,(hB.cell (p:=⟨b,6,none⟩) hb).trans h6,(hB.cell (p:=⟨b,7,none⟩) hb).trans h7,(hB.cell (p:=⟨b,8,none⟩) hb).trans h8,(hB.cell (p:=⟨b,9,none⟩) hb).trans h9⟩,
  fun q=>(hB.frozen (p:=⟨b,q,none⟩) hb).trans (hf q)⟩
theorem a9o (w:World):a0Y w.heap.size ⟨0,0,0,0,0⟩ ⟨#[]⟩ (w.alloc a2N):=by
 unfold a2N;exact ⟨⟨by go_simp,by go_simp,by go_simp,by go_simp,by go_simp⟩,⟨by go_simp,by go_simp,by go_simp,by go_simp,by go_simp⟩,fun q=>by go_simp⟩
theorem b1F {w w2:World} (hB:Below (w.heap.size+2) ((w.alloc a2N).alloc a2N) w2):Hid (a0Y w.heap.size ⟨0,0,0,0,0⟩ ⟨#[]⟩ w2)/\Hid (a0Y (w.heap.size+1) ⟨0,0,0,0,0⟩ ⟨#[]⟩ w2):=by
 have e:(w.alloc a2N).heap.size=w.heap.size+1:=a58 _ _;refine ⟨((a9o w).below ((Below.refl (w.heap.size+1) _).alloc (by omega) _) (by omega)).below hB (by omega),?_⟩
 have:=a9o (w.alloc a2N);rw[e]at this;exact this.below hB (by omega)
theorem a7X {w w3:World} (h:Below w.heap.size w w3) (a b c d e f g i j k:Value):
    Below w.heap.size w ((((((((((w3.setCell ⟨w.heap.size,0,none⟩ a).setCell ⟨w.heap.size,1,none⟩ b).setCell ⟨w.heap.size,2,none⟩ c).setCell ⟨w.heap.size,3,none⟩ d).setCell ⟨w.heap.size,4,none⟩ e).setCell ⟨w.heap.size,5,none⟩ f).setCell ⟨w.heap.size,6,none⟩ g).setCell ⟨w.heap.size,7,none⟩ i).setCell ⟨w.heap.size,8,none⟩ j).setCell ⟨w.heap.size,9,none⟩ k):=
 (((((a2o h a b c d e).setCell (Nat.le_refl _) _).setCell (Nat.le_refl _) _).setCell (Nat.le_refl _) _).setCell (Nat.le_refl _) _).setCell (Nat.le_refl _) _
theorem a0Y.set_op {b:Nat} {i:Pn.Ins} {nm:ByteArray} {w:World} (h:a0Y b i nm w) (v:Int):a0Y b { i with op:=v } nm (w.setCell ⟨b,0,none⟩ (.int .i64 v)):=by
 obtain ⟨⟨h0,h1,h2,h3,h4⟩,⟨h5,h6,h7,h8,h9⟩,hf⟩:=h;exact ⟨⟨by go_simp,by go_simp,by go_simp,by go_simp,by go_simp⟩,⟨by go_simp,by go_simp,by go_simp,by go_simp,by go_simp⟩,fun q=>by go_simp⟩
theorem a0Y.set_rd {b:Nat} {i:Pn.Ins} {nm:ByteArray} {w:World} (h:a0Y b i nm w) (v:Int):a0Y b { i with rd:=v } nm (w.setCell ⟨b,1,none⟩ (.int .i64 v)):=by
 obtain ⟨⟨h0,h1,h2,h3,h4⟩,⟨h5,h6,h7,h8,h9⟩,hf⟩:=h;exact ⟨⟨by go_simp,by go_simp,by go_simp,by go_simp,by go_simp⟩,⟨by go_simp,by go_simp,by go_simp,by go_simp,by go_simp⟩,fun q=>by go_simp⟩
theorem a0Y.set_rs1 {b:Nat} {i:Pn.Ins} {nm:ByteArray} {w:World} (h:a0Y b i nm w) (v:Int):a0Y b { i with rs1:=v } nm (w.setCell ⟨b,2,none⟩ (.int .i64 v)):=by
 obtain ⟨⟨h0,h1,h2,h3,h4⟩,⟨h5,h6,h7,h8,h9⟩,hf⟩:=h;exact ⟨⟨by go_simp,by go_simp,by go_simp,by go_simp,by go_simp⟩,⟨by go_simp,by go_simp,by go_simp,by go_simp,by go_simp⟩,fun q=>by go_simp⟩
theorem a0Y.set_rs2 {b:Nat} {i:Pn.Ins} {nm:ByteArray} {w:World} (h:a0Y b i nm w) (v:Int):a0Y b { i with rs2:=v } nm (w.setCell ⟨b,3,none⟩ (.int .i64 v)):=by
 obtain ⟨⟨h0,h1,h2,h3,h4⟩,⟨h5,h6,h7,h8,h9⟩,hf⟩:=h;exact ⟨⟨by go_simp,by go_simp,by go_simp,by go_simp,by go_simp⟩,⟨by go_simp,by go_simp,by go_simp,by go_simp,by go_simp⟩,fun q=>by go_simp⟩
theorem a0Y.set_imm {b:Nat} {i:Pn.Ins} {nm:ByteArray} {w:World} (h:a0Y b i nm w) (v:Int):a0Y b { i with imm:=v } nm (w.setCell ⟨b,4,none⟩ (.int .i64 v)):=by
 obtain ⟨⟨h0,h1,h2,h3,h4⟩,⟨h5,h6,h7,h8,h9⟩,hf⟩:=h;exact ⟨⟨by go_simp,by go_simp,by go_simp,by go_simp,by go_simp⟩,⟨by go_simp,by go_simp,by go_simp,by go_simp,by go_simp⟩,fun q=>by go_simp⟩
theorem a0Y.set_nm {b:Nat} {i:Pn.Ins} {nm:ByteArray} {w:World} (h:a0Y b i nm w) (v:ByteArray):a0Y b i v (w.setCell ⟨b,5,none⟩ (.string v)):=by
 obtain ⟨⟨h0,h1,h2,h3,h4⟩,⟨h5,h6,h7,h8,h9⟩,hf⟩:=h;exact ⟨⟨by go_simp,by go_simp,by go_simp,by go_simp,by go_simp⟩,⟨by go_simp,by go_simp,by go_simp,by go_simp,by go_simp⟩,fun q=>by go_simp⟩
theorem a0Y.other {b c:Nat} {i:Pn.Ins} {nm:ByteArray} {w:World} (h:a0Y b i nm w) (hne:b≠c) (o:Nat) (v:Value):a0Y b i nm (w.setCell ⟨c,o,none⟩ v):=by
 have hc:∀q,(w.setCell ⟨c,o,none⟩ v).cell? ⟨b,q,none⟩=w.cell? ⟨b,q,none⟩:=fun q=>World.cell?_of_block (w:=w) (Below.heap_setCell w ⟨c,o,none⟩ v b hne)
 have hf:∀q,(w.setCell ⟨c,o,none⟩ v).frozen? ⟨b,q,none⟩=w.frozen? ⟨b,q,none⟩:=fun q=>World.frozen?_of_block (w:=w) (Below.heap_setCell w ⟨c,o,none⟩ v b hne)
 unfold a0Y;simp only[hc,hf];exact h
theorem a6s {w w2 wc w5 W:World} (h1:w.heap.size+3<=w2.heap.size) (h2:w2.heap.size<=wc.heap.size) (hW:W.heap.size=wc.heap.size) (_:Below W.heap.size W w5):
    w.heap.size+1<W.heap.size/\w.heap.size<W.heap.size:=by
 omega
theorem c2G {t:Pn.Tok} {l:List Pn.Tok} {tg:Bool} {I J:Pn.Ins} {nm:ByteArray} {c:Int} {r:Bool} (h:Pn.plain t l tg=(I,nm,if Pn.right I then 0 else 5)) (hI:I=J) (hr:Pn.right J=r) (hc:c=if r then 0 else 5):
    Ending.returned (.tuple #[a0L J nm,.int .i64 c])=.returned (.tuple #[a0L (Pn.plain t l tg).1 (Pn.plain t l tg).2.1,.int .i64 (Pn.plain t l tg).2.2]):=by
 rw[h,hI,hr,hc]
theorem c9M {rs:List Int} (h:rs.length=1):∃a,rs=[a]:=by
 match rs,h with | [a],_=>exact ⟨a,rfl⟩
theorem c8d {rs:List Int} (h:rs.length=2):∃a b,rs=[a,b]:=by
 match rs,h with | [a,b],_=>exact ⟨a,b,rfl⟩
theorem c2r {rs:List Int} (h:rs.length=3):∃a b c,rs=[a,b,c]:=by
 match rs,h with | [a,b,c],_=>exact ⟨a,b,c,rfl⟩
theorem a4V {w:World} {base:Nat} {e:TypeId} {v:Value} {n:Nat} {xs:List Value} (h:w.ownsRow base e 1 v n xs) (hn:0<n):
    ∃g cap,v=.slice (some ⟨g,0,none⟩) n cap/\base<=g/\n<=cap/\∀j u,xs[j]?=some u->w.cell? ((⟨g,0,none⟩:Addr).add j)=some u:=by
 have hh:=h;obtain ⟨_,h1|⟨g,cap,cur,hv,hg,_,hle,_⟩⟩:=h
 ·omega
 ·exact ⟨g,cap,hv,hg,hle,hh.cells (by rw[hv];rfl)⟩
theorem b9x (tg:Bool) (t:Pn.Tok) (l:List Pn.Tok) (g o cap:Nat) (w:World) (hl:l.length<=1999) (hg:g<w.heap.size) (hcap:l.length+1<=cap)
    (hc:∀k u,(t::l)[k]?=some u->w.cell? ⟨g,o+k*4,none⟩=some (.int .u8 u.kind)/\w.cell? ⟨g,o+k*4+1,none⟩=some (.string u.S)/\w.cell? ⟨g,o+k*4+2,none⟩=some (.int .i64 u.num)/\w.cell? ⟨g,o+k*4+3,none⟩=some (.bool u.blank)):
    Calls prog 164 #[.slice (some ⟨g,o,none⟩) (l.length+1) cap,.bool tg] w fun e w'=>
     e=.returned (.tuple #[a0L (Pn.plain t l tg).1 (Pn.plain t l tg).2.1,.int .i64 (Pn.plain t l tg).2.2])/\Below w.heap.size w w':=by
 obtain ⟨t0,t1,_,_⟩:=hc 0 t rfl;simp only[Nat.zero_mul,Nat.add_zero]at t0 t1;have HC:=a0a hc;clear hc;generalize hn:l.length+1=n at *;have HL:=a0a hn;have hp1:0<n:=by omega
 have hp2:(0:Int)<n:=by omega
 have hn2:n<=2000:=by omega
 clear hn hl;go_enter func164,ntmps164;go_wp2_with (go_at_call 157;refine (a8S _).mono ?_;rintro e w' ⟨C,hC,rfl,rfl⟩);go_loopw [8] (fun i wr=>c8y t w C i wr) (fun i _=>64-(intOf i).toNat)
 case atStart=>exact ⟨0,by omega,rfl,fun _ h=>by omega,Below.refl _ _⟩
 case round=>
  obtain ⟨k,hk,rfl,hno,hB⟩:=hrel;by_cases hlt:k<64
  ·obtain ⟨r0,r1,r2,r3,r4⟩:=hC k hlt
   (have tc:∀q,wr.cell? ⟨w.heap.size+2,q,none⟩=C[q]?:=fun q=>(hB.cell (p:=⟨w.heap.size+2,q,none⟩) (by simp)).trans (by go_simp));have s0:=(tc (k*5)).trans r0;have s1:=(tc (k*5+1)).trans r1;have s2:=(tc (k*5+2)).trans r2;have s3:=(tc (k*5+3)).trans r3;have s4:=(tc (k*5+4)).trans r4;(have HBw:Below w.heap.size w wr:=((((Below.refl _ _).alloc (Nat.le_refl _) _).alloc (by simp) _).alloc (by simp;omega) _).trans (hB.mono (by omega)));have y0:wr.cell? ⟨g,o,none⟩=some (.int .u8 t.kind):=(HBw.cell (p:=⟨g,o,none⟩) hg).trans t0;have y1:wr.cell? ⟨g,o+1,none⟩=some (.string t.S):=(HBw.cell (p:=⟨g,o+1,none⟩) hg).trans t1;(have hgr:g<wr.heap.size:=by have:=HBw.size;omega);have HBW:=a0a HBw;have HB:=a0a hB;(have hz:w.heap.size+3<=wr.heap.size:=by have:=hB.size;simp at this;omega);(have hlt2:(k:Int)<64:=by omega);clear hC hB HBw tc r0 r1 r2 r3 r4;by_cases k1:(t.kind != 119)=true
   ·go_wp2_with fail
    go_quiet (fail);go_wp2_with fail;go_roundw;(case rel=>exact ⟨k+1,by omega,by go_num,b8g hno.out (b5N k1),below_drewN (HB.out.alloc hz _) _⟩);case measure=>simp[intOf];omega
   ·have k1':(t.kind != 119)=false:=by simpa using k1
    clear k1;by_cases k2:(t.S.toList==(Pn.row k).name)=true
    ·go_wp2_with fail
     go_quiet (fail);have HP:=a0a (a2u (Pn.named t) 64 k hlt hno.out (b80 k1' k2));have HI:c9W w wr.heap.size (Pn.row k).kind ((wr.alloc (.cells #[.string { data:=(Pn.row k).name.toArray },.int .u8 ↑(Pn.row k).kind,.int .i64 (Pn.row k).opc,.int .i64 (Pn.row k).f,.int .i64 (Pn.row k).g] 214)).drewN nq):=c4r HB.out hz _ _ _ _ _ _ _;clear s0 s1 s2 s3 s4 y0 y1 HB HBW k1' k2 hno hgr;generalize hb:wr.heap.size=b at *;clear hb;generalize (wr.alloc (.cells #[.string { data:=(Pn.row k).name.toArray },.int .u8 ↑(Pn.row k).kind,.int .i64 (Pn.row k).opc,.int .i64 (Pn.row k).f,.int .i64 (Pn.row k).g] 214)).drewN nq=w2 at HI ⊢;(have HVH:=a0a (fun (F:ByteArray) (v:Value) (hv:a2L w2 v l)=>a1f l F v w2 (by have:=a0b HL;omega) hv));have HT:=a0a (b9u (cap:=cap-1) (a0b HL) (a0b HC) hg HI.2.2.2);obtain ⟨q1,hb1,hb2,hBw⟩:=HI;obtain ⟨HP0,HP1⟩:=b1F hBw;(have hz2:w.heap.size+3<=w2.heap.size:=by omega);(have HBW2:=a0a ((((Below.refl _ _).alloc (Nat.le_refl _) _).alloc (by simp) _).trans (hBw.mono (show w.heap.size<=w.heap.size+2 by omega))));clear hBw;go_upto_block 2 with fail;go_cut [10] (fun f wx=>f=.string ⟨(a0B (Pn.row k).kind).toArray⟩/\w2=wx)
     case first=>
      go_wp2_with fail
      all_goals
       go_meet
       case rel=>
        refine ⟨?_,rfl⟩;simp only[beq_iff_eq,beq_eq_false_iff_ne,ne_eq]at *;unfold a0B
        first
        | rw[if_pos (by omega)]
        | rw[if_neg (by omega),if_pos (by omega)]
        | rw[if_neg (by omega),if_neg (by omega),if_pos (by omega)]
        | rw[if_neg (by omega),if_neg (by omega),if_neg (by omega),if_pos (by omega)]
        | rw[if_neg (by omega),if_neg (by omega),if_neg (by omega),if_neg (by omega),if_pos (by omega)]
        | rw[if_neg (by omega),if_neg (by omega),if_neg (by omega),if_neg (by omega),if_neg (by omega),if_pos (by omega)]
        | rw[if_neg (by omega),if_neg (by omega),if_neg (by omega),if_neg (by omega),if_neg (by omega),if_neg (by omega)]
     case rest=>
      obtain ⟨rfl,hw⟩:=hcut;subst hw;go_upto_region 25 with fail;go_cut [0,11,12,13,14] (fun l0 v nn nm ok wx=>l0=.slice (some ⟨g,o,none⟩) n cap/\c5e l (a0B (Pn.row k).kind) w2 v nn nm ok wx)
      case first=>
       go_wp2_with fail
       ·refine (a0b HVH _ _ (a0v (a0b HL) (by omega))).mono ?_
        rintro e wx ⟨ho,hBx⟩;replace ho:a1z (a0r l (a0B (Pn.row k).kind) [] 0 ⟨#[]⟩) w2 e wx:=ho;have HBx:=a0a hBx;clear hBx
        cases hop:a0r l (a0B (Pn.row k).kind) [] 0 ⟨#[]⟩ with
        | none=>
         rw[hop]at ho;have HOP:=a0a hop;clear hop;simp only[a1z]at ho;subst ho;go_wp2_with fail;go_meet;case rel=>exact ⟨by first|rfl|rw[‹cap=1›],by rw[a0b HOP],HBx.out⟩
        | some r=>
         obtain ⟨rs,nn,nm⟩:=r;rw[hop]at ho;have HOP:=a0a hop;clear hop;simp only[a1z]at ho;obtain ⟨v,he,hown⟩:=ho;have HOW:=a0a hown;clear hown;subst he;go_wp2_with fail;go_meet;case rel=>exact ⟨by first|rfl|rw[‹cap=1›],by rw[a0b HOP];exact ⟨rfl,rfl,rfl,HOW.out⟩,HBx.out⟩
       ·refine (a0b HVH _ _ (a0b HT)).mono ?_
        rintro e wx ⟨ho,hBx⟩;replace ho:a1z (a0r l (a0B (Pn.row k).kind) [] 0 ⟨#[]⟩) w2 e wx:=ho;have HBx:=a0a hBx;clear hBx
        cases hop:a0r l (a0B (Pn.row k).kind) [] 0 ⟨#[]⟩ with
        | none=>
         rw[hop]at ho;have HOP:=a0a hop;clear hop;simp only[a1z]at ho;subst ho;go_wp2_with fail;go_meet;case rel=>exact ⟨by first|rfl|rw[‹cap=1›],by rw[a0b HOP],HBx.out⟩
        | some r=>
         obtain ⟨rs,nn,nm⟩:=r;rw[hop]at ho;have HOP:=a0a hop;clear hop;simp only[a1z]at ho;obtain ⟨v,he,hown⟩:=ho;have HOW:=a0a hown;clear hown;subst he;go_wp2_with fail;go_meet;case rel=>exact ⟨by first|rfl|rw[‹cap=1›],by rw[a0b HOP];exact ⟨rfl,rfl,rfl,HOW.out⟩,HBx.out⟩
      case rest=>
       obtain ⟨rfl,hP,hBx⟩:=hcut;(have HQ0:=a0a ((a0b HP0).below hBx (by omega)));(have HQ1:=a0a ((a0b HP1).below hBx (by omega)));have q2:=(hBx.cell (p:=⟨b,1,none⟩) hb2).trans q1;have hzx:w2.heap.size<=wc.heap.size:=hBx.size;(have HBC:=a0a (HBW2.out.trans (hBx.mono (by omega))));have HBx:=a0a hBx;clear hBx q1 HP0 HP1
       cases hop:a0r l (a0B (Pn.row k).kind) [] 0 ⟨#[]⟩ with
       | none=>
        rw[hop]at hP;have HPL:=a0a (a2S HP.out hop tg);clear hop;subst hP;obtain ⟨⟨x0,x1,x2,x3,x4⟩,⟨x5,x6,x7,x8,x9⟩,xf⟩:=id HQ0.out;obtain ⟨⟨y0,y1,y2,y3,y4⟩,⟨y5,y6,y7,y8,y9⟩,yf⟩:=id HQ1.out;go_wp2_with fail;(refine bodyPost_ret (v:=.tuple #[a0L ⟨0,0,0,0,0⟩ ⟨#[]⟩,.int .i64 4]) (by simp[results,results164,go_sem,x0,x1,x2,x3,x4,x5,x6,x7,x8,x9,a0L]) rfl ⟨by rw[HPL.out],?_⟩);exact a7X HBC.out _ _ _ _ _ _ _ _ _ _
       | some r=>
        obtain ⟨rs,nn,nm⟩:=r;rw[hop]at hP;have HOP:=a0a hop;clear hop;obtain ⟨e1,e2,e3,hown⟩:=hP;subst e1 e2 e3;have HOW:=a0a hown;clear hown;have HCN:=a0a (a2B _ _ _ _ _ _ _ _ HOP.out);by_cases hbad:nm.toList.isEmpty=false/\tg=false
        ·obtain ⟨hb1',rfl⟩:=hbad
         have HPL:=a0a (a6W HP.out HOP.out hb1');obtain ⟨⟨x0,x1,x2,x3,x4⟩,⟨x5,x6,x7,x8,x9⟩,xf⟩:=id HQ0.out;obtain ⟨⟨y0,y1,y2,y3,y4⟩,⟨y5,y6,y7,y8,y9⟩,yf⟩:=id HQ1.out;go_wp2_with fail;(refine bodyPost_ret (v:=.tuple #[a0L ⟨0,0,0,0,0⟩ ⟨#[]⟩,.int .i64 4]) (by simp[results,results164,go_sem,x0,x1,x2,x3,x4,x5,x6,x7,x8,x9,a0L]) rfl ⟨by rw[HPL.out],?_⟩);exact a7X HBC.out _ _ _ _ _ _ _ _ _ _
        ·have hor:nm.toList.isEmpty=true\/(nm.toList.isEmpty=false/\tg=true):=by
          cases hx:nm.toList.isEmpty
          ·cases hy:tg
           ·exact absurd ⟨hx,hy⟩ hbad
           ·exact .inr ⟨rfl,rfl⟩
          ·exact .inl rfl
         (have HPL:=a0a (a6L (tg:=tg) HP.out HOP.out (by rcases hor with h|h;exact .inl h;exact .inr h.2)));clear hbad;go_upto_region 26 with fail;go_cut [76] from 200 to 200 (fun q wx=>q=.bool false/\wc=wx)
         case first=>
          rcases hor with hgood|⟨hgood,rfl⟩
          all_goals
           go_wp2_with fail;go_meet;case rel=>exact ⟨rfl,rfl⟩
         case rest=>
          obtain ⟨rfl,hw⟩:=hcut;subst hw;clear hor;(have hle:w.heap.size<=w.heap.size+1:=by omega);(have hne:w.heap.size≠w.heap.size+1:=by omega);obtain ⟨⟨y0,y1,y2,y3,y4⟩,⟨y5,y6,y7,y8,y9⟩,yf⟩:=id HQ1.out;go_upto_block 3 with fail;go_cut [8,10,42,88] from 89 to 156 (fun q _ _ _ wx=>q=.int .i64 k/\∃I:Pn.Ins,Hid (a2m k rs nn=I)/\Hid (a0Y (w.heap.size+1) I nm wx)/\Hid (a0Y w.heap.size ⟨0,0,0,0,0⟩ ⟨#[]⟩ wx)/\Hid (Below w.heap.size w wx))
          case first=>
           rcases Pn.kinds k hlt with hkd|hkd|hkd|hkd|hkd|hkd|hkd|hkd|hkd|hkd
           all_goals
            first
            | (have HI:=a0a (b7s k rs nn (by omega))
               rw[hkd];(have hrl:rs.length=3:=by have:=HCN.out;rw[hkd]at this;simpa[a0B] using this);clear hkd;have hx:=c2r hrl;obtain ⟨r0,r1,r2,rfl⟩:=hx;(obtain ⟨g2,cap2,hv,hg2,hcap2,hcc⟩:=a4V HOW.out (by simp));replace hv:u11=.slice (some ⟨g2,0,none⟩) 3 cap2:=hv;subst hv;have z0:wc.cell? ⟨g2,0,none⟩=some (.int .i64 r0):=hcc 0 _ rfl;have z1:wc.cell? ⟨g2,1,none⟩=some (.int .i64 r1):=hcc 1 _ rfl;have z2:wc.cell? ⟨g2,2,none⟩=some (.int .i64 r2):=hcc 2 _ rfl;(have hgn:g2≠w.heap.size+1:=by omega);(have hgn':w.heap.size+1≠g2:=by omega);clear hcc;clear hrl;go_wp2_with fail;go_meet;case rel=>exact ⟨rfl,⟨k+1,r0,r1,r2,nn⟩,HI,a0a ((((((HQ1.out.set_op _).set_imm _).set_nm _).set_rd _).set_rs1 _).set_rs2 _),a0a ((((((HQ0.out.other hne _ _).other hne _ _).other hne _ _).other hne _ _).other hne _ _).other hne _ _),a0a ((((((HBC.out.setCell hle _).setCell hle _).setCell hle _).setCell hle _).setCell hle _).setCell hle _)⟩)
            | (have HI:=a0a (a8b k rs nn (by omega))
               rw[hkd];(have hrl:rs.length=2:=by have:=HCN.out;rw[hkd]at this;simpa[a0B] using this);clear hkd;have hx:=c8d hrl;obtain ⟨r0,r1,rfl⟩:=hx;(obtain ⟨g2,cap2,hv,hg2,hcap2,hcc⟩:=a4V HOW.out (by simp));replace hv:u11=.slice (some ⟨g2,0,none⟩) 2 cap2:=hv;subst hv;have z0:wc.cell? ⟨g2,0,none⟩=some (.int .i64 r0):=hcc 0 _ rfl;have z1:wc.cell? ⟨g2,1,none⟩=some (.int .i64 r1):=hcc 1 _ rfl;(have hgn:g2≠w.heap.size+1:=by omega);(have hgn':w.heap.size+1≠g2:=by omega);clear hcc;clear hrl;go_wp2_with fail;go_meet;case rel=>exact ⟨rfl,⟨k+1,r0,r1,0,nn⟩,HI,a0a (((((HQ1.out.set_op _).set_imm _).set_nm _).set_rd _).set_rs1 _),a0a (((((HQ0.out.other hne _ _).other hne _ _).other hne _ _).other hne _ _).other hne _ _),a0a (((((HBC.out.setCell hle _).setCell hle _).setCell hle _).setCell hle _).setCell hle _)⟩)
            | (have HI:=a0a (b8X k rs nn (by omega))
               rw[hkd];(have hrl:rs.length=2:=by have:=HCN.out;rw[hkd]at this;simpa[a0B] using this);clear hkd;have hx:=c8d hrl;obtain ⟨r0,r1,rfl⟩:=hx;(obtain ⟨g2,cap2,hv,hg2,hcap2,hcc⟩:=a4V HOW.out (by simp));replace hv:u11=.slice (some ⟨g2,0,none⟩) 2 cap2:=hv;subst hv;have z0:wc.cell? ⟨g2,0,none⟩=some (.int .i64 r0):=hcc 0 _ rfl;have z1:wc.cell? ⟨g2,1,none⟩=some (.int .i64 r1):=hcc 1 _ rfl;(have hgn:g2≠w.heap.size+1:=by omega);(have hgn':w.heap.size+1≠g2:=by omega);clear hcc;clear hrl;go_wp2_with fail;go_meet;case rel=>exact ⟨rfl,⟨k+1,0,r1,r0,nn⟩,HI,a0a (((((HQ1.out.set_op _).set_imm _).set_nm _).set_rs2 _).set_rs1 _),a0a (((((HQ0.out.other hne _ _).other hne _ _).other hne _ _).other hne _ _).other hne _ _),a0a (((((HBC.out.setCell hle _).setCell hle _).setCell hle _).setCell hle _).setCell hle _)⟩)
            | (have HI:=a0a (b0U k rs nn (by omega))
               rw[hkd];(have hrl:rs.length=2:=by have:=HCN.out;rw[hkd]at this;simpa[a0B] using this);clear hkd;have hx:=c8d hrl;obtain ⟨r0,r1,rfl⟩:=hx;(obtain ⟨g2,cap2,hv,hg2,hcap2,hcc⟩:=a4V HOW.out (by simp));replace hv:u11=.slice (some ⟨g2,0,none⟩) 2 cap2:=hv;subst hv;have z0:wc.cell? ⟨g2,0,none⟩=some (.int .i64 r0):=hcc 0 _ rfl;have z1:wc.cell? ⟨g2,1,none⟩=some (.int .i64 r1):=hcc 1 _ rfl;(have hgn:g2≠w.heap.size+1:=by omega);(have hgn':w.heap.size+1≠g2:=by omega);clear hcc;clear hrl;go_wp2_with fail;go_meet;case rel=>exact ⟨rfl,⟨k+1,0,r0,r1,nn⟩,HI,a0a (((((HQ1.out.set_op _).set_imm _).set_nm _).set_rs1 _).set_rs2 _),a0a (((((HQ0.out.other hne _ _).other hne _ _).other hne _ _).other hne _ _).other hne _ _),a0a (((((HBC.out.setCell hle _).setCell hle _).setCell hle _).setCell hle _).setCell hle _)⟩)
            | (have HI:=a0a (a7Y k rs nn (by omega))
               rw[hkd];(have hrl:rs.length=1:=by have:=HCN.out;rw[hkd]at this;simpa[a0B] using this);clear hkd;have hx:=c9M hrl;obtain ⟨r0,rfl⟩:=hx;(obtain ⟨g2,cap2,hv,hg2,hcap2,hcc⟩:=a4V HOW.out (by simp));replace hv:u11=.slice (some ⟨g2,0,none⟩) 1 cap2:=hv;subst hv;have z0:wc.cell? ⟨g2,0,none⟩=some (.int .i64 r0):=hcc 0 _ rfl;(have hgn:g2≠w.heap.size+1:=by omega);(have hgn':w.heap.size+1≠g2:=by omega);clear hcc;clear hrl;go_wp2_with fail;go_meet;case rel=>exact ⟨rfl,⟨k+1,r0,0,0,nn⟩,HI,a0a ((((HQ1.out.set_op _).set_imm _).set_nm _).set_rd _),a0a ((((HQ0.out.other hne _ _).other hne _ _).other hne _ _).other hne _ _),a0a ((((HBC.out.setCell hle _).setCell hle _).setCell hle _).setCell hle _)⟩)
            | (have HI:=a0a (b62 k rs nn (by omega))
               rw[hkd];(have hrl:rs.length=0:=by have:=HCN.out;rw[hkd]at this;simpa[a0B] using this);clear hkd;obtain rfl:rs=[]:=List.eq_nil_of_length_eq_zero hrl;clear hrl;go_wp2_with fail;go_meet;case rel=>exact ⟨rfl,⟨k+1,0,0,0,nn⟩,HI,a0a (((HQ1.out.set_op _).set_imm _).set_nm _),a0a (((HQ0.out.other hne _ _).other hne _ _).other hne _ _),a0a (((HBC.out.setCell hle _).setCell hle _).setCell hle _)⟩)
          case rest=>
           obtain ⟨rfl,⟨xo,xd,x1,x2,xi⟩,HI,HP1,HP0,HB3⟩:=hcut;clear HQ0 HQ1 q2 y0 y1 y2 y3 y4 y5 y6 y7 y8 y9 yf;obtain ⟨⟨y0,y1,y2,y3,y4⟩,⟨y5,y6,y7,y8,y9⟩,yf⟩:=id HP1.out;have hsz1:w.heap.size+1<wc.heap.size:=World.block_lt_of_cell? wc _ y0;go_wp2_with fail;refine (a0V ⟨xo,xd,x1,x2,xi⟩ _).mono ?_;rintro e w5 ⟨rfl,hB5⟩;have P1:=a0Y.below HP1.out hB5 hsz1;(have P0:=a0Y.below HP0.out hB5 (by omega));have HB6:=a0a (HB3.out.trans (hB5.mono HB3.out.size));clear hB5 y0 y1 y2 y3 y4 y5 y6 y7 y8 y9 yf HP0 HP1 hsz1;obtain ⟨⟨a0,a1,a2,a3,a4⟩,⟨a5,a6,a7,a8,a9⟩,af⟩:=P1;obtain ⟨⟨c0,c1,c2,c3,c4⟩,⟨c5,c6,c7,c8,c9⟩,cf⟩:=P0;clear af;cases hr:Pn.right ⟨xo,xd,x1,x2,xi⟩
           ·have HR:=a0a hr
            clear hr;go_wp2_with fail;refine bodyPost_ret (v:=.tuple #[a0L ⟨xo,xd,x1,x2,xi⟩ nm,.int .i64 5]) ?_ rfl ⟨c2G HPL.out HI.out HR.out rfl,a7X HB6.out _ _ _ _ _ _ _ _ _ _⟩;unfold a0L;simp only[results,results164];simp[go_sem,c0,c1,c2,c3,c4,c5,c6,c7,c8,c9]
           ·have HR:=a0a hr
            clear hr;go_wp2_with fail;refine bodyPost_ret (v:=.tuple #[a0L ⟨xo,xd,x1,x2,xi⟩ nm,.int .i64 0]) ?_ rfl ⟨c2G HPL.out HI.out HR.out rfl,a7X HB6.out _ _ _ _ _ _ _ _ _ _⟩;unfold a0L;simp only[results,results164];simp[go_sem,c0,c1,c2,c3,c4,c5,c6,c7,c8,c9]
    ·have k2':(t.S.toList==(Pn.row k).name)=false:=by simpa using k2
     clear k2;go_wp2_with fail;go_quiet (fail);go_wp2_with fail;go_roundw;(case rel=>exact ⟨k+1,by omega,by go_num,b8g hno.out (b72 k2'),below_drewN (HB.out.alloc hz _) _⟩);case measure=>simp[intOf];omega
  ·have hB2:Below (w.heap.size+2) ((w.alloc a2N).alloc a2N) wr:=((Below.refl _ _).alloc (by simp) _).trans (hB.mono (by omega))
   obtain ⟨HP0,HP1⟩:=b1F hB2;(have HBC:=a0a ((((Below.refl _ _).alloc (Nat.le_refl _) _).alloc (by simp) _).trans (hB2.mono (show w.heap.size<=w.heap.size+2 by omega))));(have HPL:=a0a (a1b (a1I (Pn.named t) 64 (fun j hj=>hno.out j (by omega))) l tg));obtain ⟨⟨x0,x1,x2,x3,x4⟩,⟨x5,x6,x7,x8,x9⟩,xf⟩:=id HP0.out;obtain ⟨⟨y0,y1,y2,y3,y4⟩,⟨y5,y6,y7,y8,y9⟩,yf⟩:=id HP1.out;(have hk2:¬(k:Int)<64:=by omega);clear hB hB2 hC;go_wp2_with fail;(refine bodyPost_ret (v:=.tuple #[a0L ⟨0,0,0,0,0⟩ ⟨#[]⟩,.int .i64 4]) (by simp[results,results164,go_sem,x0,x1,x2,x3,x4,x5,x6,x7,x8,x9,a0L]) rfl ⟨by rw[HPL.out],?_⟩);exact a7X HBC.out _ _ _ _ _ _ _ _ _ _
theorem b4S (t:Pn.Tok) (l:List Pn.Tok) (g o cap:Nat) (w:World) (hl:l.length<=1999) (hg:g<w.heap.size) (hcap:l.length+1<=cap)
    (hc:∀k u,(t::l)[k]?=some u->w.cell? ⟨g,o+k*4,none⟩=some (.int .u8 u.kind)/\w.cell? ⟨g,o+k*4+1,none⟩=some (.string u.S)/\w.cell? ⟨g,o+k*4+2,none⟩=some (.int .i64 u.num)/\w.cell? ⟨g,o+k*4+3,none⟩=some (.bool u.blank)):
    Calls prog 164 #[.slice (some ⟨g,o,none⟩) (l.length+1) cap,.bool false] w fun e w'=>
     e=.returned (.tuple #[a0L (Pn.plain t l false).1 (Pn.plain t l false).2.1,.int .i64 (Pn.plain t l false).2.2])/\Below w.heap.size w w':=
 b9x false t l g o cap w hl hg hcap hc
theorem a5L (t:Pn.Tok) (l:List Pn.Tok) (g o cap:Nat) (w:World) (hl:l.length<=1999) (hg:g<w.heap.size) (hcap:l.length+1<=cap)
    (hc:∀k u,(t::l)[k]?=some u->w.cell? ⟨g,o+k*4,none⟩=some (.int .u8 u.kind)/\w.cell? ⟨g,o+k*4+1,none⟩=some (.string u.S)/\w.cell? ⟨g,o+k*4+2,none⟩=some (.int .i64 u.num)/\w.cell? ⟨g,o+k*4+3,none⟩=some (.bool u.blank)):
    Calls prog 164 #[.slice (some ⟨g,o,none⟩) (l.length+1) cap,.bool true] w fun e w'=>
     e=.returned (.tuple #[a0L (Pn.plain t l true).1 (Pn.plain t l true).2.1,.int .i64 (Pn.plain t l true).2.2])/\Below w.heap.size w w':=
 b9x true t l g o cap w hl hg hcap hc
