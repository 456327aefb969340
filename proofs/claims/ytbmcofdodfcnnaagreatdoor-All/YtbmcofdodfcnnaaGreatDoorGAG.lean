import Derived.Deep.RegionLaw
import Derived.Maps.OwnSet
import Derived.StringKeys
import Derived.Lib.SplitLaws
import Derived.Lib.ReplaceLaws
import Derived.Test.YtbmcofdodfcnnaaGreatDoorGVC
import Derived.Test.YtbmcofdodfcnnaaGreatDoorGFK
import Derived.Test.YtbmcofdodfcnnaaGreatDoorGU4
import Derived.Test.YtbmcofdodfcnnaaGreatDoorFJ2
set_option linter.all false
set_option maxHeartbeats 0
set_option maxRecDepth 100000
namespace Go
open Proofs.Tryz
variable {b base n g : Nat} {vs xs bs : List Value} {w w' : World} {e T : TypeId} {v p : Value}
def fK (l:List UInt8):Int:=if l=[46,98,121,116,101] then 1 else if l=[46,104,97,108,102] then 2 else if l=[46,119,111,114,100] then 4 else 0
open RowKit
def qg (nm) (w):zS prog 259 #[.string nm] w (.int .i64 (fK nm.data.toList)):=by
 unfold zS;have j:nm.toList=nm.data.toList:=ByteArray.toList_eq nm;by_cases h:nm.data.toList=[46,98,121,116,101]
 .have u:Hid (fK nm.data.toList=1):=aA (by unfold fK;rw[zt h])
  have y:(nm.toList==[46,98,121,116,101])=true:=by rw[j];simpa using h
  clear j h;go_in;go_wp2;go_ret;exact ⟨by rw[u.out];rfl,rfl⟩
 have y:(nm.toList==[46,98,121,116,101])=false:=by rw[j];simpa using h
 by_cases q:nm.data.toList=[46,104,97,108,102]
 .have u:Hid (fK nm.data.toList=2):=aA (by unfold fK;rw[aC h,zt q])
  have A:(nm.toList==[46,104,97,108,102])=true:=by rw[j];simpa using q
  clear j h q;go_in;go_wp2;go_ret;exact ⟨by rw[u.out];rfl,rfl⟩
 have A:(nm.toList==[46,104,97,108,102])=false:=by rw[j];simpa using q
 by_cases v:nm.data.toList=[46,119,111,114,100]
 .have u:Hid (fK nm.data.toList=4):=aA (by unfold fK;rw[aC h,aC q,zt v])
  have C:(nm.toList==[46,119,111,114,100])=true:=by rw[j];simpa using v
  clear j h q v;go_in;go_wp2;go_ret;exact ⟨by rw[u.out];rfl,rfl⟩
 have u:Hid (fK nm.data.toList=0):=aA (by unfold fK;rw[aC h,aC q,aC v])
 have C:(nm.toList==[46,119,111,114,100])=false:=by rw[j];simpa using v
 clear j h q v;go_in;go_wp2;go_ret;exact ⟨by rw[u.out];rfl,rfl⟩
def aF.far (h:aF b vs w) (c q) (v) (y:c≠b):aF b vs (w.setCell ⟨c,q,none⟩ v):=by
 have e:(w.setCell ⟨c,q,none⟩ v).heap[b]?=w.heap[b]?:=Below.heap_setCell _ _ _ _ (λ e=>y e.symm)
 exact ⟨by simpa[World.setCell] using h.1,λ p=>(World.frozen?_of_block (a:=⟨b,p,none⟩) e).trans (h.2.1 p),λ j u A=>(World.cell?_of_block (a:=⟨b,j,none⟩) e).trans (h.2.2 j u A)⟩
def lz:List Value:=[.string ⟨#[]⟩,.slice none 0 0]
def sC {j:Nat} {size:Nat} (h:w.ownsRow base e size v n xs) (C:j<=base):w.ownsRow j e size v n xs:=by
 obtain ⟨u,y|⟨g,cap,q,F,E,D,A⟩⟩:=h
 .exact ⟨u,.inl y⟩
 exact ⟨u,.inr ⟨g,cap,q,F,Nat.le_trans C E,D,A⟩⟩
def kI {size:Nat} (h:w.ownsRow base e size v n xs) (j:Below w.heap.size w w'):w'.ownsRow base e size v n xs:=
 le h (λ g q=>j.block g (h.lt g q).2)
def oc {w0:World} (h:aN g w0 w) (j:Below w.heap.size w w'):aN g w0 w':=h.trans (aN.of_below j g)
def D4:(prog.info? 134).map (·.size)=some 2:=by kernel_rfl
def liesBuilder:liesAt prog prog.depth 134 (2/prog.cellsOf 134) 0 134 1=true:=by kernel_rfl
def CE (b) (w) (q:w.cell? ⟨b,0,none⟩=some (.pointer (some ⟨b,0,none⟩))):
    zS prog 139 #[.pointer (some ⟨b,0,none⟩)] w (.tuple #[]):=by
 unfold zS;obtain ⟨j,h,_⟩:=Option.map_eq_some_iff.1 D4;go_in;go_wp2;rw[Lib.run_neq_ptr_same w _ underlying132 h];go_wp2;go_end0;exact ⟨rfl,rfl⟩
def BW (b) (w) (y:w.cell? ⟨b,0,none⟩=some (.pointer none)) (h:w.shape? b=some (134,2)) (v:w.frozen? ⟨b,0,none⟩=false):
    Calls prog 139 #[.pointer (some ⟨b,0,none⟩)] w λ e w'=>e=.returned (.tuple #[])/\w'=w.setCell ⟨b,0,none⟩ (.pointer (some ⟨b,0,none⟩)):=by
 obtain ⟨j,u,q⟩:=Option.map_eq_some_iff.1 D4;go_in;go_wp2;rw[Lib.run_to_unsafe w ⟨b,0,none⟩ underlying132 underlying250 u (by rw[q];decide) h (Nat.zero_lt_succ 1)]
 simp only[Result.andThen];rw[Oper.upon_value];go_wp2;rw[run_callFunc_extern func191 (by kernel_rfl) (by kernel_rfl) (by kernel_rfl) (e:=Extern.AbiNoEscape.same) (by kernel_rfl)]
 rw[Lib.run_noEscape];simp only[Result.andThen];rw[Oper.upon_value];go_wp2;rw[Lib.run_from_unsafe w ⟨b,0,none⟩ underlying250 underlying132 u h liesBuilder];simp only[Result.andThen];rw[Oper.upon_value];go_wp2;go_end0;exact ⟨rfl,rfl⟩
def O6 (B b) (bs) (w) (h:Lib.IsBuilder 134 5 B b bs w):
    Calls prog 139 #[.pointer (some ⟨b,0,none⟩)] w λ e w'=>e=.returned (.tuple #[])/\Lib.BuilderAt 134 5 B b (.pointer (some ⟨b,0,none⟩)) bs w'/\Below B w w':=by
 rcases h with h|h
 .exact (BW b w h.cell0 h.shape h.frozen0).mono λ e w' ⟨he,hw⟩=>⟨he,by rw[hw];exact h.used _,by rw[hw];exact (Below.refl B w).setCell (p:=⟨b,0,none⟩) h.1 _⟩
 exact (CE b w h.cell0).mono λ e w' ⟨he,hw⟩=>⟨he,by rw[hw];exact h,by rw[hw];exact Below.refl B _⟩
def Jr (B b) (bs) (s) (w) (h:Lib.IsBuilder 134 5 B b bs w) (P:bs.length+s.size<=140737488355328) (V:B<=w.heap.size):
    Calls prog 76 #[.pointer (some ⟨b,0,none⟩),.string s] w λ e w'=>e=.returned (.tuple #[.int .i64 s.size,.nilIface])/\Lib.BuilderAt 134 5 B b (.pointer (some ⟨b,0,none⟩)) (bs++Lib.strCells s) w'/\Below B w w':=by
 obtain ⟨Y,hi,I,J,K⟩:=info_parts Tryz.infoByte;have T:=aA (O6 B b bs w h);go_in;go_wp2_with fail;refine T.out.mono ?_;rintro e Z ⟨rfl,N,C⟩;have F:=N.lt;obtain ⟨O,v,D,y,G⟩:=N;have c1:Z.cell? ⟨b,1,none⟩=some v:=by rw[Lib.cell_of_heap D];rfl
 have X:=C.size;go_wp2_with (at_builtin;refine Lib.wpList_append_own_string _ rfl _ _ 65 9 rfl B 5 Y underlying65 underlying9 hi I J K _ _ _ rfl y s rfl ?c3 ?c4 ?c5 ?_);case c3=>unfold maxLen;omega
 case c4=>omega
 case c5=>omega
 intro R L q j _;have u:L.heap[b]?=some (.cells #[.pointer (some ⟨b,0,none⟩),v] 134 (0,0)):=(j.block b F (λ e=>G e.symm)).trans D
 have d1:L.cell? ⟨b,1,none⟩=some v:=by rw[Lib.cell_of_heap u];rfl
 have df:L.frozen? ⟨b,1,none⟩=false:=by simp[World.frozen?,u]
 have A:=aA (Lib.BuilderAt.put (p:=.pointer (some ⟨b,0,none⟩)) (bs':=bs++Lib.strCells s) O u (by simpa[Lib.strCells_length] using q) (by decide:134≠5))
 have E:=aA ((C.grown j (by omega) (λ k W=>(y.lt k W).1)).setCell (p:=⟨b,1,none⟩) O R)
 obtain ⟨M,Q,cap,rfl⟩:∃M Q cap,R=.slice M Q cap:=by
  rcases q.2 with ⟨H,_⟩|⟨g,cap,U,H,_⟩
  .exact ⟨_,_,_,H⟩
  exact ⟨_,_,_,H⟩
 clear q j;go_wp2;go_ret2;exact ⟨rfl,A.out,E.out⟩
def FN {B:Nat} (h:Lib.BuilderAt T e B b p bs w) (q:Below w.heap.size w w'):Lib.BuilderAt T e B b p bs w':=by
 have A:=h.lt;obtain ⟨u,v,y,C,j⟩:=h;exact ⟨u,v,(q.block b A).trans y,kI C q,j⟩
def A6 {B:Nat} (h:Lib.IsBuilder T e B b bs w) (j:Below w.heap.size w w'):Lib.IsBuilder T e B b bs w':=by
 rcases h with h|h
 .exact .inl (FN h j)
 exact .inr (FN h j)
def KK (l):Lib.strCells ⟨l.toArray⟩=Lib.byteCells l:=by simp[Lib.strCells,Lib.byteCells]
def E8:(prog.info? 202).map (λ i=>(i.zero,i.size,i.bytes))=some (some (.agg #[.string ⟨#[]⟩,.int .i64 0,.int .i64 0,.int .i64 0,.int .i64 0,.int .i64 0,.string ⟨#[]⟩,.int .i64 0,.int .i64 0]),9,88):=by kernel_rfl
open Maps
def Ie (w) (a b c d):Below w.heap.size w ((((w.alloc a).alloc b).alloc c).alloc d):=by
 refine ((((Below.refl w.heap.size w).alloc ?_ _).alloc ?_ _).alloc ?_ _).alloc ?_ _<;>(try simp only[za])<;>omega
def Av:Keyed prog 9:=string_keyed underlying9
def Ib (w):(zeroValue 3).run prog w=.ok (.int .i64 0) w:=by kernel_rfl
def KX (j:sE) (i) (w):
    aG prog 16 #[i.val] w (.tuple #[.int .i64 (bQ i).1,.int .i64 (bQ i).2]):=by
 unfold aG;obtain ⟨op,rd,rs1,rs2,imm⟩:=i;have H:=aA (λ w'=>sL ⟨op,rd,rs1,rs2,imm⟩ w' j)
 unfold aE.val at *;have u:=aA ((Below.refl w.heap.size w).alloc zn (.cells #[.int .i64 op,.int .i64 rd,.int .i64 rs1,.int .i64 rs2,.int .i64 imm] 26));go_in;go_wp2_with fail;refine zK (H.out _) λ v q=>?_;have h:=aA (u.out.trans (q.mono (by simp)))
 clear q;go_wp2;go_ret2;exact ⟨rfl,h.out⟩
def PR:∀k,k<32->rA (fm k):=by
 have j:∀k,k<32->0<=(fm k).rd/\(fm k).rd<=200:=by decide
 have q:∀k,k<32->0<=(fm k).rs1/\(fm k).rs1<=200:=by decide
 have u:∀k,k<32->0<=(fm k).rs2/\(fm k).rs2<=200:=by decide
 have v:∀k,k<32->(fm k).hold<8:=by decide
 exact λ k h=>{ A9 k h with r1:=j k h,r2:=q k h,r3:=u k h,h8:=v k h }
def qm:sE:=λ k h n w=>PH (fm k) n w (PR k h)
def xu (n) (w):
    aG prog 40 #[.int .i64 n] w (.tuple #[(cE n).1.val,.int .i64 (cE n).2]):=by
 unfold aG;by_cases h:n<0\/65535<n
 .exact LU n w h
 exact N8 n w h qm
def KE (n) (w):
    aG prog 19 #[.int .i64 n] w (.tuple #[(cE n).1.val,.int .i64 (cE n).2]):=by
 unfold aG;have H:=aA (λ w'=>xu n w')
 have D:Hid (aF w.heap.size z5 (w.alloc (.cells z5.toArray 26))):=aA (aF.new w z5 26);have A:Hid (Below w.heap.size w (w.alloc (.cells z5.toArray 26))):=aA aJ;unfold z5 at D A;generalize cE n=X at *;obtain ⟨⟨E,F,u,y,q⟩,G⟩:=X;unfold aE.val at H;simp only at H;go_in;go_wp2_with fail;refine zK (H.out _) λ N h=>?_;have j:=D.out.next h;obtain ⟨I,J,K,L,M⟩:=bF j.2.2;have O:=j.2.1;have C:=aA (A.out.trans (h.mono A.out.size));clear h D A j;go_wp2;refine zp (v:=.tuple #[(aE.mk E F u y q).val,.int .i64 G]) (by simp[results,results19,go_sem,I,J,K,L,M,aE.val]) rfl ⟨rfl,?_⟩
 exact (((((C.out.setCell (by simp) _).setCell (by simp) _).setCell (by simp) _).setCell (by simp) _).setCell (by simp) _)
