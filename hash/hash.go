// Package hash is layer 1: 64-bit hashes of words and bytes. It is fast, has no keys, and does not withstand an adversary.
package hash

import "iter"

// factor is odd: multiplying by it is a bijection modulo 2^64, and so is mixing.
const factor = 0x9E3779B97F4A7C15

// group is how many bytes make up a word.
const group = 8

// Sum returns the hash of a label and words.
func Sum(label string, words ...int) uint64 {
	var state uint64
	for word := range wordsOf(label) {
		state = mix(state, word)
	}
	// Both lengths stand before the words, so that no label or list goes on as another one does.
	state = mix(state, uint64(len(label)))
	state = mix(state, uint64(len(words)))
	for _, word := range words {
		state = mix(state, uint64(word))
	}
	return mix(state, 0)
}

// Bytes returns the hash of a label and bytes.
func Bytes(label string, b []byte) uint64 {
	words := make([]int, 0, len(b)/group+2)
	for word := range wordsOf(b) {
		words = append(words, int(word))
	}
	// The length tells the padding of the last word from zero bytes of b.
	return Sum(label, append(words, len(b))...)
}

// Pair returns the hash of two hashes.
func Pair(a, b uint64) uint64 {
	return Sum("pair", int(a), int(b))
}

func mix(state, word uint64) uint64 {
	m := (state ^ word) * factor
	return m ^ m>>32
}

// wordsOf yields the words of the bytes of a label or a slice: groups of 8 bytes, the last one padded with zero bytes.
func wordsOf[T string | []byte](b T) iter.Seq[uint64] {
	return func(yield func(uint64) bool) {
		for start := 0; start < len(b); start += group {
			if !yield(wordAt(b, start)) {
				return
			}
		}
	}
}

// wordAt reads the group of bytes at start in little-endian order.
func wordAt[T string | []byte](b T, start int) uint64 {
	var word uint64
	for i := range min(group, len(b)-start) {
		word |= uint64(b[start+i]) << (8 * i)
	}
	return word
}
