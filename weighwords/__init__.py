"""Weighwords: machines that give each word a weight."""
