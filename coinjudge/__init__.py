"""Coinjudge: is giving the greatest coin first ever wrong?"""
