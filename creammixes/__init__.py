"""Mixes standardised: ingredients, mixes of them, and recipes that tell windows for what a mix has."""
